package ctrl_test

import (
	"bytes"
	"math/rand/v2"
	"reflect"
	"slices"
	"testing"

	"lychgate/api"
	"lychgate/ctrl"
	"lychgate/ipv4"
	"lychgate/wire"
)

func sampleIcmp() api.Message {
	return api.Message{Type: 8, Code: 3, Rest: 0xa1b2c3d4, Data: []byte("ping!")}
}

// sampleIcmpBytes are reckoned by other means than the program's, so that Parse and Build aren't held against each other alone.
func sampleIcmpBytes() []byte {
	return []byte{8, 3, 0x92, 0xa4, 0xa1, 0xb2, 0xc3, 0xd4, 'p', 'i', 'n', 'g', '!'}
}

func someMessage(r *rand.Rand) api.Message {
	return api.Message{Type: byte(r.Uint32()), Code: byte(r.Uint32()), Rest: r.Uint32(), Data: someBytes(r, r.IntN(30))}
}

func resummed(b []byte) []byte {
	b = wire.Put16(b, 2, 0)
	return wire.Put16(b, 2, wire.Sum(b))
}

func TestP4_1ParseIcmp(t *testing.T) {
	got, e := ctrl.ParseIcmp(outer(api.Icmp, sampleIcmpBytes()))
	if e != api.OK || !reflect.DeepEqual(got, sampleIcmp()) {
		t.Errorf("%+v, %d", got, e)
	}
	got, e = ctrl.ParseIcmp(api.Packet{Proto: api.Icmp, Data: []byte{0, 0, 0xff, 0xff, 0, 0, 0, 0}})
	if e != api.OK || !ctrl.SameIcmp(got, api.Message{}) {
		t.Errorf("the least: %+v, %d", got, e)
	}
	p := outer(api.Icmp, sampleIcmpBytes())
	p.Src, p.Dst, p.Options = 1, 2, nil
	if got, e = ctrl.ParseIcmp(p); e != api.OK || !ctrl.SameIcmp(got, sampleIcmp()) {
		t.Errorf("the sum is of the message alone: %+v, %d", got, e)
	}
}

func TestP4_1P2ParseIcmpWrong(t *testing.T) {
	bad := sampleIcmpBytes()
	bad[3] ^= 1
	for _, c := range []struct {
		name string
		p    api.Packet
		want api.Errno
	}{
		{"another kind", outer(api.Gre, sampleIcmpBytes()), api.ErrKind},
		{"no kind", outer(0, sampleIcmpBytes()), api.ErrKind},
		{"another kind, and nothing there", outer(api.Tcp, nil), api.ErrKind},
		{"nil", outer(api.Icmp, nil), api.ErrShort},
		{"empty", outer(api.Icmp, []byte{}), api.ErrShort},
		{"7 bytes", outer(api.Icmp, resummed(sampleIcmpBytes()[:7])), api.ErrShort},
		{"7 bytes, a bad sum", outer(api.Icmp, bad[:7]), api.ErrShort},
		{"a bad sum", outer(api.Icmp, bad), api.ErrSum},
		{"noughts", outer(api.Icmp, make([]byte, 8)), api.ErrSum},
		{"a byte less", outer(api.Icmp, sampleIcmpBytes()[:12]), api.ErrSum},
	} {
		got, e := ctrl.ParseIcmp(c.p)
		if e != c.want || !reflect.DeepEqual(got, api.Message{}) {
			t.Errorf("%s: %+v, %d, not %d", c.name, got, e, c.want)
		}
	}
}

func TestP4_1ParseIcmpChangedBit(t *testing.T) {
	for at := range sampleIcmpBytes() {
		for bit := range 8 {
			b := sampleIcmpBytes()
			b[at] ^= 1 << bit
			if _, e := ctrl.ParseIcmp(outer(api.Icmp, b)); e != api.ErrSum {
				t.Errorf("bit %d of byte %d: %d", bit, at, e)
			}
		}
	}
}

// wantIcmp says P4.1 over again, step by step.
func wantIcmp(p api.Packet) api.Errno {
	switch {
	case p.Proto != 1:
		return api.ErrKind
	case len(p.Data) < 8:
		return api.ErrShort
	case !wire.Good(p.Data):
		return api.ErrSum
	}
	return api.OK
}

func TestP1P2IcmpBytesOfAnyKind(t *testing.T) {
	r := chance()
	seen := map[api.Errno]int{}
	for range 20000 {
		p := builtIcmp(t, somePacket(r), someMessage(r))
		p.Data = spoiled(r, p.Data)
		if r.IntN(2) == 0 {
			p.Data = resummed(p.Data)
		}
		if r.IntN(20) == 0 {
			p.Proto = byte(r.IntN(18))
		}
		was := slices.Clone(p.Data)
		got, e := ctrl.ParseIcmp(p)
		seen[e]++
		if e != wantIcmp(p) || e != api.OK && !reflect.DeepEqual(got, api.Message{}) || !bytes.Equal(p.Data, was) {
			t.Fatalf("%+v: %+v, %d, not %d", p, got, e, wantIcmp(p))
		}
		if e == api.OK && !bytes.Equal(got.Data, was[8:]) {
			t.Fatalf("% x became %+v", was, got)
		}
	}
	for _, e := range []api.Errno{api.OK, api.ErrKind, api.ErrShort, api.ErrSum} {
		if seen[e] < 500 {
			t.Errorf("error %d came up only %d times", e, seen[e])
		}
	}
}

func TestP4_1BuildIcmp(t *testing.T) {
	want := outer(api.Icmp, sampleIcmpBytes())
	if got := builtIcmp(t, outer(api.Gre, []byte("other data")), sampleIcmp()); !reflect.DeepEqual(got, want) {
		t.Errorf("%+v, not %+v", got, want)
	}
	least := api.Packet{Proto: 1, Data: []byte{0, 0, 0xff, 0xff, 0, 0, 0, 0}}
	if got := builtIcmp(t, api.Packet{Data: make([]byte, 70000)}, api.Message{}); !ipv4.Same(got, least) {
		t.Errorf("the least: %+v", got)
	}
	nought := api.Packet{Proto: 1, Data: []byte{0xff, 0xff, 0, 0, 0, 0, 0, 0}}
	if got := builtIcmp(t, api.Packet{}, api.Message{Type: 255, Code: 255}); !ipv4.Same(got, nought) {
		t.Errorf("a sum that comes to 0: %+v", got)
	}
}

func TestP4_1BuildIcmpWrong(t *testing.T) {
	for _, c := range []struct {
		options, data int
		want          api.Errno
	}{
		{1, 0, api.ErrForm},
		{39, 0, api.ErrForm},
		{44, 0, api.ErrForm},
		{3, 65536, api.ErrForm},
		{0, 65535 - 28, api.OK},
		{0, 65535 - 27, api.ErrLong},
		{40, 65535 - 68, api.OK},
		{40, 65535 - 67, api.ErrLong},
		{0, 65536, api.ErrLong},
		{0, 131072, api.ErrLong},
	} {
		p := api.Packet{Ttl: 3, Options: make([]byte, c.options), Data: make([]byte, 70000)}
		got, e := ctrl.BuildIcmp(p, api.Message{Type: 1, Data: make([]byte, c.data)})
		if e != c.want || e != api.OK && !reflect.DeepEqual(got, api.Packet{}) || e == api.OK && !ipv4.Right(got) {
			t.Errorf("%+v: %d (%d bytes)", c, e, len(got.Data))
		}
	}
}

func TestP4_1KindsOfMessages(t *testing.T) {
	for kind := range 256 {
		for code := range 256 {
			m := api.Message{Type: byte(kind), Code: byte(code), Rest: 8, Data: []byte{3}}
			if got, want := ctrl.IsError(m), kind == 3 || kind == 11 || kind == 12; got != want {
				t.Fatalf("IsError of %d, %d: %v", kind, code, got)
			}
			if got, want := ctrl.IsEcho(m), (kind == 8 || kind == 0) && code == 0; got != want {
				t.Fatalf("IsEcho of %d, %d: %v", kind, code, got)
			}
			if got, want := ctrl.Asks(m), kind == 8 && code == 0; got != want {
				t.Fatalf("Asks of %d, %d: %v", kind, code, got)
			}
		}
	}
}

func TestP4_2SameIcmp(t *testing.T) {
	if !ctrl.SameIcmp(sampleIcmp(), sampleIcmp()) || !ctrl.SameIcmp(api.Message{}, api.Message{Data: []byte{}}) {
		t.Error("one is not itself")
	}
	for name, change := range map[string]func(m *api.Message){
		"Type":      func(m *api.Message) { m.Type++ },
		"Code":      func(m *api.Message) { m.Code++ },
		"Rest":      func(m *api.Message) { m.Rest++ },
		"Data":      func(m *api.Message) { m.Data[4]++ },
		"more Data": func(m *api.Message) { m.Data = append(m.Data, 0) },
		"no Data":   func(m *api.Message) { m.Data = nil },
	} {
		other := sampleIcmp()
		change(&other)
		if ctrl.SameIcmp(sampleIcmp(), other) || ctrl.SameIcmp(other, sampleIcmp()) {
			t.Errorf("another one has the same %s", name)
		}
	}
}

func TestP4_3IcmpParseOfBuild(t *testing.T) {
	r := chance()
	for range 5000 {
		m := someMessage(r)
		got, e := ctrl.ParseIcmp(builtIcmp(t, somePacket(r), m))
		if e != api.OK || !ctrl.SameIcmp(got, m) {
			t.Fatalf("%+v became %+v, %d", m, got, e)
		}
	}
	for _, n := range []int{0, 1, 9, api.MaxPacket - 28} {
		m := api.Message{Data: make([]byte, n)}
		if got, e := ctrl.ParseIcmp(builtIcmp(t, api.Packet{}, m)); e != api.OK || !ctrl.SameIcmp(got, m) {
			t.Errorf("%d bytes of 0: %d", n, e)
		}
	}
}

func TestE3MessagesHaveAGoodSum(t *testing.T) {
	r := chance()
	for range 5000 {
		p := builtIcmp(t, somePacket(r), someMessage(r))
		if p.Proto != api.Icmp || !wire.Good(p.Data) {
			t.Fatalf("%+v", p)
		}
	}
}
