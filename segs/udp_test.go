package segs_test

import (
	"bytes"
	"reflect"
	"slices"
	"testing"

	"lychgate/api"
	"lychgate/ipv4"
	"lychgate/segs"
	"lychgate/wire"
)

func TestP3_2ParseUdp(t *testing.T) {
	got, e := segs.ParseUdp(outer(api.Udp, sampleUdpBytes()))
	if e != api.OK || !reflect.DeepEqual(got, sampleUdp()) {
		t.Errorf("%+v, %d", got, e)
	}
	bare := sampleUdpBytes()
	bare[6], bare[7] = 0, 0
	want := sampleUdp()
	want.Bare = true
	if got, e = segs.ParseUdp(outer(api.Udp, bare)); e != api.OK || !reflect.DeepEqual(got, want) {
		t.Errorf("bare: %+v, %d", got, e)
	}
	got, e = segs.ParseUdp(api.Packet{Proto: api.Udp, Data: []byte{0, 0, 0, 0, 0, 8, 0, 0}})
	if e != api.OK || !segs.SameUdp(got, api.Datagram{Bare: true}) {
		t.Errorf("the least: %+v, %d", got, e)
	}
}

func TestP3_2P2ParseUdpWrong(t *testing.T) {
	right := sampleUdpBytes()
	with := func(places map[int]byte) []byte {
		b := slices.Clone(right)
		for at, v := range places {
			b[at] = v
		}
		return b
	}
	for _, c := range []struct {
		name string
		p    api.Packet
		want api.Errno
	}{
		{"another kind", outer(api.Tcp, right), api.ErrKind},
		{"no kind", outer(0, right), api.ErrKind},
		{"another kind, and nothing there", outer(api.Gre, nil), api.ErrKind},
		{"nil", outer(api.Udp, nil), api.ErrShort},
		{"empty", outer(api.Udp, []byte{}), api.ErrShort},
		{"7 bytes", outer(api.Udp, []byte{0, 0, 0, 0, 0, 7, 0}), api.ErrShort},
		{"7 bytes that say 8", outer(api.Udp, []byte{0, 0, 0, 0, 0, 8, 0}), api.ErrShort},
		{"a length by one too small", resummed(outer(api.Udp, with(map[int]byte{5: 10})), 6), api.ErrForm},
		{"a length by one too great", resummed(outer(api.Udp, with(map[int]byte{5: 12})), 6), api.ErrForm},
		{"a length by 256 too great", resummed(outer(api.Udp, with(map[int]byte{4: 1})), 6), api.ErrForm},
		{"a length of 0", resummed(outer(api.Udp, with(map[int]byte{5: 0})), 6), api.ErrForm},
		{"a wrong length of a bare one", outer(api.Udp, with(map[int]byte{5: 12, 6: 0, 7: 0})), api.ErrForm},
		{"a wrong length, a bad sum", outer(api.Udp, with(map[int]byte{5: 12})), api.ErrForm},
		{"a length that goes round", outer(api.Udp, append([]byte{0, 0, 0, 0, 0, 8, 0, 0}, make([]byte, 65536)...)), api.ErrForm},
		{"a bad sum", outer(api.Udp, with(map[int]byte{7: 0x9e})), api.ErrSum},
		{"a sum of which half is 0", outer(api.Udp, with(map[int]byte{6: 0})), api.ErrSum},
		{"a sum of which the other half is 0", outer(api.Udp, with(map[int]byte{7: 0})), api.ErrSum},
		{"a sum of ffff", outer(api.Udp, with(map[int]byte{6: 0xff, 7: 0xff})), api.ErrSum},
	} {
		got, e := segs.ParseUdp(c.p)
		if e != c.want || !reflect.DeepEqual(got, api.Datagram{}) {
			t.Errorf("%s: %+v, %d, not %d", c.name, got, e, c.want)
		}
	}
}

// The sum is of both addresses too.
func TestP3_2ParseUdpSumOfThePacket(t *testing.T) {
	p := outer(api.Udp, sampleUdpBytes())
	p.Src ^= 1 << 31
	if _, e := segs.ParseUdp(p); e != api.ErrSum {
		t.Errorf("another Src: %d", e)
	}
	p = outer(api.Udp, sampleUdpBytes())
	p.Dst++
	if _, e := segs.ParseUdp(p); e != api.ErrSum {
		t.Errorf("another Dst: %d", e)
	}
	p.Data[6], p.Data[7] = 0, 0
	if got, e := segs.ParseUdp(p); e != api.OK || !got.Bare {
		t.Errorf("another Dst of a bare one: %+v, %d", got, e)
	}
}

// wantUdp says P3.2 over again, step by step.
func wantUdp(p api.Packet) api.Errno {
	b := p.Data
	switch {
	case p.Proto != 17:
		return api.ErrKind
	case len(b) < 8:
		return api.ErrShort
	case int(b[4])*256+int(b[5]) != len(b):
		return api.ErrForm
	case (b[6] != 0 || b[7] != 0) && !wire.Good(covered(p, b)):
		return api.ErrSum
	}
	return api.OK
}

func TestP1P2UdpBytesOfAnyKind(t *testing.T) {
	r := chance()
	seen := map[api.Errno]int{}
	for range 40000 {
		p := builtUdp(t, somePacket(r), someDatagram(r))
		p.Data = spoiled(r, p.Data, 12)
		if r.IntN(2) == 0 {
			p = resummed(p, 6)
		}
		if r.IntN(20) == 0 {
			p.Proto = byte(r.IntN(18))
		}
		checkUdp(t, p, seen)
	}
	for _, e := range []api.Errno{api.OK, api.ErrKind, api.ErrShort, api.ErrForm, api.ErrSum} {
		if seen[e] < 500 {
			t.Errorf("error %d came up only %d times", e, seen[e])
		}
	}
}

func checkUdp(t *testing.T, p api.Packet, seen map[api.Errno]int) {
	t.Helper()
	was := slices.Clone(p.Data)
	got, e := segs.ParseUdp(p)
	seen[e]++
	if e != wantUdp(p) {
		t.Fatalf("%+v: %d, not %d", p, e, wantUdp(p))
	}
	if e != api.OK && !reflect.DeepEqual(got, api.Datagram{}) {
		t.Fatalf("%+v: beside error %d: %+v", p, e, got)
	}
	if !bytes.Equal(p.Data, was) {
		t.Fatalf("% x became % x", was, p.Data)
	}
	if e == api.OK && (!bytes.Equal(got.Data, was[8:]) || got.Bare != (was[6] == 0 && was[7] == 0)) {
		t.Fatalf("% x became %+v", was, got)
	}
}

func TestP3_2BuildUdp(t *testing.T) {
	want := outer(api.Udp, sampleUdpBytes())
	if got := builtUdp(t, outer(api.Gre, []byte("other data")), sampleUdp()); !reflect.DeepEqual(got, want) {
		t.Errorf("%+v, not %+v", got, want)
	}
	d := sampleUdp()
	d.Bare = true
	want.Data[6], want.Data[7] = 0, 0
	if got := builtUdp(t, outer(0, nil), d); !reflect.DeepEqual(got, want) {
		t.Errorf("bare: %+v, not %+v", got, want)
	}
	least := api.Packet{Proto: 17, Data: []byte{0, 0, 0, 0, 0, 8, 0xff, 0xde}}
	if got := builtUdp(t, api.Packet{Data: make([]byte, 70000)}, api.Datagram{}); !ipv4.Same(got, least) {
		t.Errorf("the least: %+v", got)
	}
}

// A sum that comes to 0 is ffff in a datagram, because 0 would say that there is none.
func TestP3_2BuildUdpSumOfNought(t *testing.T) {
	d := sampleUdp()
	d.Src = sumOfBoth(d.Src, wire.Get16(sampleUdpBytes(), 6))
	got := builtUdp(t, outer(0, nil), d)
	if wire.Get16(got.Data, 6) != 0xffff {
		t.Fatalf("% x", got.Data)
	}
	if back, e := segs.ParseUdp(got); e != api.OK || !segs.SameUdp(back, d) {
		t.Errorf("%+v, %d", back, e)
	}
	d.Bare = true
	if got := builtUdp(t, outer(0, nil), d); wire.Get16(got.Data, 6) != 0 {
		t.Errorf("bare: % x", got.Data)
	}
}

func TestP3_2BuildUdpWrong(t *testing.T) {
	for _, c := range []struct {
		options, data int
		want          api.Errno
	}{
		{1, 0, api.ErrForm},
		{39, 0, api.ErrForm},
		{44, 0, api.ErrForm},
		{3, 65536, api.ErrForm},
		{0, 65535 - 28, api.OK},
		{0, 65535 - 27, api.ErrLong},
		{40, 65535 - 68, api.OK},
		{40, 65535 - 67, api.ErrLong},
		{0, 65528, api.ErrLong},
		{0, 65536, api.ErrLong},
		{0, 131072, api.ErrLong},
	} {
		for _, bare := range []bool{false, true} {
			p := api.Packet{Ttl: 3, Options: make([]byte, c.options), Data: make([]byte, 70000)}
			got, e := segs.BuildUdp(p, api.Datagram{Bare: bare, Data: make([]byte, c.data)})
			if e != c.want || e != api.OK && !reflect.DeepEqual(got, api.Packet{}) {
				t.Errorf("%+v: %d (%d bytes)", c, e, len(got.Data))
			}
			if e == api.OK && (!ipv4.Right(got) || int(wire.Get16(got.Data, 4)) != 8+c.data) {
				t.Errorf("%+v: % x", c, got.Data[:8])
			}
		}
	}
}

func TestP3_3SameUdp(t *testing.T) {
	if !segs.SameUdp(sampleUdp(), sampleUdp()) || !segs.SameUdp(api.Datagram{}, api.Datagram{Data: []byte{}}) {
		t.Error("one is not itself")
	}
	for name, change := range map[string]func(d *api.Datagram){
		"Src":        func(d *api.Datagram) { d.Src++ },
		"Dst":        func(d *api.Datagram) { d.Dst++ },
		"both ports": func(d *api.Datagram) { d.Src, d.Dst = d.Dst, d.Src },
		"Bare":       func(d *api.Datagram) { d.Bare = true },
		"Data":       func(d *api.Datagram) { d.Data[2]++ },
		"more Data":  func(d *api.Datagram) { d.Data = append(d.Data, 0) },
		"no Data":    func(d *api.Datagram) { d.Data = nil },
	} {
		other := sampleUdp()
		change(&other)
		if segs.SameUdp(sampleUdp(), other) || segs.SameUdp(other, sampleUdp()) {
			t.Errorf("another one has the same %s", name)
		}
	}
}

func TestP3_4UdpParseOfBuild(t *testing.T) {
	r := chance()
	for range 5000 {
		d := someDatagram(r)
		got, e := segs.ParseUdp(builtUdp(t, somePacket(r), d))
		if e != api.OK || !segs.SameUdp(got, d) {
			t.Fatalf("%+v became %+v, %d", d, got, e)
		}
	}
	d := api.Datagram{Src: 1, Data: someBytes(r, api.MaxPacket-28)}
	if got, e := segs.ParseUdp(builtUdp(t, api.Packet{}, d)); e != api.OK || !segs.SameUdp(got, d) {
		t.Errorf("the longest: %d", e)
	}
}

func TestP3_5UdpChangedBit(t *testing.T) {
	r := chance()
	for range 200 {
		d := someDatagram(r)
		d.Bare, d.Data = false, append(d.Data, 0)
		p := builtUdp(t, somePacket(r), d)
		for at := 8; at < len(p.Data); at++ {
			checkBits(t, p, at, func(p api.Packet) api.Errno { _, e := segs.ParseUdp(p); return e })
		}
	}
}

func TestE3DatagramsHaveAGoodSum(t *testing.T) {
	r := chance()
	for range 5000 {
		d := someDatagram(r)
		p := builtUdp(t, somePacket(r), d)
		sum := wire.Get16(p.Data, 6)
		if p.Proto != api.Udp || d.Bare != (sum == 0) || !d.Bare && !wire.Good(covered(p, p.Data)) {
			t.Fatalf("%+v", p)
		}
	}
}
