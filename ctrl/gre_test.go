package ctrl_test

import (
	"bytes"
	"math/rand/v2"
	"reflect"
	"slices"
	"testing"

	"lychgate/api"
	"lychgate/ctrl"
	"lychgate/ipv4"
)

func sampleGre() api.Frame {
	return api.Frame{Call: 0xa1b2, HasSeq: true, HasAck: true, Seq: 0x01020304, Ack: 0xfffefdfc, Data: []byte("ppp")}
}

func sampleGreBytes() []byte {
	return []byte{0x30, 0x81, 0x88, 0x0b, 0, 3, 0xa1, 0xb2, 1, 2, 3, 4, 0xff, 0xfe, 0xfd, 0xfc, 'p', 'p', 'p'}
}

// someFrame is right.
func someFrame(r *rand.Rand) api.Frame {
	f := api.Frame{Call: uint16(r.Uint32()), HasSeq: r.IntN(2) == 0, HasAck: r.IntN(2) == 0, Data: someBytes(r, r.IntN(30))}
	if f.HasSeq {
		f.Seq = r.Uint32()
	}
	if f.HasAck {
		f.Ack = r.Uint32()
	}
	return f
}

// kinds are frames of the four beginnings, and their bytes.
func kinds() map[string]api.Frame {
	return map[string]api.Frame{
		"\x20\x01\x88\x0b\x00\x00\x00\x07":                                 {Call: 7},
		"\x30\x01\x88\x0b\x00\x01\x00\x07\x00\x00\x00\x09x":                {Call: 7, HasSeq: true, Seq: 9, Data: []byte("x")},
		"\x20\x81\x88\x0b\x00\x02\xff\x07\x80\x00\x00\x08xy":               {Call: 0xff07, HasAck: true, Ack: 0x80000008, Data: []byte("xy")},
		"\x30\x81\x88\x0b\x00\x00\x00\x00\x00\x00\x00\x05\x60\x00\x00\x00": {HasSeq: true, HasAck: true, Seq: 5, Ack: 0x60000000},
		"\x30\x81\x88\x0b\x00\x00\x00\x00\x00\x00\x00\x00\x00\x00\x00\x00": {HasSeq: true, HasAck: true},
		"\x20\x01\x88\x0b\x00\x04\x00\x00\x00\x00\x00\x01":                 {Data: []byte{0, 0, 0, 1}},
		string(sampleGreBytes()):                                           sampleGre(),
	}
}

func TestP4_2ParseGre(t *testing.T) {
	for b, want := range kinds() {
		if got, e := ctrl.ParseGre(outer(api.Gre, []byte(b))); e != api.OK || !ctrl.SameGre(got, want) {
			t.Errorf("% x: %+v, %d", b, got, e)
		}
	}
}

func TestP4_2BuildGre(t *testing.T) {
	for b, f := range kinds() {
		want := outer(api.Gre, []byte(b))
		if got := builtGre(t, outer(api.Tcp, []byte("other data")), f); !reflect.DeepEqual(got, want) {
			t.Errorf("%+v, not %+v", got, want)
		}
	}
	got := builtGre(t, api.Packet{Data: make([]byte, 70000)}, api.Frame{})
	if !ipv4.Same(got, api.Packet{Proto: 47, Data: []byte{0x20, 0x01, 0x88, 0x0b, 0, 0, 0, 0}}) {
		t.Errorf("the least: %+v", got)
	}
}

func TestP4_2P2ParseGreWrong(t *testing.T) {
	with := func(at int, v byte) []byte {
		b := sampleGreBytes()
		b[at] = v
		return b
	}
	for _, c := range []struct {
		name string
		p    api.Packet
		want api.Errno
	}{
		{"another kind", outer(api.Udp, sampleGreBytes()), api.ErrKind},
		{"no kind", outer(0, sampleGreBytes()), api.ErrKind},
		{"another kind, and nothing there", outer(api.Tcp, nil), api.ErrKind},
		{"nil", outer(api.Gre, nil), api.ErrShort},
		{"empty", outer(api.Gre, []byte{}), api.ErrShort},
		{"3 bytes", outer(api.Gre, sampleGreBytes()[:3]), api.ErrShort},
		{"7 bytes", outer(api.Gre, sampleGreBytes()[:7]), api.ErrShort},
		{"7 bytes of another beginning", outer(api.Gre, make([]byte, 7)), api.ErrShort},
		{"8 bytes of another beginning", outer(api.Gre, make([]byte, 8)), api.ErrForm},
		{"another beginning, and too short", outer(api.Gre, with(0, 0x31)[:12]), api.ErrForm},
		{"the version 0", outer(api.Gre, with(1, 0x80)), api.ErrForm},
		{"another protocol", outer(api.Gre, with(3, 0x0c)), api.ErrForm},
		{"no key", outer(api.Gre, with(0, 0x10)), api.ErrForm},
		{"a check sum", outer(api.Gre, with(0, 0xb0)), api.ErrForm},
		{"a byte less", outer(api.Gre, sampleGreBytes()[:18]), api.ErrShort},
		{"no Data", outer(api.Gre, sampleGreBytes()[:16]), api.ErrShort},
		{"half of Ack", outer(api.Gre, sampleGreBytes()[:14]), api.ErrShort},
		{"no Ack", outer(api.Gre, sampleGreBytes()[:12]), api.ErrShort},
		{"neither Seq nor Ack", outer(api.Gre, sampleGreBytes()[:8]), api.ErrShort},
		{"no Ack, without Data", outer(api.Gre, with(5, 0)[:12]), api.ErrShort},
		{"neither Seq nor Ack, without Data", outer(api.Gre, with(5, 0)[:8]), api.ErrShort},
		{"a length by one too great", outer(api.Gre, with(5, 4)), api.ErrShort},
		{"a length by 256 too great", outer(api.Gre, with(4, 1)), api.ErrShort},
		{"the greatest length", outer(api.Gre, []byte{0x20, 0x01, 0x88, 0x0b, 0xff, 0xff, 0, 0}), api.ErrShort},
		{"a length by one too small", outer(api.Gre, with(5, 2)), api.ErrForm},
		{"a length of 0", outer(api.Gre, with(5, 0)), api.ErrForm},
		{"a byte more", outer(api.Gre, append(sampleGreBytes(), 0)), api.ErrForm},
		{"Seq that is not said", outer(api.Gre, with(0, 0x20)), api.ErrForm},
		{"Ack that is not said", outer(api.Gre, with(1, 0x01)), api.ErrForm},
		{"a length that goes round", outer(api.Gre, append([]byte{0x20, 0x01, 0x88, 0x0b, 0, 0, 0, 0}, make([]byte, 65536)...)), api.ErrForm},
	} {
		got, e := ctrl.ParseGre(c.p)
		if e != c.want || !reflect.DeepEqual(got, api.Frame{}) {
			t.Errorf("%s: %+v, %d, not %d", c.name, got, e, c.want)
		}
	}
}

// Of all beginnings by one byte beside a right one, none but the four is taken.
func TestP4_2ParseGreBeginnings(t *testing.T) {
	for at := range 4 {
		for v := range 256 {
			b := []byte{0x30, 0x81, 0x88, 0x0b, 0, 0, 0, 0, 0, 0, 0, 0, 0, 0, 0, 0}
			b[at] = byte(v)
			known := slices.Contains([]uint32{0x2001880b, 0x3001880b, 0x2081880b, 0x3081880b},
				uint32(b[0])<<24|uint32(b[1])<<16|uint32(b[2])<<8|uint32(b[3]))
			if at == 0 && v == 0x20 || at == 1 && v == 0x01 {
				b = b[:12]
			}
			if _, e := ctrl.ParseGre(outer(api.Gre, b)); known != (e == api.OK) || !known && e != api.ErrForm {
				t.Errorf("% x: %d", b, e)
			}
		}
	}
}

// wantGre says P4.2 over again, step by step.
func wantGre(p api.Packet) api.Errno {
	b := p.Data
	switch {
	case p.Proto != 47:
		return api.ErrKind
	case len(b) < 8:
		return api.ErrShort
	case b[0] != 0x20 && b[0] != 0x30 || b[1] != 1 && b[1] != 0x81 || b[2] != 0x88 || b[3] != 0x0b:
		return api.ErrForm
	}
	all := 8 + int(b[0]&0x10)/4 + int(b[1]&0x80)/32 + int(b[4])*256 + int(b[5])
	switch {
	case len(b) < all:
		return api.ErrShort
	case len(b) > all:
		return api.ErrForm
	}
	return api.OK
}

func TestP1P2GreBytesOfAnyKind(t *testing.T) {
	r := chance()
	seen := map[api.Errno]int{}
	for range 40000 {
		p := builtGre(t, somePacket(r), someFrame(r))
		p.Data = spoiled(r, p.Data)
		if r.IntN(20) == 0 {
			p.Proto = byte(r.IntN(48))
		}
		was := slices.Clone(p.Data)
		got, e := ctrl.ParseGre(p)
		seen[e]++
		if e != wantGre(p) || e != api.OK && !reflect.DeepEqual(got, api.Frame{}) || !bytes.Equal(p.Data, was) {
			t.Fatalf("%+v: %+v, %d, not %d", p, got, e, wantGre(p))
		}
		if e == api.OK && !bytes.Equal(builtGre(t, api.Packet{}, got).Data, was) {
			t.Fatalf("% x became %+v", was, got)
		}
	}
	for _, e := range []api.Errno{api.OK, api.ErrKind, api.ErrShort, api.ErrForm} {
		if seen[e] < 500 {
			t.Errorf("error %d came up only %d times", e, seen[e])
		}
	}
}

func TestP4_2BuildGreWrong(t *testing.T) {
	for _, c := range []struct {
		name          string
		f             api.Frame
		options, data int
		want          api.Errno
	}{
		{"Seq without HasSeq", api.Frame{Seq: 1}, 0, 0, api.ErrForm},
		{"Ack without HasAck", api.Frame{Ack: 1 << 31}, 0, 0, api.ErrForm},
		{"Seq without HasSeq, with Ack", api.Frame{Seq: 1, HasAck: true, Ack: 1}, 0, 0, api.ErrForm},
		{"Ack without HasAck, with Seq", api.Frame{Ack: 1, HasSeq: true, Seq: 1}, 0, 0, api.ErrForm},
		{"a wrong one, and too long", api.Frame{Ack: 1}, 0, 65536, api.ErrForm},
		{"the packet's Options: 1", api.Frame{}, 1, 0, api.ErrForm},
		{"the packet's Options: 44", api.Frame{}, 44, 0, api.ErrForm},
		{"the packet's Options, and too long", api.Frame{}, 3, 65536, api.ErrForm},
		{"the longest", api.Frame{}, 0, 65535 - 28, api.OK},
		{"by one too long", api.Frame{}, 0, 65535 - 27, api.ErrLong},
		{"the longest with Seq", api.Frame{HasSeq: true}, 40, 65535 - 72, api.OK},
		{"by one too long with Seq", api.Frame{HasSeq: true}, 40, 65535 - 71, api.ErrLong},
		{"the longest with both", api.Frame{HasSeq: true, HasAck: true}, 4, 65535 - 40, api.OK},
		{"by one too long with both", api.Frame{HasSeq: true, HasAck: true}, 4, 65535 - 39, api.ErrLong},
		{"beyond 2^16", api.Frame{}, 0, 65536, api.ErrLong},
		{"beyond 2^17", api.Frame{}, 0, 131072, api.ErrLong},
	} {
		c.f.Data = make([]byte, c.data)
		got, e := ctrl.BuildGre(api.Packet{Ttl: 3, Options: make([]byte, c.options), Data: make([]byte, 70000)}, c.f)
		if e != c.want || e != api.OK && !reflect.DeepEqual(got, api.Packet{}) || e == api.OK && !ipv4.Right(got) {
			t.Errorf("%s: %d, not %d (%d bytes)", c.name, e, c.want, len(got.Data))
		}
	}
}

func TestP4_2SameGre(t *testing.T) {
	if !ctrl.SameGre(sampleGre(), sampleGre()) || !ctrl.SameGre(api.Frame{}, api.Frame{Data: []byte{}}) {
		t.Error("one is not itself")
	}
	for name, change := range map[string]func(f *api.Frame){
		"Call":         func(f *api.Frame) { f.Call++ },
		"HasSeq":       func(f *api.Frame) { f.HasSeq = false },
		"HasAck":       func(f *api.Frame) { f.HasAck = false },
		"Seq":          func(f *api.Frame) { f.Seq++ },
		"Ack":          func(f *api.Frame) { f.Ack++ },
		"both numbers": func(f *api.Frame) { f.Seq, f.Ack = f.Ack, f.Seq },
		"Data":         func(f *api.Frame) { f.Data[2]++ },
		"more Data":    func(f *api.Frame) { f.Data = append(f.Data, 0) },
		"no Data":      func(f *api.Frame) { f.Data = nil },
	} {
		other := sampleGre()
		change(&other)
		if ctrl.SameGre(sampleGre(), other) || ctrl.SameGre(other, sampleGre()) {
			t.Errorf("another one has the same %s", name)
		}
	}
}

func TestP4_3GreParseOfBuild(t *testing.T) {
	r := chance()
	for range 5000 {
		f := someFrame(r)
		got, e := ctrl.ParseGre(builtGre(t, somePacket(r), f))
		if e != api.OK || !ctrl.SameGre(got, f) {
			t.Fatalf("%+v became %+v, %d", f, got, e)
		}
	}
	f := sampleGre()
	f.Data = someBytes(r, api.MaxPacket-36)
	if got, e := ctrl.ParseGre(builtGre(t, api.Packet{}, f)); e != api.OK || !ctrl.SameGre(got, f) {
		t.Errorf("the longest: %d", e)
	}
}
