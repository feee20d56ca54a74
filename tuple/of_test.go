package tuple_test

import (
	"slices"
	"testing"

	"lychgate/api"
	"lychgate/ctrl"
	"lychgate/segs"
	"lychgate/tuple"
)

func TestP5_1Of(t *testing.T) {
	for name, s := range samples() {
		if got, e := tuple.Of(outer(s.proto, s.bytes)); e != api.OK || got != s.tuple() {
			t.Errorf("%s: %+v, %d, not %+v", name, got, e, s.tuple())
		}
	}
	r := chance()
	for range 5000 {
		p, want := somePacket(t, r)
		if got, e := tuple.Of(p); e != api.OK || got != want {
			t.Fatalf("%+v: %+v, %d, not %+v", p, got, e, want)
		}
	}
}

// with is a sample's bytes with one of them changed.
func with(name string, at int, v byte) []byte {
	b := slices.Clone(samples()[name].bytes)
	b[at] = v
	return b
}

func TestP5_1P2OfWrong(t *testing.T) {
	segment, datagram := samples()["a segment"].bytes, samples()["a datagram"].bytes
	echo, frame := samples()["an echo"].bytes, samples()["a frame with both numbers"].bytes
	for _, c := range []struct {
		name string
		p    api.Packet
		want api.Errno
	}{
		{"a segment: 19 bytes", outer(6, segment[:19]), api.ErrShort},
		{"a segment: nothing", outer(6, nil), api.ErrShort},
		{"a segment: a header too short", outer(6, with("a segment", 12, 0x40)), api.ErrForm},
		{"a segment: a header too long", outer(6, with("a segment", 12, 0x60)), api.ErrShort},
		{"a segment: a wrong sum", outer(6, with("a segment", 17, 0x3f)), api.ErrSum},
		{"a segment: another port", outer(6, with("a segment", 1, 0x41)), api.ErrSum},
		{"a datagram: 7 bytes", outer(17, datagram[:7]), api.ErrShort},
		{"a datagram: a wrong length", outer(17, with("a datagram", 5, 10)), api.ErrForm},
		{"a datagram: a wrong sum", outer(17, with("a datagram", 7, 0x6e)), api.ErrSum},
		{"a datagram in a segment's place", outer(6, datagram), api.ErrShort},
		{"a message: 7 bytes", outer(1, echo[:7]), api.ErrShort},
		{"a message: a wrong sum", outer(1, with("an echo", 3, 0x0a)), api.ErrSum},
		{"a message: a wrong sum of no echo", outer(1, with("an echo", 0, 3)), api.ErrSum},
		{"a frame: 7 bytes", outer(47, frame[:7]), api.ErrShort},
		{"a frame: another beginning", outer(47, with("a frame with both numbers", 3, 0)), api.ErrForm},
		{"a frame: a byte less", outer(47, frame[:16]), api.ErrShort},
		{"a frame: a byte more", outer(47, append(slices.Clone(frame), 0)), api.ErrForm},
		{"no protocol", outer(0, segment), api.ErrKind},
		{"no protocol, and nothing", outer(0, nil), api.ErrKind},
		{"a protocol of none", outer(255, datagram), api.ErrKind},
	} {
		if got, e := tuple.Of(c.p); e != c.want || got != (api.Tuple{}) {
			t.Errorf("%s: %+v, %d, not %d", c.name, got, e, c.want)
		}
	}
}

func TestP5_1OfOtherProtocols(t *testing.T) {
	for proto := range 256 {
		if slices.Contains([]int{1, 6, 17, 47}, proto) {
			continue
		}
		for name, s := range samples() {
			if got, e := tuple.Of(outer(byte(proto), s.bytes)); e != api.ErrKind || got != (api.Tuple{}) {
				t.Errorf("%s as protocol %d: %+v, %d", name, proto, got, e)
			}
		}
	}
}

// Of all Types and Codes, none but the two echoes have a tuple.
func TestP5_1OfMessages(t *testing.T) {
	for kind := range 256 {
		for code := range 256 {
			p := message(t, byte(kind), byte(code), nil)
			want, wantError := api.Tuple{}, api.ErrKind
			if (kind == 8 || kind == 0) && code == 0 {
				want, wantError = api.Tuple{Proto: 1, Src: 0x01010101, Dst: from, SrcPort: 0xabcd, DstPort: 0xabcd}, api.OK
			}
			if got, e := tuple.Of(p); e != wantError || got != want {
				t.Errorf("Type %d, Code %d: %+v, %d", kind, code, got, e)
			}
		}
	}
}

// wantOf says P5.1 over again, step by step.
func wantOf(p api.Packet) (api.Tuple, api.Errno) {
	want := api.Tuple{Proto: p.Proto, Src: p.Src, Dst: p.Dst}
	e := api.ErrKind
	switch p.Proto {
	case 6:
		var s api.Segment
		s, e = segs.ParseTcp(p)
		want.SrcPort, want.DstPort = s.Src, s.Dst
	case 17:
		var d api.Datagram
		d, e = segs.ParseUdp(p)
		want.SrcPort, want.DstPort = d.Src, d.Dst
	case 1:
		var m api.Message
		m, e = ctrl.ParseIcmp(p)
		if e == api.OK && !ctrl.IsEcho(m) {
			e = api.ErrKind
		}
		want.SrcPort, want.DstPort = uint16(m.Rest/65536), uint16(m.Rest/65536)
	case 47:
		var f api.Frame
		f, e = ctrl.ParseGre(p)
		want.DstPort = f.Call
	}
	if e != api.OK {
		return api.Tuple{}, e
	}
	return want, e
}

func TestP1P2OfBytesOfAnyKind(t *testing.T) {
	r := chance()
	seen := map[api.Errno]int{}
	for range 40000 {
		p, _ := somePacket(t, r)
		for range r.IntN(3) {
			p.Data[r.IntN(8)] ^= 1 << r.IntN(8)
		}
		if r.IntN(6) == 0 {
			p.Data = p.Data[:r.IntN(len(p.Data))]
		}
		if r.IntN(8) == 0 {
			p.Proto = byte(r.Uint32())
		}
		want, wantError := wantOf(p)
		got, e := tuple.Of(p)
		seen[e]++
		if e != wantError || got != want {
			t.Fatalf("%+v: %+v, %d, not %+v, %d", p, got, e, want, wantError)
		}
	}
	for _, e := range []api.Errno{api.OK, api.ErrKind, api.ErrShort, api.ErrForm, api.ErrSum} {
		if seen[e] < 500 {
			t.Errorf("error %d came up only %d times", e, seen[e])
		}
	}
}
