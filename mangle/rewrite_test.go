package mangle_test

import (
	"bytes"
	"slices"
	"testing"

	"lychgate/api"
	"lychgate/ctrl"
	"lychgate/ipv4"
	"lychgate/mangle"
	"lychgate/segs"
	"lychgate/tuple"
	"lychgate/wire"
)

// sample is the bytes of a unit as they are from host to server, and as they are from public to server.
type sample struct {
	proto    byte
	was, is  []byte
	src, dst uint16 // the ports that it is Rewritten to
}

func (s sample) packet() api.Packet {
	return outer(s.proto, host, server, slices.Clone(s.was))
}

func (s sample) to() api.Tuple {
	return api.Tuple{Proto: s.proto, Src: public, Dst: server, SrcPort: s.src, DstPort: s.dst}
}

func samples() map[string]sample {
	return map[string]sample{
		"a segment": {6,
			[]byte{
				0x00, 0x05, 0x00, 0x50, 1, 2, 3, 4, 5, 6, 7, 8, 0x60, 0x12, 0xff, 0xff, 0xe4, 0x26, 0, 9,
				0x02, 0x04, 0x05, 0xb4, 'h', 'i', '!',
			},
			[]byte{
				0x03, 0xe8, 0x00, 0x50, 1, 2, 3, 4, 5, 6, 7, 8, 0x60, 0x12, 0xff, 0xff, 0xe6, 0x3f, 0, 9,
				0x02, 0x04, 0x05, 0xb4, 'h', 'i', '!',
			}, 1000, 80},
		"a segment with a word more than its options need": {6,
			[]byte{
				0x00, 0x05, 0x00, 0x50, 1, 2, 3, 4, 5, 6, 7, 8, 0x70, 0x12, 0xff, 0xff, 0xda, 0xda, 0, 9,
				1, 0, 0, 0, 0, 0, 0, 0, 'h', 'i', '!',
			},
			[]byte{
				0x03, 0xe8, 0x00, 0x50, 1, 2, 3, 4, 5, 6, 7, 8, 0x70, 0x12, 0xff, 0xff, 0xdc, 0xf3, 0, 9,
				1, 0, 0, 0, 0, 0, 0, 0, 'h', 'i', '!',
			}, 1000, 80},
		"a datagram": {17,
			[]byte{0x00, 0x05, 0x00, 0x35, 0, 11, 0x21, 0x2a, 'a', 'b', 'c'},
			[]byte{0x00, 0x07, 0x00, 0x35, 0, 11, 0x27, 0x24, 'a', 'b', 'c'}, 7, 53},
		"a bare datagram": {17,
			[]byte{0x00, 0x05, 0x00, 0x35, 0, 11, 0, 0, 'a', 'b', 'c'},
			[]byte{0x00, 0x07, 0xff, 0xfe, 0, 11, 0, 0, 'a', 'b', 'c'}, 7, 65534},
		"what asks for an echo": {1,
			[]byte{8, 0, 0x38, 0x09, 0xbe, 0xef, 0x00, 0x07, 1},
			[]byte{8, 0, 0xf6, 0xf1, 0x00, 0x07, 0x00, 0x07, 1}, 7, 9},
		"an echo": {1,
			[]byte{0, 0, 0x40, 0x09, 0xbe, 0xef, 0x00, 0x07, 1},
			[]byte{0, 0, 0xfe, 0xf1, 0x00, 0x07, 0x00, 0x07, 1}, 7, 7},
		"a frame": {47,
			[]byte{0x20, 0x01, 0x88, 0x0b, 0, 0, 0xa1, 0xb2},
			[]byte{0x20, 0x01, 0x88, 0x0b, 0, 0, 0x00, 0x07}, 99, 7},
		"a frame with both numbers": {47,
			[]byte{0x30, 0x81, 0x88, 0x0b, 0, 1, 0x00, 0x07, 1, 2, 3, 4, 5, 6, 7, 8, 'p'},
			[]byte{0x30, 0x81, 0x88, 0x0b, 0, 1, 0xff, 0xff, 1, 2, 3, 4, 5, 6, 7, 8, 'p'}, 0, 65535},
	}
}

func TestP10_1Rewrite(t *testing.T) {
	for name, s := range samples() {
		got, e := mangle.Rewrite(s.packet(), s.to())
		if want := outer(s.proto, public, server, s.is); e != api.OK || !ipv4.Same(got, want) {
			t.Errorf("%s: %+v, %d, not %+v", name, got, e, want)
		}
	}
}

// TestP10_1Example is that of the chapter.
func TestP10_1Example(t *testing.T) {
	p, _ := segs.BuildUdp(api.Packet{Ttl: 64, Src: host, Dst: server}, api.Datagram{Src: 5, Dst: 53, Data: []byte("abc")})
	want, _ := segs.BuildUdp(api.Packet{Ttl: 64, Src: public, Dst: server}, api.Datagram{Src: 7, Dst: 53, Data: []byte("abc")})
	got, e := mangle.Rewrite(p, api.Tuple{Proto: 17, Src: public, Dst: server, SrcPort: 7, DstPort: 53})
	if e != api.OK || !ipv4.Same(got, want) {
		t.Errorf("%+v, %d", got, e)
	}
}

// TestP10_1RewriteOtherPort: the one port of a message, and of a frame, is told whatever the other one is.
func TestP10_1RewriteOtherPort(t *testing.T) {
	for _, name := range []string{"what asks for an echo", "an echo", "a frame", "a frame with both numbers"} {
		s := samples()[name]
		for _, other := range []uint16{0, 1, 0x1234, 65535} {
			to := s.to()
			if s.proto == api.Icmp {
				to.DstPort = other
			} else {
				to.SrcPort = other
			}
			if got, e := mangle.Rewrite(s.packet(), to); e != api.OK || !bytes.Equal(got.Data, s.is) {
				t.Errorf("%s, %d: % x, %d", name, other, got.Data, e)
			}
		}
	}
}

// sumsOf are the check sums of a sample Rewritten to all ports, with how often each of them came up.
func sumsOf(t *testing.T, s sample, at int) map[uint16]int {
	t.Helper()
	sums := map[uint16]int{}
	for port := range 1 << 16 {
		to := s.to()
		to.SrcPort = uint16(port)
		q, e := mangle.Rewrite(s.packet(), to)
		if k, f := tuple.Of(q); e != api.OK || f != api.OK || k.SrcPort != uint16(port) {
			t.Fatalf("%d: %+v, %d, %d", port, k, e, f)
		}
		sums[word(q.Data, at)]++
	}
	return sums
}

// TestP10_1SumsThatComeToNothing: of a datagram such a check sum is ffff, of others it is 0.
func TestP10_1SumsThatComeToNothing(t *testing.T) {
	if sums := sumsOf(t, samples()["a datagram"], 6); sums[0] != 0 || sums[0xffff] < 1 {
		t.Errorf("of a datagram: %d are 0, %d ffff", sums[0], sums[0xffff])
	}
	if sums := sumsOf(t, samples()["a segment"], 16); sums[0] < 1 || sums[0xffff] != 0 {
		t.Errorf("of a segment: %d are 0, %d ffff", sums[0], sums[0xffff])
	}
	if sums := sumsOf(t, samples()["an echo"], 2); sums[0] < 1 || sums[0xffff] != 0 {
		t.Errorf("of a message: %d are 0, %d ffff", sums[0], sums[0xffff])
	}
	if sums := sumsOf(t, samples()["a bare datagram"], 6); sums[0] != 1<<16 {
		t.Errorf("of a bare datagram: %d are 0", sums[0])
	}
}

// TestP10_1SumsAreAnew: of two check sums that both fit, the one is told that is built; and of a message that is nothing
// but 0 then it fits, though what is patched would not.
func TestP10_1SumsAreAnew(t *testing.T) {
	five := outer(1, host, server, []byte{0, 0, 0xff, 0xfa, 0, 5, 0, 0})
	none := outer(1, host, server, []byte{0, 0, 0xff, 0xff, 0, 0, 0, 0})
	if got, e := mangle.Rewrite(five, api.Tuple{Proto: 1, Src: host, Dst: server}); e != api.OK || !ipv4.Same(got, none) {
		t.Errorf("%+v, %d", got, e)
	}
	p, _ := ctrl.BuildIcmp(outer(1, host, server, nil), api.Message{Type: 8, Rest: 0xf7ff0000})
	if word(p.Data, 2) != 0 {
		t.Fatalf("% x", p.Data)
	}
	k, _ := tuple.Of(p)
	other := p
	other.Data = wire.Put16(p.Data, 2, 0xffff)
	if got, e := mangle.Rewrite(other, k); e != api.OK || !ipv4.Same(got, p) {
		t.Errorf("%+v, %d", got, e)
	}
}

// long is a packet of so many bytes in all, with Options of four, and its tuple.
func long(t *testing.T, proto byte, size int) (api.Packet, api.Tuple) {
	t.Helper()
	data := make([]byte, size-24)
	switch proto {
	case 6:
		data[12] = 0x50
		pseudo := wire.Pseudo(host, server, 6, len(data))
		laid(data, 16, sumOf(append(pseudo, data...)))
	case 17:
		laid(data, 4, uint16(len(data)))
	case 1:
		data[0] = 8
		laid(data, 2, sumOf(data))
	case 47:
		laid(data, 0, 0x2001, 0x880b, uint16(len(data)-8))
	}
	p := outer(proto, host, server, data)
	k, e := tuple.Of(p)
	if e != api.OK {
		t.Fatalf("%d bytes of protocol %d: %d", size, proto, e)
	}
	return p, k
}

func TestP10_1P5RewriteLong(t *testing.T) {
	for _, proto := range protocols() {
		p, k := long(t, proto, api.MaxPacket)
		k.Src, k.SrcPort, k.DstPort = 9, 8, 7
		if got, e := mangle.Rewrite(p, k); e != api.OK || !ipv4.Right(got) || len(got.Data) != len(p.Data) {
			t.Errorf("protocol %d: %d", proto, e)
		}
		p, k = long(t, proto, api.MaxPacket+1)
		if got, e := mangle.Rewrite(p, k); e != api.ErrLong || !ipv4.Same(got, api.Packet{}) {
			t.Errorf("protocol %d, a byte more: %d", proto, e)
		}
	}
}

// withOptions is a packet with others.
func withOptions(p api.Packet, n int) api.Packet {
	p.Options = make([]byte, n)
	return p
}

// withByte is a packet with one byte of its Data changed.
func withByte(p api.Packet, at int, v byte) api.Packet {
	p.Data = slices.Clone(p.Data)
	p.Data[at] = v
	return p
}

func TestP10_1P2RewriteWrong(t *testing.T) {
	segment, datagram := samples()["a segment"], samples()["a datagram"]
	echo, frame := samples()["an echo"], samples()["a frame"]
	tooLong, k := long(t, 1, api.MaxPacket+1)
	as := func(proto byte) api.Tuple { return api.Tuple{Proto: proto, Src: 1, Dst: 2, SrcPort: 3, DstPort: 4} }
	for _, c := range []struct {
		name string
		p    api.Packet
		to   api.Tuple
		want api.Errno
	}{
		{"another protocol", segment.packet(), as(17), api.ErrKind},
		{"no protocol asked for", segment.packet(), api.Tuple{}, api.ErrKind},
		{"another protocol, and a wrong sum", withByte(segment.packet(), 4, 0), as(1), api.ErrKind},
		{"another protocol, and nothing", outer(17, 1, 2, nil), as(6), api.ErrKind},
		{"another protocol, and wrong Options", withOptions(frame.packet(), 3), as(6), api.ErrKind},
		{"another protocol, and too long", tooLong, as(6), api.ErrKind},
		{"a protocol of none", outer(99, 1, 2, segment.was), as(99), api.ErrKind},
		{"no protocol", api.Packet{}, api.Tuple{}, api.ErrKind},
		{"a segment: nothing", outer(6, 1, 2, nil), as(6), api.ErrShort},
		{"a segment: a wrong sum", withByte(segment.packet(), 4, 0), segment.to(), api.ErrSum},
		{"a segment: wrong options", withByte(segment.packet(), 12, 0x40), segment.to(), api.ErrForm},
		{"a datagram: a wrong length", withByte(datagram.packet(), 5, 12), datagram.to(), api.ErrForm},
		{"a datagram: a wrong sum", withByte(datagram.packet(), 7, 0), datagram.to(), api.ErrSum},
		{"a message: a wrong sum", withByte(echo.packet(), 8, 0), echo.to(), api.ErrSum},
		{"a message: 7 bytes", outer(1, 1, 2, echo.was[:7]), echo.to(), api.ErrShort},
		{"a message: no echo", message(t, 3, 1, built(t, segment.packet())), as(1), api.ErrKind},
		{"a message: an echo with a Code", message(t, 0, 1, nil), as(1), api.ErrKind},
		{"a frame: another beginning", withByte(frame.packet(), 0, 0x40), frame.to(), api.ErrForm},
		{"a frame: a byte is missing", withByte(frame.packet(), 5, 1), frame.to(), api.ErrShort},
		{"a wrong sum, and wrong Options", withOptions(withByte(segment.packet(), 4, 0), 3), segment.to(), api.ErrSum},
		{"no echo, and wrong Options", withOptions(message(t, 3, 1, nil), 3), as(1), api.ErrKind},
		{"a segment: Options of 3 bytes", withOptions(segment.packet(), 3), segment.to(), api.ErrForm},
		{"a datagram: Options of 44 bytes", withOptions(datagram.packet(), 44), datagram.to(), api.ErrForm},
		{"a message: Options of 41 bytes", withOptions(echo.packet(), 41), echo.to(), api.ErrForm},
		{"a frame: Options of 1 byte", withOptions(frame.packet(), 1), frame.to(), api.ErrForm},
		{"too long", tooLong, k, api.ErrLong},
		{"too long, and wrong Options", withOptions(tooLong, 2), k, api.ErrForm},
	} {
		if got, e := mangle.Rewrite(c.p, c.to); e != c.want || !ipv4.Same(got, api.Packet{}) {
			t.Errorf("%s: %+v, %d, not %d", c.name, got, e, c.want)
		}
	}
	if got, e := mangle.Rewrite(withOptions(segment.packet(), 40), segment.to()); e != api.OK || len(got.Options) != 40 {
		t.Errorf("Options of 40 bytes: %d", e)
	}
}

// rebuilt says P10.1 over again, by what is read and built: of a segment that has no more words than it needs.
func rebuilt(p api.Packet, to api.Tuple) (api.Packet, api.Errno) {
	if p.Proto != to.Proto {
		return api.Packet{}, api.ErrKind
	}
	if _, e := tuple.Of(p); e != api.OK {
		return api.Packet{}, e
	}
	was := p
	p.Src, p.Dst = to.Src, to.Dst
	switch p.Proto {
	case 6:
		s, _ := segs.ParseTcp(was)
		s.Src, s.Dst = to.SrcPort, to.DstPort
		return segs.BuildTcp(p, s)
	case 17:
		d, _ := segs.ParseUdp(was)
		d.Src, d.Dst = to.SrcPort, to.DstPort
		return segs.BuildUdp(p, d)
	case 1:
		m, _ := ctrl.ParseIcmp(was)
		m.Rest = uint32(to.SrcPort)*65536 + m.Rest%65536
		return ctrl.BuildIcmp(p, m)
	}
	f, _ := ctrl.ParseGre(was)
	f.Call = to.DstPort
	return ctrl.BuildGre(p, f)
}

func TestP10_1P1P2RewriteOfAnyKind(t *testing.T) {
	r := chance()
	seen := map[api.Errno]int{}
	for range 40000 {
		p := somePacket(t, r, protocols()[r.IntN(4)])
		to := someTuple(r, p.Proto)
		switch r.IntN(12) {
		case 0:
			p.Data[r.IntN(len(p.Data))] ^= 1 << r.IntN(8)
		case 1:
			p.Data = p.Data[:r.IntN(len(p.Data))]
		case 2:
			p.Options = someBytes(r, r.IntN(50))
		case 3:
			p.Proto = []byte{0, 1, 6, 17, 47}[r.IntN(5)]
		case 4:
			p.Proto, to.Proto = 2, 2
		}
		want, wantError := rebuilt(p, to)
		got, e := mangle.Rewrite(p, to)
		seen[e]++
		if e != wantError || !ipv4.Same(got, want) {
			t.Fatalf("%+v to %+v: %+v, %d, not %+v, %d", p, to, got, e, want, wantError)
		}
	}
	for _, e := range []api.Errno{api.OK, api.ErrKind, api.ErrShort, api.ErrForm, api.ErrSum} {
		if seen[e] < 200 {
			t.Errorf("error %d came up only %d times", e, seen[e])
		}
	}
}

func TestP10_3RewrittenHasTheTuple(t *testing.T) {
	r := chance()
	for range 5000 {
		p := somePacket(t, r, protocols()[r.IntN(4)])
		to := someTuple(r, p.Proto)
		q, e := mangle.Rewrite(p, to)
		want := to
		switch p.Proto {
		case api.Icmp:
			want.DstPort = to.SrcPort
		case api.Gre:
			want.SrcPort = 0
		}
		if got, f := tuple.Of(q); e != api.OK || f != api.OK || got != want || !ipv4.Right(q) {
			t.Fatalf("%+v to %+v: %+v, %d, %d", p, to, got, e, f)
		}
	}
}

// TestP10_4P10_5Back: to its own tuple, and to another one and back, a packet is itself.
func TestP10_4P10_5Back(t *testing.T) {
	r := chance()
	back := func(p api.Packet) {
		t.Helper()
		own, _ := tuple.Of(p)
		if got, e := mangle.Rewrite(p, own); e != api.OK || !ipv4.Same(got, p) {
			t.Fatalf("%+v to its own: %+v, %d", p, got, e)
		}
		q, e := mangle.Rewrite(p, someTuple(r, p.Proto))
		got, f := mangle.Rewrite(q, own)
		if e != api.OK || f != api.OK || !ipv4.Same(got, p) {
			t.Fatalf("%+v and back: %+v, %d, %d", p, got, e, f)
		}
	}
	for range 5000 {
		back(somePacket(t, r, protocols()[r.IntN(4)]))
	}
	for _, s := range samples() {
		back(s.packet())
	}
}
