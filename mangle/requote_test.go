package mangle_test

import (
	"bytes"
	"math/rand/v2"
	"slices"
	"testing"

	"lychgate/api"
	"lychgate/ctrl"
	"lychgate/ipv4"
	"lychgate/mangle"
	"lychgate/tuple"
	"lychgate/wire"
)

// told is an error as it comes to public, and as it goes to host: its bytes with those of the packet that it quotes.
type told struct {
	was, is []byte
	to      api.Tuple
}

func faults() map[string]told {
	return map[string]told{
		"8 bytes of a segment": {
			[]byte{
				0x03, 0x01, 0xf4, 0xc0, 0, 0, 0, 0,
				0x45, 0x00, 0x00, 0x2f, 0x34, 0x56, 0x40, 0x00, 0x40, 0x06, 0xf2, 0x5d, 1, 2, 3, 4, 8, 8, 8, 8,
				0x03, 0xe8, 0x00, 0x50, 1, 2, 3, 4,
			},
			[]byte{
				0x03, 0x01, 0xf8, 0xa3, 0, 0, 0, 0,
				0x45, 0x00, 0x00, 0x2f, 0x34, 0x56, 0x40, 0x00, 0x40, 0x06, 0xec, 0x61, 10, 0, 0, 2, 8, 8, 8, 8,
				0x00, 0x05, 0x00, 0x50, 1, 2, 3, 4,
			},
			api.Tuple{Proto: 6, Src: host, Dst: server, SrcPort: 5, DstPort: 80}},
		"18 bytes of a segment": {
			[]byte{
				0x03, 0x01, 0xa2, 0x60, 0, 0, 0, 0,
				0x45, 0x00, 0x00, 0x2f, 0x34, 0x56, 0x40, 0x00, 0x40, 0x06, 0xf2, 0x5d, 1, 2, 3, 4, 8, 8, 8, 8,
				0x03, 0xe8, 0x00, 0x50, 1, 2, 3, 4, 5, 6, 7, 8, 0x60, 0x12, 0xff, 0xff, 0xe6, 0x3f,
			},
			[]byte{
				0x03, 0x01, 0xa8, 0x5c, 0, 0, 0, 0,
				0x45, 0x00, 0x00, 0x2f, 0x34, 0x56, 0x40, 0x00, 0x40, 0x06, 0xec, 0x61, 10, 0, 0, 2, 8, 8, 8, 8,
				0x00, 0x05, 0x00, 0x50, 1, 2, 3, 4, 5, 6, 7, 8, 0x60, 0x12, 0xff, 0xff, 0xe4, 0x26,
			},
			api.Tuple{Proto: 6, Src: host, Dst: server, SrcPort: 5, DstPort: 80}},
		"a datagram": {
			[]byte{
				0x03, 0x01, 0x11, 0x31, 0, 0, 0, 0,
				0x45, 0x00, 0x00, 0x1f, 0x34, 0x56, 0x40, 0x00, 0x40, 0x11, 0xf2, 0x62, 1, 2, 3, 4, 8, 8, 8, 8,
				0x00, 0x07, 0x00, 0x35, 0x00, 0x0b, 0x27, 0x24, 'a', 'b', 'c',
			},
			[]byte{
				0x03, 0x01, 0x17, 0x2d, 0, 0, 0, 0,
				0x45, 0x00, 0x00, 0x1f, 0x34, 0x56, 0x40, 0x00, 0x40, 0x11, 0xec, 0x66, 10, 0, 0, 2, 8, 8, 8, 8,
				0x00, 0x05, 0x00, 0x35, 0x00, 0x0b, 0x21, 0x2a, 'a', 'b', 'c',
			},
			api.Tuple{Proto: 17, Src: host, Dst: server, SrcPort: 5, DstPort: 53}},
		"what asks for an echo": {
			[]byte{
				0x03, 0x01, 0xfc, 0xfe, 0, 0, 0, 0,
				0x45, 0x00, 0x00, 0x1d, 0x34, 0x56, 0x40, 0x00, 0x40, 0x01, 0xf2, 0x74, 1, 2, 3, 4, 8, 8, 8, 8,
				0x08, 0x00, 0xf6, 0xf1, 0x00, 0x07, 0x00, 0x07, 1,
			},
			[]byte{
				0x03, 0x01, 0xfc, 0xfe, 0, 0, 0, 0,
				0x45, 0x00, 0x00, 0x1d, 0x34, 0x56, 0x40, 0x00, 0x40, 0x01, 0xec, 0x78, 10, 0, 0, 2, 8, 8, 8, 8,
				0x08, 0x00, 0x38, 0x09, 0xbe, 0xef, 0x00, 0x07, 1,
			},
			api.Tuple{Proto: 1, Src: host, Dst: server, SrcPort: 0xbeef, DstPort: 9}},
		"a frame": {
			[]byte{
				0x03, 0x01, 0x54, 0xeb, 0, 0, 0, 0,
				0x45, 0x00, 0x00, 0x1c, 0x34, 0x56, 0x40, 0x00, 0x40, 0x2f, 0xf2, 0x47, 1, 2, 3, 4, 8, 8, 8, 8,
				0x20, 0x01, 0x88, 0x0b, 0x00, 0x00, 0x00, 0x07,
			},
			[]byte{
				0x03, 0x01, 0xb3, 0x3f, 0, 0, 0, 0,
				0x45, 0x00, 0x00, 0x1c, 0x34, 0x56, 0x40, 0x00, 0x40, 0x2f, 0xec, 0x4b, 10, 0, 0, 2, 8, 8, 8, 8,
				0x20, 0x01, 0x88, 0x0b, 0x00, 0x00, 0xa1, 0xb2,
			},
			api.Tuple{Proto: 47, Src: host, Dst: server, SrcPort: 9, DstPort: 0xa1b2}},
	}
}

func TestP10_2Requote(t *testing.T) {
	for name, s := range faults() {
		got, e := mangle.Requote(outer(1, server, public, s.was), server, host, s.to)
		if want := outer(1, server, host, s.is); e != api.OK || !ipv4.Same(got, want) {
			t.Errorf("%s: %+v, %d, not %+v", name, got, e, want)
		}
		got, e = mangle.Requote(outer(1, server, public, s.was), 0xffffffff, 0, s.to)
		if want := outer(1, 0xffffffff, 0, s.is); e != api.OK || !ipv4.Same(got, want) {
			t.Errorf("%s, from and to others: %+v, %d, not %+v", name, got, e, want)
		}
	}
}

// wantQuote says over again what becomes of a quoted packet's bytes. They are right ones, of a protocol that has tuples.
// Bytes behind the length that they tell are none of the packet's.
func wantQuote(b []byte, to api.Tuple) []byte {
	b = slices.Clone(b)
	head := int(b[0]%16) * 4
	rest := b[head:min(int(word(b, 2)), len(b))]
	srcUpper, srcLower := halves(to.Src)
	dstUpper, dstLower := halves(to.Dst)
	is := []uint16{srcUpper, srcLower, dstUpper, dstLower, to.SrcPort, to.DstPort}
	was := []uint16{word(b, 12), word(b, 14), word(b, 16), word(b, 18), word(rest, 0), word(rest, 2)}
	patched := func(sum uint16) uint16 {
		for i := range is {
			sum = patchOf(sum, was[i], is[i])
		}
		return sum
	}
	switch b[9] {
	case 6:
		laid(rest, 0, to.SrcPort, to.DstPort)
		if len(rest) >= 18 {
			laid(rest, 16, patched(word(rest, 16)))
		}
	case 17:
		laid(rest, 0, to.SrcPort, to.DstPort)
		if sum := word(rest, 6); sum != 0 {
			laid(rest, 6, patched(sum))
			if word(rest, 6) == 0 {
				laid(rest, 6, 0xffff)
			}
		}
	case 1:
		laid(rest, 2, patchOf(word(rest, 2), word(rest, 4), to.SrcPort))
		laid(rest, 4, to.SrcPort)
	case 47:
		laid(rest, 6, to.DstPort)
	}
	laid(b, 10, 0, srcUpper, srcLower, dstUpper, dstLower)
	laid(b, 10, sumOf(b[:head]))
	return b
}

// wantRequote says P10.2 over again, step by step.
func wantRequote(p api.Packet, src, dst uint32, to api.Tuple) (api.Packet, api.Errno) {
	k, e := tuple.Quoted(p)
	if e != api.OK {
		return api.Packet{}, e
	}
	if to.Proto != k.Proto {
		return api.Packet{}, api.ErrKind
	}
	m := api.Message{Type: p.Data[0], Code: p.Data[1], Rest: wire.Get32(p.Data, 4), Data: wantQuote(p.Data[8:], to)}
	p.Src, p.Dst = src, dst
	return ctrl.BuildIcmp(p, m)
}

// check holds Requote against what is wanted, and tells the error.
func check(t *testing.T, p api.Packet, src, dst uint32, to api.Tuple) api.Errno {
	t.Helper()
	want, wantError := wantRequote(p, src, dst, to)
	got, e := mangle.Requote(p, src, dst, to)
	if e != wantError || !ipv4.Same(got, want) {
		t.Fatalf("%+v to %+v: %+v, %d, not %+v, %d", p, to, got, e, want, wantError)
	}
	return e
}

// TestP10_2RequoteParts: of all beginnings of a packet's bytes that are enough.
func TestP10_2RequoteParts(t *testing.T) {
	r := chance()
	for range 300 {
		p := somePacket(t, r, protocols()[r.IntN(4)])
		b := built(t, p)
		for n := len(b) - len(p.Data) + 8; n <= len(b); n++ {
			if e := check(t, message(t, 3, byte(n), b[:n]), r.Uint32(), r.Uint32(), someTuple(r, p.Proto)); e != api.OK {
				t.Fatalf("%d bytes of %+v: %d", n, p, e)
			}
		}
	}
}

// TestP10_2RequoteSumOfASegment: it is changed where both its bytes are there, and a byte of it alone stays.
func TestP10_2RequoteSumOfASegment(t *testing.T) {
	s := samples()["a segment"]
	to := api.Tuple{Proto: 6, Src: public, Dst: server, SrcPort: 1000, DstPort: 80}
	b := built(t, s.packet())
	for n := 8; n <= len(s.was); n++ {
		q, e := mangle.Requote(message(t, 11, 0, b[:24+n]), 1, 2, to)
		if e != api.OK || len(q.Data) != 8+24+n {
			t.Fatalf("%d bytes: %d", n, e)
		}
		want := slices.Concat(s.is[:4], s.was[4:n])
		if n >= 18 {
			want = s.is[:n]
		}
		if got := q.Data[8+24:]; !bytes.Equal(got, want) {
			t.Errorf("%d bytes: % x, not % x", n, got, want)
		}
	}
}

// TestP10_2RequoteSumsOfPackets: what is quoted whole is, of its check sums too, what it is Rewritten to.
func TestP10_2RequoteSumsOfPackets(t *testing.T) {
	r := chance()
	for range 5000 {
		p := somePacket(t, r, protocols()[r.IntN(4)])
		to := someTuple(r, p.Proto)
		q, e := mangle.Requote(message(t, 12, 0, built(t, p)), 1, 2, to)
		want, f := mangle.Rewrite(p, to)
		if e != api.OK || f != api.OK {
			t.Fatalf("%d, %d", e, f)
		}
		if got, e := ipv4.Parse(q.Data[8:]); e != api.OK || !ipv4.Same(got, want) {
			t.Fatalf("%+v to %+v: %+v, %d, not %+v", p, to, got, e, want)
		}
	}
}

// TestP10_2RequoteHeader: a quoted header keeps the length that it tells, its Options, and all else.
func TestP10_2RequoteHeader(t *testing.T) {
	r := chance()
	for range 500 {
		p := somePacket(t, r, 17)
		p.Data = append(p.Data, make([]byte, 1000)...)
		b := built(t, p)
		head := len(b) - len(p.Data)
		to := someTuple(r, 17)
		q, e := mangle.Requote(message(t, 3, 4, b[:head+8]), 1, 2, to)
		if e != api.OK {
			t.Fatal(e)
		}
		got := q.Data[8:]
		if !bytes.Equal(got[:10], b[:10]) || !bytes.Equal(got[20:head], b[20:head]) || !wire.Good(got[:head]) {
			t.Fatalf("% x, not % x", got[:head], b[:head])
		}
		if wire.Get32(got, 12) != to.Src || wire.Get32(got, 16) != to.Dst {
			t.Fatalf("% x, not of %+v", got[:head], to)
		}
	}
}

// TestP10_2RequoteBytesBehind: what stands behind the quoted packet's length stays.
func TestP10_2RequoteBytesBehind(t *testing.T) {
	for _, name := range []string{"a datagram", "what asks for an echo", "a frame"} {
		s := faults()[name]
		rest := []byte{9, 8, 7, 6, 5, 4, 3, 2, 1, 0, 0xff, 0xee}
		q, e := mangle.Requote(message(t, 3, 1, slices.Concat(s.was[8:], rest)), server, host, s.to)
		if want := message(t, 3, 1, slices.Concat(s.is[8:], rest)); e != api.OK || !bytes.Equal(q.Data, want.Data) {
			t.Errorf("%s: % x, %d, not % x", name, q.Data, e, want.Data)
		}
	}
	whole := samples()["a segment"]
	rest := []byte{9, 8, 7, 6}
	q, e := mangle.Requote(message(t, 3, 1, append(built(t, whole.packet()), rest...)), server, host, whole.to())
	if want := slices.Concat(whole.is, rest); e != api.OK || !bytes.Equal(q.Data[8+24:], want) {
		t.Errorf("a segment: % x, %d, not % x", q.Data, e, want)
	}
}

// TestP10_2RequoteSumBehind: where the quoted packet's length ends ahead of the check sum of its segment, or between
// both bytes of it, there is none, though the message has bytes at its place.
func TestP10_2RequoteSumBehind(t *testing.T) {
	head := []byte{3, 0, 0xfc, 0xff, 0, 0, 0, 0, 0x45, 0, 0, 28, 0, 0, 0, 0, 0, 6, 0xba, 0xda, 0, 0, 0, 1, 0, 0, 0, 2}
	p := api.Packet{Ttl: 7, Proto: 1, Src: 9, Dst: 8, Data: append(head, make([]byte, 20)...)}
	to := api.Tuple{Proto: 6, Src: 3, Dst: 4, SrcPort: 5, DstPort: 6}
	named := []byte{3, 0, 0xfc, 0xf4, 0, 0, 0, 0, 0x45, 0, 0, 28, 0, 0, 0, 0, 0, 6, 0xba, 0xd6, 0, 0, 0, 3, 0, 0, 0, 4, 0, 5, 0, 6}
	want := api.Packet{Ttl: 7, Proto: 1, Src: 1, Dst: 2, Data: append(named, make([]byte, 16)...)}
	if got, e := mangle.Requote(p, 1, 2, to); e != api.OK || !ipv4.Same(got, want) {
		t.Errorf("%+v, %d, not %+v", got, e, want)
	}
	s := samples()["a segment"]
	for n := 8; n <= len(s.was); n++ {
		short := s.packet()
		short.Data = s.was[:n]
		q, e := mangle.Requote(message(t, 3, 1, append(built(t, short), s.was[n:]...)), 1, 2, s.to())
		want := slices.Concat(s.is[:4], s.was[4:])
		if n >= 18 {
			copy(want[16:18], s.is[16:18])
		}
		if e != api.OK || !bytes.Equal(q.Data[8+24:], want) {
			t.Errorf("%d bytes: % x, %d, not % x", n, q.Data, e, want)
		}
	}
}

// TestP10_2RequoteAnyLength: a quoted header may tell of fewer bytes than are there, of as many, and of more.
func TestP10_2RequoteAnyLength(t *testing.T) {
	r := chance()
	for range 300 {
		p := somePacket(t, r, protocols()[r.IntN(4)])
		for n := 8; n <= len(p.Data)+3; n++ {
			told := p
			told.Data = make([]byte, n)
			head := built(t, told)[:20+len(p.Options)]
			fault := message(t, 3, 1, slices.Concat(head, p.Data))
			if e := check(t, fault, r.Uint32(), r.Uint32(), someTuple(r, p.Proto)); e != api.OK {
				t.Fatalf("%d bytes of %+v: %d", n, p, e)
			}
		}
	}
}

// quoting is an error that quotes these bytes of a protocol, from host to server.
func quoting(t *testing.T, proto byte, data []byte) api.Packet {
	t.Helper()
	return message(t, 3, 1, built(t, outer(proto, host, server, data)))
}

// requoted is what becomes of bytes of a protocol, quoted from host to server.
func requoted(t *testing.T, proto byte, data []byte, to api.Tuple) []byte {
	t.Helper()
	q, e := mangle.Requote(quoting(t, proto, data), 1, 2, to)
	if e != api.OK {
		t.Fatalf("% x to %+v: %d", data, to, e)
	}
	return q.Data[8+24:]
}

// TestP10_2RequoteSumsAtTheEdges: a check sum is patched as it is, whether it fits or not, and in all of its words, so
// that ffff becomes 0 even where no word changes; of a datagram 0 is none, and what comes to 0 is ffff.
func TestP10_2RequoteSumsAtTheEdges(t *testing.T) {
	own := func(proto byte) api.Tuple {
		return api.Tuple{Proto: proto, Src: host, Dst: server, SrcPort: 5, DstPort: 5}
	}
	moved := func(proto byte, src, dst uint16) api.Tuple {
		return api.Tuple{Proto: proto, Src: host, Dst: server, SrcPort: src, DstPort: dst}
	}
	segment := func(src, dst, sum uint16) []byte {
		b := make([]byte, 18)
		laid(b, 0, src, dst)
		laid(b, 16, sum)
		return b
	}
	datagram := func(src, dst, sum uint16) []byte {
		b := make([]byte, 8)
		laid(b, 0, src, dst, 8, sum)
		return b
	}
	echo := func(number, sum uint16) []byte {
		b := make([]byte, 8)
		laid(b, 2, sum, number)
		return b
	}
	for _, c := range []struct {
		name      string
		to        api.Tuple
		from, was []byte
	}{
		{"a segment's ffff to its own", own(6), segment(5, 5, 0xffff), segment(5, 5, 0)},
		{"a segment's 0 to its own", own(6), segment(5, 5, 0), segment(5, 5, 0)},
		{"a segment's other to its own", own(6), segment(5, 5, 0x1234), segment(5, 5, 0x1234)},
		{"a segment that comes to 0", moved(6, 6, 5), segment(5, 5, 1), segment(6, 5, 0)},
		{"a segment that goes round", moved(6, 7, 5), segment(5, 5, 1), segment(7, 5, 0xfffe)},
		{"a datagram's ffff to its own", own(17), datagram(5, 5, 0xffff), datagram(5, 5, 0xffff)},
		{"a datagram's other to its own", own(17), datagram(5, 5, 0x1234), datagram(5, 5, 0x1234)},
		{"a datagram without one", moved(17, 6, 7), datagram(5, 5, 0), datagram(6, 7, 0)},
		{"a datagram that comes to 0", moved(17, 6, 5), datagram(5, 5, 1), datagram(6, 5, 0xffff)},
		{"a datagram's other port", moved(17, 5, 6), datagram(5, 5, 0x1234), datagram(5, 6, 0x1233)},
		{"a message's ffff to its own", own(1), echo(5, 0xffff), echo(5, 0)},
		{"a message's other to its own", own(1), echo(5, 0x1234), echo(5, 0x1234)},
		{"a message that comes to 0", moved(1, 6, 9), echo(5, 1), echo(6, 0)},
		{"a message of nothing but 0 then", moved(1, 0, 9), echo(0xffff, 0), echo(0, 0)},
	} {
		if got := requoted(t, c.to.Proto, c.from, c.to); !bytes.Equal(got, c.was) {
			t.Errorf("%s: % x, not % x", c.name, got, c.was)
		}
	}
}

// TestP10_2RequoteWordsAtTheEdges: each word is patched by itself; ffff stays where all of them go from ffff to 0.
func TestP10_2RequoteWordsAtTheEdges(t *testing.T) {
	all := bytes.Repeat([]byte{0xff}, 20)
	b := built(t, api.Packet{Proto: 6, Src: 0xffffffff, Dst: 0xffffffff, Data: all})
	q, e := mangle.Requote(message(t, 3, 1, b), 1, 2, api.Tuple{Proto: 6})
	if want := slices.Concat(make([]byte, 4), all[4:]); e != api.OK || !bytes.Equal(q.Data[8+20:], want) {
		t.Errorf("% x, %d", q.Data, e)
	}
	r := chance()
	edge := func() uint16 { return []uint16{0, 0xffff, 1, 0xfffe}[r.IntN(4)] }
	address := func() uint32 { return uint32(edge())<<16 | uint32(edge()) }
	for range 20000 {
		proto := []byte{6, 17, 1}[r.IntN(3)]
		data := make([]byte, 20)
		laid(data, 0, edge(), edge(), edge(), edge())
		laid(data, 16, edge())
		if proto == 1 {
			laid(data, 0, 0)
		}
		b := built(t, api.Packet{Proto: proto, Src: address(), Dst: address(), Data: data})
		to := api.Tuple{Proto: proto, Src: address(), Dst: address(), SrcPort: edge(), DstPort: edge()}
		if e := check(t, message(t, 3, 1, b), 1, 2, to); e != api.OK {
			t.Fatal(e)
		}
	}
}

func TestP10_2P2RequoteWrong(t *testing.T) {
	s := faults()["a datagram"]
	right := outer(1, server, public, s.was)
	quoted := s.was[8:]
	as := func(proto byte) api.Tuple { return api.Tuple{Proto: proto, Src: 1, Dst: 2, SrcPort: 3, DstPort: 4} }
	other := slices.Clone(s.was)
	other[2]++
	for _, c := range []struct {
		name string
		p    api.Packet
		to   api.Tuple
		want api.Errno
	}{
		{"another protocol", outer(17, server, public, s.was), s.to, api.ErrKind},
		{"no protocol", api.Packet{}, api.Tuple{}, api.ErrKind},
		{"nothing", outer(1, 1, 2, nil), s.to, api.ErrShort},
		{"a wrong sum", outer(1, server, public, other), s.to, api.ErrSum},
		{"a wrong sum, and to another protocol", outer(1, server, public, other), as(6), api.ErrSum},
		{"an echo", message(t, 8, 0, quoted), s.to, api.ErrKind},
		{"an echo, and wrong Options", withOptions(message(t, 8, 0, quoted), 3), s.to, api.ErrKind},
		{"nothing quoted", message(t, 3, 0, nil), s.to, api.ErrShort},
		{"nothing quoted, and to another protocol", message(t, 3, 0, nil), as(6), api.ErrShort},
		{"nothing quoted, and wrong Options", withOptions(message(t, 3, 0, nil), 3), s.to, api.ErrShort},
		{"7 bytes of Data", message(t, 3, 0, quoted[:27]), s.to, api.ErrShort},
		{"another version", message(t, 3, 0, append([]byte{0x65}, quoted[1:]...)), s.to, api.ErrVersion},
		{"a wrong sum of the header", message(t, 3, 0, append([]byte{0x45, 1}, quoted[2:]...)), s.to, api.ErrSum},
		{"an echo that is quoted, and to another protocol", quoting(t, 1, make([]byte, 8)), as(6), api.ErrKind},
		{"an error of an error", quoting(t, 1, []byte{3, 0, 0, 0, 0, 0, 0, 0}), as(1), api.ErrKind},
		{"no beginning of a frame", quoting(t, 47, make([]byte, 8)), as(47), api.ErrForm},
		{"no beginning of a frame, and to another protocol", quoting(t, 47, make([]byte, 8)), as(6), api.ErrForm},
		{"a protocol of none", quoting(t, 99, make([]byte, 8)), as(99), api.ErrKind},
		{"to another protocol", right, as(6), api.ErrKind},
		{"to the error's own protocol", right, as(1), api.ErrKind},
		{"to no protocol", right, api.Tuple{}, api.ErrKind},
		{"to another protocol, and wrong Options", withOptions(right, 3), as(6), api.ErrKind},
		{"Options of 3 bytes", withOptions(right, 3), s.to, api.ErrForm},
		{"Options of 44 bytes", withOptions(right, 44), s.to, api.ErrForm},
	} {
		if got, e := mangle.Requote(c.p, 1, 2, c.to); e != c.want || !ipv4.Same(got, api.Packet{}) {
			t.Errorf("%s: %+v, %d, not %d", c.name, got, e, c.want)
		}
	}
	if got, e := mangle.Requote(withOptions(right, 40), 1, 2, s.to); e != api.OK || len(got.Options) != 40 {
		t.Errorf("Options of 40 bytes: %d", e)
	}
}

// grown is an error with so many bytes of 0 behind it that there are size of them in all. Its sum stays.
func grown(p api.Packet, size int) api.Packet {
	p.Data = append(slices.Clone(p.Data), make([]byte, size-20-len(p.Options)-len(p.Data))...)
	return p
}

func TestP10_2P5RequoteLong(t *testing.T) {
	s := faults()["18 bytes of a segment"]
	p := outer(1, server, public, s.was)
	got, e := mangle.Requote(grown(p, api.MaxPacket), server, host, s.to)
	if want := grown(outer(1, server, host, s.is), api.MaxPacket); e != api.OK || !ipv4.Same(got, want) {
		t.Errorf("%d", e)
	}
	if got, e := mangle.Requote(grown(p, api.MaxPacket+1), server, host, s.to); e != api.ErrLong || !ipv4.Same(got, api.Packet{}) {
		t.Errorf("a byte more: %d", e)
	}
	wrong := grown(p, api.MaxPacket+1)
	wrong.Options = []byte{1}
	if got, e := mangle.Requote(wrong, server, host, s.to); e != api.ErrForm || !ipv4.Same(got, api.Packet{}) {
		t.Errorf("a byte more, and wrong Options: %d", e)
	}
}

// someQuote is bytes that an error may quote: mostly right ones, of which the end may be missing.
func someQuote(t *testing.T, r *rand.Rand) ([]byte, byte) {
	p := somePacket(t, r, protocols()[r.IntN(4)])
	if r.IntN(6) == 0 {
		p.Data[r.IntN(8)] ^= 1 << r.IntN(8)
	}
	if r.IntN(12) == 0 {
		p.Proto = []byte{0, 1, 6, 17, 47}[r.IntN(5)]
	}
	b := built(t, p)
	if r.IntN(8) == 0 {
		b[r.IntN(20)] ^= 1 << r.IntN(8)
	}
	if head := int(b[0]%16) * 4; r.IntN(2) == 0 && head <= len(b) {
		laid(b, 10, 0)
		laid(b, 10, sumOf(b[:head]))
	}
	switch r.IntN(3) {
	case 0:
		b = b[:r.IntN(len(b)+1)]
	case 1:
		b = append(b, someBytes(r, r.IntN(20))...)
	}
	return b, p.Proto
}

func TestP10_2P1P2RequoteOfAnyKind(t *testing.T) {
	r := chance()
	seen := map[api.Errno]int{}
	for range 40000 {
		b, proto := someQuote(t, r)
		p := message(t, []byte{3, 3, 11, 11, 12, 12, 8}[r.IntN(7)], byte(r.Uint32()), b)
		switch r.IntN(20) {
		case 0:
			p.Data[r.IntN(len(p.Data))]++
		case 1:
			p.Proto = proto
		case 2:
			p.Options = someBytes(r, r.IntN(50))
		case 3:
			proto = protocols()[r.IntN(4)]
		}
		seen[check(t, p, r.Uint32(), r.Uint32(), someTuple(r, proto))]++
	}
	for _, e := range []api.Errno{api.OK, api.ErrKind, api.ErrShort, api.ErrForm, api.ErrSum, api.ErrVersion, api.ErrFragment} {
		if seen[e] < 50 {
			t.Errorf("error %d came up only %d times", e, seen[e])
		}
	}
}

// TestP10_3P10_5RequotedHasTheTuple: an error tells of the packet that it quotes the tuple that it was Requoted to; back at
// its own it is itself.
func TestP10_3P10_5RequotedHasTheTuple(t *testing.T) {
	r := chance()
	for range 3000 {
		p := somePacket(t, r, protocols()[r.IntN(4)])
		own, _ := tuple.Of(p)
		to := someTuple(r, p.Proto)
		m := message(t, 3, 1, built(t, p))
		q, e := mangle.Requote(m, 1, 2, to)
		switch p.Proto {
		case api.Icmp:
			to.DstPort = to.SrcPort
		case api.Gre:
			to.SrcPort = 0
		}
		if got, f := tuple.Quoted(q); e != api.OK || f != api.OK || got != to || !ipv4.Right(q) {
			t.Fatalf("%+v to %+v: %+v, %d, %d", p, to, got, e, f)
		}
		back, e := mangle.Requote(q, m.Src, m.Dst, own)
		if e != api.OK || !ipv4.Same(back, m) {
			t.Fatalf("%+v and back: %+v, %d", m, back, e)
		}
	}
}
