package tuple_test

import (
	"bytes"
	"slices"
	"testing"

	"lychgate/api"
	"lychgate/ctrl"
	"lychgate/ipv4"
	"lychgate/tuple"
	"lychgate/wire"
)

// TestP5_2Quoted: the beginning of a segment of 20 bytes, of which 8 are quoted.
func TestP5_2Quoted(t *testing.T) {
	p := api.Packet{Proto: 1, Src: 9, Dst: 8, Data: []byte{
		0x0b, 0x00, 0x54, 0x69, 0, 0, 0, 0,
		0x45, 0x00, 0x00, 0x28, 0x34, 0x56, 0x00, 0x00, 0x40, 0x06, 0x30, 0x6d, 0x0a, 0x00, 0x00, 0x02, 0x08, 0x08, 0x04, 0x04,
		0x9c, 0x40, 0x00, 0x50, 0x01, 0x02, 0x03, 0x04,
	}}
	want := api.Tuple{Proto: 6, Src: from, Dst: to, SrcPort: 40000, DstPort: 80}
	if got, e := tuple.Quoted(p); e != api.OK || got != want {
		t.Errorf("%+v, %d", got, e)
	}
}

func TestP5_2QuotedSamples(t *testing.T) {
	for name, s := range samples() {
		if got, e := tuple.Quoted(quoting(t, s.proto, s.bytes)); e != api.OK || got != s.tuple() {
			t.Errorf("%s: %+v, %d, not %+v", name, got, e, s.tuple())
		}
	}
}

// TestP5_2QuotedFirstBytesAlone: whatever stands behind the first 8 bytes, and whatever sums say, plays no part.
func TestP5_2QuotedFirstBytesAlone(t *testing.T) {
	for name, s := range samples() {
		for _, rest := range [][]byte{nil, {1}, make([]byte, 200), bytes.Repeat([]byte{0xff}, 33)} {
			data := append(slices.Clone(s.bytes[:8]), rest...)
			if got, e := tuple.Quoted(quoting(t, s.proto, data)); e != api.OK || got != s.tuple() {
				t.Errorf("%s, with %d bytes behind: %+v, %d", name, len(rest), got, e)
			}
		}
	}
	for _, c := range []struct {
		proto    byte
		first    []byte
		src, dst uint16
	}{
		{6, []byte{1, 2, 3, 4, 0xff, 0xff, 0xff, 0xff}, 0x0102, 0x0304},
		{17, []byte{1, 2, 3, 4, 0xff, 0xff, 0xff, 0xff}, 0x0102, 0x0304},
		{1, []byte{8, 0, 3, 4, 5, 6, 7, 8}, 0x0506, 0x0506},
		{1, []byte{0, 0, 0xff, 0xff, 5, 6, 7, 8}, 0x0506, 0x0506},
		{47, []byte{0x20, 0x01, 0x88, 0x0b, 0xff, 0xff, 7, 8}, 0, 0x0708},
		{47, []byte{0x30, 0x81, 0x88, 0x0b, 0, 0, 7, 8}, 0, 0x0708},
	} {
		want := api.Tuple{Proto: c.proto, Src: from, Dst: to, SrcPort: c.src, DstPort: c.dst}
		if got, e := tuple.Quoted(quoting(t, c.proto, c.first)); e != api.OK || got != want {
			t.Errorf("% x of %d: %+v, %d", c.first, c.proto, got, e)
		}
	}
}

// Of all Types, with any Code, none but the three quote a packet.
func TestP5_2QuotedByMessages(t *testing.T) {
	s := samples()["a datagram"]
	b := bytesOf(t, outer(s.proto, s.bytes))
	for kind := range 256 {
		for _, code := range []byte{0, 1, 255} {
			want, wantError := s.tuple(), api.OK
			if kind != 3 && kind != 11 && kind != 12 {
				want, wantError = api.Tuple{}, api.ErrKind
			}
			if got, e := tuple.Quoted(message(t, byte(kind), code, b)); e != wantError || got != want {
				t.Errorf("Type %d, Code %d: %+v, %d", kind, code, got, e)
			}
		}
	}
}

// changed is a quoted datagram's bytes with one of the header's bytes changed, and a fitting sum if asked for.
func changed(t *testing.T, at int, v byte, fits bool) []byte {
	s := samples()["a datagram"]
	b := bytesOf(t, outer(s.proto, s.bytes))
	b[at] = v
	if fits {
		b[10], b[11] = 0, 0
		b = wire.Put16(b, 10, wire.Sum(b[:24]))
	}
	return b
}

func TestP5_2P2QuotedWrong(t *testing.T) {
	right := changed(t, 0, 0x46, true)
	noSum := message(t, 3, 1, right)
	noSum.Data[2] ^= 1
	noSumOfEcho := message(t, 8, 0, right)
	noSumOfEcho.Data[3] ^= 1
	otherProto := message(t, 3, 1, right)
	otherProto.Proto = 17
	for _, c := range []struct {
		name string
		p    api.Packet
		want api.Errno
	}{
		{"another protocol", otherProto, api.ErrKind},
		{"another protocol, and nothing", api.Packet{Proto: 6}, api.ErrKind},
		{"no protocol", api.Packet{}, api.ErrKind},
		{"nothing", api.Packet{Proto: 1}, api.ErrShort},
		{"7 bytes", api.Packet{Proto: 1, Data: []byte{3, 0, 0, 0, 0, 0, 0}}, api.ErrShort},
		{"a wrong sum", noSum, api.ErrSum},
		{"a wrong sum of no error", noSumOfEcho, api.ErrSum},
		{"an echo", message(t, 8, 0, right), api.ErrKind},
		{"an echo of too little", message(t, 0, 0, nil), api.ErrKind},
		{"nothing quoted", message(t, 3, 0, nil), api.ErrShort},
		{"19 bytes quoted", message(t, 3, 0, right[:19]), api.ErrShort},
		{"another version", message(t, 3, 0, changed(t, 0, 0x66, true)), api.ErrVersion},
		{"a header of 4 words", message(t, 3, 0, changed(t, 0, 0x44, true)), api.ErrForm},
		{"half of a header", message(t, 3, 0, right[:23]), api.ErrShort},
		{"a wrong sum of the header", message(t, 3, 0, changed(t, 8, 63, false)), api.ErrSum},
		{"a fragment", message(t, 3, 0, changed(t, 7, 1, true)), api.ErrFragment},
		{"the spare bit", message(t, 3, 0, changed(t, 6, 0x80, true)), api.ErrForm},
		{"7 bytes of Data", message(t, 3, 0, right[:31]), api.ErrShort},
		{"7 bytes of Data of another protocol", message(t, 3, 0, changed(t, 9, 99, true)[:31]), api.ErrShort},
		{"8 bytes of Data of another protocol", message(t, 3, 0, changed(t, 9, 99, true)[:32]), api.ErrKind},
		{"8 bytes of Data of no protocol", message(t, 3, 0, changed(t, 9, 0, true)[:32]), api.ErrKind},
		{"a message asked for, with a Code", quoting(t, 1, []byte{8, 1, 0, 0, 0, 0, 0, 0}), api.ErrKind},
		{"an echo with a Code", quoting(t, 1, []byte{0, 255, 0, 0, 0, 0, 0, 0}), api.ErrKind},
		{"an error of an error", quoting(t, 1, message(t, 3, 0, right).Data), api.ErrKind},
		{"no beginning of a frame", quoting(t, 47, []byte{0x20, 0, 0x88, 0x0b, 0, 0, 0, 7}), api.ErrForm},
		{"no beginning of a frame, and more", quoting(t, 47, append([]byte{0x30, 0x81, 0x88, 0x0a, 0, 0, 0, 7}, right...)), api.ErrForm},
	} {
		if got, e := tuple.Quoted(c.p); e != c.want || got != (api.Tuple{}) {
			t.Errorf("%s: %+v, %d, not %d", c.name, got, e, c.want)
		}
	}
}

func TestP5_2QuotedOtherProtocols(t *testing.T) {
	for proto := range 256 {
		if slices.Contains([]int{1, 6, 17, 47}, proto) {
			continue
		}
		for name, s := range samples() {
			if got, e := tuple.Quoted(quoting(t, byte(proto), s.bytes)); e != api.ErrKind || got != (api.Tuple{}) {
				t.Errorf("%s as protocol %d: %+v, %d", name, proto, got, e)
			}
		}
	}
}

// Of all Types and Codes, none but the two echoes have a tuple where they are quoted.
func TestP5_2QuotedMessages(t *testing.T) {
	for kind := range 256 {
		for _, code := range []byte{0, 1, 8, 128, 255} {
			want, wantError := api.Tuple{}, api.ErrKind
			if (kind == 8 || kind == 0) && code == 0 {
				want, wantError = api.Tuple{Proto: 1, Src: from, Dst: to, SrcPort: 0x1234, DstPort: 0x1234}, api.OK
			}
			p := quoting(t, 1, []byte{byte(kind), code, 0, 0, 0x12, 0x34, 0x56, 0x78})
			if got, e := tuple.Quoted(p); e != wantError || got != want {
				t.Errorf("Type %d, Code %d: %+v, %d", kind, code, got, e)
			}
		}
	}
}

// Of all beginnings by one byte beside a right one, none but the four is taken, whatever length they tell.
func TestP5_2QuotedFrames(t *testing.T) {
	for _, right := range [][]byte{{0x20, 1, 0x88, 0x0b}, {0x30, 0x81, 0x88, 0x0b}} {
		for at := range 4 {
			for v := range 256 {
				for _, length := range []byte{0, 1, 255} {
					b := append(slices.Clone(right), 0, length, 0xc0, 0xde)
					b[at] = byte(v)
					known := (b[0] == 0x20 || b[0] == 0x30) && (b[1] == 1 || b[1] == 0x81) && b[2] == 0x88 && b[3] == 0x0b
					want, wantError := api.Tuple{}, api.ErrForm
					if known {
						want, wantError = api.Tuple{Proto: 47, Src: from, Dst: to, DstPort: 0xc0de}, api.OK
					}
					if got, e := tuple.Quoted(quoting(t, 47, b)); e != wantError || got != want {
						t.Errorf("% x: %+v, %d", b, got, e)
					}
				}
			}
		}
	}
}

// wantQuoted says P5.2 over again, step by step.
func wantQuoted(p api.Packet) (api.Tuple, api.Errno) {
	none := api.Tuple{}
	if p.Proto != 1 {
		return none, api.ErrKind
	}
	m, e := ctrl.ParseIcmp(p)
	if e != api.OK {
		return none, e
	}
	if m.Type != 3 && m.Type != 11 && m.Type != 12 {
		return none, api.ErrKind
	}
	q, e := ipv4.Quote(m.Data)
	if e != api.OK {
		return none, e
	}
	word := func(at int) uint16 { return uint16(q.Data[at])*256 + uint16(q.Data[at+1]) }
	want := api.Tuple{Proto: q.Proto, Src: q.Src, Dst: q.Dst}
	switch q.Proto {
	case 6, 17:
		want.SrcPort, want.DstPort = word(0), word(2)
	case 1:
		if q.Data[0] != 8 && q.Data[0] != 0 || q.Data[1] != 0 {
			return none, api.ErrKind
		}
		want.SrcPort, want.DstPort = word(4), word(4)
	case 47:
		if !slices.Contains([]uint16{0x2001, 0x3001, 0x2081, 0x3081}, word(0)) || word(2) != 0x880b {
			return none, api.ErrForm
		}
		want.DstPort = word(6)
	default:
		return none, api.ErrKind
	}
	return want, api.OK
}

func TestP1P2QuotedBytesOfAnyKind(t *testing.T) {
	r := chance()
	seen := map[api.Errno]int{}
	for range 40000 {
		p, _ := somePacket(t, r)
		if r.IntN(3) == 0 {
			p.Data[r.IntN(8)] ^= 1 << r.IntN(8)
		}
		if r.IntN(10) == 0 {
			p.Proto = someProto(r)
		}
		b := bytesOf(t, p)
		if r.IntN(4) == 0 {
			b[r.IntN(20)] ^= 1 << r.IntN(8)
		}
		if r.IntN(2) == 0 && int(b[0]&15)*4 <= len(b) {
			b = wire.Put16(b, 10, 0)
			b = wire.Put16(b, 10, wire.Sum(b[:int(b[0]&15)*4]))
		}
		if r.IntN(4) == 0 {
			b = b[:r.IntN(len(b)+1)]
		}
		q := message(t, []byte{3, 3, 11, 11, 12, 12, 8}[r.IntN(7)], byte(r.Uint32()), b)
		if r.IntN(20) == 0 {
			q.Data[r.IntN(len(q.Data))]++
		}
		if r.IntN(20) == 0 {
			q.Proto = someProto(r)
		}
		want, wantError := wantQuoted(q)
		got, e := tuple.Quoted(q)
		seen[e]++
		if e != wantError || got != want {
			t.Fatalf("%+v: %+v, %d, not %+v, %d", q, got, e, want, wantError)
		}
	}
	for _, e := range []api.Errno{api.OK, api.ErrKind, api.ErrShort, api.ErrForm, api.ErrSum, api.ErrVersion, api.ErrFragment} {
		if seen[e] < 100 {
			t.Errorf("error %d came up only %d times", e, seen[e])
		}
	}
}

// TestP5_5QuotedIsOf: of any part of a packet that is enough, an error tells the tuple that the packet has.
func TestP5_5QuotedIsOf(t *testing.T) {
	r := chance()
	for range 2000 {
		p, _ := somePacket(t, r)
		want, e := tuple.Of(p)
		if e != api.OK {
			t.Fatalf("%+v: %d", p, e)
		}
		b := bytesOf(t, p)
		for n := len(b) - len(p.Data) + 8; n <= len(b); n += 1 + r.IntN(5) {
			if got, e := tuple.Quoted(message(t, []byte{3, 11, 12}[r.IntN(3)], byte(r.Uint32()), b[:n])); e != api.OK || got != want {
				t.Fatalf("%d bytes of %+v: %+v, %d, not %+v", n, p, got, e, want)
			}
		}
	}
}
