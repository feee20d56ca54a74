package segs_test

import (
	"bytes"
	"math/rand/v2"
	"reflect"
	"slices"
	"testing"

	"lychgate/api"
	"lychgate/ipv4"
	"lychgate/segs"
	"lychgate/wire"
)

func TestP3_1ParseTcp(t *testing.T) {
	got, e := segs.ParseTcp(outer(api.Tcp, sampleTcpBytes()))
	if e != api.OK || !reflect.DeepEqual(got, sampleTcp()) {
		t.Errorf("%+v, %d", got, e)
	}
	got, e = segs.ParseTcp(resummed(api.Packet{Proto: api.Tcp, Data: append(append(make([]byte, 12), 0x50), make([]byte, 7)...)}, 16))
	if e != api.OK || !segs.SameTcp(got, api.Segment{}) {
		t.Errorf("the least: %+v, %d", got, e)
	}
}

// All bits of the byte behind the words are flags.
func TestP3_1ParseTcpFlags(t *testing.T) {
	for flags := range 256 {
		p := outer(api.Tcp, sampleTcpBytes())
		p.Data[13] = byte(flags)
		if got, e := segs.ParseTcp(resummed(p, 16)); e != api.OK || got.Flags != byte(flags) {
			t.Errorf("%02x: %02x, %d", flags, got.Flags, e)
		}
	}
}

func TestP3_1ParseTcpOptions(t *testing.T) {
	full := bytes.Repeat([]byte{7}, 38)
	for _, c := range []struct {
		name    string
		options []byte
		want    []api.Option
	}{
		{"none", nil, nil},
		{"only ends", []byte{0, 0, 0, 0}, nil},
		{"ends of two words", make([]byte, 8), nil},
		{"ends of ten words", make([]byte, 40), nil},
		{"fillers", []byte{1, 1, 1, 1}, []api.Option{{Kind: 1}, {Kind: 1}, {Kind: 1}, {Kind: 1}}},
		{"a filler, then the end", []byte{1, 0, 0, 0}, []api.Option{{Kind: 1}}},
		{"a length of 2", []byte{4, 2, 4, 2}, []api.Option{{Kind: 4}, {Kind: 4}}},
		{"up to the header's end", []byte{9, 4, 8, 7}, []api.Option{{Kind: 9, Data: []byte{8, 7}}}},
		{"the greatest", append([]byte{255, 40}, full...), []api.Option{{Kind: 255, Data: full}}},
		{"kinds inside of data", []byte{9, 4, 0, 1}, []api.Option{{Kind: 9, Data: []byte{0, 1}}}},
		{"the document's", []byte{1, 1, 5, 10, 1, 2, 3, 4, 5, 6, 7, 8},
			[]api.Option{{Kind: 1}, {Kind: 1}, {Kind: 5, Data: []byte{1, 2, 3, 4, 5, 6, 7, 8}}}},
	} {
		want := sampleTcp()
		want.Options, want.Data = c.want, []byte{3, 3, 3}
		got, e := segs.ParseTcp(tcpPacket(c.options, want.Data))
		if e != api.OK || !segs.SameTcp(got, want) {
			t.Errorf("%s: %+v, %d", c.name, got, e)
		}
	}
}

func TestP3_1ParseTcpWrongOptions(t *testing.T) {
	for name, options := range map[string][]byte{
		"a length of 0":                        {2, 0, 0, 0},
		"a length of 1":                        {2, 1, 1, 1},
		"a length by one too much":             {2, 5, 0, 0},
		"a length by far too much":             {2, 255, 0, 0},
		"a later length too much":              {1, 1, 3, 3},
		"no length, its kind is the last byte": {1, 1, 1, 4},
		"a byte behind the end":                {0, 0, 0, 1},
		"an option behind the end":             {0, 2, 2, 0},
		"a filler behind the end":              {0, 1, 0, 0},
		"a byte behind the end, a word later":  {1, 1, 1, 0, 0, 0, 0, 1},
		"a right one, then a length of 0":      {2, 4, 5, 180, 9, 0, 0, 0},
		"a right one, then a length of 1":      {2, 4, 5, 180, 9, 1, 0, 0},
	} {
		got, e := segs.ParseTcp(tcpPacket(options, []byte{2, 2, 0, 0, 0, 0}))
		if e != api.ErrForm || !reflect.DeepEqual(got, api.Segment{}) {
			t.Errorf("%s: %+v, %d", name, got, e)
		}
	}
}

func TestP3_1P2ParseTcpWrong(t *testing.T) {
	right := outer(api.Tcp, sampleTcpBytes())
	with := func(at int, v byte) api.Packet {
		p := right
		p.Data = slices.Clone(p.Data)
		p.Data[at] = v
		return p
	}
	cut := func(p api.Packet, n int) api.Packet {
		p.Data = p.Data[:n]
		return p
	}
	for _, c := range []struct {
		name string
		p    api.Packet
		want api.Errno
	}{
		{"another kind", outer(api.Udp, sampleTcpBytes()), api.ErrKind},
		{"no kind", outer(0, sampleTcpBytes()), api.ErrKind},
		{"another kind, and nothing there", outer(api.Icmp, nil), api.ErrKind},
		{"nil", outer(api.Tcp, nil), api.ErrShort},
		{"empty", outer(api.Tcp, []byte{}), api.ErrShort},
		{"19 bytes", resummed(cut(right, 19), 16), api.ErrShort},
		{"19 bytes of 0 words", cut(with(12, 0), 19), api.ErrShort},
		{"0 words", resummed(with(12, 0x00), 16), api.ErrForm},
		{"4 words", resummed(with(12, 0x40), 16), api.ErrForm},
		{"4 words, a bad sum", with(12, 0x40), api.ErrForm},
		{"the lowest of the four bits", resummed(with(12, 0xa1), 16), api.ErrForm},
		{"the highest of the four bits", resummed(with(12, 0xa8), 16), api.ErrForm},
		{"one of the four bits, a bad sum", with(12, 0xa2), api.ErrForm},
		{"one of the four bits, and too many words", with(12, 0xf4), api.ErrForm},
		{"more words than there are", resummed(with(12, 0xc0), 16), api.ErrShort},
		{"the most words", resummed(with(12, 0xf0), 16), api.ErrShort},
		{"more words than there are, a bad sum", with(12, 0xf0), api.ErrShort},
		{"by one byte too few", resummed(cut(right, 39), 16), api.ErrShort},
		{"a bad sum", with(17, 0x04), api.ErrSum},
		{"a sum of 0", func() api.Packet { p := with(16, 0); p.Data[17] = 0; return p }(), api.ErrSum},
		{"a bad sum, and a wrong option", with(21, 0), api.ErrSum},
		{"a wrong option", resummed(with(21, 0), 16), api.ErrForm},
		{"a byte less", cut(right, 44), api.ErrSum},
	} {
		got, e := segs.ParseTcp(c.p)
		if e != c.want || !reflect.DeepEqual(got, api.Segment{}) {
			t.Errorf("%s: %+v, %d, not %d", c.name, got, e, c.want)
		}
	}
}

// The sum is of both addresses, the protocol and the length too.
func TestP3_1ParseTcpSumOfThePacket(t *testing.T) {
	for name, change := range map[string]func(p *api.Packet){
		"Src":    func(p *api.Packet) { p.Src++ },
		"Dst":    func(p *api.Packet) { p.Dst ^= 0x80000000 },
		"length": func(p *api.Packet) { p.Data = append(p.Data, 0) },
	} {
		p := outer(api.Tcp, sampleTcpBytes())
		change(&p)
		if _, e := segs.ParseTcp(p); e != api.ErrSum {
			t.Errorf("another %s: %d", name, e)
		}
	}
	p := outer(api.Tcp, sampleTcpBytes())
	p.Tos, p.Id, p.Keep, p.Ttl, p.Options = 1, 2, false, 3, nil
	if got, e := segs.ParseTcp(p); e != api.OK || !segs.SameTcp(got, sampleTcp()) {
		t.Errorf("of what else the packet has: %+v, %d", got, e)
	}
}

// wantTcp says P3.1 over again, step by step.
func wantTcp(p api.Packet) api.Errno {
	b := p.Data
	if p.Proto != 6 {
		return api.ErrKind
	}
	if len(b) < 20 {
		return api.ErrShort
	}
	words := int(b[12] / 16)
	switch {
	case words < 5 || b[12]%16 != 0:
		return api.ErrForm
	case words*4 > len(b):
		return api.ErrShort
	case !wire.Good(covered(p, b)):
		return api.ErrSum
	case !wantOptions(b[20 : words*4]):
		return api.ErrForm
	}
	return api.OK
}

func wantOptions(b []byte) bool {
	switch {
	case len(b) == 0:
		return true
	case b[0] == 0:
		return len(bytes.Trim(b, "\x00")) == 0
	case b[0] == 1:
		return wantOptions(b[1:])
	}
	return len(b) > 1 && b[1] > 1 && int(b[1]) <= len(b) && wantOptions(b[b[1]:])
}

// TestP1P2TcpBytesOfAnyKind spoils right packets at random: every error's place in the row is held against the promise.
func TestP1P2TcpBytesOfAnyKind(t *testing.T) {
	r := chance()
	seen := map[api.Errno]int{}
	for range 60000 {
		p := builtTcp(t, somePacket(r), someSegment(r))
		p.Data = spoiled(r, p.Data, 60)
		if r.IntN(2) == 0 {
			p = resummed(p, 16)
		}
		if r.IntN(20) == 0 {
			p.Proto = byte(r.IntN(18))
		}
		checkTcp(t, p, seen)
	}
	for range 5000 {
		checkTcp(t, api.Packet{Proto: 6, Src: r.Uint32(), Dst: r.Uint32(), Data: someBytes(r, r.IntN(70))}, seen)
	}
	for _, e := range []api.Errno{api.OK, api.ErrKind, api.ErrShort, api.ErrForm, api.ErrSum} {
		if seen[e] < 500 {
			t.Errorf("error %d came up only %d times", e, seen[e])
		}
	}
}

func spoiled(r *rand.Rand, b []byte, upTo int) []byte {
	for range r.IntN(4) {
		b[r.IntN(min(len(b), upTo))] ^= 1 << r.IntN(8)
	}
	if r.IntN(5) == 0 {
		b = b[:r.IntN(len(b)+1)]
	}
	return b
}

func checkTcp(t *testing.T, p api.Packet, seen map[api.Errno]int) {
	t.Helper()
	was := slices.Clone(p.Data)
	got, e := segs.ParseTcp(p)
	seen[e]++
	if e != wantTcp(p) {
		t.Fatalf("%+v: %d, not %d", p, e, wantTcp(p))
	}
	if e != api.OK && !reflect.DeepEqual(got, api.Segment{}) {
		t.Fatalf("%+v: beside error %d: %+v", p, e, got)
	}
	if !bytes.Equal(p.Data, was) {
		t.Fatalf("% x became % x", was, p.Data)
	}
	if e != api.OK {
		return
	}
	if again, f := segs.ParseTcp(builtTcp(t, api.Packet{}, got)); f != api.OK || !segs.SameTcp(again, got) {
		t.Fatalf("%+v became %+v, %d", got, again, f)
	}
}

func TestP3_1BuildTcp(t *testing.T) {
	want := outer(api.Tcp, sampleTcpBytes())
	if got := builtTcp(t, outer(api.Gre, []byte("other data")), sampleTcp()); !reflect.DeepEqual(got, want) {
		t.Errorf("%+v, not %+v", got, want)
	}
	least := []byte{0, 0, 0, 0, 0, 0, 0, 0, 0, 0, 0, 0, 0x50, 0, 0, 0, 0xaf, 0xe5, 0, 0}
	if got := builtTcp(t, api.Packet{}, api.Segment{}); !ipv4.Same(got, api.Packet{Proto: 6, Data: least}) {
		t.Errorf("the least: %+v", got)
	}
	if got := builtTcp(t, api.Packet{Data: make([]byte, 70000)}, api.Segment{}); !bytes.Equal(got.Data, least) {
		t.Errorf("in a packet of which the Data are too long: %+v", got)
	}
}

func TestP3_1BuildTcpOptions(t *testing.T) {
	eight := []byte{1, 2, 3, 4, 5, 6, 7, 8}
	full := bytes.Repeat([]byte{7}, 38)
	for _, c := range []struct {
		name    string
		options []api.Option
		want    []byte
	}{
		{"the document's", []api.Option{{Kind: 1}, {Kind: 1}, {Kind: 5, Data: eight}}, append([]byte{1, 1, 5, 10}, eight...)},
		{"one byte, then up to the word", []api.Option{{Kind: 1}}, []byte{1, 0, 0, 0}},
		{"a filler with an empty list", []api.Option{{Kind: 1, Data: []byte{}}}, []byte{1, 0, 0, 0}},
		{"two bytes", []api.Option{{Kind: 4}}, []byte{4, 2, 0, 0}},
		{"three bytes", []api.Option{{Kind: 3, Data: []byte{7}}}, []byte{3, 3, 7, 0}},
		{"five bytes", []api.Option{{Kind: 2, Data: []byte{5, 180}}, {Kind: 1}}, []byte{2, 4, 5, 180, 1, 0, 0, 0}},
		{"40 bytes of one", []api.Option{{Kind: 255, Data: full}}, append([]byte{255, 40}, full...)},
		{"40 bytes of forty", slices.Repeat([]api.Option{{Kind: 1}}, 40), bytes.Repeat([]byte{1}, 40)},
		{"40 bytes of twenty", slices.Repeat([]api.Option{{Kind: 4}}, 20), bytes.Repeat([]byte{4, 2}, 20)},
	} {
		got := builtTcp(t, outer(0, nil), api.Segment{Options: c.options, Data: []byte{9}}).Data
		words := byte(5+len(c.want)/4) << 4
		if got[12] != words || !bytes.Equal(got[20:], append(c.want, 9)) {
			t.Errorf("%s: % x", c.name, got)
		}
	}
}

func TestP3_1BuildTcpWrong(t *testing.T) {
	data := func(n int) []byte { return make([]byte, n) }
	for _, c := range []struct {
		name    string
		options []api.Option
		outer   int // bytes of the packet's Options
		data    int
		want    api.Errno
	}{
		{"Kind 0", []api.Option{{}}, 0, 0, api.ErrForm},
		{"Kind 0 with Data", []api.Option{{Data: data(2)}}, 0, 0, api.ErrForm},
		{"Kind 0 behind a right one", []api.Option{{Kind: 4}, {Kind: 0}}, 0, 0, api.ErrForm},
		{"Kind 1 with Data", []api.Option{{Kind: 1, Data: data(1)}}, 0, 0, api.ErrForm},
		{"41 bytes of one", []api.Option{{Kind: 2, Data: data(39)}}, 0, 0, api.ErrForm},
		{"41 bytes, the last a filler", []api.Option{{Kind: 2, Data: data(38)}, {Kind: 1}}, 0, 0, api.ErrForm},
		{"42 bytes", slices.Repeat([]api.Option{{Kind: 4}}, 21), 0, 0, api.ErrForm},
		{"a length of 256", []api.Option{{Kind: 2, Data: data(254)}}, 0, 0, api.ErrForm},
		{"a length of 260", []api.Option{{Kind: 2, Data: data(258)}}, 0, 0, api.ErrForm},
		{"bytes beyond 2^16", []api.Option{{Kind: 2, Data: data(65536 + 2)}}, 0, 0, api.ErrForm},
		{"wrong ones, and too long", []api.Option{{}}, 0, 65536, api.ErrForm},
		{"wrong ones, and the packet's too", []api.Option{{}}, 3, 0, api.ErrForm},
		{"the packet's: 1 byte", nil, 1, 0, api.ErrForm},
		{"the packet's: 41 bytes", nil, 41, 0, api.ErrForm},
		{"the packet's: 44 bytes", nil, 44, 0, api.ErrForm},
		{"the packet's, and too long", nil, 2, 65536, api.ErrForm},
		{"the longest", nil, 0, 65535 - 40, api.OK},
		{"by one too long", nil, 0, 65535 - 39, api.ErrLong},
		{"the longest with the packet's", nil, 40, 65535 - 80, api.OK},
		{"by one too long with the packet's", nil, 40, 65535 - 79, api.ErrLong},
		{"the longest with its own", []api.Option{{Kind: 1}}, 4, 65535 - 48, api.OK},
		{"by one too long with its own", []api.Option{{Kind: 1}}, 4, 65535 - 47, api.ErrLong},
		{"beyond 2^16", nil, 0, 65536, api.ErrLong},
		{"beyond 2^17", nil, 0, 131072, api.ErrLong},
	} {
		p := api.Packet{Ttl: 3, Options: data(c.outer), Data: data(70000)}
		got, e := segs.BuildTcp(p, api.Segment{Options: c.options, Data: data(c.data)})
		if e != c.want || e != api.OK && !reflect.DeepEqual(got, api.Packet{}) {
			t.Errorf("%s: %d, not %d (%d bytes)", c.name, e, c.want, len(got.Data))
		}
		if e == api.OK && !ipv4.Right(got) {
			t.Errorf("%s: what is built is not right", c.name)
		}
	}
}

// A sum that comes to 0 stays so in a segment.
func TestP3_1BuildTcpSumOfNought(t *testing.T) {
	s := sampleTcp()
	b := builtTcp(t, outer(0, nil), s).Data
	s.Urgent = sumOfBoth(s.Urgent, wire.Get16(b, 16))
	got := builtTcp(t, outer(0, nil), s)
	if wire.Get16(got.Data, 16) != 0 {
		t.Fatalf("% x", got.Data)
	}
	if back, e := segs.ParseTcp(got); e != api.OK || !segs.SameTcp(back, s) {
		t.Errorf("%+v, %d", back, e)
	}
}

// sumOfBoth adds as check sums do: with the sum's own value added to a word, the rest comes to 0.
func sumOfBoth(a, b uint16) uint16 {
	n := uint32(a) + uint32(b)
	return uint16(n>>16 + n&0xffff)
}

func TestP3_3SameTcp(t *testing.T) {
	if !segs.SameTcp(sampleTcp(), sampleTcp()) || !segs.SameTcp(api.Segment{}, api.Segment{}) {
		t.Error("one is not itself")
	}
	empty := api.Segment{Options: []api.Option{}, Data: []byte{}}
	if !segs.SameTcp(empty, api.Segment{}) {
		t.Error("an empty list is not a nil one")
	}
	if !segs.SameTcp(api.Segment{Options: []api.Option{{Kind: 4}}}, api.Segment{Options: []api.Option{{Kind: 4, Data: []byte{}}}}) {
		t.Error("an option's empty list is not a nil one")
	}
	for name, change := range map[string]func(s *api.Segment){
		"Src":             func(s *api.Segment) { s.Src++ },
		"Dst":             func(s *api.Segment) { s.Dst++ },
		"both ports":      func(s *api.Segment) { s.Src, s.Dst = s.Dst, s.Src },
		"Seq":             func(s *api.Segment) { s.Seq++ },
		"Ack":             func(s *api.Segment) { s.Ack++ },
		"Flags":           func(s *api.Segment) { s.Flags ^= 0x80 },
		"Window":          func(s *api.Segment) { s.Window++ },
		"Urgent":          func(s *api.Segment) { s.Urgent++ },
		"option's Kind":   func(s *api.Segment) { s.Options[0].Kind++ },
		"option's Data":   func(s *api.Segment) { s.Options[3].Data[7]++ },
		"option's length": func(s *api.Segment) { s.Options[4].Data = nil },
		"fewer options":   func(s *api.Segment) { s.Options = s.Options[:4] },
		"more options":    func(s *api.Segment) { s.Options = append(s.Options, api.Option{Kind: 1}) },
		"order":           func(s *api.Segment) { s.Options[0], s.Options[1] = s.Options[1], s.Options[0] },
		"Data":            func(s *api.Segment) { s.Data[4]++ },
		"more Data":       func(s *api.Segment) { s.Data = append(s.Data, 0) },
		"no Data":         func(s *api.Segment) { s.Data = nil },
	} {
		other := sampleTcp()
		change(&other)
		if segs.SameTcp(sampleTcp(), other) || segs.SameTcp(other, sampleTcp()) {
			t.Errorf("another one has the same %s", name)
		}
	}
}

func TestP3_4TcpParseOfBuild(t *testing.T) {
	r := chance()
	for range 5000 {
		s := someSegment(r)
		got, e := segs.ParseTcp(builtTcp(t, somePacket(r), s))
		if e != api.OK || !segs.SameTcp(got, s) {
			t.Fatalf("%+v became %+v, %d", s, got, e)
		}
	}
	s := sampleTcp()
	s.Data = someBytes(r, api.MaxPacket-20-40)
	if got, e := segs.ParseTcp(builtTcp(t, api.Packet{}, s)); e != api.OK || !segs.SameTcp(got, s) {
		t.Errorf("the longest: %d", e)
	}
}

func TestP3_5TcpChangedBit(t *testing.T) {
	r := chance()
	for range 200 {
		s := someSegment(r)
		s.Data = append(s.Data, someBytes(r, 1+r.IntN(6))...)
		p := builtTcp(t, somePacket(r), s)
		for at := len(p.Data) - len(s.Data); at < len(p.Data); at++ {
			checkBits(t, p, at, func(p api.Packet) api.Errno { _, e := segs.ParseTcp(p); return e })
		}
	}
}

// checkBits turns each bit of a byte, one by one.
func checkBits(t *testing.T, p api.Packet, at int, read func(api.Packet) api.Errno) {
	t.Helper()
	for bit := range 8 {
		p.Data[at] ^= 1 << bit
		if e := read(p); e != api.ErrSum {
			t.Fatalf("bit %d of byte %d of % x: %d", bit, at, p.Data, e)
		}
		p.Data[at] ^= 1 << bit
	}
}

func TestE3SegmentsHaveAGoodSum(t *testing.T) {
	r := chance()
	for range 5000 {
		p := builtTcp(t, somePacket(r), someSegment(r))
		if p.Proto != api.Tcp || !wire.Good(covered(p, p.Data)) {
			t.Fatalf("%+v", p)
		}
		if wire.Get16(p.Data, 16) == 0xffff {
			t.Fatalf("%+v: reckoned with 0 in its place a sum is never ffff", p)
		}
	}
}
