package ipv4_test

import (
	"bytes"
	"reflect"
	"slices"
	"testing"

	"lychgate/api"
	"lychgate/ipv4"
	"lychgate/wire"
)

// chance is a row of numbers that is the same in every run.
type chance uint64

func (c *chance) next() uint32 {
	*c = *c*6364136223846793005 + 1442695040888963407
	return uint32(*c >> 33)
}

func (c *chance) bytes(n int) []byte {
	b := make([]byte, n)
	for i := range b {
		b[i] = byte(c.next())
	}
	return b
}

func (c *chance) packet() api.Packet {
	return api.Packet{
		Tos: byte(c.next()), Id: uint16(c.next()), Keep: c.next()%2 == 0, Ttl: byte(c.next()), Proto: byte(c.next()),
		Src: c.next() << 1, Dst: c.next() << 1,
		Options: c.bytes(int(c.next()%11) * 4), Data: c.bytes(int(c.next() % 40)),
	}
}

func sample() api.Packet {
	return api.Packet{
		Tos: 0x12, Id: 0x3456, Keep: true, Ttl: 64, Proto: api.Udp, Src: 0x0a000001, Dst: 0xc0a80203,
		Options: []byte{1, 2, 3, 4}, Data: []byte{9, 8, 7, 6, 5, 4, 3, 2, 1},
	}
}

// sampleBytes are written out by hand, so that Parse and Build aren't held against each other alone.
func sampleBytes() []byte {
	return []byte{
		0x46, 0x12, 0, 33, 0x34, 0x56, 0x40, 0, 64, 17, 0x34, 0xb2, 10, 0, 0, 1, 192, 168, 2, 3,
		1, 2, 3, 4, 9, 8, 7, 6, 5, 4, 3, 2, 1,
	}
}

// changed has other bytes in places; its check sum fits again if the header is all there.
func changed(b []byte, places map[int]byte) []byte {
	b = slices.Clone(b)
	for at, v := range places {
		b[at] = v
	}
	return summed(b)
}

func summed(b []byte) []byte {
	head := min(int(b[0]&15)*4, len(b))
	b = wire.Put16(b, 10, 0)
	return wire.Put16(b, 10, wire.Sum(b[:head]))
}

func built(t *testing.T, p api.Packet) []byte {
	t.Helper()
	b, e := ipv4.Build(p)
	if e != api.OK {
		t.Fatalf("Build of %+v: %d", p, e)
	}
	return b
}

func TestP2_1ParseRight(t *testing.T) {
	got, e := ipv4.Parse(sampleBytes())
	if e != api.OK || !reflect.DeepEqual(got, sample()) {
		t.Errorf("%+v, %d", got, e)
	}
	got, e = ipv4.Parse(append(sampleBytes(), 7, 7, 7))
	if e != api.OK || !reflect.DeepEqual(got, sample()) {
		t.Errorf("with bytes behind its length: %+v, %d", got, e)
	}
	least := []byte{0x45, 0, 0, 0x14, 0, 0, 0, 0, 0, 0, 0xba, 0xeb, 0, 0, 0, 0, 0, 0, 0, 0}
	got, e = ipv4.Parse(least)
	if e != api.OK || !ipv4.Same(got, api.Packet{}) {
		t.Errorf("the least: %+v, %d", got, e)
	}
	got, e = ipv4.Parse(append(least, 1, 2, 3))
	if e != api.OK || len(got.Data) != 0 {
		t.Errorf("the least, with bytes behind it: %+v, %d", got, e)
	}
}

func TestP2_1ParseWithTheMostOptions(t *testing.T) {
	p := sample()
	p.Options = bytes.Repeat([]byte{5}, 40)
	b := summed(slices.Concat(sampleBytes()[:20], p.Options, p.Data))
	b[0], b[3] = 0x4f, 69
	if got, e := ipv4.Parse(summed(b)); e != api.OK || !ipv4.Same(got, p) {
		t.Errorf("%+v, %d", got, e)
	}
}

func TestP2_1ParseWrong(t *testing.T) {
	right := sampleBytes()
	badSum := sampleBytes()
	badSum[11] ^= 1
	for _, c := range []struct {
		name string
		b    []byte
		want api.Errno
	}{
		{"nil", nil, api.ErrShort},
		{"empty", []byte{}, api.ErrShort},
		{"19 bytes", right[:19], api.ErrShort},
		{"19 bytes of another version", make([]byte, 19), api.ErrShort},
		{"version 0", make([]byte, 20), api.ErrVersion},
		{"version 5", changed(right, map[int]byte{0: 0x56}), api.ErrVersion},
		{"version 6 of few words", changed(right, map[int]byte{0: 0x60}), api.ErrVersion},
		{"4 words", changed(right, map[int]byte{0: 0x44}), api.ErrForm},
		{"0 words", changed(right, map[int]byte{0: 0x40}), api.ErrForm},
		{"4 words, and all shorter", changed(right, map[int]byte{0: 0x44, 3: 15}), api.ErrForm},
		{"a header longer than the bytes", right[:23], api.ErrShort},
		{"a header longer than the bytes and than all", changed(right[:20], map[int]byte{3: 20}), api.ErrShort},
		{"15 words of 33 bytes", changed(right, map[int]byte{0: 0x4f}), api.ErrShort},
		{"all less than the header", changed(right, map[int]byte{3: 23}), api.ErrForm},
		{"all is 0", changed(right, map[int]byte{3: 0}), api.ErrForm},
		{"all less than the header, a bad sum", func() []byte { b := sampleBytes(); b[3] = 23; return b }(), api.ErrForm},
		{"all more than there is", right[:32], api.ErrShort},
		{"all by one too much", changed(right, map[int]byte{3: 34}), api.ErrShort},
		{"all by 256 too much", changed(right, map[int]byte{2: 1}), api.ErrShort},
		{"all too much, a bad sum", badSum[:32], api.ErrShort},
		{"a bad sum", badSum, api.ErrSum},
		{"a bad sum of a fragment", func() []byte { b := sampleBytes(); b[6] = 0x20; return b }(), api.ErrSum},
		{"a bad sum with the spare bit", func() []byte { b := sampleBytes(); b[6] = 0x80; return b }(), api.ErrSum},
		{"a sum that the last byte of Options breaks", func() []byte { b := sampleBytes(); b[23]++; return b }(), api.ErrSum},
		{"more fragments", changed(right, map[int]byte{6: 0x20}), api.ErrFragment},
		{"more fragments, may not be cut", changed(right, map[int]byte{6: 0x60}), api.ErrFragment},
		{"a later fragment, lowest bit", changed(right, map[int]byte{6: 0, 7: 1}), api.ErrFragment},
		{"a later fragment, bit 8", changed(right, map[int]byte{6: 1}), api.ErrFragment},
		{"a later fragment, highest bit", changed(right, map[int]byte{6: 0x10}), api.ErrFragment},
		{"a fragment with the spare bit", changed(right, map[int]byte{6: 0xa0}), api.ErrFragment},
		{"the spare bit", changed(right, map[int]byte{6: 0x80}), api.ErrForm},
		{"the spare bit, may not be cut", changed(right, map[int]byte{6: 0xc0}), api.ErrForm},
	} {
		got, e := ipv4.Parse(c.b)
		if e != c.want || !reflect.DeepEqual(got, api.Packet{}) {
			t.Errorf("%s: %+v, %d, not %d", c.name, got, e, c.want)
		}
	}
}

// The sum is that of the header alone, and of all of it.
func TestP2_1ParseSumOfTheHeader(t *testing.T) {
	b := sampleBytes()
	for i := 24; i < len(b); i++ {
		b[i] ^= 0xff
	}
	if _, e := ipv4.Parse(b); e != api.OK {
		t.Errorf("other Data: %d", e)
	}
	for at := range 24 {
		for bit := range 8 {
			b := sampleBytes()
			b[at] ^= 1 << bit
			if _, e := ipv4.Parse(b); e == api.OK {
				t.Errorf("a change of bit %d of byte %d is taken", bit, at)
			}
		}
	}
}

// wantError says P2.1 and P2.3 over again, step by step.
func wantError(b []byte, quoted bool) api.Errno {
	if len(b) < 20 {
		return api.ErrShort
	}
	head, all := int(b[0]%16)*4, int(b[2])*256+int(b[3])
	have := min(all, len(b)) - head
	switch {
	case b[0]/16 != 4:
		return api.ErrVersion
	case head < 20:
		return api.ErrForm
	case head > len(b):
		return api.ErrShort
	case all < head:
		return api.ErrForm
	case all > len(b) && !quoted:
		return api.ErrShort
	case !wire.Good(b[:head]):
		return api.ErrSum
	case b[6]&0x20 != 0 || b[6]&0x1f != 0 || b[7] != 0:
		return api.ErrFragment
	case b[6]&0x80 != 0:
		return api.ErrForm
	case quoted && have < 8:
		return api.ErrShort
	}
	return api.OK
}

// TestP1P2BytesOfAnyKind spoils right packets at random: every answer, and every error's place in the row, is held against the promise.
func TestP1P2BytesOfAnyKind(t *testing.T) {
	var c chance
	seen := map[api.Errno]int{}
	for range 40000 {
		b := built(t, c.packet())
		for range c.next() % 4 {
			b[c.next()%min(12, uint32(len(b)))] ^= byte(1 << (c.next() % 8))
		}
		if c.next()%2 == 0 {
			b = summed(b)
		}
		if c.next()%3 == 0 {
			b = b[:c.next()%uint32(len(b)+1)]
		}
		checkErrors(t, b, seen)
	}
	for range 5000 {
		checkErrors(t, c.bytes(int(c.next()%80)), seen)
	}
	for _, e := range []api.Errno{api.OK, api.ErrShort, api.ErrVersion, api.ErrForm, api.ErrSum, api.ErrFragment} {
		if seen[e] < 50 {
			t.Errorf("error %d came up only %d times", e, seen[e])
		}
	}
}

func checkErrors(t *testing.T, b []byte, seen map[api.Errno]int) {
	t.Helper()
	was := slices.Clone(b)
	p, e := ipv4.Parse(b)
	q, f := ipv4.Quote(b)
	seen[e]++
	if e != wantError(b, false) || f != wantError(b, true) {
		t.Fatalf("% x: %d, %d, not %d, %d", b, e, f, wantError(b, false), wantError(b, true))
	}
	if e != api.OK && !reflect.DeepEqual(p, api.Packet{}) || f != api.OK && !reflect.DeepEqual(q, api.Packet{}) {
		t.Fatalf("% x: beside an error: %+v, %+v", b, p, q)
	}
	if e == api.OK && f == api.OK && !ipv4.Same(p, q) {
		t.Fatalf("% x: %+v, quoted %+v", b, p, q)
	}
	if !bytes.Equal(b, was) {
		t.Fatalf("% x became % x", was, b)
	}
}

func TestP2_2Build(t *testing.T) {
	if got := built(t, sample()); !bytes.Equal(got, sampleBytes()) {
		t.Errorf("% x, not % x", got, sampleBytes())
	}
	least := []byte{0x45, 0, 0, 0x14, 0, 0, 0, 0, 0, 0, 0xba, 0xeb, 0, 0, 0, 0, 0, 0, 0, 0}
	if got := built(t, api.Packet{}); !bytes.Equal(got, least) {
		t.Errorf("the least: % x", got)
	}
	if got := built(t, api.Packet{Options: []byte{}, Data: []byte{}}); !bytes.Equal(got, least) {
		t.Errorf("the least of empty lists: % x", got)
	}
	p := sample()
	p.Keep = false
	if got, want := built(t, p), changed(sampleBytes(), map[int]byte{6: 0}); !bytes.Equal(got, want) {
		t.Errorf("that may be cut: % x, not % x", got, want)
	}
}

func TestP2_2BuildAndRightAtTheEdges(t *testing.T) {
	for _, c := range []struct {
		options, data int
		want          api.Errno
	}{
		{0, 0, api.OK},
		{4, 0, api.OK},
		{40, 0, api.OK},
		{1, 0, api.ErrForm},
		{2, 0, api.ErrForm},
		{3, 0, api.ErrForm},
		{39, 0, api.ErrForm},
		{41, 0, api.ErrForm},
		{44, 0, api.ErrForm},
		{256, 0, api.ErrForm},
		{65536, 0, api.ErrForm},
		{0, 65515, api.OK},
		{0, 65516, api.ErrLong},
		{40, 65475, api.OK},
		{40, 65476, api.ErrLong},
		{0, 65536, api.ErrLong},
		{0, 131072, api.ErrLong},
		{1, 65536, api.ErrForm},
		{44, 65536, api.ErrForm},
	} {
		p := api.Packet{Ttl: 1, Options: make([]byte, c.options), Data: make([]byte, c.data)}
		b, e := ipv4.Build(p)
		if e != c.want || ipv4.Right(p) != (c.want == api.OK) {
			t.Errorf("%d bytes of Options, %d of Data: %d, %v, not %d", c.options, c.data, e, ipv4.Right(p), c.want)
		}
		if e == api.OK && len(b) != 20+c.options+c.data || e != api.OK && len(b) != 0 {
			t.Errorf("%d bytes of Options, %d of Data: %d bytes", c.options, c.data, len(b))
		}
	}
}

func TestP2_2Same(t *testing.T) {
	if !ipv4.Same(sample(), sample()) || !ipv4.Same(api.Packet{}, api.Packet{}) {
		t.Error("one is not itself")
	}
	if !ipv4.Same(api.Packet{Options: []byte{}, Data: []byte{}}, api.Packet{}) {
		t.Error("an empty list is not a nil one")
	}
	for name, change := range map[string]func(p *api.Packet){
		"Tos":            func(p *api.Packet) { p.Tos++ },
		"Id":             func(p *api.Packet) { p.Id++ },
		"Keep":           func(p *api.Packet) { p.Keep = false },
		"Ttl":            func(p *api.Packet) { p.Ttl++ },
		"Proto":          func(p *api.Packet) { p.Proto++ },
		"Src":            func(p *api.Packet) { p.Src++ },
		"Dst":            func(p *api.Packet) { p.Dst++ },
		"Options":        func(p *api.Packet) { p.Options[3]++ },
		"fewer Options":  func(p *api.Packet) { p.Options = p.Options[:3] },
		"Data":           func(p *api.Packet) { p.Data[0]++ },
		"more Data":      func(p *api.Packet) { p.Data = append(p.Data, 0) },
		"other division": func(p *api.Packet) { p.Options, p.Data = nil, append(p.Options, p.Data...) },
	} {
		other := sample()
		change(&other)
		if ipv4.Same(sample(), other) || ipv4.Same(other, sample()) {
			t.Errorf("another one has the same %s", name)
		}
	}
}

func TestP2_3Quote(t *testing.T) {
	b := sampleBytes()
	for n := range len(b) + 3 {
		cut := append(sampleBytes(), 7, 7)[:n]
		got, e := ipv4.Quote(cut)
		if n < 32 {
			if e != api.ErrShort || !reflect.DeepEqual(got, api.Packet{}) {
				t.Errorf("%d bytes: %+v, %d", n, got, e)
			}
			continue
		}
		want := sample()
		want.Data = want.Data[:min(n, 33)-24]
		if e != api.OK || !ipv4.Same(got, want) {
			t.Errorf("%d bytes: %+v, %d, not %+v", n, got, e, want)
		}
	}
	if got, e := ipv4.Quote(changed(b, map[int]byte{2: 0xff, 3: 0xff})); e != api.OK || !ipv4.Same(got, sample()) {
		t.Errorf("the greatest length: %+v, %d", got, e)
	}
}

func TestP2_3QuoteWrong(t *testing.T) {
	right := sampleBytes()
	badSum := sampleBytes()
	badSum[11] ^= 1
	for _, c := range []struct {
		name string
		b    []byte
		want api.Errno
	}{
		{"nil", nil, api.ErrShort},
		{"19 bytes", right[:19], api.ErrShort},
		{"another version", changed(right, map[int]byte{0: 0x66}), api.ErrVersion},
		{"4 words", changed(right, map[int]byte{0: 0x44}), api.ErrForm},
		{"a header longer than the bytes", right[:23], api.ErrShort},
		{"all less than the header", changed(right, map[int]byte{3: 23}), api.ErrForm},
		{"a length that leaves 7 bytes of Data, though more are there", changed(right, map[int]byte{3: 31}), api.ErrShort},
		{"a bad sum", badSum, api.ErrSum},
		{"a bad sum, and too few Data", badSum[:31], api.ErrSum},
		{"a fragment, and too few Data", changed(right[:31], map[int]byte{6: 0x20}), api.ErrFragment},
		{"the spare bit, and too few Data", changed(right[:31], map[int]byte{6: 0x80}), api.ErrForm},
	} {
		got, e := ipv4.Quote(c.b)
		if e != c.want || !reflect.DeepEqual(got, api.Packet{}) {
			t.Errorf("%s: %+v, %d, not %d", c.name, got, e, c.want)
		}
	}
}

func TestP2_4ParseOfBuild(t *testing.T) {
	var c chance
	for range 3000 {
		p := c.packet()
		got, e := ipv4.Parse(built(t, p))
		if e != api.OK || !ipv4.Same(got, p) {
			t.Fatalf("%+v became %+v, %d", p, got, e)
		}
	}
	p := sample()
	p.Data = c.bytes(api.MaxPacket - 24)
	if got, e := ipv4.Parse(built(t, p)); e != api.OK || !ipv4.Same(got, p) {
		t.Errorf("the longest: %d", e)
	}
}

func TestP2_5BuildOfParse(t *testing.T) {
	var c chance
	for range 3000 {
		b := append([]byte{0x45 + byte(c.next()%11)}, c.bytes(59+int(c.next()%40))...)
		b[2], b[3] = 0, byte(len(b))
		b[6], b[7] = byte(c.next()%2)*0x40, 0
		b = summed(b)
		p, e := ipv4.Parse(b)
		if e != api.OK {
			t.Fatalf("% x: %d", b, e)
		}
		if got := built(t, p); !bytes.Equal(got, b) {
			t.Fatalf("% x became % x", b, got)
		}
	}
}

func TestE3HeaderHasAGoodSum(t *testing.T) {
	var c chance
	for range 3000 {
		p := c.packet()
		b := built(t, p)
		if !wire.Good(b[:20+len(p.Options)]) {
			t.Fatalf("% x", b)
		}
		if b[10] == 0xff && b[11] == 0xff {
			t.Fatalf("% x: reckoned with 0 in its place a sum is never ffff", b)
		}
	}
}

func TestP1NilLists(t *testing.T) {
	for _, p := range []api.Packet{{}, {Options: []byte{}}, {Data: []byte{}}} {
		if !ipv4.Right(p) || len(built(t, p)) != 20 {
			t.Errorf("%+v", p)
		}
	}
}

// TestP3HandedInStaysAsItIs hands in lists with spare room, and writes over all of the answers.
func TestP3HandedInStaysAsItIs(t *testing.T) {
	room := append(sampleBytes(), 0xaa, 0xaa)
	was := slices.Clone(room)
	b := room[:33]
	for _, read := range []func([]byte) (api.Packet, api.Errno){ipv4.Parse, ipv4.Quote} {
		p, e := read(b)
		if e != api.OK {
			t.Fatal(e)
		}
		spoil(p.Options)
		if !bytes.Equal(p.Data, sample().Data) {
			t.Errorf("Data lie in Options: % x", p.Data)
		}
		spoil(p.Data)
	}
	if !bytes.Equal(room, was) {
		t.Errorf("% x became % x", was, room)
	}
}

func TestP3BuiltBytesAreTheCallers(t *testing.T) {
	options, data := append(sample().Options, 0xaa, 0xaa), append(sample().Data, 0xbb)
	p := sample()
	p.Options, p.Data = options[:4], data[:9]
	first := built(t, p)
	spoil(built(t, p))
	ipv4.Right(p)
	ipv4.Same(p, p)
	if !bytes.Equal(options, []byte{1, 2, 3, 4, 0xaa, 0xaa}) || !bytes.Equal(data, []byte{9, 8, 7, 6, 5, 4, 3, 2, 1, 0xbb}) {
		t.Errorf("% x, % x", options, data)
	}
	clear(options)
	clear(data)
	if !bytes.Equal(first, sampleBytes()) {
		t.Errorf("% x", first)
	}
}

func TestP3ReadPacketIsTheCallers(t *testing.T) {
	b := sampleBytes()
	p, _ := ipv4.Parse(b)
	q, _ := ipv4.Quote(b)
	clear(b)
	if !ipv4.Same(p, sample()) || !ipv4.Same(q, sample()) {
		t.Errorf("%+v, %+v", p, q)
	}
}

// spoil writes over the spare room too.
func spoil(b []byte) {
	b = b[:cap(b)]
	for i := range b {
		b[i] = 0xee
	}
}

func TestP6NothingIsKept(t *testing.T) {
	tell := func() []any {
		p, e := ipv4.Parse(sampleBytes())
		q, f := ipv4.Quote(sampleBytes()[:32])
		b, g := ipv4.Build(sample())
		return []any{p, e, q, f, b, g, ipv4.Right(sample()), ipv4.Same(p, q)}
	}
	first := tell()
	ipv4.Parse(sampleBytes()[:7])
	ipv4.Quote(make([]byte, 90))
	ipv4.Build(api.Packet{Options: []byte{1}})
	ipv4.Build(api.Packet{Tos: 1, Data: []byte{4}})
	if again := tell(); !reflect.DeepEqual(first, again) {
		t.Errorf("%v, then %v", first, again)
	}
}
