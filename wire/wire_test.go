package wire_test

import (
	"bytes"
	"math"
	"slices"
	"testing"

	"lychgate/wire"
)

// chance is a row of numbers that is the same in every run.
type chance uint64

func (c *chance) next() uint32 {
	*c = *c*6364136223846793005 + 1442695040888963407
	return uint32(*c >> 33)
}

func (c *chance) bytes(n int) []byte {
	b := make([]byte, n)
	for i := range b {
		b[i] = byte(c.next())
	}
	return b
}

// plainSum adds with the carry at once, unlike the program, so that both would have to be wrong alike.
func plainSum(b []byte) uint16 {
	var sum uint32
	for i := range b {
		if i%2 == 0 {
			sum += uint32(b[i]) << 8
		} else {
			sum += uint32(b[i])
		}
		if sum > 0xffff {
			sum -= 0xffff
		}
	}
	return uint16(0xffff - sum)
}

func TestP1_1Sum(t *testing.T) {
	for _, c := range []struct {
		name string
		b    []byte
		want uint16
	}{
		{"the document's example", []byte{0x00, 0x01, 0xf2, 0x03, 0xf4, 0xf5, 0xf6, 0xf7}, 0x220d},
		{"nil", nil, 0xffff},
		{"empty", []byte{}, 0xffff},
		{"one byte is the higher one", []byte{0x12}, 0xedff},
		{"an odd last byte", []byte{0x00, 0x01, 0x02}, 0xfdfe},
		{"one word", []byte{0x12, 0x34}, 0xedcb},
		{"noughts", []byte{0, 0, 0, 0}, 0xffff},
		{"all bits", []byte{0xff, 0xff}, 0},
		{"all bits twice", []byte{0xff, 0xff, 0xff, 0xff}, 0},
		{"what is above 16 bits is added", []byte{0xff, 0xff, 0x00, 0x01}, 0xfffe},
		{"and added again", []byte{0xff, 0xff, 0xff, 0xff, 0x00, 0x01, 0xff, 0xff, 0x00, 0x01}, 0xfffd},
	} {
		if got := wire.Sum(c.b); got != c.want {
			t.Errorf("%s: %04x, not %04x", c.name, got, c.want)
		}
	}
}

func TestP1_1SumOfMany(t *testing.T) {
	var c chance
	for n := range 300 {
		b := c.bytes(n)
		if got, want := wire.Sum(b), plainSum(b); got != want {
			t.Fatalf("of %d bytes: %04x, not %04x", n, got, want)
		}
	}
}

// The words of these come to more than 32 bits.
func TestP5SumDoesNotGoRound(t *testing.T) {
	b := bytes.Repeat([]byte{0xff}, 1<<20)
	if got := wire.Sum(b); got != 0 {
		t.Errorf("all bits: %04x", got)
	}
	b = append(b, 0, 1)
	if got := wire.Sum(b); got != 0xfffe {
		t.Errorf("and 1: %04x", got)
	}
}

func TestP1_1Good(t *testing.T) {
	for _, c := range []struct {
		b    []byte
		want bool
	}{
		{nil, false},
		{[]byte{0, 0}, false},
		{[]byte{0xff, 0xff}, true},
		{[]byte{0xff}, false},
		{[]byte{0xff, 0xfe, 0x00}, false},
		{[]byte{0xff, 0xff, 0x00}, true},
		{[]byte{0x12, 0x34, 0xed, 0xcb}, true},
		{[]byte{0x12, 0x34, 0xed, 0xcc}, false},
		{[]byte{0x12, 0x34, 0x00, 0xed, 0xcb}, false},
	} {
		if got := wire.Good(c.b); got != c.want {
			t.Errorf("% x: %v", c.b, got)
		}
	}
}

func TestP1_1Patch(t *testing.T) {
	for _, c := range []struct{ sum, was, is, want uint16 }{
		{0xdd2f, 0x5555, 0x3285, 0x0000},
		{0x1234, 0x0007, 0x0007, 0x1234},
		{0x1234, 0x0007, 0x0008, 0x1233},
		{0x1234, 0x0008, 0x0007, 0x1235},
		{0x0000, 0x0000, 0x0001, 0xfffe},
		{0xffff, 0xffff, 0x0000, 0xffff},
		{0xffff, 0x0000, 0x0000, 0x0000},
		{0x0000, 0x0000, 0xffff, 0x0000},
	} {
		if got := wire.Patch(c.sum, c.was, c.is); got != c.want {
			t.Errorf("Patch(%04x, %04x, %04x): %04x, not %04x", c.sum, c.was, c.is, got, c.want)
		}
	}
}

func TestP1_2Get(t *testing.T) {
	b := []byte{0xa1, 0xb2, 0xc3, 0xd4, 0xe5}
	for at, want := range map[int]uint16{
		0: 0xa1b2, 1: 0xb2c3, 3: 0xd4e5, 4: 0, 5: 0, 6: 0, -1: 0, -2: 0,
		math.MaxInt: 0, math.MaxInt - 1: 0, math.MinInt: 0,
	} {
		if got := wire.Get16(b, at); got != want {
			t.Errorf("Get16 at %d: %04x, not %04x", at, got, want)
		}
	}
	for at, want := range map[int]uint32{
		0: 0xa1b2c3d4, 1: 0xb2c3d4e5, 2: 0, 3: 0, 5: 0, -1: 0, -4: 0,
		math.MaxInt: 0, math.MaxInt - 3: 0, math.MinInt: 0,
	} {
		if got := wire.Get32(b, at); got != want {
			t.Errorf("Get32 at %d: %08x, not %08x", at, got, want)
		}
	}
}

func TestP1_2GetSeesNothingBehindTheEnd(t *testing.T) {
	b := []byte{1, 2, 3, 4, 5, 6}[:3]
	if got := wire.Get16(b, 2); got != 0 {
		t.Errorf("Get16: %04x", got)
	}
	if got := wire.Get32(b, 0); got != 0 {
		t.Errorf("Get32: %08x", got)
	}
}

func TestP1_2Put16(t *testing.T) {
	b := []byte{1, 2, 3, 4, 5}
	for at, want := range map[int][]byte{
		0: {0xab, 0xcd, 3, 4, 5}, 1: {1, 0xab, 0xcd, 4, 5}, 3: {1, 2, 3, 0xab, 0xcd},
		4: b, 5: b, -1: b, math.MaxInt: b, math.MaxInt - 1: b, math.MinInt: b,
	} {
		if got := wire.Put16(b, at, 0xabcd); !bytes.Equal(got, want) {
			t.Errorf("at %d: % x, not % x", at, got, want)
		}
	}
}

func TestP1_2Put32(t *testing.T) {
	b := []byte{1, 2, 3, 4, 5}
	for at, want := range map[int][]byte{
		0: {0xab, 0xcd, 0xef, 0x98, 5}, 1: {1, 0xab, 0xcd, 0xef, 0x98},
		2: b, 5: b, -1: b, math.MaxInt: b, math.MaxInt - 3: b, math.MinInt: b,
	} {
		if got := wire.Put32(b, at, 0xabcdef98); !bytes.Equal(got, want) {
			t.Errorf("at %d: % x, not % x", at, got, want)
		}
	}
}

func TestP1_2Pseudo(t *testing.T) {
	head := []byte{10, 0, 0, 1, 0xc0, 0xa8, 0xfe, 0xff, 0, 17}
	for n, want := range map[int][]byte{
		0: {0, 0}, 8: {0, 8}, 0x1234: {0x12, 0x34}, 65535: {0xff, 0xff}, 65536: {0, 0}, 65537: {0, 1},
		-1: {0xff, 0xff}, -65537: {0xff, 0xff}, math.MaxInt: {0xff, 0xff}, math.MinInt: {0, 0},
	} {
		want = slices.Concat(head, want)
		if got := wire.Pseudo(0x0a000001, 0xc0a8feff, 17, n); !bytes.Equal(got, want) {
			t.Errorf("of %d: % x, not % x", n, got, want)
		}
	}
}

func TestP1_2Ahead(t *testing.T) {
	for _, c := range []struct {
		a, b uint32
		want int
	}{
		{0, 0, 0},
		{5, 3, 2},
		{3, 5, -2},
		{1, 0xffffffff, 2},
		{0xffffffff, 1, -2},
		{0xffffffff, 0, -1},
		{1<<31 - 1, 0, 1<<31 - 1},
		{1 << 31, 0, -1 << 31},
		{0, 1 << 31, -1 << 31},
		{7, 1<<31 + 8, 1<<31 - 1},
	} {
		if got := wire.Ahead(c.a, c.b); got != c.want {
			t.Errorf("Ahead(%d, %d): %d, not %d", c.a, c.b, got, c.want)
		}
	}
}

func TestP1_3GoodWithTheirSum(t *testing.T) {
	var c chance
	for n := 2; n < 200; n += 2 {
		b := c.bytes(n)
		for at := 0; at < n; at += 2 {
			cleared := wire.Put16(b, at, 0)
			if got := wire.Put16(cleared, at, wire.Sum(cleared)); !wire.Good(got) {
				t.Fatalf("% x with the sum at %d", got, at)
			}
		}
		if got := append(b, byte(wire.Sum(b)>>8), byte(wire.Sum(b))); !wire.Good(got) {
			t.Fatalf("% x with the sum behind", got)
		}
	}
	if b := make([]byte, 8); !wire.Good(wire.Put16(b, 4, wire.Sum(b))) {
		t.Error("noughts")
	}
}

func TestP1_4GoodWhenPatched(t *testing.T) {
	words := []uint16{0, 1, 2, 0x7fff, 0x8000, 0xfffe, 0xffff, 0x1234, 0xedcb}
	for _, other := range words {
		for _, was := range words {
			for _, is := range words {
				checkPatch(t, other, was, is)
			}
		}
	}
	var c chance
	for range 2000 {
		checkPatch(t, uint16(c.next()), uint16(c.next()), uint16(c.next()))
	}
}

// checkPatch holds both forms of a sum (0000 and ffff are alike) against the promise.
func checkPatch(t *testing.T, other, was, is uint16) {
	t.Helper()
	b := wire.Put16(wire.Put16(make([]byte, 6), 0, other), 2, was)
	sums := []uint16{wire.Sum(b)}
	if sums[0] == 0 {
		sums = append(sums, 0xffff)
	}
	for _, sum := range sums {
		if !wire.Good(wire.Put16(b, 4, sum)) {
			t.Fatalf("%04x %04x with %04x", other, was, sum)
		}
		got := wire.Put16(wire.Put16(b, 2, is), 4, wire.Patch(sum, was, is))
		if !wire.Good(got) && !bytes.Equal(got, make([]byte, 6)) {
			t.Errorf("%04x %04x %04x becomes % x", other, was, sum, got)
		}
	}
}

func TestP1NoPanic(t *testing.T) {
	places := []int{math.MinInt, -65536, -4, -3, -2, -1, 0, 1, 2, 3, 4, 5, 65535, math.MaxInt - 3, math.MaxInt - 1, math.MaxInt}
	for _, b := range [][]byte{nil, {}, {1}, {1, 2}, {1, 2, 3}, {1, 2, 3, 4}, {1, 2, 3, 4, 5}} {
		wire.Sum(b)
		wire.Good(b)
		for _, at := range places {
			wire.Get16(b, at)
			wire.Get32(b, at)
			if got := wire.Put16(b, at, 7); len(got) != len(b) {
				t.Errorf("Put16 of %d bytes at %d: %d", len(b), at, len(got))
			}
			if got := wire.Put32(b, at, 7); len(got) != len(b) {
				t.Errorf("Put32 of %d bytes at %d: %d", len(b), at, len(got))
			}
			if got := wire.Pseudo(1, 2, 3, at); len(got) != 12 {
				t.Errorf("Pseudo of %d: %d", at, len(got))
			}
		}
	}
}

func TestP3HandedInStaysAsItIs(t *testing.T) {
	whole := []byte{1, 2, 3, 4, 5, 6, 7, 8, 9, 10}
	was := slices.Clone(whole)
	for n := range len(whole) + 1 {
		b := whole[:n]
		wire.Sum(b)
		wire.Good(b)
		for at := -1; at <= n; at++ {
			wire.Get16(b, at)
			wire.Get32(b, at)
			for _, got := range [][]byte{wire.Put16(b, at, 0xffff), wire.Put32(b, at, 0xffffffff)} {
				got = got[:cap(got)]
				for i := range got {
					got[i] = 0xee
				}
			}
		}
		if !bytes.Equal(whole, was) {
			t.Fatalf("of %d bytes: % x", n, whole)
		}
	}
}

func TestP3AnsweredIsTheCallers(t *testing.T) {
	b := []byte{1, 2, 3, 4}
	first, far, pseudo := wire.Put16(b, 0, 9), wire.Put32(b, 1, 9), wire.Pseudo(1, 2, 3, 4)
	clear(b)
	clear(wire.Put16(first, 2, 9))
	clear(wire.Put32(first, 2, 9))
	clear(wire.Pseudo(1, 2, 3, 4))
	if !bytes.Equal(first, []byte{0, 9, 3, 4}) || !bytes.Equal(far, []byte{1, 2, 3, 4}) {
		t.Errorf("% x, % x", first, far)
	}
	if !bytes.Equal(pseudo, []byte{0, 0, 0, 1, 0, 0, 0, 2, 0, 3, 0, 4}) {
		t.Errorf("% x", pseudo)
	}
}

func TestP6NothingIsKept(t *testing.T) {
	b := []byte{1, 2, 3, 4, 5}
	tell := func() []any {
		return []any{wire.Sum(b), wire.Good(b), wire.Patch(1, 2, 3), wire.Get16(b, 1), wire.Get32(b, 1),
			string(wire.Put16(b, 1, 7)), string(wire.Put32(b, 1, 7)), string(wire.Pseudo(1, 2, 3, 4)), wire.Ahead(1, 2)}
	}
	first := tell()
	wire.Sum([]byte{9, 9, 9})
	wire.Put32([]byte{9, 9, 9, 9, 9, 9}, 1, 9)
	wire.Pseudo(9, 9, 9, 9)
	if again := tell(); !slices.Equal(first, again) {
		t.Errorf("%v, then %v", first, again)
	}
}
