package pool_test

import (
	"slices"
	"testing"

	"lychgate/api"
	"lychgate/pool"
)

func TestP8_1New(t *testing.T) {
	for _, c := range [][2]uint16{{0, 0}, {0, 1}, {0, 65535}, {2, 1}, {65535, 1}, {65535, 65534}, {6, 5}} {
		if pool.New(c[0], c[1]) != nil {
			t.Errorf("there is one of %v", c)
		}
	}
	for _, c := range [][2]uint16{{1, 1}, {1, 2}, {5, 8}, {63, 64}, {64, 127}, {1000, 1009}, {65535, 65535}, {65534, 65535}, {1, 65535}} {
		p := pool.New(c[0], c[1])
		if p == nil {
			t.Errorf("there is none of %v", c)
			continue
		}
		newModel(c[0], c[1]).check(t, p)
	}
}

func TestP8_1Take(t *testing.T) {
	for _, c := range []struct {
		name string
		p    *pool.Pool
		wish uint16
		want uint16
	}{
		{"a free one", taken(t, 5, 8), 7, 7},
		{"the least", taken(t, 5, 8), 5, 5},
		{"the greatest", taken(t, 5, 8), 8, 8},
		{"one that is taken", taken(t, 5, 8, 7), 7, 5},
		{"one that is taken, and the least with it", taken(t, 5, 8, 7, 5), 7, 6},
		{"all but the greatest are taken", taken(t, 5, 8, 5, 6, 7), 5, 8},
		{"below all", taken(t, 5, 8), 4, 5},
		{"0", taken(t, 5, 8, 5), 0, 6},
		{"above all", taken(t, 5, 8), 9, 5},
		{"far above", taken(t, 5, 8), 65535, 5},
		{"in the next word", taken(t, 60, 70, 60, 61, 62, 63), 60, 64},
		{"the greatest of all", taken(t, 65535, 65535), 3, 65535},
		{"one of all", taken(t, 1, 65535), 65535, 65535},
		{"the least of all", taken(t, 1, 65535), 0, 1},
	} {
		used, free := c.p.Used(), c.p.Free()
		if n, e := c.p.Take(c.wish); n != c.want || e != api.OK {
			t.Errorf("%s: %d, %d, not %d", c.name, n, e, c.want)
		}
		used = append(used, c.want)
		slices.Sort(used)
		if !slices.Equal(c.p.Used(), used) || c.p.Free() != free-1 || !c.p.Has(c.want) {
			t.Errorf("%s: %v are taken, and %d free", c.name, c.p.Used(), c.p.Free())
		}
	}
}

func TestP8_1Pair(t *testing.T) {
	for _, c := range []struct {
		name string
		p    *pool.Pool
		wish uint16
		want uint16
	}{
		{"an even one", taken(t, 5, 12), 8, 8},
		{"the last one", taken(t, 4, 9), 8, 8},
		{"an odd one", taken(t, 5, 12), 9, 6},
		{"the greatest, even", taken(t, 5, 12), 12, 6},
		{"below all", taken(t, 5, 12), 4, 6},
		{"the one ahead of the least, even", taken(t, 7, 12), 6, 8},
		{"above all", taken(t, 5, 12), 14, 6},
		{"one that is taken", taken(t, 5, 12, 8), 8, 6},
		{"one whose next is taken", taken(t, 5, 12, 9), 8, 6},
		{"the first is taken", taken(t, 6, 12, 6), 0, 8},
		{"the first one's next is taken", taken(t, 6, 12, 7), 0, 8},
		{"two do not stand even", taken(t, 6, 12, 6, 9), 7, 10},
		{"at the end of a word", taken(t, 61, 66), 1, 62},
		{"not over a word's end", taken(t, 63, 67), 63, 64},
		{"the last one of all", taken(t, 65533, 65535), 65533, 65534},
		{"0 of all", taken(t, 1, 65535), 0, 2},
	} {
		used, free := c.p.Used(), c.p.Free()
		if n, e := c.p.Pair(c.wish); n != c.want || e != api.OK {
			t.Errorf("%s: %d, %d, not %d", c.name, n, e, c.want)
		}
		used = append(used, c.want, c.want+1)
		slices.Sort(used)
		if !slices.Equal(c.p.Used(), used) || c.p.Free() != free-2 || !c.p.Has(c.want) || !c.p.Has(c.want+1) {
			t.Errorf("%s: %v are taken, and %d free", c.name, c.p.Used(), c.p.Free())
		}
	}
}

// TestP8_1PairExample is that of the chapter: 6 has no 7, 8 no 9.
func TestP8_1PairExample(t *testing.T) {
	p := pool.New(5, 8)
	if n, e := p.Take(7); n != 7 || e != api.OK {
		t.Errorf("%d, %d", n, e)
	}
	if n, e := p.Pair(5); n != 0 || e != api.ErrFull {
		t.Errorf("%d, %d", n, e)
	}
}

func TestP8_1P2Full(t *testing.T) {
	for _, c := range []struct {
		name string
		p    *pool.Pool
		pair bool
	}{
		{"one", taken(t, 9, 9, 9), false},
		{"all", taken(t, 5, 8, 5, 6, 7, 8), false},
		{"the greatest of all", taken(t, 65535, 65535, 65535), false},
		{"a pair of all that are taken", taken(t, 5, 8, 5, 6, 7, 8), true},
		{"a pair of one, even", taken(t, 8, 8), true},
		{"a pair of one, odd", taken(t, 65535, 65535), true},
		{"a pair that does not stand even", taken(t, 7, 8), true},
		{"a pair over a word's end", taken(t, 63, 64), true},
		{"a pair of each of which one is taken", taken(t, 4, 9, 4, 7, 8), true},
	} {
		used, free := c.p.Used(), c.p.Free()
		for wish := range 1 << 16 {
			call := c.p.Take
			if c.pair {
				call = c.p.Pair
			}
			if n, e := call(uint16(wish)); n != 0 || e != api.ErrFull {
				t.Fatalf("%s, wish %d: %d, %d", c.name, wish, n, e)
			}
		}
		if !slices.Equal(c.p.Used(), used) || c.p.Free() != free {
			t.Errorf("%s: it became %v, and %d free", c.name, c.p.Used(), c.p.Free())
		}
	}
}

func TestP8_1Give(t *testing.T) {
	p := taken(t, 5, 9, 6, 8)
	if e := p.Give(6); e != api.OK || p.Has(6) || p.Free() != 4 || !slices.Equal(p.Used(), []uint16{8}) {
		t.Errorf("%d; %v are taken", e, p.Used())
	}
	if n, e := p.Pair(0); n != 6 || e != api.OK {
		t.Errorf("%d, %d", n, e)
	}
	if p.Give(7) != api.OK || p.Give(6) != api.OK || p.Give(8) != api.OK || p.Free() != 5 {
		t.Error("the two of a pair are not given back one by one")
	}
}

func TestP8_1P2GiveWrong(t *testing.T) {
	p := taken(t, 5, 9, 6, 8)
	for n := range 1 << 16 {
		if n == 6 || n == 8 {
			continue
		}
		if e := p.Give(uint16(n)); e != api.ErrNone {
			t.Fatalf("%d: %d", n, e)
		}
	}
	if p.Free() != 3 || !slices.Equal(p.Used(), []uint16{6, 8}) {
		t.Errorf("it became %v, and %d free", p.Used(), p.Free())
	}
	for _, n := range []uint16{4, 10, 0, 65535} {
		if got, _ := p.Take(n); got == n {
			t.Errorf("%d became free", n)
		}
	}
	if p.Give(6) != api.OK || p.Give(6) != api.ErrNone {
		t.Error("given twice")
	}
}

func TestP8_2Tells(t *testing.T) {
	p := taken(t, 62, 130, 130, 62, 128, 63, 64, 127)
	want := []uint16{62, 63, 64, 127, 128, 130}
	if got := p.Used(); !slices.Equal(got, want) {
		t.Errorf("Used: %v", got)
	}
	if p.Free() != 63 {
		t.Errorf("Free: %d", p.Free())
	}
	for n := range 1 << 16 {
		if got := p.Has(uint16(n)); got != slices.Contains(want, uint16(n)) {
			t.Errorf("Has(%d): %v", n, got)
		}
	}
}

func TestP8_2AllOfThem(t *testing.T) {
	p := pool.New(1, 65535)
	if p.Free() != 65535 || len(p.Used()) != 0 {
		t.Errorf("%d free", p.Free())
	}
	for n := 1; n < 1<<16; n++ {
		if got, e := p.Take(0); int(got) != n || e != api.OK {
			t.Fatalf("%d, %d, not %d", got, e, n)
		}
	}
	if used := p.Used(); p.Free() != 0 || len(used) != 65535 || used[0] != 1 || used[65534] != 65535 || !slices.IsSorted(used) {
		t.Errorf("%d free, %d taken", p.Free(), len(used))
	}
	if p.Has(0) || p.Give(0) != api.ErrNone {
		t.Error("0 is taken")
	}
}
