package seqadj_test

import (
	"bytes"
	"testing"

	"lychgate/api"
	"lychgate/seqadj"
)

func TestP11_1New(t *testing.T) {
	s := seqadj.New()
	if s == nil || s.Len() != 0 {
		t.Fatalf("%v", s)
	}
	if b, ok := s.Find(0, 1); ok || len(b) != 0 {
		t.Errorf("Find: %v, %v", b, ok)
	}
	if b, ok := s.Find(0, 0); ok || len(b) != 0 {
		t.Errorf("Find of no bytes: %v, %v", b, ok)
	}
}

// refused lets a part be added that may not be, and sees that nothing changes.
func refused(t *testing.T, s *seqadj.Stream, start uint32, was int, b []byte, want api.Errno) {
	t.Helper()
	n, far := s.Len(), s.Map(start+1000)
	if e := s.Add(start, was, b); e != want {
		t.Errorf("Add(%d, %d, %d bytes): %d, not %d", start, was, len(b), e, want)
	}
	if s.Len() != n || s.Map(start+1000) != far {
		t.Errorf("Add(%d, %d, %d bytes) has changed the stream", start, was, len(b))
	}
}

func TestP11_1LengthsThatMayBe(t *testing.T) {
	for _, was := range []int{1, 2, 64, 127, 128} {
		for _, n := range []int{1, 2, 64, 127, 128} {
			s := seqadj.New()
			if e := s.Add(7, was, text(n)); e != api.OK || s.Len() != 1 {
				t.Errorf("Add of %d bytes by %d: %d", was, n, e)
			}
			if b, ok := s.Find(7, was); !ok || !bytes.Equal(b, text(n)) {
				t.Errorf("Find of %d bytes: %v, %v", was, b, ok)
			}
		}
	}
}

func TestP11_1P2LengthsThatMayNotBe(t *testing.T) {
	full := []piece{}
	for i := range 8 {
		full = append(full, piece{uint32(i), 1, text(1)})
	}
	for _, s := range []*seqadj.Stream{seqadj.New(), replaced(t, full[0]), replaced(t, full...)} {
		for _, was := range []int{0, -1, 129, 1000, least, greatest, round, round + 1, -round + 1} {
			refused(t, s, 500, was, text(1), api.ErrRange)
			refused(t, s, 500, was, nil, api.ErrRange)
		}
		for _, b := range [][]byte{nil, {}, text(129), text(1000), text(65536), text(65537)} {
			refused(t, s, 500, 1, b, api.ErrRange)
		}
	}
}

func TestP11_1StartsBehindTheLast(t *testing.T) {
	for _, from := range []uint32{0, 100, round/2 - 5, round / 2, round - 10, round - 5, round - 1} {
		for _, ahead := range []uint32{0, 1, 2, 1000, round/2 - 2, round/2 - 1} {
			s := replaced(t, piece{from, 10, text(3)})
			if e := s.Add(from+10+ahead, 1, text(1)); e != api.OK || s.Len() != 2 {
				t.Errorf("from %d on, %d behind the end: %d", from, ahead, e)
			}
		}
		for _, back := range []uint32{1, 2, 9, 10, 11, 1000, round/2 - 1, round / 2} {
			refused(t, replaced(t, piece{from, 10, text(30)}), from+10-back, 1, text(1), api.ErrRange)
		}
	}
}

// TestP11_1TheFirstMayStartAnywhere: without a part there is no end that a start may lie ahead of.
func TestP11_1TheFirstMayStartAnywhere(t *testing.T) {
	for _, start := range []uint32{0, 1, round/2 - 1, round / 2, round/2 + 1, round - 1} {
		if e := seqadj.New().Add(start, 128, text(1)); e != api.OK {
			t.Errorf("Add(%d): %d", start, e)
		}
	}
}

func TestP11_1P2Full(t *testing.T) {
	s := seqadj.New()
	for i := range 8 {
		if e := s.Add(uint32(i*10), 10, text(i+1)); e != api.OK || s.Len() != i+1 {
			t.Fatalf("the part %d: %d", i, e)
		}
	}
	refused(t, s, 80, 10, text(1), api.ErrFull)
	refused(t, s, 1000, 10, text(1), api.ErrFull)
	refused(t, s, 79, 10, text(1), api.ErrRange)
	refused(t, s, 80, 0, text(1), api.ErrRange)
	for i := range 8 {
		if b, ok := s.Find(uint32(i*10), 10); !ok || !bytes.Equal(b, text(i+1)) {
			t.Errorf("Find of the part %d: %v, %v", i, b, ok)
		}
	}
}

func TestP11_1Find(t *testing.T) {
	s := replaced(t, piece{100, 10, text(12)}, piece{110, 10, text(8)}, piece{round/2 + 50, 1, text(1)})
	for _, c := range []struct {
		start uint32
		was   int
		want  []byte
	}{
		{100, 10, text(12)}, {110, 10, text(8)}, {round/2 + 50, 1, text(1)},
		{100, 9, nil}, {100, 11, nil}, {100, 12, nil}, {99, 10, nil}, {101, 10, nil}, {112, 8, nil}, {112, 10, nil},
		{100, 20, nil}, {0, 0, nil}, {100, 0, nil}, {100, -10, nil}, {100, round + 10, nil}, {100, least, nil}, {100, greatest, nil},
	} {
		b, ok := s.Find(c.start, c.was)
		if ok != (c.want != nil) || !bytes.Equal(b, c.want) {
			t.Errorf("Find(%d, %d): %v, %v, not %v", c.start, c.was, b, ok, c.want)
		}
	}
}

// TestP6P11_1FindIsTheFirst: numbers go round, so that two parts may have the same ones.
func TestP6P11_1FindIsTheFirst(t *testing.T) {
	s := replaced(t, piece{5, 2, text(3)}, piece{round/2 - 1, 2, text(4)}, piece{round - 3, 2, text(5)}, piece{5, 2, text(6)})
	if b, ok := s.Find(5, 2); !ok || !bytes.Equal(b, text(3)) {
		t.Errorf("%v, %v", b, ok)
	}
}

// pairs are numbers, each with where it goes.
type pairs [][2]uint32

func (all pairs) check(t *testing.T, name string, call func(uint32) uint32) {
	t.Helper()
	for _, c := range all {
		if got := call(c[0]); got != c[1] {
			t.Errorf("%s(%d): %d, not %d", name, c[0], got, c[1])
		}
	}
}

func TestP11_2Example(t *testing.T) {
	s := replaced(t, piece{100, 10, text(12)})
	pairs{{100, 100}, {105, 100}, {110, 112}}.check(t, "Map", s.Map)
	pairs{{105, 100}, {112, 110}}.check(t, "Unmap", s.Unmap)
}

func TestP11_2Longer(t *testing.T) {
	s := replaced(t, piece{100, 10, text(12)})
	pairs{{0, 0}, {99, 99}, {100, 100}, {101, 100}, {109, 100}, {110, 112}, {111, 113}, {1000, 1002},
		{round/2 + 99, round/2 + 101}, {round/2 + 100, round/2 + 102}, {round/2 + 101, round/2 + 101}, {round - 1, round - 1},
	}.check(t, "Map", s.Map)
	pairs{{0, 0}, {99, 99}, {100, 100}, {101, 100}, {110, 100}, {111, 100}, {112, 110}, {113, 111}, {1000, 998},
		{round/2 + 99, round/2 + 97}, {round/2 + 100, round/2 + 98}, {round/2 + 101, round/2 + 101}, {round - 1, round - 1},
	}.check(t, "Unmap", s.Unmap)
}

func TestP11_2Shorter(t *testing.T) {
	s := replaced(t, piece{100, 10, text(1)})
	pairs{{99, 99}, {100, 100}, {101, 100}, {109, 100}, {110, 101}, {1000, 991}}.check(t, "Map", s.Map)
	pairs{{99, 99}, {100, 100}, {101, 110}, {102, 111}, {991, 1000}}.check(t, "Unmap", s.Unmap)
}

// TestP11_2AsLong: a part whose text is as long as itself moves nothing, but within it all is its begin.
func TestP11_2AsLong(t *testing.T) {
	s := replaced(t, piece{100, 10, text(10)})
	all := pairs{{99, 99}, {100, 100}, {101, 100}, {109, 100}, {110, 110}, {1000, 1000}}
	all.check(t, "Map", s.Map)
	all.check(t, "Unmap", s.Unmap)
}

// TestP11_2SideBySide: a part that follows another one at once begins where the text of that ends.
func TestP11_2SideBySide(t *testing.T) {
	s := replaced(t, piece{100, 10, text(12)}, piece{110, 5, text(1)}, piece{120, 2, text(4)})
	pairs{{100, 100}, {109, 100}, {110, 112}, {111, 112}, {114, 112}, {115, 113}, {119, 117}, {120, 118}, {121, 118}, {122, 122},
		{200, 200}}.check(t, "Map", s.Map)
	pairs{{100, 100}, {111, 100}, {112, 110}, {113, 115}, {117, 119}, {118, 120}, {119, 120}, {121, 120}, {122, 122},
		{200, 200}}.check(t, "Unmap", s.Unmap)
}

// TestP11_2GoesRound: a part that lies across the greatest number is one like any other.
func TestP11_2GoesRound(t *testing.T) {
	s := replaced(t, piece{round - 4, 10, text(12)})
	pairs{{round - 5, round - 5}, {round - 4, round - 4}, {round - 1, round - 4}, {0, round - 4}, {5, round - 4}, {6, 8}, {7, 9},
		{100, 102}}.check(t, "Map", s.Map)
	pairs{{round - 5, round - 5}, {round - 4, round - 4}, {0, round - 4}, {7, round - 4}, {8, 6}, {9, 7}, {102, 100}}.check(t, "Unmap", s.Unmap)
	short := replaced(t, piece{round - 3, 3, text(1)}) // what lies behind it, from 0 on, is moved back across 0
	pairs{{round - 1, round - 3}, {0, round - 2}, {1, round - 1}, {2, 0}}.check(t, "Map", short.Map)
	pairs{{round - 3, round - 3}, {round - 2, 0}, {round - 1, 1}, {0, 2}}.check(t, "Unmap", short.Unmap)
}

// TestP11_2TheLastOneCounts: where the numbers have gone round, several parts are not behind one; it is the last of them.
func TestP11_2TheLastOneCounts(t *testing.T) {
	s := replaced(t, piece{5, 2, text(3)}, piece{round/2 - 1, 2, text(4)}, piece{round - 3, 2, text(5)}, piece{5, 2, text(6)})
	pairs{{4, 4 + 6}, {5, 5 + 6}, {6, 5 + 6}, {7, 7 + 10}, {round/2 - 2, round/2 - 2 + 10}, {round - 3, 0}}.check(t, "Map", s.Map)
	pairs{{10, 4}, {11, 5}, {16, 5}, {17, 7}, {round / 2, round/2 - 10}, {round - 1, round - 4}}.check(t, "Unmap", s.Unmap)
}

func TestP11_5WithoutParts(t *testing.T) {
	s, r := seqadj.New(), chance()
	for _, n := range []uint32{0, 1, round/2 - 1, round / 2, round - 1, r.Uint32(), r.Uint32(), r.Uint32()} {
		if s.Map(n) != n || s.Unmap(n) != n {
			t.Errorf("%d: %d, %d", n, s.Map(n), s.Unmap(n))
		}
	}
	s.Add(0, 0, nil) // what is refused is no part
	if s.Map(7) != 7 || s.Unmap(7) != 7 {
		t.Errorf("%d, %d", s.Map(7), s.Unmap(7))
	}
}
