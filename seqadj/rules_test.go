package seqadj_test

import (
	"bytes"
	"math/rand/v2"
	"reflect"
	"slices"
	"testing"

	"lychgate/api"
	"lychgate/seqadj"
)

func TestP1Nil(t *testing.T) {
	var s *seqadj.Stream
	for _, n := range []int{least, -1, 0, 1, 128, 129, greatest} {
		for _, b := range [][]byte{nil, {}, text(1), text(128), text(129)} {
			if e := s.Add(uint32(n), n, b); e != api.ErrNil {
				t.Errorf("Add(%d, %d, %d bytes): %d", uint32(n), n, len(b), e)
			}
		}
		if b, ok := s.Find(uint32(n), n); ok || len(b) != 0 {
			t.Errorf("Find(%d, %d): %v, %v", uint32(n), n, b, ok)
		}
		if s.Map(uint32(n)) != 0 || s.Unmap(uint32(n)) != 0 {
			t.Errorf("%d: %d, %d", uint32(n), s.Map(uint32(n)), s.Unmap(uint32(n)))
		}
	}
	if s.Len() != 0 || s.Fork() != nil {
		t.Errorf("%d, %v", s.Len(), s.Fork())
	}
}

// TestP3TextHandedIn: a text stays as it is, with what lies behind its end, and is not the one that is kept.
func TestP3TextHandedIn(t *testing.T) {
	b := bytes.Repeat([]byte{7}, 20)
	given := b[:5]
	s := replaced(t, piece{100, 10, given})
	if !bytes.Equal(b, bytes.Repeat([]byte{7}, 20)) {
		t.Errorf("Add has written into what it was given: %v", b)
	}
	clear(b)
	if got, _ := s.Find(100, 10); !bytes.Equal(got, []byte{7, 7, 7, 7, 7}) {
		t.Errorf("what is written over a text that was handed in is told: %v", got)
	}
}

// TestP3TextAnswered: what is written over an answer, and behind its end, changes neither the stream nor another answer.
func TestP3TextAnswered(t *testing.T) {
	s := replaced(t, piece{100, 10, text(5)}, piece{110, 10, text(6)})
	f := s.Fork()
	first, _ := s.Find(100, 10)
	other, _ := s.Find(100, 10)
	other = append(other[:2], 9, 9, 9, 9)
	clear(other[:cap(other)])
	again, _ := s.Find(100, 10)
	next, _ := s.Find(110, 10)
	forked, _ := f.Find(100, 10)
	if !bytes.Equal(first, text(5)) || !bytes.Equal(again, text(5)) || !bytes.Equal(next, text(6)) || !bytes.Equal(forked, text(5)) {
		t.Errorf("%v, %v, %v; of the Fork %v", first, again, next, forked)
	}
}

// step does the same with a stream and its model, and holds what they answer against each other.
func step(t *testing.T, r *rand.Rand, s *seqadj.Stream, m *model) {
	t.Helper()
	start, was, b := someStart(r, m), someLength(r), text(max(0, someLength(r)))
	if got, want := s.Add(start, was, b), m.add(start, was, b); got != want {
		t.Fatalf("Add(%d, %d, %d bytes) to %+v: %d, not %d", start, was, len(b), m.parts, got, want)
	}
}

func TestP11_1P11_2Scripts(t *testing.T) {
	r, most := chance(), 0
	for range 1500 {
		s, m := seqadj.New(), &model{}
		for range 14 {
			step(t, r, s, m)
			m.check(t, s)
		}
		for range 50 {
			n := r.Uint32()
			if s.Map(n) != m.mapped(n) || s.Unmap(n) != m.unmapped(n) {
				t.Fatalf("%d: %d, %d, not %d, %d; %+v", n, s.Map(n), s.Unmap(n), m.mapped(n), m.unmapped(n), m.parts)
			}
		}
		most = max(most, len(m.parts))
	}
	if most != api.MaxSteps {
		t.Errorf("there were never more than %d", most)
	}
}

// TestP4Scripts: of streams and their Forks, each goes on by itself.
func TestP4Scripts(t *testing.T) {
	r := chance()
	for range 200 {
		streams, models := []*seqadj.Stream{seqadj.New()}, []*model{{}}
		for range 30 {
			at := r.IntN(len(streams))
			step(t, r, streams[at], models[at])
			if len(streams) < 5 && r.IntN(6) == 0 {
				streams, models = append(streams, streams[at].Fork()), append(models, models[at].fork())
			}
			for i := range streams {
				models[i].check(t, streams[i])
			}
		}
	}
}

func TestP4P11_1Fork(t *testing.T) {
	s := seqadj.New()
	for i := range 5 { // a list that has grown to 5 has room behind it
		s.Add(uint32(i*10), 5, text(6))
	}
	f := s.Fork()
	if f == nil || f.Len() != 5 || f.Map(1000) != 1005 {
		t.Fatalf("%v", f)
	}
	s.Add(50, 5, text(1))
	f.Add(60, 5, text(2))
	if s.Map(1000) != 1001 || f.Map(1000) != 1002 || s.Len() != 6 || f.Len() != 6 {
		t.Errorf("%d; the Fork: %d", s.Map(1000), f.Map(1000))
	}
	if _, ok := f.Find(50, 5); ok {
		t.Error("the Fork has what was added to the other one")
	}
	if _, ok := s.Find(60, 5); ok {
		t.Error("what was added to the Fork is in the other one")
	}
	if g := seqadj.New().Fork(); g == nil || g.Len() != 0 || g.Add(0, 1, text(1)) != api.OK {
		t.Error("a Fork of an empty one")
	}
}

func TestP6NothingIsKept(t *testing.T) {
	tell := func() (all []any) {
		s := seqadj.New()
		for i, n := range []uint32{100, 120, 119, 700} {
			e := s.Add(n, 10+i, text(12-i*4))
			b, ok := s.Find(n, 10+i)
			all = append(all, e, b, ok, s.Len(), s.Map(n+50), s.Unmap(n+50))
		}
		return append(all, s.Fork().Map(800))
	}
	first := tell()
	replaced(t, piece{100, 10, text(99)}, piece{120, 11, text(98)}).Fork().Add(900, 1, text(1))
	if again := tell(); !reflect.DeepEqual(first, again) {
		t.Errorf("%v, then %v", first, again)
	}
}

// laid are the bytes of a stream with its parts replaced: of each one the number that it had, or, of a text, its part's start.
func laid(from, n uint32, parts []piece) (all []uint32, starts []bool) {
	for at := from; at != from+n; {
		i := slices.IndexFunc(parts, func(p piece) bool { return p.start == at })
		if i < 0 {
			all, starts = append(all, at), append(starts, true)
			at++
			continue
		}
		for j := range parts[i].text {
			all, starts = append(all, at), append(starts, j == 0)
		}
		at += uint32(parts[i].was)
	}
	return all, starts
}

// TestP11_2WhereBytesLie: a byte that is not replaced is told at the place at which it lies, when the texts stand where the
// parts were; a part's bytes, and those of its text, are at its beginning.
func TestP11_2WhereBytesLie(t *testing.T) {
	r := chance()
	for range 300 {
		from := []uint32{0, 1000, round/2 - 700, round - 700, r.Uint32()}[r.IntN(5)]
		parts := near(r, from)
		s := replaced(t, parts...)
		all, starts := laid(from, 3000, parts)
		begin := uint32(0)
		for i, was := range all {
			is := from + uint32(i)
			if starts[i] {
				begin = is
				if s.Map(was) != is {
					t.Fatalf("Map(%d): %d, not %d; %+v", was, s.Map(was), is, parts)
				}
			}
			if s.Unmap(is) != was {
				t.Fatalf("Unmap(%d): %d, not %d; %+v", is, s.Unmap(is), was, parts)
			}
			if within := slices.IndexFunc(parts, func(p piece) bool { return p.start == was }); within >= 0 {
				for j := range parts[within].was {
					if s.Map(was+uint32(j)) != begin {
						t.Fatalf("Map(%d): %d, not %d; %+v", was+uint32(j), s.Map(was+uint32(j)), begin, parts)
					}
				}
			}
		}
	}
}

// inside tells whether a number lies in a part, and is not its start.
func inside(parts []piece, n uint32) bool {
	return slices.ContainsFunc(parts, func(p piece) bool {
		off := ahead(int(n), int(p.start))
		return off > 0 && off < p.was
	})
}

// within tells whether a number is less than 2^30 away from the first part: then none is half way round from another one.
func within(parts []piece, n uint32) bool {
	if len(parts) == 0 {
		return true
	}
	off := ahead(int(n), int(parts[0].start))
	return off > -1<<30 && off < 1<<30
}

// TestP11_3ThereAndBack: also at the ends of what is promised, 2^30 to either side of the first part. What is promised of all
// numbers is asked of the places of texts, too: these may lie some further on than their parts.
func TestP11_3ThereAndBack(t *testing.T) {
	r := chance()
	for range 300 {
		from := r.Uint32()
		parts := near(r, from)
		if len(parts) > 0 && r.IntN(2) == 0 {
			far := piece{parts[0].start + 1<<30 - 2000, 1 + r.IntN(128), text(1 + r.IntN(128))}
			parts = append(parts[:min(len(parts), 7)], far)
		}
		s := replaced(t, parts...)
		all := (&model{parts}).edges()
		for range 200 {
			all = append(all, from+r.Uint32N(3000)-1000, from+r.Uint32N(1<<31)-1<<30)
		}
		if len(parts) > 0 {
			all = append(all, parts[0].start+1<<30-1, parts[0].start-1<<30+1)
		}
		for _, n := range all {
			if !within(parts, n) || inside(parts, n) {
				continue
			}
			if back := s.Unmap(s.Map(n)); back != n {
				t.Fatalf("%d goes to %d, and back to %d; %+v", n, s.Map(n), back, parts)
			}
		}
	}
}

// TestP11_4WhatIsAheadStaysAhead: of two numbers the one that is ahead does not come behind the other one; where they lie in
// one part both have its beginning.
func TestP11_4WhatIsAheadStaysAhead(t *testing.T) {
	r := chance()
	for range 300 {
		from := r.Uint32()
		parts := near(r, from)
		s := replaced(t, parts...)
		for n := from - 10; n != from+2500; n++ {
			step := 1 + r.Uint32N(200)*r.Uint32N(2)
			if ahead(int(s.Map(n+step)), int(s.Map(n))) < 0 || ahead(int(s.Unmap(n+step)), int(s.Unmap(n))) < 0 {
				t.Fatalf("%d and %d go to %d and %d, back to %d and %d; %+v",
					n, n+step, s.Map(n), s.Map(n+step), s.Unmap(n), s.Unmap(n+step), parts)
			}
			if !inside(parts, n) && !inside(parts, n+1) && s.Map(n) == s.Map(n+1) {
				t.Fatalf("%d and the next both go to %d; %+v", n, s.Map(n), parts)
			}
		}
	}
}

// TestP11_2LaterPartsMoveNothingAhead: what lies ahead of a part is told as it was ahead of it, so that what is sent again fits.
func TestP11_2LaterPartsMoveNothingAhead(t *testing.T) {
	r := chance()
	for range 200 {
		from := r.Uint32()
		s := seqadj.New()
		for _, p := range near(r, from) {
			var maps, unmaps []uint32
			begin := s.Map(p.start)
			for n := uint32(0); n < 600; n++ {
				maps, unmaps = append(maps, s.Map(p.start-n)), append(unmaps, s.Unmap(begin-n))
			}
			if e := s.Add(p.start, p.was, p.text); e != api.OK {
				t.Fatalf("%+v: %d", p, e)
			}
			for n := uint32(0); n < 600; n++ {
				if s.Map(p.start-n) != maps[n] || s.Unmap(begin-n) != unmaps[n] {
					t.Fatalf("%d ahead of %d", n, p.start)
				}
			}
		}
	}
}

// sent is a segment of a stream: from a number on, these bytes.
type sent struct {
	seq  uint32
	data []byte
}

// lines are segments of a stream from a number on, of which every second one is a line that has a name in it, 6 bytes from the
// fifth on.
func lines(from uint32) (all []sent) {
	for i := range 12 {
		data := append([]byte("PORT "), bytes.Repeat([]byte{byte('a' + i)}, 8)...)
		if i%2 == 1 {
			data = bytes.Repeat([]byte{byte('A' + i)}, 1+i*9)
		}
		all = append(all, sent{from, data})
		from += uint32(len(data))
	}
	return all
}

// told is a segment as the other side gets it: what is told in a name's place is what is known, or else something new.
func told(t *testing.T, s *seqadj.Stream, x sent, fresh []byte) sent {
	t.Helper()
	data := x.data
	if bytes.HasPrefix(data, []byte("PORT ")) {
		b, ok := s.Find(x.seq+5, 6)
		if !ok {
			if e := s.Add(x.seq+5, 6, fresh); e != api.OK {
				t.Fatalf("Add: %d", e)
			}
			b = fresh
		}
		data = slices.Concat(data[:5], b, data[11:])
	}
	return sent{s.Map(x.seq), data}
}

// TestE4NumbersFit: the other side gets all bytes one behind the other; what it has is told back in the numbers of the one who
// sent them; and what is sent again, once or often, is told the same.
func TestE4NumbersFit(t *testing.T) {
	r := chance()
	for _, from := range []uint32{0, 1000, round/2 - 300, round - 300, round - 6, r.Uint32()} {
		s, next := seqadj.New(), from
		var before []sent
		all := lines(from)
		for i, x := range all {
			got := told(t, s, x, text(1+r.IntN(128)))
			if got.seq != next {
				t.Fatalf("the segment %d from %d on: %d, not %d", i, from, got.seq, next)
			}
			next += uint32(len(got.data))
			if ack := s.Unmap(next); ack != x.seq+uint32(len(x.data)) {
				t.Fatalf("the segment %d from %d on: up to %d is there, told back as %d", i, from, next, ack)
			}
			before = append(before, got)
			for j := range before {
				again := told(t, s, all[j], text(1+r.IntN(128)))
				if again.seq != before[j].seq || !bytes.Equal(again.data, before[j].data) {
					t.Fatalf("the segment %d from %d on, sent again: %+v, not %+v", j, from, again, before[j])
				}
			}
		}
		if s.Len() != 6 {
			t.Errorf("%d parts", s.Len())
		}
	}
}
