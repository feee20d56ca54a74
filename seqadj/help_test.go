package seqadj_test

import (
	"bytes"
	"math/rand/v2"
	"slices"
	"testing"

	"lychgate/api"
	"lychgate/seqadj"
)

// The edges of whole numbers.
const (
	least    = -1 << 63
	greatest = 1<<63 - 1
	round    = 1 << 32 // where the numbers of a stream go round
)

// chance is the same row of numbers in every run.
func chance() *rand.Rand {
	return rand.New(rand.NewPCG(11, 6))
}

// text is n bytes that tell which they are.
func text(n int) []byte {
	b := make([]byte, n)
	for i := range b {
		b[i] = byte(i*7 + n)
	}
	return b
}

// piece is one part: bytes from a number on, so many, and what stands in their place.
type piece struct {
	start uint32
	was   int
	text  []byte
}

// replaced is a stream with these parts.
func replaced(t *testing.T, all ...piece) *seqadj.Stream {
	t.Helper()
	s := seqadj.New()
	for _, p := range all {
		if e := s.Add(p.start, p.was, p.text); e != api.OK {
			t.Fatalf("Add(%d, %d, %d bytes): %d", p.start, p.was, len(p.text), e)
		}
	}
	return s
}

// ahead says over again how far a number is ahead of another one, in numbers that do not go round.
func ahead(a, b int) int {
	d := ((a-b)%round + round) % round
	if d >= round/2 {
		d -= round
	}
	return d
}

// model is a stream said over again in the plainest way: its parts in order, and all sums reckoned anew each time.
type model struct {
	parts []piece
}

func (m *model) add(start uint32, was int, text []byte) api.Errno {
	if was < 1 || was > 128 || len(text) < 1 || len(text) > 128 {
		return api.ErrRange
	}
	if n := len(m.parts); n > 0 {
		last := m.parts[n-1]
		if ahead(int(start), int(last.start)+last.was) < 0 {
			return api.ErrRange
		}
	}
	if len(m.parts) == 8 {
		return api.ErrFull
	}
	m.parts = append(m.parts, piece{start, was, slices.Clone(text)})
	return api.OK
}

func (m *model) find(start uint32, was int) ([]byte, bool) {
	for _, p := range m.parts {
		if p.start == start && p.was == was {
			return p.text, true
		}
	}
	return nil, false
}

// differences are those of the first n parts, in one sum.
func (m *model) differences(n int) int {
	sum := 0
	for _, p := range m.parts[:n] {
		sum += len(p.text) - p.was
	}
	return sum
}

func (m *model) mapped(n uint32) uint32 {
	at := -1
	for i, p := range m.parts {
		if ahead(int(p.start), int(n)) <= 0 {
			at = i
		}
	}
	if at < 0 {
		return n
	}
	p := m.parts[at]
	if ahead(int(p.start)+p.was, int(n)) > 0 {
		return uint32(int(p.start) + m.differences(at))
	}
	return uint32(int(n) + m.differences(at+1))
}

func (m *model) unmapped(n uint32) uint32 {
	at := -1
	for i, p := range m.parts {
		if ahead(int(p.start)+m.differences(i), int(n)) <= 0 {
			at = i
		}
	}
	if at < 0 {
		return n
	}
	p := m.parts[at]
	if ahead(int(p.start)+m.differences(at)+len(p.text), int(n)) > 0 {
		return p.start
	}
	return uint32(int(n) - m.differences(at+1))
}

func (m *model) fork() *model {
	return &model{slices.Clone(m.parts)}
}

// edges are the numbers about which something changes, in either direction, and half way round from them.
func (m *model) edges() (all []uint32) {
	for i, p := range m.parts {
		begin := p.start + uint32(m.differences(i))
		for _, n := range []uint32{p.start, p.start + uint32(p.was), begin, begin + uint32(len(p.text))} {
			all = append(all, n-1, n, n+1, n+round/2-1, n+round/2, n+round/2+1)
		}
	}
	return append(all, 0, 1, round/2-1, round/2, round/2+1, round-1)
}

// check holds all that a stream tells against its model.
func (m *model) check(t *testing.T, s *seqadj.Stream) {
	t.Helper()
	if s.Len() != len(m.parts) {
		t.Fatalf("Len: %d, not %d", s.Len(), len(m.parts))
	}
	for _, n := range m.edges() {
		if got, want := s.Map(n), m.mapped(n); got != want {
			t.Fatalf("Map(%d): %d, not %d; %+v", n, got, want, m.parts)
		}
		if got, want := s.Unmap(n), m.unmapped(n); got != want {
			t.Fatalf("Unmap(%d): %d, not %d; %+v", n, got, want, m.parts)
		}
	}
	for _, p := range m.parts {
		for _, start := range []uint32{p.start - 1, p.start, p.start + 1} {
			for _, was := range []int{p.was - 1, p.was, p.was + 1} {
				got, ok := s.Find(start, was)
				want, there := m.find(start, was)
				if ok != there || !bytes.Equal(got, want) {
					t.Fatalf("Find(%d, %d): %v, %v, not %v, %v", start, was, got, ok, want, there)
				}
			}
		}
	}
}

// someLength is mostly one that may be, and then often at an edge.
func someLength(r *rand.Rand) int {
	return []int{1, 1, 2, 127, 128, 128, 1 + r.IntN(128), 1 + r.IntN(128), 1 + r.IntN(128), []int{0, 129, -1, 1000}[r.IntN(4)]}[r.IntN(10)]
}

// someStart is mostly one near the end of the last part, on either side; now and then far away.
func someStart(r *rand.Rand, m *model) uint32 {
	if len(m.parts) == 0 {
		return []uint32{0, 1, 100, round/2 - 3, round/2 + 3, round - 200, round - 1, r.Uint32()}[r.IntN(8)]
	}
	last := m.parts[len(m.parts)-1]
	end := last.start + uint32(last.was)
	return end + []uint32{0, 0, 1, 2, r.Uint32N(300), r.Uint32N(300), r.Uint32N(1 << 20), round - 1, -r.Uint32N(300),
		round/2 - 1, round / 2, round/2 - r.Uint32N(300), r.Uint32()}[r.IntN(13)]
}

// near are parts that lie close to each other from a number on, as many as there may be or fewer.
func near(r *rand.Rand, from uint32) (all []piece) {
	at := from
	for range r.IntN(9) {
		p := piece{at + r.Uint32N(4)*r.Uint32N(40), 1 + r.IntN(128), text(1 + r.IntN(128))}
		if r.IntN(3) == 0 {
			p.was, p.text = 1+r.IntN(3), text(1+r.IntN(3))
		}
		all = append(all, p)
		at = p.start + uint32(p.was)
	}
	return all
}
