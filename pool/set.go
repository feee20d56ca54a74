package pool

import (
	"iter"
	"math/bits"
)

const (
	wordBits  = 64
	wordCount = 1 << 16 / wordBits
)

// set is numbers, each of them a bit in one of the words.
type set struct {
	words [wordCount]uint64
}

func bit(n uint16) uint64 {
	return 1 << (n % wordBits)
}

func (s *set) add(n uint16) {
	s.words[n/wordBits] |= bit(n)
}

func (s *set) remove(n uint16) {
	s.words[n/wordBits] &^= bit(n)
}

func (s *set) has(n uint16) bool {
	return s.words[n/wordBits]&bit(n) != 0
}

// hasPair: an even one has a next one always.
func (s *set) hasPair(n uint16) bool {
	return n%2 == 0 && s.has(n) && s.has(n+1)
}

func (s *set) count() int {
	sum := 0
	for i := range wordCount {
		sum += bits.OnesCount64(s.words[i])
	}
	return sum
}

// all yields the numbers, rising. It steps over words without any, since a pool may be nearly empty.
func (s *set) all() iter.Seq[uint16] {
	return func(yield func(uint16) bool) {
		for i := range wordCount {
			for left := s.words[i]; left != 0; left &= left - 1 {
				if !yield(uint16(i*wordBits + bits.TrailingZeros64(left))) {
					return
				}
			}
		}
	}
}

// pairs yields the even ones that are there with the next, rising.
func (s *set) pairs() iter.Seq[uint16] {
	return func(yield func(uint16) bool) {
		for n := range s.all() {
			if s.hasPair(n) && !yield(n) {
				return
			}
		}
	}
}

// first is the wished one, if it may be, else the first one that the walk yields.
func first(wish uint16, mayBe func(uint16) bool, walk iter.Seq[uint16]) (uint16, bool) {
	if mayBe(wish) {
		return wish, true
	}
	for n := range walk {
		return n, true
	}
	return 0, false
}
