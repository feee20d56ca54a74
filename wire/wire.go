// Package wire is bytes, check sums and numbers that go round. See ../../shared/doc/01-wire.md.
package wire

import "iter"

const (
	wordSize   = 2
	doubleSize = 4
	pseudoSize = 12
)

// Sum is the check sum of bytes.
func Sum(b []byte) uint16 {
	// 64 bits hold the words of any list below 2^31 bytes, so that nothing is lost ahead of the folding.
	var total uint64
	for w := range words(b) {
		total += uint64(w)
	}
	return ^fold(total)
}

// Good tells whether bytes with their check sum fit.
func Good(b []byte) bool {
	return Sum(b) == 0
}

// Patch is a check sum when a word changes.
func Patch(sum, was, is uint16) uint16 {
	return ^fold(uint64(^sum) + uint64(^was) + uint64(is))
}

// Get16 is the word of two bytes from at on; 0, if they are not all there.
func Get16(b []byte, at int) uint16 {
	if !holds(b, at, wordSize) {
		return 0
	}
	return uint16(b[at])<<8 | uint16(b[at+1])
}

// Get32 is the word of four bytes from at on; 0, if they are not all there.
func Get32(b []byte, at int) uint32 {
	if !holds(b, at, doubleSize) {
		return 0
	}
	return uint32(Get16(b, at))<<16 | uint32(Get16(b, at+wordSize))
}

// Put16 is a copy of bytes with two of them changed; as they are, if these are not all there.
func Put16(b []byte, at int, v uint16) []byte {
	own := clone(b)
	if holds(own, at, wordSize) {
		set16(own, at, v)
	}
	return own
}

// Put32 is a copy of bytes with four of them changed; as they are, if these are not all there.
func Put32(b []byte, at int, v uint32) []byte {
	own := clone(b)
	if holds(own, at, doubleSize) {
		set32(own, at, v)
	}
	return own
}

// Pseudo is what stands ahead of a packet's data in its check sum.
func Pseudo(src, dst uint32, proto byte, n int) []byte {
	b := make([]byte, pseudoSize)
	set32(b, 0, src)
	set32(b, 4, dst)
	b[9] = proto
	set16(b, 10, uint16(n))
	return b
}

// Ahead is how far a number that goes round is ahead of another one (below 0: behind).
func Ahead(a, b uint32) int {
	return int(int32(a - b))
}

// words yields bytes two by two; an odd last one has a 0 behind it.
func words(b []byte) iter.Seq[uint16] {
	return func(yield func(uint16) bool) {
		for i := 0; i+1 < len(b); i += wordSize {
			if !yield(Get16(b, i)) {
				return
			}
		}
		if len(b)%wordSize != 0 {
			yield(uint16(b[len(b)-1]) << 8)
		}
	}
}

func fold(total uint64) uint16 {
	for total > 0xffff {
		total = total>>16 + total&0xffff
	}
	return uint16(total)
}

// holds takes n off the length, because at and n together could go round.
func holds(b []byte, at, n int) bool {
	return at >= 0 && at <= len(b)-n
}

// clone cuts off the spare room that append leaves, so that an answer's capacity is its length and tells
// nothing of how it was made.
func clone(b []byte) []byte {
	own := append([]byte(nil), b...)
	return own[:len(own):len(own)]
}

func set16(b []byte, at int, v uint16) {
	b[at], b[at+1] = byte(v>>8), byte(v)
}

func set32(b []byte, at int, v uint32) {
	set16(b, at, uint16(v>>16))
	set16(b, at+wordSize, uint16(v))
}
