package pptp_test

import (
	"encoding/binary"
	"math/rand/v2"
	"slices"

	"lychgate/api"
	"lychgate/pptp"
)

// types are those that there are, with how many bytes each has.
var types = []struct{ typ, size int }{{7, 168}, {8, 32}, {12, 16}, {13, 148}, {15, 24}}

// chance is the same row of numbers in every run.
func chance() *rand.Rand {
	return rand.New(rand.NewPCG(15, 8))
}

// headed is so many bytes that begin as a message of a type does; what follows tells each place by itself.
func headed(typ, size int) []byte {
	b := make([]byte, size)
	for i := range b {
		b[i] = byte(100 + i)
	}
	head := []byte{byte(size >> 8), byte(size), 0, 1, 0x1a, 0x2b, 0x3c, 0x4d, byte(typ >> 8), byte(typ), 0, 0}
	copy(b, head)
	return b
}

// message is one of a type.
func message(typ int) []byte {
	return headed(typ, sizeOf(typ))
}

func sizeOf(typ int) int {
	for _, x := range types {
		if x.typ == typ {
			return x.size
		}
	}
	return 0
}

// places are where a type has its call, and its peer's; -1: nowhere.
func places(typ int) (call, peer int) {
	switch typ {
	case 7, 12, 13:
		return 12, -1
	case 8:
		return 12, 14
	case 15:
		return -1, 12
	}
	return -1, -1
}

// parsed says over again what Parse promises.
func parsed(b []byte) (pptp.Message, api.Errno) {
	if len(b) < 12 {
		return pptp.Message{}, api.ErrShort
	}
	if int(binary.BigEndian.Uint16(b)) != len(b) || !slices.Equal(b[2:8], []byte{0, 1, 0x1a, 0x2b, 0x3c, 0x4d}) || b[10] != 0 || b[11] != 0 {
		return pptp.Message{}, api.ErrForm
	}
	typ := int(binary.BigEndian.Uint16(b[8:]))
	if sizeOf(typ) == 0 {
		return pptp.Message{}, api.ErrKind
	}
	if len(b) != sizeOf(typ) {
		return pptp.Message{}, api.ErrForm
	}
	m := pptp.Message{Type: typ}
	call, peer := places(typ)
	if call > 0 {
		m.Call = binary.BigEndian.Uint16(b[call:])
	}
	if peer > 0 {
		m.Peer = binary.BigEndian.Uint16(b[peer:])
	}
	if typ == 8 {
		m.Result = b[16]
	}
	return m, api.OK
}

// put is bytes with two of them changed; as they are, if at is nowhere.
func put(b []byte, at int, v uint16) []byte {
	own := slices.Clone(b)
	if at >= 0 {
		binary.BigEndian.PutUint16(own[at:], v)
	}
	return own
}

// some is bytes that are a message, or nearly one.
func some(r *rand.Rand) []byte {
	typ := []int{7, 8, 12, 13, 15, 15, 1, 0, 16, 0x107}[r.IntN(10)]
	size := sizeOf(typ)
	if size == 0 || r.IntN(6) == 0 {
		size = []int{12, 13, 16, 24, 32, 148, 168, 200, 256 + 16}[r.IntN(9)]
	}
	b := headed(typ, size)
	for i := 12; i < size; i++ {
		b[i] = byte(r.Uint32())
	}
	switch r.IntN(4) {
	case 0:
		b[r.IntN(12)] ^= 1 << r.IntN(8)
	case 1:
		b = b[:r.IntN(size+1)]
	}
	return b
}
