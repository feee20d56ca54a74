package ctrl

import (
	"bytes"

	"lychgate/api"
	"lychgate/wire"
)

const (
	greSize    = 8 // a frame's header without Seq and Ack
	numberSize = 4
)

// Where parts stand in a frame.
const (
	atLength = 4
	atCall   = 6
)

// Which numbers a frame has, as bits.
const (
	seqBit = 1
	ackBit = 2
)

// beginnings are the first bytes of frames, by the bits of what they have.
var beginnings = [4][4]byte{
	0:               {0x20, 0x01, 0x88, 0x0b},
	seqBit:          {0x30, 0x01, 0x88, 0x0b},
	ackBit:          {0x20, 0x81, 0x88, 0x0b},
	seqBit | ackBit: {0x30, 0x81, 0x88, 0x0b},
}

// ParseGre is a packet's frame.
func ParseGre(p api.Packet) (api.Frame, api.Errno) {
	b := p.Data
	switch {
	case p.Proto != api.Gre:
		return api.Frame{}, api.ErrKind
	case len(b) < greSize:
		return api.Frame{}, api.ErrShort
	}
	has, ok := bitsOf([4]byte(b))
	if !ok {
		return api.Frame{}, api.ErrForm
	}
	f, head := frameHead(b, has)
	all := head + int(wire.Get16(b, atLength))
	switch {
	case len(b) < all:
		return api.Frame{}, api.ErrShort
	case len(b) > all:
		return api.Frame{}, api.ErrForm
	}
	f.Data = bytes.Clone(b[head:])
	return f, api.OK
}

// bitsOf tells by a beginning what a frame has; false, if it is none of the four.
func bitsOf(first [4]byte) (int, bool) {
	for has, known := range beginnings {
		if first == known {
			return has, true
		}
	}
	return 0, false
}

// frameHead is a frame without its Data, and how many bytes stand ahead of these. What is not there is read as 0,
// because the length is held against the bytes afterwards.
func frameHead(b []byte, has int) (api.Frame, int) {
	f := api.Frame{Call: wire.Get16(b, atCall), HasSeq: has&seqBit != 0, HasAck: has&ackBit != 0}
	at := greSize
	if f.HasSeq {
		f.Seq = wire.Get32(b, at)
		at += numberSize
	}
	if f.HasAck {
		f.Ack = wire.Get32(b, at)
		at += numberSize
	}
	return f, at
}

// BuildGre is the packet with a frame.
func BuildGre(p api.Packet, f api.Frame) (api.Packet, api.Errno) {
	if !f.HasSeq && f.Seq != 0 || !f.HasAck && f.Ack != 0 {
		return api.Packet{}, api.ErrForm
	}
	var has int
	var numbers []byte
	if f.HasSeq {
		has |= seqBit
		numbers = joined(numbers, four(f.Seq))
	}
	if f.HasAck {
		has |= ackBit
		numbers = joined(numbers, four(f.Ack))
	}
	first := beginnings[has]
	return packed(p, api.Gre, joined(first[:], two(uint16(len(f.Data))), two(f.Call), numbers, f.Data))
}

// SameGre tells whether two frames are the same: an empty list is as a nil one.
func SameGre(a, b api.Frame) bool {
	return a.Call == b.Call && a.HasSeq == b.HasSeq && a.HasAck == b.HasAck && a.Seq == b.Seq && a.Ack == b.Ack &&
		bytes.Equal(a.Data, b.Data)
}
