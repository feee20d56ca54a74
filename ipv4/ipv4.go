// Package ipv4 is packets. See ../../shared/doc/02-ipv4.md.
package ipv4

import (
	"bytes"

	"lychgate/api"
	"lychgate/wire"
)

const (
	version    = 4
	wordSize   = 4
	fixedSize  = 20 // a header without Options
	maxOptions = 40
	minQuoted  = 8 // of a quoted packet's Data: enough to tell its flow
)

// Where parts stand in a header.
const (
	atTos   = 1
	atAll   = 2
	atId    = 4
	atFlags = 6
	atTtl   = 8
	atProto = 9
	atSum   = 10
	atSrc   = 12
	atDst   = 16
)

// Bits of the word behind Id.
const (
	spareBit     = 0x8000
	keepBit      = 0x4000
	fragmentBits = 0x3fff // that more come, and where this one stands
)

// Parse is a packet's bytes.
func Parse(b []byte) (api.Packet, api.Errno) {
	return read(b, false)
}

// Quote is the beginning of a packet's bytes.
func Quote(b []byte) (api.Packet, api.Errno) {
	return read(b, true)
}

// Build is the bytes of a packet.
func Build(p api.Packet) ([]byte, api.Errno) {
	if e := fault(p); e != api.OK {
		return nil, e
	}
	return append(header(p), p.Data...), api.OK
}

// Right tells whether a packet can be built.
func Right(p api.Packet) bool {
	return fault(p) == api.OK
}

// Same tells whether two packets are the same: an empty list is as a nil one.
func Same(a, b api.Packet) bool {
	return a.Tos == b.Tos && a.Id == b.Id && a.Keep == b.Keep && a.Ttl == b.Ttl && a.Proto == b.Proto &&
		a.Src == b.Src && a.Dst == b.Dst && bytes.Equal(a.Options, b.Options) && bytes.Equal(a.Data, b.Data)
}

func fault(p api.Packet) api.Errno {
	switch {
	case len(p.Options) > maxOptions || len(p.Options)%wordSize != 0:
		return api.ErrForm
	case sizesOf(p).all > api.MaxPacket:
		return api.ErrLong
	}
	return api.OK
}

// header is that of a right packet.
func header(p api.Packet) []byte {
	s := sizesOf(p)
	h := append(make([]byte, fixedSize), p.Options...)
	h[0] = byte(version<<4 | s.head/wordSize)
	h[atTos], h[atTtl], h[atProto] = p.Tos, p.Ttl, p.Proto
	h = wire.Put16(h, atAll, uint16(s.all))
	h = wire.Put16(h, atId, p.Id)
	if p.Keep {
		h = wire.Put16(h, atFlags, keepBit)
	}
	h = wire.Put32(h, atSrc, p.Src)
	h = wire.Put32(h, atDst, p.Dst)
	return wire.Put16(h, atSum, wire.Sum(h))
}
