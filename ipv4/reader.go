package ipv4

import (
	"lychgate/api"
	"lychgate/wire"
)

// sizes are how many bytes a packet's header, and all of it, have.
type sizes struct {
	head, all int
}

func sizesOf(p api.Packet) sizes {
	head := fixedSize + len(p.Options)
	return sizes{head: head, all: head + len(p.Data)}
}

// reader takes a packet out of bytes; what it has inside is what the header says of their sizes.
type reader struct {
	sizes
	bytes []byte
}

// refusal is what a reader gives up with: a type of its own, so that no other panic is taken for one.
type refusal struct {
	code api.Errno
}

func refuse(wrong bool, code api.Errno) {
	if wrong {
		panic(refusal{code})
	}
}

// read is a packet; of a quoted one the end may be missing.
func read(b []byte, quoted bool) (p api.Packet, e api.Errno) {
	defer func() {
		switch r := recover().(type) {
		case nil:
		case refusal:
			p, e = api.Packet{}, r.code
		default:
			panic(r)
		}
	}()
	r := reader{bytes: b}
	r.measure()
	if quoted {
		r.all = min(r.all, len(b))
	}
	refuse(r.all > len(b), api.ErrShort)
	r.check()
	p = r.packet()
	refuse(quoted && len(p.Data) < minQuoted, api.ErrShort)
	return p, api.OK
}

// measure finds the sizes, and refuses those that do not fit together.
func (r *reader) measure() {
	refuse(len(r.bytes) < fixedSize, api.ErrShort)
	refuse(r.bytes[0]>>4 != version, api.ErrVersion)
	r.head = int(r.bytes[0]&15) * wordSize
	r.all = int(wire.Get16(r.bytes, atAll))
	refuse(r.head < fixedSize, api.ErrForm)
	refuse(r.head > len(r.bytes), api.ErrShort)
	refuse(r.all < r.head, api.ErrForm)
}

// check refuses a header of which the sum does not fit, or that is of a fragment. It needs the sizes.
func (r *reader) check() {
	flags := wire.Get16(r.bytes, atFlags)
	refuse(!wire.Good(r.bytes[:r.head]), api.ErrSum)
	refuse(flags&fragmentBits != 0, api.ErrFragment)
	refuse(flags&spareBit != 0, api.ErrForm)
}

// packet has copies of the lists, because the bytes stay the caller's.
func (r *reader) packet() api.Packet {
	b := r.bytes
	return api.Packet{
		Tos:     b[atTos],
		Id:      wire.Get16(b, atId),
		Keep:    wire.Get16(b, atFlags)&keepBit != 0,
		Ttl:     b[atTtl],
		Proto:   b[atProto],
		Src:     wire.Get32(b, atSrc),
		Dst:     wire.Get32(b, atDst),
		Options: append([]byte(nil), b[fixedSize:r.head]...),
		Data:    append([]byte(nil), b[r.head:r.all]...),
	}
}
