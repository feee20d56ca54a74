package pptp

import (
	"lychgate/api"
	"lychgate/wire"
)

const (
	headSize = 12
	atType   = 8
	atResult = 16
)

// nowhere is the place of a call that is not there: wire reads 0 of it, and puts nothing into it.
const nowhere = -1

// layout is how many bytes a message of a type has, and where its calls stand.
type layout struct {
	size, call, peer int
}

// layouts are those of the types that are known.
func layouts() map[int]layout {
	return map[int]layout{
		Request: {size: 168, call: 12, peer: nowhere},
		Reply:   {size: 32, call: 12, peer: 14},
		Clear:   {size: 16, call: 12, peer: nowhere},
		Notify:  {size: 148, call: 12, peer: nowhere},
		Link:    {size: 24, call: nowhere, peer: 12},
	}
}

// layoutOf is that of a message's bytes; with an error it has no calls.
func layoutOf(data []byte) (layout, api.Errno) {
	none := layout{call: nowhere, peer: nowhere}
	if len(data) < headSize {
		return none, api.ErrShort
	}
	typ := typeOf(data)
	// The length has two bytes, so that of more than they can tell it is wrong.
	if len(data) > api.MaxPacket || [headSize]byte(data) != headOf(len(data), typ) {
		return none, api.ErrForm
	}
	l, known := layouts()[typ]
	switch {
	case !known:
		return none, api.ErrKind
	case len(data) != l.size:
		return none, api.ErrForm
	}
	return l, api.OK
}

func typeOf(data []byte) int {
	return int(wire.Get16(data, atType))
}

// headOf is how a message of so many bytes and of a type begins.
func headOf(size, typ int) [headSize]byte {
	return [headSize]byte{
		byte(size >> 8), byte(size),
		0x00, 0x01,
		0x1a, 0x2b, 0x3c, 0x4d,
		byte(typ >> 8), byte(typ),
		0x00, 0x00,
	}
}
