package segs

import (
	"bytes"

	"lychgate/api"
	"lychgate/ipv4"
	"lychgate/wire"
)

// header is bytes that grow at their end, of each number the higher one first.
type header struct {
	bytes []byte
}

func (h *header) put(b ...byte) {
	h.bytes = append(h.bytes, b...)
}

func (h *header) put16(numbers ...uint16) {
	for _, n := range numbers {
		h.put(byte(n>>8), byte(n))
	}
}

func (h *header) put32(numbers ...uint32) {
	for _, n := range numbers {
		h.put16(uint16(n>>16), uint16(n))
	}
}

// unit is a segment or a datagram that is being built: a header grows inside of it, and then the data.
type unit struct {
	header
	proto byte
}

// packed is the packet with the unit in it, its check sum not yet there. Build is asked for its error alone: it
// tells of wrong Options ahead of too many bytes, as is asked here too.
func (u *unit) packed(p api.Packet) (api.Packet, api.Errno) {
	p.Proto, p.Options, p.Data = u.proto, bytes.Clone(p.Options), u.bytes
	if _, e := ipv4.Build(p); e != api.OK {
		return api.Packet{}, e
	}
	return p, api.OK
}

// summed is what the check sum of a segment or a datagram is reckoned of.
func summed(p api.Packet) []byte {
	return append(wire.Pseudo(p.Src, p.Dst, p.Proto, len(p.Data)), p.Data...)
}
