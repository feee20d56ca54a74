package segs_test

import (
	"math/rand/v2"
	"slices"
	"testing"

	"lychgate/api"
	"lychgate/segs"
	"lychgate/wire"
)

// chance is the same row of numbers in every run.
func chance() *rand.Rand {
	return rand.New(rand.NewPCG(3, 5))
}

func someBytes(r *rand.Rand, n int) []byte {
	b := make([]byte, n)
	for i := range b {
		b[i] = byte(r.Uint32())
	}
	return b
}

// somePacket has Data that a Build must leave out.
func somePacket(r *rand.Rand) api.Packet {
	return api.Packet{
		Tos: byte(r.Uint32()), Id: uint16(r.Uint32()), Keep: r.IntN(2) == 0, Ttl: byte(r.Uint32()), Proto: byte(r.Uint32()),
		Src: r.Uint32(), Dst: r.Uint32(), Options: someBytes(r, r.IntN(11)*4), Data: someBytes(r, r.IntN(9)),
	}
}

func someSegment(r *rand.Rand) api.Segment {
	return api.Segment{
		Src: uint16(r.Uint32()), Dst: uint16(r.Uint32()), Seq: r.Uint32(), Ack: r.Uint32(), Flags: byte(r.Uint32()),
		Window: uint16(r.Uint32()), Urgent: uint16(r.Uint32()), Options: someOptions(r), Data: someBytes(r, r.IntN(30)),
	}
}

// someOptions are right.
func someOptions(r *rand.Rand) []api.Option {
	var options []api.Option
	for room := r.IntN(41); room > 0; {
		if room == 1 || r.IntN(3) == 0 {
			options = append(options, api.Option{Kind: 1})
			room--
			continue
		}
		data := someBytes(r, r.IntN(room-1))
		options = append(options, api.Option{Kind: byte(2 + r.IntN(254)), Data: data})
		room -= 2 + len(data)
	}
	return options
}

func someDatagram(r *rand.Rand) api.Datagram {
	return api.Datagram{Src: uint16(r.Uint32()), Dst: uint16(r.Uint32()), Bare: r.IntN(4) == 0, Data: someBytes(r, r.IntN(30))}
}

// outer is the packet that the samples lie in.
func outer(proto byte, data []byte) api.Packet {
	return api.Packet{
		Tos: 0x12, Id: 0x3456, Keep: true, Ttl: 64, Proto: proto, Src: 0x0a000002, Dst: 0x08080404,
		Options: []byte{1, 2, 3, 4}, Data: data,
	}
}

func sampleTcp() api.Segment {
	return api.Segment{
		Src: 0x1234, Dst: 21, Seq: 0x89abcdef, Ack: 0x01020304, Flags: api.Psh | api.Ack, Window: 0x7210, Urgent: 0x0506,
		Options: []api.Option{
			{Kind: 2, Data: []byte{5, 0xb4}}, {Kind: 1}, {Kind: 1},
			{Kind: 5, Data: []byte{0, 0, 0x30, 0x39, 0xff, 0xff, 0xff, 0xfe}}, {Kind: 3, Data: []byte{7}},
		},
		Data: []byte("PORT!"),
	}
}

// sampleTcpBytes are reckoned by other means than the program's, so that Parse and Build aren't held against each other alone.
func sampleTcpBytes() []byte {
	return []byte{
		0x12, 0x34, 0x00, 0x15, 0x89, 0xab, 0xcd, 0xef, 0x01, 0x02, 0x03, 0x04, 0xa0, 0x18, 0x72, 0x10, 0x59, 0x03, 0x05, 0x06,
		2, 4, 5, 0xb4, 1, 1, 5, 10, 0, 0, 0x30, 0x39, 0xff, 0xff, 0xff, 0xfe, 3, 3, 7, 0,
		'P', 'O', 'R', 'T', '!',
	}
}

func sampleUdp() api.Datagram {
	return api.Datagram{Src: 5060, Dst: 0xfffe, Data: []byte("sip")}
}

func sampleUdpBytes() []byte {
	return []byte{0x13, 0xc4, 0xff, 0xfe, 0, 11, 0xf2, 0x9d, 's', 'i', 'p'}
}

// resummed has a check sum at a place that fits what else is there.
func resummed(p api.Packet, at int) api.Packet {
	b := wire.Put16(p.Data, at, 0)
	p.Data = wire.Put16(b, at, wire.Sum(covered(p, b)))
	return p
}

func covered(p api.Packet, b []byte) []byte {
	return slices.Concat(wire.Pseudo(p.Src, p.Dst, p.Proto, len(b)), b)
}

// tcpPacket has a header of these bytes behind its first 20, the data behind it, and a fitting sum.
func tcpPacket(options, data []byte) api.Packet {
	b := slices.Concat(sampleTcpBytes()[:20], options, data)
	b[12] = byte((20+len(options))/4) << 4
	return resummed(outer(api.Tcp, b), 16)
}

func builtTcp(t *testing.T, p api.Packet, s api.Segment) api.Packet {
	t.Helper()
	q, e := segs.BuildTcp(p, s)
	if e != api.OK {
		t.Fatalf("BuildTcp of %+v in %+v: %d", s, p, e)
	}
	return q
}

func builtUdp(t *testing.T, p api.Packet, d api.Datagram) api.Packet {
	t.Helper()
	q, e := segs.BuildUdp(p, d)
	if e != api.OK {
		t.Fatalf("BuildUdp of %+v in %+v: %d", d, p, e)
	}
	return q
}

// spoil writes over the spare room too.
func spoil(b []byte) {
	b = b[:cap(b)]
	for i := range b {
		b[i] ^= 0xee
	}
}
