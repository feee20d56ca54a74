package tuple_test

import (
	"math/rand/v2"
	"testing"

	"lychgate/api"
	"lychgate/ctrl"
	"lychgate/ipv4"
	"lychgate/segs"
)

// Where the samples come from, and where they go.
const (
	from = 0x0a000002
	to   = 0x08080404
)

// chance is the same row of numbers in every run.
func chance() *rand.Rand {
	return rand.New(rand.NewPCG(5, 9))
}

func someBytes(r *rand.Rand, n int) []byte {
	b := make([]byte, n)
	for i := range b {
		b[i] = byte(r.Uint32())
	}
	return b
}

func someTuple(r *rand.Rand) api.Tuple {
	return api.Tuple{Proto: someProto(r), Src: r.Uint32(), Dst: r.Uint32(), SrcPort: uint16(r.Uint32()), DstPort: uint16(r.Uint32())}
}

func someProto(r *rand.Rand) byte {
	return []byte{1, 6, 17, 47}[r.IntN(4)]
}

// outer is the packet that the samples lie in.
func outer(proto byte, data []byte) api.Packet {
	return api.Packet{
		Tos: 0x12, Id: 0x3456, Keep: true, Ttl: 64, Proto: proto, Src: from, Dst: to,
		Options: []byte{1, 2, 3, 4}, Data: data,
	}
}

// told is a sample: the bytes of a protocol's unit, and the ports that they tell.
type told struct {
	proto    byte
	bytes    []byte
	src, dst uint16
}

func (s told) tuple() api.Tuple {
	return api.Tuple{Proto: s.proto, Src: from, Dst: to, SrcPort: s.src, DstPort: s.dst}
}

// samples are of all protocols; their sums are of the addresses of outer.
func samples() map[string]told {
	return map[string]told{
		"a segment": {6, []byte{
			0x9c, 0x40, 0x00, 0x50, 1, 2, 3, 4, 0, 0, 0, 0, 0x50, 0x02, 0xff, 0xff, 0xf9, 0x3e, 0, 0,
		}, 40000, 80},
		"a datagram":               {17, []byte{0x13, 0xc4, 0x00, 0x35, 0, 11, 0x11, 0x6f, 'a', 'b', 'c'}, 5060, 53},
		"a datagram without a sum": {17, []byte{0x00, 0x00, 0xff, 0xff, 0, 8, 0, 0}, 0, 65535},
		"an echo that is asked for": {1, []byte{
			8, 0, 0x38, 0x09, 0xbe, 0xef, 0x00, 0x07, 1,
		}, 0xbeef, 0xbeef},
		"an echo":      {1, []byte{0, 0, 0x40, 0x09, 0xbe, 0xef, 0x00, 0x07, 1}, 0xbeef, 0xbeef},
		"a bare frame": {47, []byte{0x20, 0x01, 0x88, 0x0b, 0, 0, 0xa1, 0xb2}, 0, 0xa1b2},
		"a frame with both numbers": {47, []byte{
			0x30, 0x81, 0x88, 0x0b, 0, 1, 0x00, 0x07, 1, 2, 3, 4, 5, 6, 7, 8, 'p',
		}, 0, 7},
		"a frame with Seq": {47, []byte{0x30, 0x01, 0x88, 0x0b, 0, 0, 0xff, 0xff, 1, 2, 3, 4}, 0, 65535},
		"a frame with Ack": {47, []byte{0x20, 0x81, 0x88, 0x0b, 0, 0, 0x80, 0x00, 1, 2, 3, 4}, 0, 32768},
	}
}

// somePacket is a right one that has a tuple.
func somePacket(t *testing.T, r *rand.Rand) (api.Packet, api.Tuple) {
	t.Helper()
	want := someTuple(r)
	p := api.Packet{
		Tos: byte(r.Uint32()), Id: uint16(r.Uint32()), Keep: r.IntN(2) == 0, Ttl: byte(r.Uint32()),
		Src: want.Src, Dst: want.Dst, Options: someBytes(r, r.IntN(11)*4),
	}
	data := someBytes(r, r.IntN(30))
	var e api.Errno
	switch want.Proto {
	case api.Tcp:
		p, e = segs.BuildTcp(p, api.Segment{Src: want.SrcPort, Dst: want.DstPort, Seq: r.Uint32(), Flags: byte(r.Uint32()), Data: data})
	case api.Udp:
		p, e = segs.BuildUdp(p, api.Datagram{Src: want.SrcPort, Dst: want.DstPort, Bare: r.IntN(2) == 0, Data: data})
	case api.Icmp:
		want.DstPort = want.SrcPort
		m := api.Message{Type: byte(r.IntN(2) * 8), Rest: uint32(want.SrcPort)<<16 | uint32(r.IntN(65536)), Data: data}
		p, e = ctrl.BuildIcmp(p, m)
	case api.Gre:
		want.SrcPort = 0
		p, e = ctrl.BuildGre(p, api.Frame{Call: want.DstPort, HasSeq: r.IntN(2) == 0, HasAck: r.IntN(2) == 0, Data: data})
	}
	if e != api.OK {
		t.Fatalf("a packet of %+v can't be built: %d", want, e)
	}
	return p, want
}

func bytesOf(t *testing.T, p api.Packet) []byte {
	t.Helper()
	b, e := ipv4.Build(p)
	if e != api.OK {
		t.Fatalf("Build of %+v: %d", p, e)
	}
	return b
}

// message is a packet of ICMP of which the sum fits.
func message(t *testing.T, kind, code byte, data []byte) api.Packet {
	t.Helper()
	p, e := ctrl.BuildIcmp(api.Packet{Src: 0x01010101, Dst: from, Ttl: 9}, api.Message{Type: kind, Code: code, Rest: 0xabcdef01, Data: data})
	if e != api.OK {
		t.Fatalf("BuildIcmp: %d", e)
	}
	return p
}

// quoting is an error that tells of bytes in a packet of outer's addresses.
func quoting(t *testing.T, proto byte, data []byte) api.Packet {
	t.Helper()
	return message(t, 3, 1, bytesOf(t, outer(proto, data)))
}

// spoil writes over the spare room too.
func spoil(b []byte) {
	b = b[:cap(b)]
	for i := range b {
		b[i] ^= 0xee
	}
}
