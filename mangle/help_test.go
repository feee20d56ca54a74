package mangle_test

import (
	"bytes"
	"math/rand/v2"
	"testing"

	"lychgate/api"
	"lychgate/ctrl"
	"lychgate/ipv4"
	"lychgate/segs"
)

// Addresses of the samples: a host inside, a server, and the gateway's own.
const (
	host   = 0x0a000002
	server = 0x08080808
	public = 0x01020304
)

// chance is the same row of numbers in every run.
func chance() *rand.Rand {
	return rand.New(rand.NewPCG(10, 5))
}

func someBytes(r *rand.Rand, n int) []byte {
	b := make([]byte, n)
	for i := range b {
		b[i] = byte(r.Uint32())
	}
	return b
}

func someTuple(r *rand.Rand, proto byte) api.Tuple {
	return api.Tuple{Proto: proto, Src: r.Uint32(), Dst: r.Uint32(), SrcPort: uint16(r.Uint32()), DstPort: uint16(r.Uint32())}
}

// outer is a packet with something in all of its fields.
func outer(proto byte, src, dst uint32, data []byte) api.Packet {
	return api.Packet{
		Tos: 0x12, Id: 0x3456, Keep: true, Ttl: 64, Proto: proto, Src: src, Dst: dst,
		Options: []byte{1, 2, 3, 4}, Data: data,
	}
}

// folded is the sum of numbers as check sums have it, of 16 bits: never 0, unless all of them are.
func folded(total uint64) uint16 {
	if total > 0 && total%65535 == 0 {
		return 65535
	}
	return uint16(total % 65535)
}

// sumOf is a check sum said over again.
func sumOf(b []byte) uint16 {
	var total uint64
	for i, v := range b {
		if i%2 == 0 {
			total += uint64(v) * 256
		} else {
			total += uint64(v)
		}
	}
	return 65535 - folded(total)
}

// patchOf is a check sum when one word changes, said over again.
func patchOf(sum, was, is uint16) uint16 {
	return 65535 - folded(uint64(65535-sum)+uint64(65535-was)+uint64(is))
}

func word(b []byte, at int) uint16 {
	return uint16(b[at])*256 + uint16(b[at+1])
}

// laid writes numbers into bytes from a place on, in place.
func laid(b []byte, at int, numbers ...uint16) {
	for i, n := range numbers {
		b[at+2*i], b[at+2*i+1] = byte(n/256), byte(n%256)
	}
}

func halves(address uint32) (upper, lower uint16) {
	return uint16(address / 65536), uint16(address % 65536)
}

// someOptions are those of a segment, in the form that is built.
func someOptions(r *rand.Rand) []api.Option {
	var options []api.Option
	for room := r.IntN(41); room > 0; {
		n := min(r.IntN(12), room-1)
		if n == 0 {
			options, room = append(options, api.Option{Kind: 1}), room-1
			continue
		}
		options, room = append(options, api.Option{Kind: byte(2 + r.IntN(250)), Data: someBytes(r, n-1)}), room-n-1
	}
	return options
}

// somePacket is a right one of a protocol, with a tuple; some datagrams are bare.
func somePacket(t *testing.T, r *rand.Rand, proto byte) api.Packet {
	t.Helper()
	p := api.Packet{
		Tos: byte(r.Uint32()), Id: uint16(r.Uint32()), Keep: r.IntN(2) == 0, Ttl: byte(r.Uint32()),
		Src: r.Uint32(), Dst: r.Uint32(), Options: someBytes(r, r.IntN(11)*4),
	}
	k, data := someTuple(r, proto), someBytes(r, r.IntN(30))
	e := api.ErrKind
	switch proto {
	case 6:
		p, e = segs.BuildTcp(p, api.Segment{
			Src: k.SrcPort, Dst: k.DstPort, Seq: r.Uint32(), Ack: r.Uint32(), Flags: byte(r.Uint32()), Window: uint16(r.Uint32()),
			Urgent: uint16(r.Uint32()), Options: someOptions(r), Data: data,
		})
	case 17:
		p, e = segs.BuildUdp(p, api.Datagram{Src: k.SrcPort, Dst: k.DstPort, Bare: r.IntN(3) == 0, Data: data})
	case 1:
		p, e = ctrl.BuildIcmp(p, api.Message{Type: byte(r.IntN(2) * 8), Rest: r.Uint32(), Data: data})
	case 47:
		f := api.Frame{Call: k.DstPort, Data: data}
		if r.IntN(2) == 0 {
			f.HasSeq, f.Seq = true, r.Uint32()
		}
		if r.IntN(2) == 0 {
			f.HasAck, f.Ack = true, r.Uint32()
		}
		p, e = ctrl.BuildGre(p, f)
	}
	if e != api.OK {
		t.Fatalf("a packet of %d can't be built: %d", proto, e)
	}
	return p
}

// protocols are those that have tuples.
func protocols() []byte {
	return []byte{1, 6, 17, 47}
}

func built(t *testing.T, p api.Packet) []byte {
	t.Helper()
	b, e := ipv4.Build(p)
	if e != api.OK {
		t.Fatalf("Build of %+v: %d", p, e)
	}
	return b
}

// message is a packet of ICMP of which the sum fits.
func message(t *testing.T, kind, code byte, data []byte) api.Packet {
	t.Helper()
	p, e := ctrl.BuildIcmp(outer(1, server, public, nil), api.Message{Type: kind, Code: code, Rest: 0xabcdef01, Data: data})
	if e != api.OK {
		t.Fatalf("BuildIcmp: %d", e)
	}
	return p
}

// spoil writes over the spare room too.
func spoil(b []byte) {
	b = b[:cap(b)]
	for i := range b {
		b[i] ^= 0xee
	}
}

// roomy is bytes with spare room behind them, and that room with them.
func roomy(b []byte) (short, all []byte) {
	all = append(bytes.Clone(b), 0xaa, 0xaa, 0xaa, 0xaa)
	return all[:len(b)], all
}
