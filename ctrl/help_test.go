package ctrl_test

import (
	"math/rand/v2"
	"testing"

	"lychgate/api"
	"lychgate/ctrl"
)

// chance is the same row of numbers in every run.
func chance() *rand.Rand {
	return rand.New(rand.NewPCG(4, 7))
}

func someBytes(r *rand.Rand, n int) []byte {
	b := make([]byte, n)
	for i := range b {
		b[i] = byte(r.Uint32())
	}
	return b
}

// somePacket has Data that a Build must leave out.
func somePacket(r *rand.Rand) api.Packet {
	return api.Packet{
		Tos: byte(r.Uint32()), Id: uint16(r.Uint32()), Keep: r.IntN(2) == 0, Ttl: byte(r.Uint32()), Proto: byte(r.Uint32()),
		Src: r.Uint32(), Dst: r.Uint32(), Options: someBytes(r, r.IntN(11)*4), Data: someBytes(r, r.IntN(9)),
	}
}

// spoiled has up to three bits of its first bytes turned, and now and then no end.
func spoiled(r *rand.Rand, b []byte) []byte {
	for range r.IntN(4) {
		b[r.IntN(min(len(b), 8))] ^= 1 << r.IntN(8)
	}
	if r.IntN(4) == 0 {
		b = b[:r.IntN(len(b)+1)]
	}
	return b
}

// outer is the packet that the samples lie in.
func outer(proto byte, data []byte) api.Packet {
	return api.Packet{
		Tos: 0x12, Id: 0x3456, Keep: true, Ttl: 64, Proto: proto, Src: 0x0a000002, Dst: 0x08080404,
		Options: []byte{1, 2, 3, 4}, Data: data,
	}
}

func builtIcmp(t *testing.T, p api.Packet, m api.Message) api.Packet {
	t.Helper()
	q, e := ctrl.BuildIcmp(p, m)
	if e != api.OK {
		t.Fatalf("BuildIcmp of %+v in %+v: %d", m, p, e)
	}
	return q
}

func builtGre(t *testing.T, p api.Packet, f api.Frame) api.Packet {
	t.Helper()
	q, e := ctrl.BuildGre(p, f)
	if e != api.OK {
		t.Fatalf("BuildGre of %+v in %+v: %d", f, p, e)
	}
	return q
}

// spoil writes over the spare room too.
func spoil(b []byte) {
	b = b[:cap(b)]
	for i := range b {
		b[i] ^= 0xee
	}
}
