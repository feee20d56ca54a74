package tuple_test

import (
	"hash/fnv"
	"testing"

	"lychgate/api"
	"lychgate/tuple"
)

func TestP5_3Reverse(t *testing.T) {
	for _, proto := range []byte{0, 1, 6, 17, 47, 255} {
		got := tuple.Reverse(api.Tuple{Proto: proto, Src: 1, Dst: 2, SrcPort: 3, DstPort: 4})
		if got != (api.Tuple{Proto: proto, Src: 2, Dst: 1, SrcPort: 4, DstPort: 3}) {
			t.Errorf("protocol %d: %+v", proto, got)
		}
	}
}

func TestP5_3Key(t *testing.T) {
	for proto := range 256 {
		for _, port := range []uint16{0, 1, 65535} {
			k := api.Tuple{Proto: byte(proto), Src: 1, Dst: 2, SrcPort: port, DstPort: 4}
			want := k
			if proto == 47 {
				want.SrcPort = 0
			}
			if got := tuple.Key(k); got != want {
				t.Errorf("%+v, not %+v", got, want)
			}
		}
	}
}

func TestP5_3Hash(t *testing.T) {
	for k, want := range map[api.Tuple]uint32{
		{}: 0xda0f62ef,
		{Proto: 6, Src: from, Dst: to, SrcPort: 40000, DstPort: 80}:                   0x0c2b45bd,
		{Proto: 17, Src: 0xffffffff, Dst: 0xffffffff, SrcPort: 65535, DstPort: 65535}: 0xda69e510,
		{Proto: 47, Src: 1, Dst: 2, DstPort: 6}:                                       0x6a0453dd,
		{Proto: 47, Src: 1, Dst: 2, SrcPort: 5, DstPort: 6}:                           0x6a0453dd,
		{Proto: 1}:   0xa2fac5cc,
		{Src: 1}:     0xb8c6a1fc,
		{Dst: 1}:     0x93681b2c,
		{SrcPort: 1}: 0x9b28afa4,
		{DstPort: 1}: 0xd90f615c,
	} {
		if got := tuple.Hash(k); got != want {
			t.Errorf("%+v: %x, not %x", k, got, want)
		}
	}
}

// wantHash is reckoned by the library's sum of the same kind.
func wantHash(k api.Tuple) uint32 {
	if k.Proto == 47 {
		k.SrcPort = 0
	}
	h := fnv.New32a()
	h.Write([]byte{k.Proto})
	for _, n := range []uint32{k.Src, k.Dst, uint32(k.SrcPort)<<16 | uint32(k.DstPort)} {
		h.Write([]byte{byte(n >> 24), byte(n >> 16), byte(n >> 8), byte(n)})
	}
	return h.Sum32()
}

func TestP5_3HashOfMany(t *testing.T) {
	r := chance()
	for range 20000 {
		k := someTuple(r)
		if r.IntN(4) == 0 {
			k.Proto = byte(r.Uint32())
		}
		if got := tuple.Hash(k); got != wantHash(k) || got != tuple.Hash(tuple.Key(k)) {
			t.Fatalf("%+v: %x, not %x", k, got, wantHash(k))
		}
	}
}

func TestP5_4ReverseOfReverse(t *testing.T) {
	r := chance()
	for range 5000 {
		k := someTuple(r)
		if got := tuple.Reverse(tuple.Reverse(k)); got != k {
			t.Fatalf("%+v became %+v", k, got)
		}
	}
}
