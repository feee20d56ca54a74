package rules_test

import (
	"math/rand/v2"
	"slices"
	"testing"

	"lychgate/api"
	"lychgate/rules"
)

// The edges of whole numbers.
const (
	least    = -1 << 63
	greatest = 1<<63 - 1
)

// chance is the same row of numbers in every run.
func chance() *rand.Rand {
	return rand.New(rand.NewPCG(9, 5))
}

func masq(net uint32, bits int, to uint32) api.Rule {
	return api.Rule{Kind: api.Masq, Net: net, Bits: bits, To: to}
}

func dnat(proto byte, to uint32, port uint16, host uint32, hostPort uint16) api.Rule {
	return api.Rule{Kind: api.Dnat, Proto: proto, To: to, Port: port, Host: host, HostPort: hostPort}
}

// held are rules with these in them.
func held(t *testing.T, all ...api.Rule) *rules.Rules {
	t.Helper()
	r := rules.New()
	for _, x := range all {
		if e := r.Add(x); e != api.OK {
			t.Fatalf("Add of %+v: %d", x, e)
		}
	}
	return r
}

// numbered are n rules that are right, no two of them the same.
func numbered(n int) []api.Rule {
	var all []api.Rule
	for i := range n {
		if i%2 == 0 {
			all = append(all, masq(0x0a000000, 8, uint32(i+1)))
		} else {
			all = append(all, dnat(6, 0x01020304, uint16(i), 0x0a000002, 80))
		}
	}
	return all
}

// bitOf is a bit of an address, the highest one first.
func bitOf(address uint32, at int) uint32 {
	return address / (1 << (31 - at)) % 2
}

// sameUpper says over again, bit by bit, that two addresses have the same upper ones.
func sameUpper(a, b uint32, bits int) bool {
	for at := range bits {
		if bitOf(a, at) != bitOf(b, at) {
			return false
		}
	}
	return true
}

// right says over again what a right rule is, field by field.
func right(x api.Rule) bool {
	switch {
	case x.Kind == 1:
		if x.Bits < 0 || x.Bits > 32 {
			return false
		}
		for at := x.Bits; at < 32; at++ {
			if bitOf(x.Net, at) != 0 {
				return false
			}
		}
		return x.To != 0 && x.Proto == 0 && x.Port == 0 && x.Host == 0 && x.HostPort == 0
	case x.Kind == 2:
		for _, n := range []uint32{x.To, uint32(x.Port), x.Host, uint32(x.HostPort)} {
			if n == 0 {
				return false
			}
		}
		return (x.Proto == 6 || x.Proto == 17) && x.Net == 0 && x.Bits == 0
	}
	return false
}

// model is rules said over again in the plainest way: a list.
type model struct {
	list []api.Rule
}

func (m *model) add(x api.Rule) api.Errno {
	if !right(x) {
		return api.ErrForm
	}
	for _, y := range m.list {
		if x == y {
			return api.ErrKnown
		}
	}
	if len(m.list) == 32 {
		return api.ErrFull
	}
	m.list = append(m.list, x)
	return api.OK
}

func (m *model) drop(i int) api.Errno {
	var rest []api.Rule
	gone := api.ErrNone
	for j, x := range m.list {
		if j == i {
			gone = api.OK
		} else {
			rest = append(rest, x)
		}
	}
	m.list = rest
	return gone
}

func (m *model) masq(src uint32) (api.Rule, bool) {
	for _, x := range m.list {
		if x.Kind == 1 && sameUpper(x.Net, src, x.Bits) {
			return x, true
		}
	}
	return api.Rule{}, false
}

func (m *model) dnat(proto byte, dst uint32, port uint16) (api.Rule, bool) {
	for _, x := range m.list {
		if x.Kind == 2 && x.Proto == proto && x.To == dst && x.Port == port {
			return x, true
		}
	}
	return api.Rule{}, false
}

func (m *model) fork() *model {
	return &model{slices.Clone(m.list)}
}

// check holds all that rules tell against their model; it asks for addresses and ports out of those of someRule.
func (m *model) check(t *testing.T, r *rules.Rules) {
	t.Helper()
	if got := r.List(); !slices.Equal(got, m.list) {
		t.Fatalf("List: %+v, not %+v", got, m.list)
	}
	for _, src := range []uint32{0, 1, 0x0a000000, 0x0a000001, 0x0a010203, 0x0b000000, 0x8a000000, 0xffffffff} {
		got, ok := r.Masq(src)
		if want, there := m.masq(src); got != want || ok != there {
			t.Fatalf("Masq(%x): %+v, %v, not %+v, %v", src, got, ok, want, there)
		}
	}
	for _, proto := range []byte{0, 1, 6, 17, 47} {
		for port := range uint16(4) {
			for dst := range uint32(4) {
				got, ok := r.Dnat(proto, dst, port)
				if want, there := m.dnat(proto, dst, port); got != want || ok != there {
					t.Fatalf("Dnat(%d, %d, %d): %+v, %v, not %+v, %v", proto, dst, port, got, ok, want, there)
				}
			}
		}
	}
}

// someRule is mostly a right one, of few addresses and ports, so that the same ones come up again.
func someRule(r *rand.Rand) api.Rule {
	x := dnat([]byte{6, 17}[r.IntN(2)], 1+r.Uint32N(3), uint16(1+r.IntN(3)), 0x0a000001+r.Uint32N(2), uint16(1+r.IntN(2)))
	if r.IntN(2) == 0 {
		bits := []int{0, 1, 8, 8, 16, 31, 32, r.IntN(33)}[r.IntN(8)]
		net := []uint32{0x0a000000, 0x0a010203, 0x0b000000, 0xffffffff}[r.IntN(4)]
		x = masq(uint32(uint64(net)>>(32-bits)<<(32-bits)), bits, 1+r.Uint32N(3))
	}
	if r.IntN(5) == 0 {
		spoilField(r, &x)
	}
	return x
}

// spoilField changes one field of a rule, so that it is mostly not right any more.
func spoilField(r *rand.Rand, x *api.Rule) {
	n := []int{0, 0, 1, 2, 6, 17, 33, -1}[r.IntN(8)]
	switch r.IntN(8) {
	case 0:
		x.Kind = api.Kind(n)
	case 1:
		x.Proto = byte(n)
	case 2:
		x.Net = uint32(n)
	case 3:
		x.Bits = n
	case 4:
		x.To = uint32(n)
	case 5:
		x.Port = uint16(n)
	case 6:
		x.Host = uint32(n)
	case 7:
		x.HostPort = uint16(n)
	}
}
