package rules_test

import (
	"slices"
	"testing"

	"lychgate/api"
	"lychgate/rules"
)

var (
	inside = masq(0x0a000000, 8, 0x01020304)
	web    = dnat(6, 0x01020304, 80, 0x0a000002, 8080)
)

func TestP9_1New(t *testing.T) {
	r := rules.New()
	if r == nil || len(r.List()) != 0 {
		t.Fatalf("%v", r)
	}
	if x, ok := r.Masq(0x0a000001); ok || x != (api.Rule{}) {
		t.Errorf("Masq: %+v, %v", x, ok)
	}
	if x, ok := r.Dnat(6, 1, 1); ok || x != (api.Rule{}) {
		t.Errorf("Dnat: %+v, %v", x, ok)
	}
	if e := r.Drop(0); e != api.ErrNone {
		t.Errorf("Drop: %d", e)
	}
}

func TestP9_1Right(t *testing.T) {
	for _, c := range []struct {
		name string
		x    api.Rule
	}{
		{"Masq", inside},
		{"Masq of all", masq(0, 0, 1)},
		{"Masq of the lower half", masq(0, 1, 1)},
		{"Masq of the upper half", masq(0x80000000, 1, 1)},
		{"Masq of two addresses", masq(0xfffffffe, 31, 1)},
		{"Masq of one address", masq(0xffffffff, 32, 0xffffffff)},
		{"Masq of the address 0", masq(0, 32, 1)},
		{"Masq with fewer bits set than there are", masq(0x0a000000, 32, 1)},
		{"Dnat of Tcp", web},
		{"Dnat of Udp", dnat(17, 1, 1, 1, 1)},
		{"Dnat of the greatest", dnat(17, 0xffffffff, 65535, 0xffffffff, 65535)},
	} {
		if !rules.Right(c.x) {
			t.Errorf("%s: %+v is not right", c.name, c.x)
		}
	}
}

// wrong are rules each of which has one thing wrong.
func wrong() map[string]api.Rule {
	with := func(x api.Rule, change func(x *api.Rule)) api.Rule {
		change(&x)
		return x
	}
	return map[string]api.Rule{
		"nothing":                     {},
		"no kind, else Masq":          with(inside, func(x *api.Rule) { x.Kind = api.NoKind }),
		"no kind, else Dnat":          with(web, func(x *api.Rule) { x.Kind = api.NoKind }),
		"a kind of none, else Masq":   with(inside, func(x *api.Rule) { x.Kind = 3 }),
		"a kind of none, else Dnat":   with(web, func(x *api.Rule) { x.Kind = 3 }),
		"a kind below 0":              with(inside, func(x *api.Rule) { x.Kind = -1 }),
		"the greatest kind":           with(web, func(x *api.Rule) { x.Kind = greatest }),
		"Masq, else Dnat":             with(web, func(x *api.Rule) { x.Kind = api.Masq }),
		"Dnat, else Masq":             with(inside, func(x *api.Rule) { x.Kind = api.Dnat }),
		"Masq: -1 bits":               masq(0, -1, 1),
		"Masq: 33 bits":               masq(0, 33, 1),
		"Masq: the fewest bits":       masq(0, least, 1),
		"Masq: the most bits":         masq(0, greatest, 1),
		"Masq: 2^32 bits":             masq(0, 1<<32, 1),
		"Masq: 8 bits, the ninth set": masq(0x0a800000, 8, 1),
		"Masq: 8 bits, the last set":  masq(0x0a000001, 8, 1),
		"Masq: 31 bits, the last set": masq(1, 31, 1),
		"Masq: no bits, the first":    masq(0x80000000, 0, 1),
		"Masq: no bits, the last":     masq(1, 0, 1),
		"Masq: to nothing":            masq(0x0a000000, 8, 0),
		"Masq: a protocol":            with(inside, func(x *api.Rule) { x.Proto = api.Tcp }),
		"Masq: a port":                with(inside, func(x *api.Rule) { x.Port = 1 }),
		"Masq: a host":                with(inside, func(x *api.Rule) { x.Host = 1 }),
		"Masq: a host's port":         with(inside, func(x *api.Rule) { x.HostPort = 1 }),
		"Dnat: no protocol":           with(web, func(x *api.Rule) { x.Proto = 0 }),
		"Dnat of Icmp":                with(web, func(x *api.Rule) { x.Proto = api.Icmp }),
		"Dnat of Gre":                 with(web, func(x *api.Rule) { x.Proto = api.Gre }),
		"Dnat: to nothing":            with(web, func(x *api.Rule) { x.To = 0 }),
		"Dnat: no port":               with(web, func(x *api.Rule) { x.Port = 0 }),
		"Dnat: no host":               with(web, func(x *api.Rule) { x.Host = 0 }),
		"Dnat: no host's port":        with(web, func(x *api.Rule) { x.HostPort = 0 }),
		"Dnat: a net":                 with(web, func(x *api.Rule) { x.Net = 0x0a000000 }),
		"Dnat: bits":                  with(web, func(x *api.Rule) { x.Bits = 8 }),
		"Dnat: bits below 0":          with(web, func(x *api.Rule) { x.Bits = least }),
	}
}

func TestP9_1P1RightWrong(t *testing.T) {
	for name, x := range wrong() {
		if rules.Right(x) {
			t.Errorf("%s: %+v is right", name, x)
		}
	}
}

// TestP9_1RightBits: of all numbers of bits, and a net with each single bit.
func TestP9_1RightBits(t *testing.T) {
	for bits := -3; bits <= 36; bits++ {
		for at := range 32 {
			x := masq(1<<(31-at), bits, 1)
			want := bits >= 0 && bits <= 32 && at < bits
			if got := rules.Right(x); got != want {
				t.Errorf("%x, %d bits: %v", x.Net, bits, got)
			}
		}
	}
}

func TestP9_1RightProtocols(t *testing.T) {
	for proto := range 256 {
		x := web
		x.Proto = byte(proto)
		if got := rules.Right(x); got != (proto == 6 || proto == 17) {
			t.Errorf("protocol %d: %v", proto, got)
		}
	}
}

func TestP9_1RightOfChance(t *testing.T) {
	r, seen := chance(), map[bool]int{}
	for range 20000 {
		x := someRule(r)
		got := rules.Right(x)
		seen[got]++
		if got != right(x) {
			t.Fatalf("%+v: %v", x, got)
		}
	}
	if seen[true] < 1000 || seen[false] < 1000 {
		t.Errorf("%v", seen)
	}
}

func TestP9_1Add(t *testing.T) {
	all := []api.Rule{inside, web, masq(0, 0, 9), dnat(17, 0x01020304, 80, 0x0a000002, 8080)}
	r := rules.New()
	for i, x := range all {
		if e := r.Add(x); e != api.OK || !slices.Equal(r.List(), all[:i+1]) {
			t.Fatalf("%+v: %d, then %+v", x, e, r.List())
		}
	}
}

// TestP9_1AddKnown: a rule is known if it is the same in all, and else not.
func TestP9_1AddKnown(t *testing.T) {
	r := held(t, inside, web)
	for _, x := range []api.Rule{inside, web} {
		if e := r.Add(x); e != api.ErrKnown || len(r.List()) != 2 {
			t.Errorf("%+v: %d, then %+v", x, e, r.List())
		}
	}
	for _, x := range []api.Rule{
		masq(0x0a000000, 8, 0x01020305), masq(0x0a000000, 9, 0x01020304), masq(0x0b000000, 8, 0x01020304),
		dnat(17, 0x01020304, 80, 0x0a000002, 8080), dnat(6, 0x01020305, 80, 0x0a000002, 8080),
		dnat(6, 0x01020304, 81, 0x0a000002, 8080), dnat(6, 0x01020304, 80, 0x0a000003, 8080),
		dnat(6, 0x01020304, 80, 0x0a000002, 8081),
	} {
		if e := r.Add(x); e != api.OK {
			t.Errorf("%+v: %d", x, e)
		}
	}
}

func TestP9_1P2AddWrong(t *testing.T) {
	all := numbered(31)
	full := held(t, numbered(32)...)
	for name, x := range wrong() {
		r := held(t, all...)
		if e := r.Add(x); e != api.ErrForm || !slices.Equal(r.List(), all) {
			t.Errorf("%s: %d", name, e)
		}
		if e := full.Add(x); e != api.ErrForm || len(full.List()) != 32 {
			t.Errorf("%s, where there is no room: %d", name, e)
		}
	}
}

func TestP9_1P2P5AddFull(t *testing.T) {
	all := numbered(32)
	r := held(t, all...)
	for i, x := range all {
		if e := r.Add(x); e != api.ErrKnown {
			t.Errorf("the %d-th one again: %d", i, e)
		}
	}
	if e := r.Add(web); e != api.ErrFull || !slices.Equal(r.List(), all) {
		t.Errorf("one more: %d", e)
	}
	if e := r.Drop(31); e != api.OK {
		t.Errorf("Drop: %d", e)
	}
	if e := r.Add(web); e != api.OK || !slices.Equal(r.List(), append(all[:31:31], web)) {
		t.Errorf("in the place of the last: %d", e)
	}
}

func TestP9_1Drop(t *testing.T) {
	all := numbered(5)
	for i := range all {
		r := held(t, all...)
		want := slices.Concat(all[:i], all[i+1:])
		if e := r.Drop(i); e != api.OK || !slices.Equal(r.List(), want) {
			t.Errorf("Drop(%d): %d, then %+v", i, e, r.List())
		}
		if e := r.Add(all[i]); e != api.OK || !slices.Equal(r.List(), append(want, all[i])) {
			t.Errorf("the %d-th one anew: %d, then %+v", i, e, r.List())
		}
	}
}

func TestP9_1P2DropWrong(t *testing.T) {
	for n := range 3 {
		all := numbered(n)
		r := held(t, all...)
		for _, i := range []int{-1, n, n + 1, 32, least, greatest} {
			if e := r.Drop(i); e != api.ErrNone || !slices.Equal(r.List(), all) {
				t.Errorf("Drop(%d) of %d: %d", i, n, e)
			}
		}
	}
}

// TestP9_2Masq: the example of the chapter, and what lies beside it.
func TestP9_2Masq(t *testing.T) {
	r := held(t, web, inside)
	for _, src := range []uint32{0x0a010203, 0x0a000000, 0x0affffff} {
		if x, ok := r.Masq(src); !ok || x != inside {
			t.Errorf("%x: %+v, %v", src, x, ok)
		}
	}
	for _, src := range []uint32{0, 0x09ffffff, 0x0b000000, 0x8a010203, 0x0a, 0xffffffff} {
		if x, ok := r.Masq(src); ok || x != (api.Rule{}) {
			t.Errorf("%x: %+v, %v", src, x, ok)
		}
	}
}

// TestP9_2MasqBits: of all numbers of bits, an address that differs in one bit alone.
func TestP9_2MasqBits(t *testing.T) {
	for bits := range 33 {
		net := uint32(uint64(0xa5c3f00f) >> (32 - bits) << (32 - bits))
		x := masq(net, bits, 1)
		r := held(t, x)
		if got, ok := r.Masq(net); !ok || got != x {
			t.Errorf("%d bits: %+v, %v", bits, got, ok)
		}
		for at := range 32 {
			got, ok := r.Masq(net ^ 1<<(31-at))
			if ok != (at >= bits) || ok && got != x || !ok && got != (api.Rule{}) {
				t.Errorf("%d bits, another at %d: %+v, %v", bits, at, got, ok)
			}
		}
	}
}

func TestP9_2Dnat(t *testing.T) {
	r := held(t, inside, web)
	if x, ok := r.Dnat(6, 0x01020304, 80); !ok || x != web {
		t.Errorf("%+v, %v", x, ok)
	}
	for _, c := range []struct {
		proto byte
		dst   uint32
		port  uint16
	}{
		{17, 0x01020304, 80}, {0, 0x01020304, 80}, {6, 0x01020305, 80}, {6, 0, 80}, {6, 0x01020304, 81},
		{6, 0x01020304, 0}, {6, 0x01020304, 8080}, {6, 0x0a000002, 8080}, {0, 0x01020304, 0}, {0, 0, 0},
	} {
		if x, ok := r.Dnat(c.proto, c.dst, c.port); ok || x != (api.Rule{}) {
			t.Errorf("%+v: %+v, %v", c, x, ok)
		}
	}
}

// TestP9_2P9_3P6TheFirst: of several that hold, the one is told that stands first, and when it is gone, the next.
func TestP9_2P9_3P6TheFirst(t *testing.T) {
	wide, narrow, other := masq(0, 0, 5), masq(0x0a000000, 8, 6), masq(0x0a000000, 8, 7)
	one, two := dnat(17, 1, 53, 0x0a000009, 53), dnat(17, 1, 53, 0x0a000001, 1)
	r := held(t, one, narrow, two, wide, other)
	for range 2 {
		if x, ok := r.Masq(0x0a000001); !ok || x != narrow {
			t.Errorf("%+v, %v", x, ok)
		}
		if x, ok := r.Masq(0x0b000001); !ok || x != wide {
			t.Errorf("%+v, %v", x, ok)
		}
		if x, ok := r.Dnat(17, 1, 53); !ok || x != one {
			t.Errorf("%+v, %v", x, ok)
		}
	}
	r.Drop(1)
	r.Drop(0)
	if x, ok := r.Masq(0x0a000001); !ok || x != wide {
		t.Errorf("then %+v, %v", x, ok)
	}
	if x, ok := r.Dnat(17, 1, 53); !ok || x != two {
		t.Errorf("then %+v, %v", x, ok)
	}
}

// covers says of how much a rule holds: of all at least that another one holds of.
func covers(x, y api.Rule) bool {
	if x.Kind == api.Masq && y.Kind == api.Masq {
		return x.Bits <= y.Bits && sameUpper(x.Net, y.Net, x.Bits)
	}
	return x.Kind == y.Kind && x.Proto == y.Proto && x.To == y.To && x.Port == y.Port
}

// TestP9_3NeverTold: no rule behind one that holds of as much is told of what it holds of.
func TestP9_3NeverTold(t *testing.T) {
	r, hidden := chance(), 0
	for range 300 {
		all := rules.New()
		for range 30 {
			all.Add(someRule(r))
		}
		list := all.List()
		for i, y := range list {
			if !slices.ContainsFunc(list[:i], func(x api.Rule) bool { return covers(x, y) }) {
				continue
			}
			hidden++
			x, ok := all.Dnat(y.Proto, y.To, y.Port)
			if y.Kind == api.Masq {
				free := uint32(uint64(1)<<(32-y.Bits) - 1)
				x, ok = all.Masq(y.Net | r.Uint32()&free)
			}
			if !ok || x == y {
				t.Fatalf("%+v of %+v: %+v, %v", y, list, x, ok)
			}
		}
	}
	if hidden < 500 {
		t.Errorf("only %d were behind others", hidden)
	}
}
