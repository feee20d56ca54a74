package rules_test

import (
	"math/rand/v2"
	"reflect"
	"slices"
	"testing"

	"lychgate/api"
	"lychgate/rules"
	"lychgate/segs"
	"lychgate/tuple"
)

func TestP1Nil(t *testing.T) {
	var r *rules.Rules
	for _, x := range []api.Rule{{}, inside, web} {
		if e := r.Add(x); e != api.ErrNil {
			t.Errorf("Add of %+v: %d", x, e)
		}
	}
	for _, i := range []int{0, -1, 1, least, greatest} {
		if e := r.Drop(i); e != api.ErrNil {
			t.Errorf("Drop(%d): %d", i, e)
		}
	}
	if x, ok := r.Masq(0x0a000001); ok || x != (api.Rule{}) {
		t.Errorf("Masq: %+v, %v", x, ok)
	}
	if x, ok := r.Dnat(6, 1, 1); ok || x != (api.Rule{}) {
		t.Errorf("Dnat: %+v, %v", x, ok)
	}
	if len(r.List()) != 0 || r.Fork() != nil {
		t.Errorf("%v, %v", r.List(), r.Fork())
	}
}

// TestP3ListIsTheCallers: what is written over an answer, and behind its end, changes neither the rules nor another answer.
func TestP3ListIsTheCallers(t *testing.T) {
	all := numbered(5)
	r := held(t, all...)
	first, other := r.List(), r.List()
	other = append(other[:1], web, web)
	clear(other[:cap(other)])
	if !slices.Equal(first, all) || !slices.Equal(r.List(), all) {
		t.Errorf("%+v; %+v", first, r.List())
	}
	r.Drop(0)
	r.Add(web)
	if !slices.Equal(first, all) {
		t.Errorf("%+v, when the rules go on", first)
	}
}

// step does the same with rules and their model, and holds what they answer against each other.
func step(t *testing.T, r *rand.Rand, all *rules.Rules, m *model) {
	t.Helper()
	if r.IntN(5) == 0 {
		i := r.IntN(len(m.list)+3) - 1
		if got, want := all.Drop(i), m.drop(i); got != want {
			t.Fatalf("Drop(%d): %d, not %d", i, got, want)
		}
		return
	}
	x := someRule(r)
	if got, want := all.Add(x), m.add(x); got != want {
		t.Fatalf("Add of %+v: %d, not %d", x, got, want)
	}
}

func TestP9_1P9_2Scripts(t *testing.T) {
	r, most := chance(), 0
	for range 60 {
		all, m := rules.New(), &model{}
		for range 200 {
			step(t, r, all, m)
			m.check(t, all)
			most = max(most, len(m.list))
		}
	}
	if most != api.MaxRules {
		t.Errorf("there were never more than %d", most)
	}
}

// TestP4Scripts: of rules and their Forks, each goes on by itself.
func TestP4Scripts(t *testing.T) {
	r := chance()
	for range 30 {
		them, models := []*rules.Rules{rules.New()}, []*model{{}}
		for range 100 {
			at := r.IntN(len(them))
			step(t, r, them[at], models[at])
			if len(them) < 5 && r.IntN(10) == 0 {
				them, models = append(them, them[at].Fork()), append(models, models[at].fork())
			}
			for i := range them {
				models[i].check(t, them[i])
			}
		}
	}
}

func TestP4P9_1Fork(t *testing.T) {
	all := numbered(5) // a list that has grown to 5 has room behind it
	r := held(t, all...)
	f := r.Fork()
	if !slices.Equal(f.List(), all) {
		t.Errorf("the Fork has %+v", f.List())
	}
	r.Add(inside)
	f.Add(web)
	if !slices.Equal(r.List(), append(all[:5:5], inside)) || !slices.Equal(f.List(), append(all[:5:5], web)) {
		t.Errorf("%+v; the Fork: %+v", r.List(), f.List())
	}
	r.Drop(0)
	if !slices.Equal(r.List(), append(all[1:5:5], inside)) || !slices.Equal(f.List(), append(all[:5:5], web)) {
		t.Errorf("%+v; the Fork: %+v", r.List(), f.List())
	}
}

func TestP6NothingIsKept(t *testing.T) {
	tell := func() (all []any) {
		r := rules.New()
		for _, x := range []api.Rule{inside, web, inside, {}} {
			all = append(all, r.Add(x), rules.Right(x), r.List())
		}
		x, ok := r.Masq(0x0a000001)
		y, found := r.Dnat(6, 0x01020304, 80)
		return append(all, x, ok, y, found, r.Drop(0), r.Drop(1), r.Fork().List())
	}
	first := tell()
	other := held(t, numbered(32)...)
	other.Add(web)
	other.Drop(3)
	if again := tell(); !reflect.DeepEqual(first, again) {
		t.Errorf("%v, then %v", first, again)
	}
}

// TestE6RulesKeepTheirLimit: whatever is added and taken away, there are never more than may be, and no two the same.
func TestE6RulesKeepTheirLimit(t *testing.T) {
	r := chance()
	all := rules.New()
	for range 2000 {
		all.Add(someRule(r))
		if r.IntN(20) == 0 {
			all.Drop(r.IntN(api.MaxRules))
		}
		list := all.List()
		if len(list) > api.MaxRules {
			t.Fatalf("%d rules", len(list))
		}
		seen := map[api.Rule]bool{}
		for _, x := range list {
			if seen[x] || !rules.Right(x) {
				t.Fatalf("%+v in %+v", x, list)
			}
			seen[x] = true
		}
	}
}

// TestE1RulesOfPackets: a segment from inside has the rule of where it comes from, one from outside that of where it goes to.
func TestE1RulesOfPackets(t *testing.T) {
	r := held(t, web, inside)
	p, e := segs.BuildTcp(api.Packet{Ttl: 9, Src: 0x0a000002, Dst: 0x08080808}, api.Segment{Src: 5, Dst: 21, Flags: api.Syn})
	k, f := tuple.Of(p)
	if x, ok := r.Masq(k.Src); e != api.OK || f != api.OK || !ok || x.To != 0x01020304 {
		t.Errorf("%+v, %v, %d, %d", x, ok, e, f)
	}
	p, e = segs.BuildTcp(api.Packet{Ttl: 9, Src: 0x08080808, Dst: 0x01020304}, api.Segment{Src: 5, Dst: 80, Flags: api.Syn})
	k, f = tuple.Of(p)
	if x, ok := r.Dnat(k.Proto, k.Dst, k.DstPort); e != api.OK || f != api.OK || !ok || x.Host != 0x0a000002 || x.HostPort != 8080 {
		t.Errorf("%+v, %v, %d, %d", x, ok, e, f)
	}
	if x, ok := r.Masq(k.Src); ok {
		t.Errorf("of what comes from outside: %+v", x)
	}
}
