package table_test

import (
	"math/rand/v2"
	"slices"
	"testing"

	"lychgate/api"
	"lychgate/table"
	"lychgate/tuple"
)

// someTill is mostly one of few, so that times are alike; now and then one at an edge.
func someTill(r *rand.Rand) int {
	if r.IntN(8) == 0 {
		return []int{-1, 0, 1 << 40, 1<<40 + 1, least, greatest}[r.IntN(6)]
	}
	return 10 + r.IntN(6)
}

// step does the same with a table and its model, and holds what they answer against each other.
func step(t *testing.T, r *rand.Rand, x *table.Table, m *model, k api.Tuple) {
	t.Helper()
	till, id := someTill(r), r.IntN(1000)-500
	var got, want api.Errno
	switch r.IntN(7) {
	case 0, 1, 2:
		got, want = x.Put(k, id, till), m.put(k, id, till)
	case 3, 4, 5:
		got, want = x.Move(k, till), m.move(k, till)
	default:
		got, want = x.Drop(k), m.drop(k)
	}
	if got != want {
		t.Fatalf("%+v, %d, %d: %d, not %d", k, id, till, got, want)
	}
}

// someTuples are some that stand together, some that do not, and some of Gre with other calls of the side that sends.
func someTuples(r *rand.Rand) []api.Tuple {
	all := crowd(8)
	for range 8 {
		k := someTuple(r)
		all = append(all, k, tuple.Reverse(k))
	}
	for range 4 {
		all = append(all, api.Tuple{Proto: 47, Src: 1, Dst: 2, SrcPort: uint16(r.IntN(3)), DstPort: uint16(r.IntN(2))})
	}
	return all
}

func TestP6_1P6_2Scripts(t *testing.T) {
	r := chance()
	tuples := someTuples(r)
	for range 60 {
		limit := 1 + r.IntN(len(tuples))
		x, m := table.New(limit), &model{limit: limit}
		for range 150 {
			step(t, r, x, m, tuples[r.IntN(len(tuples))])
			m.check(t, x, tuples, 10+r.IntN(6), 1<<40)
		}
	}
}

// TestP4Scripts: of tables and their Forks, each goes on by itself.
func TestP4Scripts(t *testing.T) {
	r := chance()
	tuples := someTuples(r)
	for range 30 {
		limit := 1 + r.IntN(len(tuples))
		tables, models := []*table.Table{table.New(limit)}, []*model{{limit: limit}}
		for range 200 {
			at := r.IntN(len(tables))
			step(t, r, tables[at], models[at], tuples[r.IntN(len(tuples))])
			if len(tables) < 5 && r.IntN(20) == 0 {
				tables, models = append(tables, tables[at].Fork()), append(models, models[at].fork())
			}
			for i := range tables {
				models[i].check(t, tables[i], tuples, 12, 1<<40)
			}
		}
	}
}

// TestP4P6_2Fork: both have the same, and what is Put, Moved and Dropped in the one is so in that one alone.
func TestP4P6_2Fork(t *testing.T) {
	all := crowd(12)
	x, m := table.New(9), &model{limit: 9}
	for i, k := range all[:7] {
		x.Put(k, i, 5)
		m.put(k, i, 5)
	}
	for range 2 {
		f, n := x.Fork(), m.fork()
		n.check(t, f, all, 4, 5, 6)
		f.Put(all[7], 70, 5)
		n.put(all[7], 70, 5)
		x.Put(all[8], 80, 5)
		m.put(all[8], 80, 5)
		f.Move(all[0], 5)
		n.move(all[0], 5)
		x.Move(all[1], 4)
		m.move(all[1], 4)
		f.Drop(all[2])
		n.drop(all[2])
		x.Drop(all[3])
		m.drop(all[3])
		n.check(t, f, all, 4, 5, 6)
		m.check(t, x, all, 4, 5, 6)
		x, m = f, n // and once more with the Fork's own
	}
}

func TestP4ForkKeepsTheLimit(t *testing.T) {
	x := filled(t, 3, 5, 5)
	f := x.Fork()
	if f.Put(numbered(8), 8, 5) != api.OK || f.Put(numbered(9), 9, 5) != api.ErrFull {
		t.Error("the Fork has another limit")
	}
	if x.Put(numbered(9), 9, 5) != api.OK || x.Put(numbered(8), 8, 5) != api.ErrFull {
		t.Error("the table has what its Fork was given")
	}
	g := table.New(2).Fork()
	if g == nil || g.Len() != 0 || g.Put(numbered(0), 0, 0) != api.OK {
		t.Error("of an empty one")
	}
}

// TestP6_3DueLater: what comes by a later time only is not Due now, and what was Due now comes first then.
func TestP6_3DueLater(t *testing.T) {
	r := chance()
	for range 200 {
		var tills []int
		for range 30 {
			tills = append(tills, r.IntN(20))
		}
		x := filled(t, 30, tills...)
		now, later := r.IntN(20), 20+r.IntN(5)
		due, all := x.Due(now), x.Due(later)
		if len(all) != 30 || !slices.Equal(all[:len(due)], due) {
			t.Fatalf("%v, then %v", due, all)
		}
		for _, k := range due {
			if _, till, _ := x.Get(k); till > now {
				t.Errorf("%d is Due at %d", till, now)
			}
		}
		for _, k := range all[len(due):] {
			if _, till, _ := x.Get(k); till <= now || slices.Contains(due, k) {
				t.Errorf("%d is not Due at %d", till, now)
			}
		}
	}
}

func TestP6_3DroppedIsNotDue(t *testing.T) {
	x := filled(t, 9, 5, 3, 5, 1, 3, 5, 9, 0, 5)
	for i := range 9 {
		due := x.Due(5)
		x.Drop(numbered(i))
		want := slices.DeleteFunc(due, func(k api.Tuple) bool { return k == numbered(i) })
		if got := x.Due(5); !slices.Equal(got, want) {
			t.Errorf("%v, not %v", got, want)
		}
	}
}

// TestP6_4E6LimitsAreKept: whatever is tried, there are never more than the limit, and as many as that may be.
func TestP6_4E6LimitsAreKept(t *testing.T) {
	for _, limit := range []int{1, 2, 64, 255, 256, 257, 4095, 4096} {
		x := table.New(limit)
		for i := range limit + 10 {
			want := api.OK
			if i >= limit {
				want = api.ErrFull
			}
			if e := x.Put(numbered(i), i, i%7); e != want || x.Len() != min(i+1, limit) {
				t.Fatalf("limit %d: the one behind %d: %d, and there are %d", limit, i, e, x.Len())
			}
		}
		if due := x.Due(6); len(due) != limit {
			t.Errorf("limit %d: %d are Due", limit, len(due))
		}
		if x.Drop(numbered(0)) != api.OK || x.Put(numbered(limit), 0, 0) != api.OK || x.Put(numbered(0), 0, 0) != api.ErrFull {
			t.Errorf("limit %d: a place that is free again", limit)
		}
		if x.Len() != limit {
			t.Errorf("limit %d: there are %d", limit, x.Len())
		}
	}
}

// TestE6NumbersAreHeldOnce: of one tuple there is one number, the first one that was told.
func TestE6NumbersAreHeldOnce(t *testing.T) {
	x := table.New(8)
	for i := range 5 {
		x.Put(numbered(1), i, i)
	}
	if id, till, ok := x.Get(numbered(1)); id != 0 || till != 0 || !ok || x.Len() != 1 || len(x.Due(9)) != 1 {
		t.Errorf("%d, %d, %v; there are %d", id, till, ok, x.Len())
	}
}
