package table_test

import (
	"cmp"
	"math/rand/v2"
	"slices"
	"testing"

	"lychgate/api"
	"lychgate/table"
	"lychgate/tuple"
)

// Numbers that are far out.
const (
	least    = -1 << 63
	greatest = 1<<63 - 1
)

// chance is the same row of numbers in every run.
func chance() *rand.Rand {
	return rand.New(rand.NewPCG(6, 3))
}

func someTuple(r *rand.Rand) api.Tuple {
	return api.Tuple{
		Proto: []byte{1, 6, 17, 47}[r.IntN(4)], Src: r.Uint32(), Dst: r.Uint32(),
		SrcPort: uint16(r.Uint32()), DstPort: uint16(r.Uint32()),
	}
}

// numbered is one of many tuples that differ.
func numbered(n int) api.Tuple {
	return api.Tuple{Proto: 6, Src: 0x0a000001, Dst: uint32(n), SrcPort: 7, DstPort: 80}
}

// crowd are tuples whose Hash ends alike, so that they stand together in whatever way a table parts them by it.
func crowd(n int) []api.Tuple {
	var all []api.Tuple
	for i := 0; len(all) < n; i++ {
		if k := numbered(i); tuple.Hash(k)&0xfff == 0 {
			all = append(all, k)
		}
	}
	return all
}

// filled is a table of tuples, each with its place as number, till these times.
func filled(t *testing.T, limit int, tills ...int) *table.Table {
	t.Helper()
	x := table.New(limit)
	for i, till := range tills {
		if e := x.Put(numbered(i), i, till); e != api.OK {
			t.Fatalf("Put of %d: %d", i, e)
		}
	}
	return x
}

// places are the places in filled of tuples.
func places(l []api.Tuple) []int {
	var all []int
	for _, k := range l {
		all = append(all, int(k.Dst))
	}
	return all
}

type kept struct {
	key      api.Tuple
	id, till int
}

// model is a table said over again in the plainest way: rows as they were Put or Moved, one behind the other.
type model struct {
	limit int
	rows  []kept
}

func (m *model) at(k api.Tuple) int {
	if k.Proto == 47 {
		k.SrcPort = 0
	}
	return slices.IndexFunc(m.rows, func(r kept) bool { return r.key == k })
}

func (m *model) put(k api.Tuple, id, till int) api.Errno {
	switch {
	case till < 0 || till > 1<<40:
		return api.ErrRange
	case m.at(k) >= 0:
		return api.ErrKnown
	case len(m.rows) == m.limit:
		return api.ErrFull
	}
	if k.Proto == 47 {
		k.SrcPort = 0
	}
	m.rows = append(m.rows, kept{k, id, till})
	return api.OK
}

func (m *model) move(k api.Tuple, till int) api.Errno {
	at := m.at(k)
	switch {
	case till < 0 || till > 1<<40:
		return api.ErrRange
	case at < 0:
		return api.ErrNone
	}
	r := m.rows[at]
	r.till = till
	m.rows = append(slices.Delete(m.rows, at, at+1), r)
	return api.OK
}

func (m *model) drop(k api.Tuple) api.Errno {
	at := m.at(k)
	if at < 0 {
		return api.ErrNone
	}
	m.rows = slices.Delete(m.rows, at, at+1)
	return api.OK
}

func (m *model) due(now int) []api.Tuple {
	rows := slices.Clone(m.rows)
	slices.SortStableFunc(rows, func(a, b kept) int { return cmp.Compare(a.till, b.till) })
	var all []api.Tuple
	for _, r := range rows {
		if r.till <= now {
			all = append(all, r.key)
		}
	}
	return all
}

func (m *model) fork() *model {
	return &model{m.limit, slices.Clone(m.rows)}
}

// check holds all that a table tells of tuples and times against its model.
func (m *model) check(t *testing.T, x *table.Table, tuples []api.Tuple, nows ...int) {
	t.Helper()
	for _, k := range tuples {
		var want kept
		at := m.at(k)
		if at >= 0 {
			want = m.rows[at]
		}
		if id, till, ok := x.Get(k); id != want.id || till != want.till || ok != (at >= 0) {
			t.Fatalf("Get of %+v: %d, %d, %v, not %+v", k, id, till, ok, want)
		}
	}
	for _, now := range nows {
		if got, want := x.Due(now), m.due(now); !slices.Equal(got, want) {
			t.Fatalf("Due(%d): %v, not %v", now, got, want)
		}
	}
	var first api.Tuple
	all := m.due(greatest)
	if len(all) > 0 {
		first = all[0]
	}
	if k, ok := x.First(); k != first || ok != (len(all) > 0) {
		t.Fatalf("First: %+v, %v, not %+v", k, ok, first)
	}
	if x.Len() != len(m.rows) {
		t.Fatalf("Len: %d, not %d", x.Len(), len(m.rows))
	}
}
