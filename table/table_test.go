package table_test

import (
	"slices"
	"testing"

	"lychgate/api"
	"lychgate/table"
	"lychgate/tuple"
)

func TestP6_1New(t *testing.T) {
	for _, limit := range []int{0, -1, 4097, 65536, 1<<32 + 1, least, greatest} {
		if table.New(limit) != nil {
			t.Errorf("there is one of %d", limit)
		}
	}
	for _, limit := range []int{1, 2, 64, 4095, 4096} {
		x := table.New(limit)
		if x == nil {
			t.Errorf("there is none of %d", limit)
			continue
		}
		(&model{limit: limit}).check(t, x, []api.Tuple{{}, numbered(0)}, least, -1, 0, greatest)
	}
}

func TestP6_1Put(t *testing.T) {
	x := table.New(4)
	for i, till := range []int{0, 1, 1<<40 - 1, 1 << 40} {
		id := []int{least, -1, 0, greatest}[i]
		if e := x.Put(numbered(i), id, till); e != api.OK {
			t.Errorf("till %d: %d", till, e)
		}
		if gotId, gotTill, ok := x.Get(numbered(i)); gotId != id || gotTill != till || !ok || x.Len() != i+1 {
			t.Errorf("%d till %d became %d till %d, %v", id, till, gotId, gotTill, ok)
		}
	}
}

func TestP6_1P2PutWrong(t *testing.T) {
	full := filled(t, 3, 7, 5, 5)
	roomy := filled(t, 4, 7, 5, 5)
	for _, c := range []struct {
		name string
		x    *table.Table
		k    api.Tuple
		till int
		want api.Errno
	}{
		{"nil", nil, numbered(9), 5, api.ErrNil},
		{"nil, and a wrong time", nil, numbered(9), -1, api.ErrNil},
		{"a time below 0", roomy, numbered(9), -1, api.ErrRange},
		{"the least time", roomy, numbered(9), least, api.ErrRange},
		{"a time by one too great", roomy, numbered(9), 1<<40 + 1, api.ErrRange},
		{"the greatest time", roomy, numbered(9), greatest, api.ErrRange},
		{"a wrong time of one that is there", roomy, numbered(1), -1, api.ErrRange},
		{"a wrong time, and no room", full, numbered(9), 1<<40 + 1, api.ErrRange},
		{"a wrong time, there, and no room", full, numbered(1), -1, api.ErrRange},
		{"one that is there", roomy, numbered(1), 6, api.ErrKnown},
		{"one that is there, with its time", roomy, numbered(1), 5, api.ErrKnown},
		{"one that is there, and no room", full, numbered(1), 6, api.ErrKnown},
		{"no room", full, numbered(9), 5, api.ErrFull},
	} {
		if e := c.x.Put(c.k, 99, c.till); e != c.want {
			t.Errorf("%s: %d, not %d", c.name, e, c.want)
		}
	}
	unchanged(t, full, 3)
	unchanged(t, roomy, 4)
}

// unchanged holds a table against filled(7, 5, 5).
func unchanged(t *testing.T, x *table.Table, limit int) {
	t.Helper()
	m := &model{limit, []kept{{numbered(0), 0, 7}, {numbered(1), 1, 5}, {numbered(2), 2, 5}}}
	m.check(t, x, []api.Tuple{numbered(0), numbered(1), numbered(2), numbered(3), numbered(9)}, 4, 5, 6, 7, greatest)
}

func TestP6_1Move(t *testing.T) {
	x := filled(t, 3, 10, 20, 30)
	for _, c := range []struct {
		place, till int
		want        []int
	}{
		{0, 25, []int{1, 0, 2}},
		{2, 0, []int{2, 1, 0}},
		{2, 1 << 40, []int{1, 0, 2}},
		{0, 20, []int{1, 0, 2}},
		{1, 20, []int{0, 1, 2}},
		{0, 20, []int{1, 0, 2}},
		{0, 20, []int{1, 0, 2}},
		{2, 20, []int{1, 0, 2}},
		{1, 19, []int{1, 0, 2}},
	} {
		if e := x.Move(numbered(c.place), c.till); e != api.OK {
			t.Errorf("%+v: %d", c, e)
		}
		if got := places(x.Due(greatest)); !slices.Equal(got, c.want) {
			t.Errorf("%+v: %v", c, got)
		}
		if id, till, ok := x.Get(numbered(c.place)); id != c.place || till != c.till || !ok || x.Len() != 3 {
			t.Errorf("%+v: %d, %d, %v", c, id, till, ok)
		}
	}
}

func TestP6_1P2MoveWrong(t *testing.T) {
	x := filled(t, 3, 7, 5, 5)
	for _, c := range []struct {
		name string
		x    *table.Table
		k    api.Tuple
		till int
		want api.Errno
	}{
		{"nil", nil, numbered(0), 5, api.ErrNil},
		{"nil, and a wrong time", nil, numbered(0), -1, api.ErrNil},
		{"a time below 0", x, numbered(1), -1, api.ErrRange},
		{"the least time", x, numbered(1), least, api.ErrRange},
		{"a time by one too great", x, numbered(1), 1<<40 + 1, api.ErrRange},
		{"the greatest time", x, numbered(1), greatest, api.ErrRange},
		{"a wrong time of one that is not there", x, numbered(9), -1, api.ErrRange},
		{"one that is not there", x, numbered(9), 5, api.ErrNone},
		{"the zero tuple", x, api.Tuple{}, 5, api.ErrNone},
	} {
		if e := c.x.Move(c.k, c.till); e != c.want {
			t.Errorf("%s: %d, not %d", c.name, e, c.want)
		}
	}
	unchanged(t, x, 3)
}

func TestP6_1Drop(t *testing.T) {
	x := filled(t, 3, 7, 5, 5)
	for _, k := range []api.Tuple{numbered(9), {}, tuple.Reverse(numbered(1))} {
		if e := x.Drop(k); e != api.ErrNone {
			t.Errorf("%+v: %d", k, e)
		}
	}
	unchanged(t, x, 3)
	if e := x.Drop(numbered(1)); e != api.OK {
		t.Error(e)
	}
	if e := x.Drop(numbered(1)); e != api.ErrNone {
		t.Errorf("again: %d", e)
	}
	m := &model{3, []kept{{numbered(0), 0, 7}, {numbered(2), 2, 5}}}
	m.check(t, x, []api.Tuple{numbered(0), numbered(1), numbered(2)}, 5, 7)
	if e := (*table.Table)(nil).Drop(numbered(0)); e != api.ErrNil {
		t.Errorf("nil: %d", e)
	}
	if e := x.Move(numbered(1), 9); e != api.ErrNone {
		t.Errorf("Move of what is gone: %d", e)
	}
}

// TestP6_1PutAgain: what is Dropped may be Put again, with another number, behind those of the same time.
func TestP6_1PutAgain(t *testing.T) {
	x := filled(t, 3, 5, 5, 5)
	if x.Drop(numbered(0)) != api.OK || x.Put(numbered(0), 77, 5) != api.OK {
		t.Fatal("it may not")
	}
	if id, till, ok := x.Get(numbered(0)); id != 77 || till != 5 || !ok {
		t.Errorf("%d, %d, %v", id, till, ok)
	}
	if got := places(x.Due(5)); !slices.Equal(got, []int{1, 2, 0}) {
		t.Error(got)
	}
}

// TestP6_1LookedUpByKey: of Gre the SrcPort plays no part, of others it does.
func TestP6_1LookedUpByKey(t *testing.T) {
	gre := func(port uint16) api.Tuple { return api.Tuple{Proto: 47, Src: 1, Dst: 2, SrcPort: port, DstPort: 9} }
	x := table.New(5)
	if e := x.Put(gre(5), 3, 8); e != api.OK {
		t.Fatal(e)
	}
	if x.Put(gre(6), 4, 8) != api.ErrKnown || x.Put(gre(0), 4, 8) != api.ErrKnown {
		t.Error("it is put twice")
	}
	for _, port := range []uint16{0, 5, 7, 65535} {
		if id, till, ok := x.Get(gre(port)); id != 3 || till != 8 || !ok {
			t.Errorf("%d: %d, %d, %v", port, id, till, ok)
		}
	}
	if k, ok := x.First(); k != gre(0) || !ok {
		t.Errorf("%+v, %v", k, ok)
	}
	if e := x.Move(gre(9), 4); e != api.OK {
		t.Error(e)
	}
	if l := x.Due(4); !slices.Equal(l, []api.Tuple{gre(0)}) {
		t.Error(l)
	}
	if x.Drop(gre(7)) != api.OK || x.Len() != 0 {
		t.Error("it is not gone")
	}
	for _, proto := range []byte{0, 1, 6, 17, 46, 48} {
		x := table.New(5)
		a, b := api.Tuple{Proto: proto, SrcPort: 5}, api.Tuple{Proto: proto, SrcPort: 6}
		if x.Put(a, 1, 1) != api.OK || x.Put(b, 2, 1) != api.OK || !slices.Equal(x.Due(1), []api.Tuple{a, b}) {
			t.Errorf("protocol %d: %v", proto, x.Due(1))
		}
	}
}

// TestP6_1TuplesAreToldApart: all parts of a tuple play a part.
func TestP6_1TuplesAreToldApart(t *testing.T) {
	all := []api.Tuple{
		{}, {Proto: 1}, {Src: 1}, {Dst: 1}, {SrcPort: 1}, {DstPort: 1}, {Proto: 47}, {Proto: 47, DstPort: 1}, {Src: 1, Dst: 1},
	}
	x := table.New(len(all))
	for i, k := range all {
		if _, _, ok := x.Get(k); ok || x.Put(k, i, i) != api.OK {
			t.Errorf("%+v is there already", k)
		}
	}
	for i, k := range all {
		if id, till, ok := x.Get(k); id != i || till != i || !ok {
			t.Errorf("%+v: %d, %d, %v", k, id, till, ok)
		}
	}
}

// alike are two tuples of the same Hash.
func alike() (a, b api.Tuple) {
	r := chance()
	seen := map[uint32]api.Tuple{}
	for {
		k := tuple.Key(someTuple(r))
		if other, ok := seen[tuple.Hash(k)]; ok && other != k {
			return other, k
		}
		seen[tuple.Hash(k)] = k
	}
}

func TestP6_1TuplesOfTheSameHashAreToldApart(t *testing.T) {
	a, b := alike()
	x := table.New(2)
	m := &model{limit: 2}
	all := []api.Tuple{a, b}
	m.put(a, 1, 5)
	if x.Put(a, 1, 5) != api.OK {
		t.Fatal("Put")
	}
	m.check(t, x, all, 5)
	if x.Drop(b) != api.ErrNone || x.Move(b, 4) != api.ErrNone {
		t.Error("another one is taken for it")
	}
	m.put(b, 2, 4)
	if x.Put(b, 2, 4) != api.OK {
		t.Fatal("Put")
	}
	m.check(t, x, all, 4, 5)
	m.move(b, 6)
	if x.Move(b, 6) != api.OK {
		t.Error("Move")
	}
	m.check(t, x, all, 4, 5, 6)
	m.drop(a)
	if x.Drop(a) != api.OK {
		t.Error("Drop")
	}
	m.check(t, x, all, 4, 5, 6)
}

func TestP6_2Get(t *testing.T) {
	x := filled(t, 3, 7, 0)
	for _, k := range []api.Tuple{numbered(2), {}, tuple.Reverse(numbered(0))} {
		if id, till, ok := x.Get(k); id != 0 || till != 0 || ok {
			t.Errorf("%+v: %d, %d, %v", k, id, till, ok)
		}
	}
	if id, till, ok := x.Get(numbered(1)); id != 1 || till != 0 || !ok {
		t.Errorf("%d, %d, %v", id, till, ok)
	}
}

func TestP6_2Due(t *testing.T) {
	x := filled(t, 7, 5, 3, 1<<40, 0, 5, 3, 5)
	for _, c := range []struct {
		now  int
		want []int
	}{
		{least, nil},
		{-1, nil},
		{0, []int{3}},
		{2, []int{3}},
		{3, []int{3, 1, 5}},
		{4, []int{3, 1, 5}},
		{5, []int{3, 1, 5, 0, 4, 6}},
		{1<<40 - 1, []int{3, 1, 5, 0, 4, 6}},
		{1 << 40, []int{3, 1, 5, 0, 4, 6, 2}},
		{1<<40 + 1, []int{3, 1, 5, 0, 4, 6, 2}},
		{greatest, []int{3, 1, 5, 0, 4, 6, 2}},
	} {
		for range 2 { // what is Due stays
			if got := places(x.Due(c.now)); !slices.Equal(got, c.want) {
				t.Errorf("Due(%d): %v, not %v", c.now, got, c.want)
			}
		}
	}
	if x.Len() != 7 {
		t.Error(x.Len())
	}
}

func TestP6_2DueExample(t *testing.T) {
	x := filled(t, 2, 5, 3)
	if l := x.Due(4); !slices.Equal(l, []api.Tuple{numbered(1)}) {
		t.Error(l)
	}
}

func TestP6_2First(t *testing.T) {
	x := table.New(4)
	if k, ok := x.First(); k != (api.Tuple{}) || ok {
		t.Errorf("of none: %+v, %v", k, ok)
	}
	first := func(want int) {
		t.Helper()
		if k, ok := x.First(); k != numbered(want) || !ok {
			t.Errorf("%+v, %v, not %d", k, ok, want)
		}
	}
	x.Put(numbered(0), 0, 1<<40)
	first(0)
	x.Put(numbered(1), 1, 8)
	first(1)
	x.Put(numbered(2), 2, 8)
	first(1)
	x.Move(numbered(1), 8)
	first(2)
	x.Put(numbered(3), 3, 0)
	first(3)
	x.Drop(numbered(3))
	first(2)
	x.Drop(numbered(2))
	x.Drop(numbered(1))
	first(0)
	x.Drop(numbered(0))
	if k, ok := x.First(); k != (api.Tuple{}) || ok {
		t.Errorf("of none any more: %+v, %v", k, ok)
	}
}

func TestP6_2ZeroTupleIsOne(t *testing.T) {
	x := table.New(1)
	x.Put(api.Tuple{}, 0, 0)
	if k, ok := x.First(); k != (api.Tuple{}) || !ok || x.Len() != 1 || len(x.Due(0)) != 1 {
		t.Errorf("%+v, %v", k, ok)
	}
	if id, till, ok := x.Get(api.Tuple{}); id != 0 || till != 0 || !ok {
		t.Errorf("%d, %d, %v", id, till, ok)
	}
}
