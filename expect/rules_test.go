package expect_test

import (
	"math/rand/v2"
	"reflect"
	"slices"
	"testing"

	"lychgate/api"
	"lychgate/expect"
)

func TestP1Nil(t *testing.T) {
	var b *expect.Book
	for _, e := range []api.Expect{{}, plain(9, 2, 10), plain(9, -1, 10)} {
		if got := b.Add(e); got != api.ErrNil {
			t.Errorf("Add of %+v: %d", e, got)
		}
	}
	for _, n := range []int{least, -1, 0, 1, 10, greatest} {
		for _, k := range []api.Tuple{{}, to(plain(9, 2, 10), 1, 1)} {
			if e, ok := b.Peek(k, n); ok || e != (api.Expect{}) {
				t.Errorf("Peek(%+v, %d): %+v, %v", k, n, e, ok)
			}
			if e, ok := b.Match(k, n); ok || e != (api.Expect{}) {
				t.Errorf("Match(%+v, %d): %+v, %v", k, n, e, ok)
			}
		}
		if len(b.Gone(n)) != 0 || len(b.Due(n)) != 0 {
			t.Errorf("%d: %v, %v", n, b.Gone(n), b.Due(n))
		}
	}
	if len(b.List()) != 0 || b.Fork() != nil {
		t.Errorf("%v, %v", b.List(), b.Fork())
	}
}

// scribble writes over a list, and behind its end.
func scribble(all []api.Expect) {
	all = append(all, plain(77, 7, 7))
	clear(all[:cap(all)])
}

// TestP3ListsAreTheCallers: what is written over an answer, and behind its end, changes neither the book, nor its Fork, nor
// another answer.
func TestP3ListsAreTheCallers(t *testing.T) {
	all := numbered(21)
	b := held(t, all...)
	f := b.Fork()
	first := b.List()
	scribble(b.List())
	if !slices.Equal(first, all) || !slices.Equal(b.List(), all) || !slices.Equal(f.List(), all) {
		t.Fatalf("%+v; %+v; of the Fork %+v", first, b.List(), f.List())
	}
	m := &model{slices.Clone(all)}
	out := b.Gone(3)
	kept := slices.Clone(out)
	m.gone(3)
	scribble(b.Gone(2))
	m.gone(2)
	m.check(t, b)
	scribble(b.Due(85))
	m.due(85)
	m.check(t, b)
	b.Add(plain(99, 3, 3))
	if !slices.Equal(out, kept) || !slices.Equal(first, all) || !slices.Equal(f.List(), all) {
		t.Errorf("%+v; %+v; of the Fork %+v", out, first, f.List())
	}
}

// TestP3AListGrowsByItself: what is written behind the end of one answer is in no other one, and not in the book.
func TestP3AListGrowsByItself(t *testing.T) {
	b := held(t, numbered(5)...)
	lists := [][]api.Expect{b.List(), b.List(), b.Fork().Gone(0), b.Fork().Due(greatest)}
	for i := range lists {
		lists[i] = append(lists[i], plain(uint16(70+i), 70+i, 70))
	}
	b.Add(plain(60, 60, 60))
	for i, all := range lists {
		if all[len(all)-1] != plain(uint16(70+i), 70+i, 70) {
			t.Errorf("the list %d ends with %+v", i, all[len(all)-1])
		}
	}
	if all := b.List(); len(all) != 6 || all[5] != plain(60, 60, 60) {
		t.Errorf("%+v", all)
	}
}

// step does the same with a book and its model, and holds what they answer against each other.
func step(t *testing.T, r *rand.Rand, b *expect.Book, m *model) {
	t.Helper()
	k, now, master := someTuple(r), someTime(r), r.IntN(13)-1
	switch r.IntN(30) {
	case 0:
		if got, want := b.Gone(master), m.gone(master); !slices.Equal(got, want) {
			t.Fatalf("Gone(%d): %+v, not %+v", master, got, want)
		}
	case 1:
		now = min(now, 5)
		if got, want := b.Due(now), m.due(now); !slices.Equal(got, want) {
			t.Fatalf("Due(%d): %+v, not %+v", now, got, want)
		}
	case 2, 3, 4:
		got, ok := b.Match(k, now)
		if want, there := m.match(k, now); got != want || ok != there {
			t.Fatalf("Match(%+v, %d): %+v, %v, not %+v, %v", k, now, got, ok, want, there)
		}
	case 5, 6, 7, 8:
		got, ok := b.Peek(k, now)
		if want, there := m.peek(k, now); got != want || ok != there {
			t.Fatalf("Peek(%+v, %d): %+v, %v, not %+v, %v", k, now, got, ok, want, there)
		}
	default:
		e := someExpect(r)
		if expect.Right(e) != right(e) {
			t.Fatalf("Right of %+v: %v", e, expect.Right(e))
		}
		if got, want := b.Add(e), m.add(e); got != want {
			t.Fatalf("Add of %+v: %d, not %d", e, got, want)
		}
	}
}

func TestP12_1P12_2Scripts(t *testing.T) {
	r, most := chance(), 0
	for range 200 {
		b, m := expect.New(), &model{}
		for range 200 {
			step(t, r, b, m)
			m.check(t, b)
			most = max(most, len(m.list))
		}
	}
	if most != api.MaxExp {
		t.Errorf("there were never more than %d", most)
	}
}

// TestP4Scripts: of books and their Forks, each goes on by itself.
func TestP4Scripts(t *testing.T) {
	r := chance()
	for range 60 {
		books, models := []*expect.Book{expect.New()}, []*model{{}}
		for range 120 {
			at := r.IntN(len(books))
			step(t, r, books[at], models[at])
			if len(books) < 5 && r.IntN(12) == 0 {
				books, models = append(books, books[at].Fork()), append(models, models[at].fork())
			}
			for i := range books {
				models[i].check(t, books[i])
			}
		}
	}
}

func TestP4P12_2Fork(t *testing.T) {
	all := numbered(5) // a list that has grown to 5 has room behind it
	b := held(t, all...)
	f := b.Fork()
	if !slices.Equal(f.List(), all) {
		t.Fatalf("the Fork has %+v", f.List())
	}
	one, other := plain(50, 50, 50), plain(60, 60, 60)
	b.Add(one)
	f.Add(other)
	if !slices.Equal(b.List(), append(all[:5:5], one)) || !slices.Equal(f.List(), append(all[:5:5], other)) {
		t.Errorf("%+v; the Fork: %+v", b.List(), f.List())
	}
	b.Match(to(all[0], all[0].Src, 1), 0)
	f.Gone(1)
	if !slices.Equal(b.List(), append(all[1:5:5], one)) || !slices.Equal(f.List(), slices.Concat(all[:1], all[2:], []api.Expect{other})) {
		t.Errorf("%+v; the Fork: %+v", b.List(), f.List())
	}
	if g := expect.New().Fork(); g == nil || len(g.List()) != 0 || g.Add(one) != api.OK {
		t.Error("a Fork of an empty one")
	}
}

func TestP6NothingIsKept(t *testing.T) {
	tell := func() (all []any) {
		b := expect.New()
		for _, e := range []api.Expect{plain(9, 2, 10), plain(9, 2, 10), {}, plain(8, 2, 5), plain(7, 1, 10)} {
			all = append(all, b.Add(e), expect.Right(e), b.List())
		}
		x, ok := b.Peek(to(plain(9, 2, 10), 0x08080808, 1), 9)
		y, also := b.Match(to(plain(9, 2, 10), 0x08080808, 1), 9)
		return append(all, x, ok, y, also, b.Fork().List(), b.Due(7), b.Gone(1), b.List())
	}
	first := tell()
	other := held(t, numbered(32)...)
	other.Gone(2)
	other.Due(50)
	if again := tell(); !reflect.DeepEqual(first, again) {
		t.Errorf("%v, then %v", first, again)
	}
}

// TestP12_3E5EachIsMatchedOnce: what is Matched was added, in time, and has not been taken out since.
func TestP12_3E5EachIsMatchedOnce(t *testing.T) {
	r, matched := chance(), 0
	for range 200 {
		b := expect.New()
		var open []api.Expect
		out := func(e api.Expect) {
			at := slices.Index(open, e)
			if at < 0 {
				t.Fatalf("%+v was not added, or taken out already", e)
			}
			open = slices.Delete(open, at, at+1)
		}
		for now := range 200 {
			e := someExpect(r)
			e.Deadline += now
			if b.Add(e) == api.OK {
				open = append(open, e)
			}
			k := someTuple(r)
			if e, ok := b.Match(k, now); ok {
				if k.Proto != e.Proto || k.Dst != e.Dst || k.DstPort != e.DstPort || e.Src != 0 && e.Src != k.Src || e.Deadline <= now {
					t.Fatalf("%+v does not fit %+v at %d", k, e, now)
				}
				out(e)
				matched++
				if again, ok := b.Match(k, now); ok {
					t.Fatalf("%+v, and %+v behind it", e, again)
				}
			}
			for _, e := range slices.Concat(b.Gone(r.IntN(60)), b.Due(now)) {
				out(e)
			}
			if !slices.Equal(b.List(), open) {
				t.Fatalf("%+v, not %+v", b.List(), open)
			}
		}
	}
	if matched < 1000 {
		t.Errorf("%d were Matched", matched)
	}
}

// TestP12_4E6Limits: whatever is added and taken out, there are never more than may be, of all and of a master.
func TestP12_4E6Limits(t *testing.T) {
	r, most, mostOwn := chance(), 0, 0
	b := expect.New()
	for range 5000 {
		e := someExpect(r)
		e.DstPort, e.Master = uint16(r.IntN(100)), r.IntN(15)
		b.Add(e)
		if r.IntN(50) == 0 {
			b.Gone(r.IntN(15))
		}
		own := map[int]int{}
		for _, e := range b.List() {
			own[e.Master]++
			mostOwn = max(mostOwn, own[e.Master])
		}
		most = max(most, len(b.List()))
	}
	if most != 32 || mostOwn != 4 {
		t.Errorf("there were up to %d, and up to %d of a master", most, mostOwn)
	}
}

// TestE5NothingUncalled: of all that may come, a book lets in what was written into it, and nothing once that has come.
func TestE5NothingUncalled(t *testing.T) {
	data := api.Expect{Proto: api.Tcp, Src: 0x08080808, Dst: 0x01020304, DstPort: 1001, Host: 0x0a000002, HostPort: 1025, Master: 0, Deadline: 60}
	b := held(t, data)
	for _, k := range []api.Tuple{
		{Proto: api.Tcp, Src: 0x08080809, Dst: 0x01020304, SrcPort: 20, DstPort: 1001},
		{Proto: api.Tcp, Src: 0x08080808, Dst: 0x01020304, SrcPort: 20, DstPort: 1002},
		{Proto: api.Tcp, Src: 0x08080808, Dst: 0x01020305, SrcPort: 20, DstPort: 1001},
		{Proto: api.Udp, Src: 0x08080808, Dst: 0x01020304, SrcPort: 20, DstPort: 1001},
		{Proto: api.Tcp, Src: 0x08080808, Dst: 0x0a000002, SrcPort: 20, DstPort: 1025},
	} {
		if e, ok := b.Match(k, 0); ok {
			t.Errorf("%+v comes in by %+v", k, e)
		}
	}
	k := api.Tuple{Proto: api.Tcp, Src: 0x08080808, Dst: 0x01020304, SrcPort: 20, DstPort: 1001}
	if e, ok := b.Match(k, 60); ok {
		t.Errorf("late, by %+v", e)
	}
	if e, ok := b.Match(k, 59); !ok || e != data {
		t.Errorf("what is expected does not come in: %+v, %v", e, ok)
	}
	if e, ok := b.Match(k, 59); ok {
		t.Errorf("twice, by %+v", e)
	}
}
