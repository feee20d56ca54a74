package table_test

import (
	"reflect"
	"slices"
	"testing"

	"lychgate/api"
	"lychgate/ctrl"
	"lychgate/ipv4"
	"lychgate/segs"
	"lychgate/table"
	"lychgate/tuple"
)

func TestP1Nil(t *testing.T) {
	var x *table.Table
	for _, till := range []int{least, -1, 0, 5, greatest} {
		if x.Put(numbered(0), till, till) != api.ErrNil || x.Move(numbered(0), till) != api.ErrNil || x.Drop(numbered(0)) != api.ErrNil {
			t.Errorf("till %d: no error, or another", till)
		}
		if l := x.Due(till); len(l) != 0 {
			t.Errorf("Due(%d): %v", till, l)
		}
	}
	if id, till, ok := x.Get(api.Tuple{}); id != 0 || till != 0 || ok {
		t.Errorf("Get: %d, %d, %v", id, till, ok)
	}
	if k, ok := x.First(); k != (api.Tuple{}) || ok {
		t.Errorf("First: %+v, %v", k, ok)
	}
	if x.Len() != 0 || x.Fork() != nil {
		t.Errorf("Len: %d; Fork: %v", x.Len(), x.Fork())
	}
}

// TestP3DueIsTheCallers: what is written over an answer, and behind its end, changes neither the table nor another answer.
func TestP3DueIsTheCallers(t *testing.T) {
	x := filled(t, 5, 5, 5, 5)
	first, other := x.Due(5), x.Due(5)
	other = append(other[:1], api.Tuple{Src: 99}, api.Tuple{Src: 98}, api.Tuple{Src: 97})
	clear(other[:cap(other)])
	if !slices.Equal(places(first), []int{0, 1, 2}) || !slices.Equal(places(x.Due(5)), []int{0, 1, 2}) {
		t.Errorf("%v; %v", first, x.Due(5))
	}
	x.Move(numbered(0), 9)
	x.Drop(numbered(1))
	if !slices.Equal(places(first), []int{0, 1, 2}) {
		t.Errorf("%v, when the table goes on", first)
	}
}

// TestP3TuplesAreCopied: what becomes of a tuple that was handed in, or out, is nothing to the table.
func TestP3TuplesAreCopied(t *testing.T) {
	k, id := api.Tuple{Proto: 47, Src: 1, SrcPort: 5, DstPort: 2}, 3
	x := table.New(2)
	x.Put(k, id, 4)
	if k != (api.Tuple{Proto: 47, Src: 1, SrcPort: 5, DstPort: 2}) {
		t.Errorf("it became %+v", k)
	}
	k.Src, id = 7, 8
	first, _ := x.First()
	first.Dst = 9
	if got, _, ok := x.Get(api.Tuple{Proto: 47, Src: 1, DstPort: 2}); got != 3 || !ok {
		t.Errorf("%d, %v", got, ok)
	}
	if again, ok := x.First(); again != (api.Tuple{Proto: 47, Src: 1, DstPort: 2}) || !ok {
		t.Errorf("%+v, %v", again, ok)
	}
}

// TestP5TimesDoNotGoRound: times that fall together in fewer bits are told apart.
func TestP5TimesDoNotGoRound(t *testing.T) {
	x := filled(t, 4, 1<<40, 1<<32, 1, 1<<31)
	if got := places(x.Due(greatest)); !slices.Equal(got, []int{2, 3, 1, 0}) {
		t.Error(got)
	}
	if got := places(x.Due(1 << 32)); !slices.Equal(got, []int{2, 3, 1}) {
		t.Error(got)
	}
	if x.Put(numbered(9), 0, greatest) != api.ErrRange || x.Put(numbered(9), 0, 1<<40+1) != api.ErrRange || x.Move(numbered(0), -1<<40) != api.ErrRange {
		t.Error("beyond the limit")
	}
}

func TestP6NothingIsKept(t *testing.T) {
	tell := func() []any {
		x := filled(t, 40, 5, 3, 5, 5, 3, 9, 9, 0, 5, 5, 5, 3)
		x.Move(numbered(0), 5)
		x.Drop(numbered(4))
		k, ok := x.First()
		id, till, found := x.Get(numbered(0))
		return []any{x.Due(5), x.Due(9), k, ok, id, till, found, x.Len(), x.Put(numbered(0), 1, 1)}
	}
	first := tell()
	other := filled(t, 3, 5, 1, 4)
	other.Move(numbered(1), 9)
	other.Drop(numbered(0))
	other.Due(9)
	for range 20 {
		if again := tell(); !reflect.DeepEqual(first, again) {
			t.Fatalf("%v, then %v", first, again)
		}
	}
}

// told is the tuple of what a call made.
func told(t *testing.T, p api.Packet, e api.Errno) api.Tuple {
	t.Helper()
	k, f := tuple.Of(p)
	if e != api.OK || f != api.OK {
		t.Fatalf("%+v: %d, %d", p, e, f)
	}
	return k
}

// TestE1FlowsAreFoundByTheirPackets: by what goes forth, by what comes back, and by what an error quotes.
func TestE1FlowsAreFoundByTheirPackets(t *testing.T) {
	forth, back := api.Packet{Ttl: 9, Src: 0x0a000002, Dst: 0x08080808}, api.Packet{Ttl: 9, Src: 0x08080808, Dst: 0x0a000002}
	x := table.New(4)
	segment, e := segs.BuildTcp(forth, api.Segment{Src: 5, Dst: 21, Flags: api.Syn})
	x.Put(told(t, segment, e), 0, 120)
	datagram, e := segs.BuildUdp(forth, api.Datagram{Src: 5, Dst: 21})
	x.Put(told(t, datagram, e), 1, 30)
	asked, e := ctrl.BuildIcmp(forth, api.Message{Type: 8, Rest: 0x00050015})
	x.Put(told(t, asked, e), 2, 30)
	x.Put(api.Tuple{Proto: api.Gre, Src: forth.Src, Dst: forth.Dst, SrcPort: 4, DstPort: 5}, 3, 20)

	again, e := segs.BuildTcp(back, api.Segment{Src: 21, Dst: 5, Flags: api.Syn | api.Ack})
	if id, _, ok := x.Get(tuple.Reverse(told(t, again, e))); id != 0 || !ok {
		t.Errorf("a segment back: %d, %v", id, ok)
	}
	echo, e := ctrl.BuildIcmp(back, api.Message{Type: 0, Rest: 0x00050016})
	if id, _, ok := x.Get(tuple.Reverse(told(t, echo, e))); id != 2 || !ok {
		t.Errorf("an echo: %d, %v", id, ok)
	}
	frame, e := ctrl.BuildGre(forth, api.Frame{Call: 5})
	if id, _, ok := x.Get(told(t, frame, e)); id != 3 || !ok {
		t.Errorf("a frame: %d, %v", id, ok)
	}
	b, _ := ipv4.Build(datagram)
	wrong, _ := ctrl.BuildIcmp(back, api.Message{Type: 3, Code: 3, Data: b})
	quoted, e := tuple.Quoted(wrong)
	if id, _, ok := x.Get(quoted); id != 1 || !ok || e != api.OK {
		t.Errorf("an error: %d, %v, %d", id, ok, e)
	}
	other, e := segs.BuildTcp(back, api.Segment{Src: 22, Dst: 5, Flags: api.Syn})
	if id, _, ok := x.Get(tuple.Reverse(told(t, other, e))); id != 0 || ok {
		t.Errorf("of no flow: %d, %v", id, ok)
	}
	if due := x.Due(30); len(due) != 3 || due[0].Proto != api.Gre || due[1].Proto != api.Udp || due[2].Proto != api.Icmp {
		t.Errorf("%+v", due)
	}
}
