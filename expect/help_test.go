package expect_test

import (
	"math/rand/v2"
	"slices"
	"testing"

	"lychgate/api"
	"lychgate/expect"
)

// The edges of whole numbers, and the greatest time.
const (
	least    = -1 << 63
	greatest = 1<<63 - 1
	lastTime = 1 << 40
)

// chance is the same row of numbers in every run.
func chance() *rand.Rand {
	return rand.New(rand.NewPCG(12, 6))
}

// plain is one of Tcp that is right; its port tells it from others.
func plain(port uint16, master, deadline int) api.Expect {
	return api.Expect{Proto: 6, Src: 0x08080808, Dst: 0x01020304, DstPort: port, Host: 0x0a000002, HostPort: 21, Master: master, Deadline: deadline}
}

// changed is plain with something changed.
func changed(change func(e *api.Expect)) api.Expect {
	e := plain(9, 2, 10)
	change(&e)
	return e
}

// to is a tuple that fits one, from an address and a port.
func to(e api.Expect, src uint32, port uint16) api.Tuple {
	return api.Tuple{Proto: e.Proto, Src: src, Dst: e.Dst, SrcPort: port, DstPort: e.DstPort}
}

// held is a book with these in it.
func held(t *testing.T, all ...api.Expect) *expect.Book {
	t.Helper()
	b := expect.New()
	for _, e := range all {
		if got := b.Add(e); got != api.OK {
			t.Fatalf("Add of %+v: %d", e, got)
		}
	}
	return b
}

// numbered are n that are right, no two of them alike, of masters that have as many as they may.
func numbered(n int) (all []api.Expect) {
	for i := range n {
		all = append(all, plain(uint16(i+1), i%8, 100-i))
	}
	return all
}

// right says over again what a right one is, field by field.
func right(e api.Expect) bool {
	for _, n := range []uint32{e.Dst, e.Host, uint32(e.DstPort), uint32(e.HostPort)} {
		if n == 0 {
			return false
		}
	}
	if e.Master < 0 || e.Deadline < 0 || e.Deadline > lastTime {
		return false
	}
	return e.Proto == 47 || (e.Proto == 6 || e.Proto == 17) && e.SrcPort == 0
}

// model is a book said over again in the plainest way: a list.
type model struct {
	list []api.Expect
}

func (m *model) add(e api.Expect) api.Errno {
	if !right(e) {
		return api.ErrRange
	}
	own := 0
	for _, x := range m.list {
		if x.Proto == e.Proto && x.Dst == e.Dst && x.DstPort == e.DstPort {
			return api.ErrKnown
		}
		if x.Master == e.Master {
			own++
		}
	}
	if len(m.list) == 32 || own == 4 {
		return api.ErrFull
	}
	m.list = append(m.list, e)
	return api.OK
}

// at is where the first one stands that a tuple fits in time; -1, if there is none.
func (m *model) at(t api.Tuple, now int) int {
	for i, e := range m.list {
		if e.Deadline <= now || e.Proto != t.Proto || e.Dst != t.Dst || e.DstPort != t.DstPort {
			continue
		}
		if e.Src == 0 || e.Src == t.Src {
			return i
		}
	}
	return -1
}

func (m *model) peek(t api.Tuple, now int) (api.Expect, bool) {
	if i := m.at(t, now); i >= 0 {
		return m.list[i], true
	}
	return api.Expect{}, false
}

func (m *model) match(t api.Tuple, now int) (api.Expect, bool) {
	e, ok := m.peek(t, now)
	if i := m.at(t, now); i >= 0 {
		m.list = slices.Concat(m.list[:i], m.list[i+1:])
	}
	return e, ok
}

func (m *model) gone(master int) (out []api.Expect) {
	var stay []api.Expect
	for _, e := range m.list {
		if e.Master == master {
			out = append(out, e)
		} else {
			stay = append(stay, e)
		}
	}
	m.list = stay
	return out
}

func (m *model) due(now int) (out []api.Expect) {
	var stay []api.Expect
	for _, e := range m.list {
		if e.Deadline > now {
			stay = append(stay, e)
		} else {
			out = append(out, e)
		}
	}
	m.list = stay
	return out
}

func (m *model) fork() *model {
	return &model{slices.Clone(m.list)}
}

// check holds what a book has in it against its model.
func (m *model) check(t *testing.T, b *expect.Book) {
	t.Helper()
	if got := b.List(); !slices.Equal(got, m.list) {
		t.Fatalf("List: %+v, not %+v", got, m.list)
	}
}

// someExpect is mostly a right one, of few addresses, ports and masters, so that like ones come up again.
func someExpect(r *rand.Rand) api.Expect {
	e := api.Expect{Proto: []byte{6, 17, 47}[r.IntN(3)], Src: r.Uint32N(3), Dst: 1 + r.Uint32N(3), DstPort: uint16(1 + r.IntN(6)),
		Host: 1 + r.Uint32N(2), HostPort: uint16(1 + r.IntN(2)), Master: r.IntN(12), Deadline: r.IntN(20)}
	if e.Proto == 47 {
		e.SrcPort = uint16(r.IntN(3))
	}
	if r.IntN(6) == 0 {
		spoilField(r, &e)
	}
	return e
}

// spoilField changes one field, so that it is mostly not right any more.
func spoilField(r *rand.Rand, e *api.Expect) {
	switch r.IntN(8) {
	case 0:
		e.Proto = []byte{0, 1, 5, 7, 16, 18, 46, 48, 255}[r.IntN(9)]
	case 1:
		e.Dst = 0
	case 2:
		e.DstPort = 0
	case 3:
		e.Host = 0
	case 4:
		e.HostPort = 0
	case 5:
		e.Master = []int{-1, least, greatest}[r.IntN(3)]
	case 6:
		e.Deadline = []int{-1, least, greatest, lastTime, lastTime + 1}[r.IntN(5)]
	case 7:
		e.SrcPort = []uint16{1, 65535}[r.IntN(2)]
	}
}

// someTuple is of the same few addresses and ports.
func someTuple(r *rand.Rand) api.Tuple {
	return api.Tuple{Proto: []byte{6, 17, 47, 1}[r.IntN(4)], Src: r.Uint32N(3), Dst: r.Uint32N(4), SrcPort: uint16(r.IntN(3)), DstPort: uint16(r.IntN(7))}
}

// someTime is mostly about the Deadlines.
func someTime(r *rand.Rand) int {
	return []int{r.IntN(22), r.IntN(22), r.IntN(22), -1, least, greatest, lastTime}[r.IntN(7)]
}
