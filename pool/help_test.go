package pool_test

import (
	"math/rand/v2"
	"slices"
	"testing"

	"lychgate/api"
	"lychgate/pool"
)

// chance is the same row of numbers in every run.
func chance() *rand.Rand {
	return rand.New(rand.NewPCG(8, 4))
}

// taken is a pool of which these are taken.
func taken(t *testing.T, low, high uint16, all ...uint16) *pool.Pool {
	t.Helper()
	p := pool.New(low, high)
	for _, n := range all {
		if got, e := p.Take(n); got != n || e != api.OK {
			t.Fatalf("Take(%d) of %d to %d: %d, %d", n, low, high, got, e)
		}
	}
	return p
}

// model is a pool said over again in the plainest way: its bounds, and those that are taken.
type model struct {
	low, high int
	taken     map[int]bool
}

func newModel(low, high uint16) *model {
	return &model{int(low), int(high), map[int]bool{}}
}

func (m *model) free(n int) bool {
	return n >= m.low && n <= m.high && !m.taken[n]
}

func (m *model) pair(n int) bool {
	return n%2 == 0 && m.free(n) && m.free(n+1)
}

// choose is the wished one, if it fits, else the least one that does.
func (m *model) choose(wish uint16, fits func(int) bool) (uint16, api.Errno) {
	if fits(int(wish)) {
		return wish, api.OK
	}
	for n := m.low; n <= m.high; n++ {
		if fits(n) {
			return uint16(n), api.OK
		}
	}
	return 0, api.ErrFull
}

func (m *model) take(wish uint16) (uint16, api.Errno) {
	n, e := m.choose(wish, m.free)
	if e == api.OK {
		m.taken[int(n)] = true
	}
	return n, e
}

func (m *model) takePair(wish uint16) (uint16, api.Errno) {
	n, e := m.choose(wish, m.pair)
	if e == api.OK {
		m.taken[int(n)], m.taken[int(n)+1] = true, true
	}
	return n, e
}

func (m *model) give(n uint16) api.Errno {
	if !m.taken[int(n)] {
		return api.ErrNone
	}
	delete(m.taken, int(n))
	return api.OK
}

func (m *model) fork() *model {
	other := &model{m.low, m.high, map[int]bool{}}
	for n := range m.taken {
		other.taken[n] = true
	}
	return other
}

// check holds all that a pool tells against its model; of which are taken it asks near the bounds, and at some others.
func (m *model) check(t *testing.T, p *pool.Pool) {
	t.Helper()
	var used []uint16
	for n := range m.taken {
		used = append(used, uint16(n))
	}
	slices.Sort(used)
	if got := p.Used(); !slices.Equal(got, used) {
		t.Fatalf("Used: %v, not %v", got, used)
	}
	if got, want := p.Free(), m.high-m.low+1-len(used); got != want {
		t.Fatalf("Free: %d, not %d", got, want)
	}
	for _, n := range []int{0, 1, 63, 64, 65, 127, 128, 65534, 65535} {
		m.checkHas(t, p, n)
	}
	for n := max(0, m.low-2); n <= min(m.low+140, m.high+2, 65535); n++ {
		m.checkHas(t, p, n)
	}
}

func (m *model) checkHas(t *testing.T, p *pool.Pool, n int) {
	t.Helper()
	if got := p.Has(uint16(n)); got != m.taken[n] {
		t.Fatalf("Has(%d): %v", n, got)
	}
}
