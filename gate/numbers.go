package gate

import (
	"lychgate/api"
	"lychgate/pool"
)

// source is what a pool is of.
type source struct {
	proto byte
	addr  uint32
}

// number is a port or a call that is held.
type number struct {
	source
	n uint16
}

// pool is the one of a source; it is made when it is asked for first.
func (g *Gate) pool(s source) *pool.Pool {
	p := g.pools[s]
	if p == nil {
		p = pool.New(g.low, g.high)
		g.pools[s] = p
	}
	return p
}

// take takes a number; false, if there is none.
func (g *Gate) take(s source, wish uint16) (number, bool) {
	n, e := g.pool(s).Take(wish)
	return number{s, n}, e == api.OK
}

// pair takes an even number and the next; false, if there are none.
func (g *Gate) pair(s source, wish uint16) (even, next number, ok bool) {
	n, e := g.pool(s).Pair(wish)
	return number{s, n}, number{s, n + 1}, e == api.OK
}

func (g *Gate) give(held ...number) {
	for _, x := range held {
		g.pool(x.source).Give(x.n)
	}
}

// heldBy is the number that an expected flow holds.
func heldBy(e api.Expect) number {
	return number{source{e.Proto, e.Dst}, e.DstPort}
}

func (g *Gate) giveExpected(all []api.Expect) {
	for _, e := range all {
		g.give(heldBy(e))
	}
}

// expect writes expected flows in, all of them or none.
func (g *Gate) expect(all ...api.Expect) bool {
	book := g.book.Fork()
	for _, e := range all {
		if book.Add(e) != api.OK {
			return false
		}
	}
	g.book = book
	return true
}
