package pool_test

import (
	"math/rand/v2"
	"reflect"
	"slices"
	"testing"

	"lychgate/api"
	"lychgate/pool"
	"lychgate/segs"
)

func TestP1Nil(t *testing.T) {
	var p *pool.Pool
	for _, n := range []uint16{0, 1, 2, 64, 65535} {
		if got, e := p.Take(n); got != 0 || e != api.ErrNil {
			t.Errorf("Take(%d): %d, %d", n, got, e)
		}
		if got, e := p.Pair(n); got != 0 || e != api.ErrNil {
			t.Errorf("Pair(%d): %d, %d", n, got, e)
		}
		if e := p.Give(n); e != api.ErrNil || p.Has(n) {
			t.Errorf("Give(%d): %d; Has: %v", n, e, p.Has(n))
		}
	}
	if len(p.Used()) != 0 || p.Free() != 0 || p.Fork() != nil {
		t.Errorf("%v, %d, %v", p.Used(), p.Free(), p.Fork())
	}
}

// TestP3UsedIsTheCallers: what is written over an answer, and behind its end, changes neither the pool nor another answer.
func TestP3UsedIsTheCallers(t *testing.T) {
	p := taken(t, 5, 9, 5, 7, 8)
	first, other := p.Used(), p.Used()
	other = append(other[:1], 9, 9, 9, 9)
	clear(other[:cap(other)])
	want := []uint16{5, 7, 8}
	if !slices.Equal(first, want) || !slices.Equal(p.Used(), want) || p.Has(9) || !p.Has(7) {
		t.Errorf("%v; %v", first, p.Used())
	}
	p.Give(5)
	p.Take(6)
	if !slices.Equal(first, want) {
		t.Errorf("%v, when the pool goes on", first)
	}
}

// someNumber is mostly one in the bounds or just beyond; now and then any.
func someNumber(r *rand.Rand, m *model) uint16 {
	if r.IntN(8) == 0 {
		return uint16(r.Uint32())
	}
	return uint16(m.low - 2 + r.IntN(m.high-m.low+5))
}

// step does the same with a pool and its model, and holds what they answer against each other.
func step(t *testing.T, r *rand.Rand, p *pool.Pool, m *model) {
	t.Helper()
	n := someNumber(r, m)
	var got, want uint16
	var e, f api.Errno
	switch r.IntN(6) {
	case 0, 1:
		got, e = p.Take(n)
		want, f = m.take(n)
	case 2:
		got, e = p.Pair(n)
		want, f = m.takePair(n)
	default:
		e, f = p.Give(n), m.give(n)
	}
	if got != want || e != f {
		t.Fatalf("%d of %+v: %d, %d, not %d, %d", n, m, got, e, want, f)
	}
}

// someBounds are near the edges of words, and of all numbers.
func someBounds(r *rand.Rand) (low, high uint16) {
	low = []uint16{1, 2, 50, 63, 64, 65, 1000, 65500}[r.IntN(8)]
	return low, low + uint16(r.IntN(20))
}

func TestP8_1P8_2Scripts(t *testing.T) {
	r := chance()
	for range 300 {
		low, high := someBounds(r)
		p, m := pool.New(low, high), newModel(low, high)
		for range 100 {
			step(t, r, p, m)
			m.check(t, p)
		}
	}
}

// TestP4Scripts: of pools and their Forks, each goes on by itself.
func TestP4Scripts(t *testing.T) {
	r := chance()
	for range 100 {
		low, high := someBounds(r)
		pools, models := []*pool.Pool{pool.New(low, high)}, []*model{newModel(low, high)}
		for range 100 {
			at := r.IntN(len(pools))
			step(t, r, pools[at], models[at])
			if len(pools) < 5 && r.IntN(15) == 0 {
				pools, models = append(pools, pools[at].Fork()), append(models, models[at].fork())
			}
			for i := range pools {
				models[i].check(t, pools[i])
			}
		}
	}
}

func TestP4P8_2Fork(t *testing.T) {
	p := taken(t, 5, 9, 6, 7)
	f := p.Fork()
	if !slices.Equal(f.Used(), []uint16{6, 7}) || f.Free() != 3 {
		t.Errorf("the Fork has %v", f.Used())
	}
	p.Take(9)
	p.Give(6)
	f.Pair(8)
	f.Give(7)
	if !slices.Equal(p.Used(), []uint16{7, 9}) || !slices.Equal(f.Used(), []uint16{6, 8, 9}) {
		t.Errorf("%v; the Fork: %v", p.Used(), f.Used())
	}
	for range 5 {
		f.Take(0)
	}
	if _, e := f.Take(0); e != api.ErrFull || f.Free() != 0 || p.Free() != 3 || f.Has(4) || f.Has(10) {
		t.Errorf("the Fork has other bounds: %d, %v", e, f.Used())
	}
}

// TestP5BoundsDoNotGoRound: behind the greatest number there is no next, and ahead of the least none.
func TestP5BoundsDoNotGoRound(t *testing.T) {
	p := pool.New(65534, 65535)
	if n, e := p.Take(65535); n != 65535 || e != api.OK {
		t.Errorf("%d, %d", n, e)
	}
	if n, e := p.Pair(65534); n != 0 || e != api.ErrFull {
		t.Errorf("a pair: %d, %d", n, e)
	}
	if n, e := p.Take(0); n != 65534 || e != api.OK || p.Has(0) || p.Free() != 0 {
		t.Errorf("%d, %d; %d free", n, e, p.Free())
	}
	if all := pool.New(1, 65535); all.Free() != 65535 {
		t.Errorf("%d free", all.Free())
	}
}

func TestP6NothingIsKept(t *testing.T) {
	tell := func() (all []any) {
		p := pool.New(60, 70)
		for _, wish := range []uint16{65, 65, 0, 70, 71} {
			n, e := p.Take(wish)
			m, f := p.Pair(wish)
			all = append(all, n, e, m, f, p.Free(), p.Has(wish), p.Used())
		}
		return append(all, p.Give(65), p.Give(59), p.Fork().Used())
	}
	first := tell()
	other := taken(t, 1, 99, 65, 60)
	other.Pair(62)
	other.Give(65)
	if again := tell(); !reflect.DeepEqual(first, again) {
		t.Errorf("%v, then %v", first, again)
	}
}

// TestP8_3E6NumbersAreHeldOnce: no two have the same, whatever is wished, till it is given back.
func TestP8_3E6NumbersAreHeldOnce(t *testing.T) {
	r := chance()
	for range 200 {
		low, high := someBounds(r)
		p, m, held := pool.New(low, high), newModel(low, high), []uint16{}
		for range 100 {
			var got []uint16
			switch r.IntN(3) {
			case 0:
				if n, e := p.Take(someNumber(r, m)); e == api.OK {
					got = []uint16{n}
				}
			case 1:
				if n, e := p.Pair(someNumber(r, m)); e == api.OK {
					got = []uint16{n, n + 1}
				}
			default:
				if len(held) > 0 && p.Give(held[0]) != api.OK {
					t.Fatalf("%d is held, and may not be given", held[0])
				}
				held = held[min(1, len(held)):]
			}
			for _, n := range got {
				if slices.Contains(held, n) || n < low || n > high {
					t.Fatalf("%d is handed out, and %v are held", n, held)
				}
			}
			held = append(held, got...)
		}
	}
}

func TestP8_4TakeAndGiveLeaveItAsItWas(t *testing.T) {
	r := chance()
	for range 200 {
		low, high := someBounds(r)
		p, m := pool.New(low, high), newModel(low, high)
		for range 20 {
			step(t, r, p, m)
		}
		for wish := int(low) - 1; wish <= int(high)+1; wish++ {
			if n, e := p.Take(uint16(wish)); e == api.OK && p.Give(n) != api.OK {
				t.Fatalf("%d may not be given", n)
			}
			m.check(t, p)
			if n, e := p.Pair(uint16(wish)); e == api.OK && (p.Give(n) != api.OK || p.Give(n+1) != api.OK) {
				t.Fatalf("the pair of %d may not be given", n)
			}
			m.check(t, p)
		}
	}
}

// TestE1PortsOfDatagrams: the port that a datagram is sent from is kept, where it may be, and else the least one is told.
func TestE1PortsOfDatagrams(t *testing.T) {
	p := pool.New(1000, 1009)
	for _, c := range [][2]uint16{{5, 1000}, {1005, 1005}, {1005, 1001}, {65535, 1002}} {
		b, e := segs.BuildUdp(api.Packet{Ttl: 9, Proto: api.Udp, Src: 1, Dst: 2}, api.Datagram{Src: c[0], Dst: 53})
		d, f := segs.ParseUdp(b)
		if e != api.OK || f != api.OK {
			t.Fatalf("%d, %d", e, f)
		}
		if n, e := p.Take(d.Src); n != c[1] || e != api.OK {
			t.Errorf("from %d: %d, %d, not %d", c[0], n, e, c[1])
		}
	}
}
