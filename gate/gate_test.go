package gate_test

import (
	"slices"
	"testing"

	"lychgate/api"
	"lychgate/gate"
)

func TestP16_1New(t *testing.T) {
	for _, x := range []struct {
		low, high uint16
		made      bool
	}{
		{0, 0, false}, {0, 1, false}, {0, 65535, false}, {2, 1, false}, {65535, 65534, false}, {65535, 1, false},
		{1, 1, true}, {1, 2, true}, {65535, 65535, true}, {1, 65535, true}, {1000, 1009, true},
	} {
		g := gate.New(x.low, x.high)
		if (g != nil) != x.made {
			t.Errorf("%d to %d: %v", x.low, x.high, g)
		}
		if !x.made {
			continue
		}
		if g.Now() != 0 || len(g.Flows()) != 0 || len(g.Expects()) != 0 || len(g.Used(6, public)) != 0 {
			t.Errorf("%d to %d: it is not empty", x.low, x.high)
		}
	}
}

// TestP16_1Bounds: numbers go from low to high, with both.
func TestP16_1Bounds(t *testing.T) {
	for _, low := range []uint16{1, 1000, 65533} {
		w := masqueraded(t, low, low+2)
		for i := range uint16(3) {
			if _, d := w.udp(api.Inside, datagram(end{host, 5 + i}, end{server, 53}, "")); low != 1 && d.Src != low+i {
				t.Errorf("%d is the number %d from %d on", d.Src, i, low)
			}
		}
		w.uses(17, public, low, low+1, low+2)
		w.drops(api.Inside, datagram(end{host, 9}, end{server, 53}, ""), api.NoRoom)
	}
}

func TestP16_1Rule(t *testing.T) {
	g := gate.New(1000, 1009)
	masq := api.Rule{Kind: api.Masq, Net: 0x0a000000, Bits: 8, To: public}
	for _, x := range []struct {
		r    api.Rule
		want api.Errno
	}{
		{api.Rule{}, api.ErrForm}, {api.Rule{Kind: api.Masq, Net: 0x0a000001, Bits: 8, To: public}, api.ErrForm},
		{api.Rule{Kind: api.Masq, Bits: 33, To: public}, api.ErrForm}, {api.Rule{Kind: api.Dnat, Proto: 1, To: public, Port: 1, Host: host, HostPort: 1}, api.ErrForm},
		{masq, api.OK}, {masq, api.ErrKnown}, {api.Rule{Kind: api.Masq, Net: 0x0a000000, Bits: 9, To: public}, api.OK},
	} {
		if e := g.Rule(x.r); e != x.want {
			t.Errorf("%+v: %d, not %d", x.r, e, x.want)
		}
	}
	for i := range uint32(30) {
		if e := g.Rule(api.Rule{Kind: api.Masq, Net: i, Bits: 32, To: public}); e != api.OK {
			t.Errorf("the rule %d: %d", i, e)
		}
	}
	if e := g.Rule(api.Rule{Kind: api.Masq, Net: 99, Bits: 32, To: public}); e != api.ErrFull {
		t.Errorf("one more: %d", e)
	}
	if e := g.Rule(masq); e != api.ErrKnown {
		t.Errorf("known, and one more: %d", e)
	}
}

// TestP16_1Told: flows are told by their Ids, which are never given out again, and numbers rising.
func TestP16_1Told(t *testing.T) {
	w := masqueraded(t, 1000, 1009)
	ids := func(want ...int) {
		t.Helper()
		var got []int
		for _, f := range w.Flows() {
			got = append(got, f.Id)
		}
		if !slices.Equal(got, want) {
			t.Errorf("flows %v, not %v", got, want)
		}
	}
	for _, port := range []uint16{1007, 1003, 1005} {
		w.udp(api.Inside, datagram(end{host, port}, end{server, 53}, ""))
		w.now += 5
	}
	ids(0, 1, 2)
	w.uses(17, public, 1003, 1005, 1007)
	w.uses(17, public2)
	w.uses(6, public)
	w.now = 30
	w.udp(api.Inside, datagram(end{host, 1007}, end{server, 53}, "")) // it lasts longer now
	w.now = 37
	w.Tick(w.now)
	ids(0, 2)
	w.udp(api.Inside, datagram(end{host, 1009}, end{server, 53}, ""))
	ids(0, 2, 3)
	w.uses(17, public, 1005, 1007, 1009)
	if w.Now() != 37 {
		t.Errorf("it is %d", w.Now())
	}
}

func TestP16_1Time(t *testing.T) {
	g := gate.New(1, 2)
	for _, x := range []struct{ now, want int }{
		{-1, 0}, {least, 0}, {0, 0}, {5, 5}, {4, 5}, {-5, 5}, {5, 5}, {6, 6}, {1 << 32, 1 << 32},
		{lastTime - 1, lastTime - 1}, {lastTime, lastTime}, {lastTime + 1, lastTime}, {greatest, lastTime}, {0, lastTime},
	} {
		f := g.Fork()
		g.Tick(x.now)
		if g.Now() != x.want {
			t.Errorf("Tick(%d): it is %d, not %d", x.now, g.Now(), x.want)
		}
		if f.Packet(x.now, api.Inside, nil); f.Now() != x.want {
			t.Errorf("Packet at %d: it is %d, not %d", x.now, f.Now(), x.want)
		}
	}
	g = gate.New(1, 2)
	if g.Tick(greatest); g.Now() != lastTime {
		t.Errorf("it is %d", g.Now())
	}
}

// TestP16_1P16_2EndOfTime: what begins where time stays never ends by it, and goes on.
func TestP16_1P16_2EndOfTime(t *testing.T) {
	w := masqueraded(t, 1000, 1009)
	w.now = greatest
	out := w.shakeHands(end{host, 5}, end{server, 21})
	w.tcp(api.Inside, says(end{host, 5}, end{server, 21}, 100, "PORT 10,0,0,2,4,1\r\n"))
	if f := w.flow(0); f.Till != lastTime+432000 || f.State != api.Established {
		t.Errorf("%+v", f)
	}
	if l := w.Expects(); len(l) != 1 || l[0].Deadline != lastTime+60 {
		t.Errorf("%+v", l)
	}
	w.Tick(greatest)
	w.tcp(api.Outside, says(end{server, 21}, out, 500, "200\r\n"))
	w.tcp(api.Outside, flagged(end{server, 20}, end{public, 1001}, api.Syn))
}

// TestP16_1P4Fork: a Fork has all that is kept, and each of both goes on by itself.
func TestP16_1P4Fork(t *testing.T) {
	w := masqueraded(t, 1000, 1009)
	from, to := end{host, 5}, end{server, 21}
	w.shakeHands(from, to)
	w.tcp(api.Inside, says(from, to, 100, "PORT 10,0,0,2,4,1\r\n"))
	f := &world{T: t, Gate: w.Fork(), now: w.now}
	was := look(w.Gate)
	if !same(was, look(f.Gate)) {
		t.Fatalf("%+v, and the Fork %+v", was, look(f.Gate))
	}
	f.tcp(api.Inside, says(from, to, 119, "PORT 10,0,0,2,4,2\r\n"))
	f.tcp(api.Outside, flagged(end{server, 20}, end{public, 1001}, api.Syn))
	f.dnat(6, 80, 80)
	f.tcp(api.Outside, flagged(end{server, 9}, end{public, 80}, api.Syn))
	if !same(was, look(w.Gate)) {
		t.Errorf("%+v has become %+v", was, look(w.Gate))
	}
	was = look(f.Gate)
	w.drops(api.Outside, flagged(end{server, 9}, end{public, 80}, api.Syn), api.Stray)
	_, s := w.tcp(api.Inside, says(from, to, 119, "NOOP\r\n"))
	if s.Seq != 119+1 {
		t.Errorf("numbers have moved to %d", s.Seq)
	}
	if _, s = f.tcp(api.Inside, says(from, to, 138, "NOOP\r\n")); s.Seq != 138+2 {
		t.Errorf("in the Fork numbers have moved to %d", s.Seq)
	}
	w.Tick(1 << 30)
	if !same(was, look(f.Gate)) {
		t.Errorf("the Fork %+v has become %+v", was, look(f.Gate))
	}
}
