package expect_test

import (
	"slices"
	"strconv"
	"testing"

	"lychgate/api"
	"lychgate/expect"
)

func TestP12_1New(t *testing.T) {
	b := expect.New()
	if b == nil || len(b.List()) != 0 || len(b.Gone(0)) != 0 || len(b.Due(greatest)) != 0 {
		t.Fatalf("%v", b)
	}
	if e, ok := b.Peek(api.Tuple{}, 0); ok || e != (api.Expect{}) {
		t.Errorf("Peek: %+v, %v", e, ok)
	}
	if e, ok := b.Match(api.Tuple{}, least); ok || e != (api.Expect{}) {
		t.Errorf("Match: %+v, %v", e, ok)
	}
}

func TestP12_1P12_2Right(t *testing.T) {
	for name, e := range map[string]api.Expect{
		"Tcp":                      plain(9, 2, 10),
		"Udp":                      changed(func(e *api.Expect) { e.Proto = 17 }),
		"Gre":                      changed(func(e *api.Expect) { e.Proto = 47 }),
		"Gre with a SrcPort":       changed(func(e *api.Expect) { e.Proto, e.SrcPort = 47, 1 }),
		"Gre with the greatest":    changed(func(e *api.Expect) { e.Proto, e.SrcPort = 47, 65535 }),
		"of any Src":               changed(func(e *api.Expect) { e.Src = 0 }),
		"of the greatest Src":      changed(func(e *api.Expect) { e.Src = 0xffffffff }),
		"to the least":             changed(func(e *api.Expect) { e.Dst, e.DstPort, e.Host, e.HostPort = 1, 1, 1, 1 }),
		"to the greatest":          changed(func(e *api.Expect) { e.Dst, e.DstPort, e.Host, e.HostPort = 1<<32-1, 65535, 1<<32-1, 65535 }),
		"to addresses that end 0":  changed(func(e *api.Expect) { e.Dst, e.Host = 0x01000000, 0x0a000000 }),
		"to ports that end with 0": changed(func(e *api.Expect) { e.DstPort, e.HostPort = 256, 512 }),
		"of the master 0":          plain(9, 0, 10),
		"of the greatest master":   plain(9, greatest, 10),
		"till 0":                   plain(9, 2, 0),
		"till the last time":       plain(9, 2, lastTime),
	} {
		if !expect.Right(e) {
			t.Errorf("%s: %+v is not right", name, e)
		}
		if b := expect.New(); b.Add(e) != api.OK || !slices.Equal(b.List(), []api.Expect{e}) {
			t.Errorf("%s: %+v may not be added", name, e)
		}
	}
}

// wrong are some each of which has one thing wrong.
func wrong() map[string]api.Expect {
	all := map[string]api.Expect{
		"nothing":                {},
		"no Dst":                 changed(func(e *api.Expect) { e.Dst = 0 }),
		"no DstPort":             changed(func(e *api.Expect) { e.DstPort = 0 }),
		"no Host":                changed(func(e *api.Expect) { e.Host = 0 }),
		"no HostPort":            changed(func(e *api.Expect) { e.HostPort = 0 }),
		"Gre without a DstPort":  changed(func(e *api.Expect) { e.Proto, e.DstPort = 47, 0 }),
		"Gre without a HostPort": changed(func(e *api.Expect) { e.Proto, e.HostPort = 47, 0 }),
		"Gre without a Dst":      changed(func(e *api.Expect) { e.Proto, e.Dst = 47, 0 }),
		"the master -1":          plain(9, -1, 10),
		"the least master":       plain(9, least, 10),
		"till -1":                plain(9, 2, -1),
		"till the least":         plain(9, 2, least),
		"till behind the last":   plain(9, 2, lastTime+1),
		"till the greatest":      plain(9, 2, greatest),
		"Tcp with a SrcPort":     changed(func(e *api.Expect) { e.SrcPort = 1 }),
		"Udp with a SrcPort":     changed(func(e *api.Expect) { e.Proto, e.SrcPort = 17, 1 }),
		"Udp with the greatest":  changed(func(e *api.Expect) { e.Proto, e.SrcPort = 17, 65535 }),
		"Tcp with SrcPort 256":   changed(func(e *api.Expect) { e.SrcPort = 256 }),
	}
	for proto := range 256 {
		if proto != 6 && proto != 17 && proto != 47 {
			all["the protocol "+strconv.Itoa(proto)] = changed(func(e *api.Expect) { e.Proto = byte(proto) })
		}
	}
	return all
}

func TestP12_1P12_2Wrong(t *testing.T) {
	b, full := held(t, plain(9, 2, 10)), held(t, numbered(32)...)
	for name, e := range wrong() {
		if expect.Right(e) {
			t.Errorf("%s: %+v is right", name, e)
		}
		if got := b.Add(e); got != api.ErrRange || len(b.List()) != 1 {
			t.Errorf("%s: Add: %d, and there are %d", name, got, len(b.List()))
		}
		if got := full.Add(e); got != api.ErrRange || len(full.List()) != 32 {
			t.Errorf("%s: Add to a full one: %d, and there are %d", name, got, len(full.List()))
		}
	}
}

func TestP12_1KnownIsWhatGoesToTheSame(t *testing.T) {
	e := plain(9, 2, 10)
	for name, known := range map[string]api.Expect{
		"the same":         e,
		"another Src":      changed(func(e *api.Expect) { e.Src = 1 }),
		"any Src":          changed(func(e *api.Expect) { e.Src = 0 }),
		"another Host":     changed(func(e *api.Expect) { e.Host = 1 }),
		"another HostPort": changed(func(e *api.Expect) { e.HostPort = 1 }),
		"another Master":   plain(9, 3, 10),
		"another Deadline": plain(9, 2, 0),
	} {
		b := held(t, plain(8, 2, 10), e, plain(10, 2, 10))
		if got := b.Add(known); got != api.ErrKnown || !slices.Equal(b.List(), []api.Expect{plain(8, 2, 10), e, plain(10, 2, 10)}) {
			t.Errorf("%s: %d, %+v", name, got, b.List())
		}
	}
	for name, other := range map[string]api.Expect{
		"another Proto":   changed(func(e *api.Expect) { e.Proto = 17 }),
		"another Dst":     changed(func(e *api.Expect) { e.Dst++ }),
		"another DstPort": plain(10, 2, 10),
	} {
		b := held(t, e)
		if got := b.Add(other); got != api.OK || !slices.Equal(b.List(), []api.Expect{e, other}) {
			t.Errorf("%s: %d, %+v", name, got, b.List())
		}
	}
	frame := changed(func(e *api.Expect) { e.Proto, e.SrcPort = 47, 1 })
	b := held(t, frame)
	frame.SrcPort = 2
	if got := b.Add(frame); got != api.ErrKnown {
		t.Errorf("Gre with another SrcPort: %d", got)
	}
}

func TestP12_1P2Full(t *testing.T) {
	all := numbered(32)
	b := held(t, all...)
	if got := b.Add(plain(99, 99, 10)); got != api.ErrFull || !slices.Equal(b.List(), all) {
		t.Errorf("the 33rd: %d", got)
	}
	if got := b.Add(plain(1, 99, 10)); got != api.ErrKnown {
		t.Errorf("one that is known: %d", got)
	}
	if _, ok := b.Match(to(all[0], all[0].Src, 1), 0); !ok {
		t.Error("the first one is not there")
	}
	if got := b.Add(plain(99, 99, 10)); got != api.OK || !slices.Equal(b.List(), append(all[1:32:32], plain(99, 99, 10))) {
		t.Errorf("where one was taken out: %d", got)
	}
}

func TestP12_1P2FullOfOneMaster(t *testing.T) {
	for _, master := range []int{0, 1, greatest} {
		b := held(t, plain(1, master, 10), plain(2, master, 10), plain(3, 7, 10), plain(4, master, 0), plain(5, master, 10))
		if got := b.Add(plain(6, master, 10)); got != api.ErrFull || len(b.List()) != 5 {
			t.Errorf("the fifth of %d: %d", master, got)
		}
		if got := b.Add(plain(5, master, 10)); got != api.ErrKnown {
			t.Errorf("one of %d that is known: %d", master, got)
		}
		if got := b.Add(plain(0, master, 10)); got != api.ErrRange {
			t.Errorf("one of %d that is wrong: %d", master, got)
		}
		if got := b.Add(plain(6, 7, 10)); got != api.OK {
			t.Errorf("one of another master: %d", got)
		}
		b.Due(5)
		if got := b.Add(plain(7, master, 10)); got != api.OK {
			t.Errorf("of %d, where one was taken out: %d", master, got)
		}
	}
}

func TestP12_1Example(t *testing.T) {
	e := changed(func(e *api.Expect) { e.Src = 0 })
	b := held(t, e)
	if got, ok := b.Peek(api.Tuple{Proto: 6, Src: 0x08080808, SrcPort: 1, Dst: 0x01020304, DstPort: 9}, 0); !ok || got != e {
		t.Errorf("%+v, %v", got, ok)
	}
}

func TestP12_1WhatFits(t *testing.T) {
	given, open := plain(9, 2, 10), plain(10, 2, 10)
	open.Src = 0
	frame := api.Expect{Proto: 47, Src: 5, Dst: 6, SrcPort: 7, DstPort: 8, Host: 9, HostPort: 10, Deadline: 10}
	b := held(t, given, open, frame)
	for _, c := range []struct {
		name string
		t    api.Tuple
		want api.Expect
	}{
		{"from that Src", to(given, given.Src, 20), given},
		{"from port 0", to(given, given.Src, 0), given},
		{"from another Src", to(given, given.Src+1, 20), api.Expect{}},
		{"from Src 0", to(given, 0, 20), api.Expect{}},
		{"from any Src", to(open, 77, 20), open},
		{"from Src 0, where it is any", to(open, 0, 20), open},
		{"a frame", to(frame, 5, 7), frame},
		{"a frame of another call", to(frame, 5, 70), frame},
		{"a frame without one", to(frame, 5, 0), frame},
		{"a frame from another Src", to(frame, 6, 7), api.Expect{}},
		{"another Proto", api.Tuple{Proto: 17, Src: given.Src, Dst: given.Dst, DstPort: 9}, api.Expect{}},
		{"another Dst", api.Tuple{Proto: 6, Src: given.Src, Dst: given.Dst + 1, DstPort: 9}, api.Expect{}},
		{"another DstPort", api.Tuple{Proto: 6, Src: given.Src, Dst: given.Dst, DstPort: 11}, api.Expect{}},
		{"the ends changed", api.Tuple{Proto: 6, Src: given.Dst, Dst: given.Src, SrcPort: 9, DstPort: 20}, api.Expect{}},
		{"to the host itself", api.Tuple{Proto: 6, Src: given.Src, Dst: given.Host, DstPort: given.HostPort}, api.Expect{}},
		{"nothing", api.Tuple{}, api.Expect{}},
	} {
		for _, now := range []int{least, -1, 0, 9} {
			if got, ok := b.Peek(c.t, now); got != c.want || ok != (c.want != api.Expect{}) {
				t.Errorf("%s: Peek at %d: %+v, %v", c.name, now, got, ok)
			}
			f := b.Fork()
			if got, ok := f.Match(c.t, now); got != c.want || ok != (c.want != api.Expect{}) || ok != (len(f.List()) == 2) {
				t.Errorf("%s: Match at %d: %+v, %v", c.name, now, got, ok)
			}
		}
		for _, now := range []int{10, 11, lastTime, greatest} {
			got, ok := b.Peek(c.t, now)
			other, also := b.Match(c.t, now)
			if ok || also || got != (api.Expect{}) || other != (api.Expect{}) {
				t.Errorf("%s: at %d: %+v, %v; %+v, %v", c.name, now, got, ok, other, also)
			}
		}
	}
	if !slices.Equal(b.List(), []api.Expect{given, open, frame}) {
		t.Errorf("Peek, or a Match of none, has changed the book: %+v", b.List())
	}
}

func TestP12_1MatchTakesOut(t *testing.T) {
	all := numbered(5)
	b := held(t, all...)
	k := to(all[2], all[2].Src, 1)
	if e, ok := b.Match(k, 0); !ok || e != all[2] {
		t.Errorf("%+v, %v", e, ok)
	}
	if want := slices.Delete(slices.Clone(all), 2, 3); !slices.Equal(b.List(), want) {
		t.Errorf("%+v, not %+v", b.List(), want)
	}
	if e, ok := b.Peek(k, 0); ok || e != (api.Expect{}) {
		t.Errorf("Peek: %+v, %v", e, ok)
	}
	if got := b.Add(all[2]); got != api.OK || b.List()[4] != all[2] {
		t.Errorf("again: %d, %+v", got, b.List())
	}
}

func TestP12_2Gone(t *testing.T) {
	all := []api.Expect{plain(5, 1, 10), plain(3, 2, 10), plain(4, 1, 5), plain(1, 0, 10), plain(2, 1, 20), plain(6, greatest, 10)}
	for _, c := range []struct {
		master    int
		out, stay []api.Expect
	}{
		{1, []api.Expect{all[0], all[2], all[4]}, []api.Expect{all[1], all[3], all[5]}},
		{2, all[1:2], slices.Concat(all[:1], all[2:])},
		{0, all[3:4], slices.Concat(all[:3], all[4:])},
		{greatest, all[5:], all[:5]},
		{3, nil, all}, {-1, nil, all}, {least, nil, all},
	} {
		b := held(t, all...)
		if out := b.Gone(c.master); !slices.Equal(out, c.out) || !slices.Equal(b.List(), c.stay) {
			t.Errorf("Gone(%d): %+v; there are %+v", c.master, out, b.List())
		}
		if again := b.Gone(c.master); len(again) != 0 || !slices.Equal(b.List(), c.stay) {
			t.Errorf("Gone(%d) again: %+v", c.master, again)
		}
	}
}

func TestP12_2Due(t *testing.T) {
	all := []api.Expect{plain(5, 1, 10), plain(3, 2, 9), plain(4, 1, 0), plain(1, 0, lastTime), plain(2, 1, 9)}
	for _, c := range []struct {
		now       int
		out, stay []api.Expect
	}{
		{least, nil, all}, {-1, nil, all},
		{0, all[2:3], slices.Concat(all[:2], all[3:])},
		{8, all[2:3], slices.Concat(all[:2], all[3:])},
		{9, []api.Expect{all[1], all[2], all[4]}, []api.Expect{all[0], all[3]}},
		{10, []api.Expect{all[0], all[1], all[2], all[4]}, all[3:4]},
		{lastTime - 1, []api.Expect{all[0], all[1], all[2], all[4]}, all[3:4]},
		{lastTime, all, nil}, {greatest, all, nil},
	} {
		b := held(t, all...)
		if out := b.Due(c.now); !slices.Equal(out, c.out) || !slices.Equal(b.List(), c.stay) {
			t.Errorf("Due(%d): %+v; there are %+v", c.now, out, b.List())
		}
		if again := b.Due(c.now); len(again) != 0 || !slices.Equal(b.List(), c.stay) {
			t.Errorf("Due(%d) again: %+v", c.now, again)
		}
	}
}

func TestP12_2ListIsInOrder(t *testing.T) {
	all := numbered(32)
	slices.Reverse(all)
	if got := held(t, all...).List(); !slices.Equal(got, all) {
		t.Errorf("%+v", got)
	}
}
