package track_test

import (
	"slices"
	"testing"

	"lychgate/api"
	"lychgate/segs"
	"lychgate/track"
)

// follow goes through segments from no flow on.
func follow(t *testing.T, name string, all []segment) {
	t.Helper()
	s := api.NoState
	for i, x := range all {
		next, ok := track.Next(s, x.back, x.flags)
		if next != x.want || !ok {
			t.Errorf("%s, segment %d: %d became %d, %v, not %d", name, i, s, next, ok, x.want)
		}
		s = x.want
	}
}

func TestP7_1Flows(t *testing.T) {
	follow(t, "the example", []segment{{false, syn, api.SynSent}, {true, syn | ack, api.SynBoth}, {false, ack, api.Established}})
	follow(t, "both begin at once", []segment{
		{false, syn, api.SynSent}, {true, syn, api.SynBoth}, {false, syn | ack, api.SynBoth},
		{true, syn | ack, api.SynBoth}, {false, ack, api.Established},
	})
	follow(t, "to the end and again", []segment{
		{false, syn, api.SynSent}, {false, syn, api.SynSent}, {true, syn | ack, api.SynBoth},
		{true, syn | ack, api.SynBoth}, {false, ack, api.Established}, {false, psh | ack, api.Established},
		{true, psh | ack, api.Established}, {false, fin | ack, api.FinOne}, {true, ack, api.FinOne},
		{true, fin | ack, api.FinTwo}, {true, fin | ack, api.FinTwo}, {false, ack, api.TimeWait},
		{true, fin | ack, api.TimeWait}, {false, ack, api.TimeWait}, {false, syn, api.SynSent},
	})
	follow(t, "refused, and again", []segment{
		{false, syn, api.SynSent}, {true, rst | ack, api.Closed}, {true, rst | ack, api.Closed},
		{false, syn, api.SynSent}, {true, syn | ack, api.SynBoth},
	})
}

func TestP7_3ClosedGoesOnByOneThatBegins(t *testing.T) {
	for _, back := range []bool{false, true} {
		for flags := range 256 {
			next, ok := track.Next(api.Closed, back, byte(flags))
			if on := ok && next != api.Closed; on != (!back && track.Begins(byte(flags))) {
				t.Errorf("back %v, %08b: %d, %v", back, flags, next, ok)
			}
		}
	}
}

func TestP7_4WhatComesBackDoesNotBegin(t *testing.T) {
	for _, s := range []api.State{api.NoState, api.Closed, api.TimeWait} {
		for flags := range 256 {
			if next, ok := track.Next(s, true, byte(flags)); ok && next != api.Closed && next != api.TimeWait || s == api.NoState && ok {
				t.Errorf("state %d, %08b: %d", s, flags, next)
			}
		}
	}
}

func TestP6NothingIsKept(t *testing.T) {
	tell := func() (all []int) {
		for _, s := range states() {
			for flags := range 256 {
				next, ok := track.Next(s, flags%2 == 0, byte(flags))
				if ok {
					next += 100
				}
				all = append(all, int(next), int(track.Other(s, flags%3 == 0)), track.Time(byte(flags), s))
			}
		}
		return all
	}
	first := tell()
	track.Next(api.Established, false, rst)
	track.Next(api.Closed, true, 255)
	track.Time(6, -1)
	if !slices.Equal(first, tell()) {
		t.Error("another answer")
	}
}

// TestE1FlowsGoOnByTheirSegments: the flags are those of segments that were read, and a flow lives till it is closed.
func TestE1FlowsGoOnByTheirSegments(t *testing.T) {
	s, till := api.NoState, 0
	for now, x := range []segment{
		{false, syn, api.SynSent}, {true, syn | ack, api.SynBoth}, {false, ack, api.Established},
		{false, ack | psh, api.Established}, {true, rst, api.Closed},
	} {
		p, e := segs.BuildTcp(api.Packet{Ttl: 9, Proto: api.Tcp, Src: 1, Dst: 2}, api.Segment{Src: 5, Dst: 21, Flags: x.flags})
		g, f := segs.ParseTcp(p)
		if e != api.OK || f != api.OK {
			t.Fatalf("%d, %d", e, f)
		}
		next, ok := track.Next(s, x.back, g.Flags)
		if next != x.want || !ok || track.Live(next) != (x.want != api.Closed) {
			t.Errorf("%d became %d, %v", s, next, ok)
		}
		s, till = next, now+track.Time(p.Proto, next)
	}
	if till != 14 {
		t.Errorf("till %d", till)
	}
}

// TestE1OtherFlowsGoOn: a datagram forth, again, back, and forth.
func TestE1OtherFlowsGoOn(t *testing.T) {
	s := api.NoState
	for i, x := range []struct {
		back bool
		want api.State
		time int
	}{{false, api.Unreplied, 30}, {false, api.Unreplied, 30}, {true, api.Established, 180}, {false, api.Established, 180}} {
		s = track.Other(s, x.back)
		if s != x.want || !track.Live(s) || track.Time(api.Udp, s) != x.time || track.Time(api.Gre, s) != x.time || track.Time(api.Icmp, s) != 30 {
			t.Errorf("%d: %d", i, s)
		}
	}
}

// TestE6AFlowIsBegunOnce: while a flow is there, no Syn begins it anew, but one that is sent again.
func TestE6AFlowIsBegunOnce(t *testing.T) {
	for _, s := range []api.State{api.SynBoth, api.Established, api.FinOne, api.FinTwo} {
		for _, back := range []bool{false, true} {
			for flags := range 256 {
				if next, ok := track.Next(s, back, byte(flags)); ok && next == api.SynSent {
					t.Errorf("state %d, back %v, %08b", s, back, flags)
				}
			}
		}
	}
}
