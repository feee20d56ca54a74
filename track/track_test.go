package track_test

import (
	"testing"

	"lychgate/api"
	"lychgate/track"
)

// Flags, for short.
const (
	fin = api.Fin
	syn = api.Syn
	rst = api.Rst
	psh = api.Psh
	ack = api.Ack
	urg = api.Urg
)

func TestP7_1Begins(t *testing.T) {
	for flags := range 256 {
		if got := track.Begins(byte(flags)); got != begins(byte(flags)) {
			t.Errorf("%08b: %v", flags, got)
		}
	}
	for _, flags := range []byte{syn, syn | psh, syn | urg, syn | 64, syn | 128, syn | psh | urg | 64 | 128} {
		if !track.Begins(flags) {
			t.Errorf("%08b does not begin", flags)
		}
	}
	for _, flags := range []byte{0, ack, fin, rst, psh, urg, syn | ack, syn | fin, syn | rst, syn | ack | fin | rst, 255} {
		if track.Begins(flags) {
			t.Errorf("%08b begins", flags)
		}
	}
}

func TestP7_1NextOfEachState(t *testing.T) {
	for _, c := range []struct {
		name  string
		s     api.State
		back  bool
		flags byte
		want  api.State
	}{
		{"none, Syn", api.NoState, false, syn, api.SynSent},
		{"none, Syn with more that plays no part", api.NoState, false, syn | psh | urg | 64 | 128, api.SynSent},
		{"Closed, Syn", api.Closed, false, syn, api.SynSent},
		{"Closed, Rst", api.Closed, false, rst, api.Closed},
		{"Closed, Rst back", api.Closed, true, rst | ack, api.Closed},
		{"SynSent, Rst back", api.SynSent, true, rst | ack, api.Closed},
		{"SynSent, Rst", api.SynSent, false, rst, api.Closed},
		{"SynSent, Syn again", api.SynSent, false, syn, api.SynSent},
		{"SynSent, Syn and Ack back", api.SynSent, true, syn | ack, api.SynBoth},
		{"SynSent, Syn back", api.SynSent, true, syn, api.SynBoth},
		{"SynBoth, Rst", api.SynBoth, false, rst, api.Closed},
		{"SynBoth, Syn", api.SynBoth, false, syn, api.SynBoth},
		{"SynBoth, Syn back", api.SynBoth, true, syn, api.SynBoth},
		{"SynBoth, Syn and Ack", api.SynBoth, false, syn | ack, api.SynBoth},
		{"SynBoth, Syn and Ack back", api.SynBoth, true, syn | ack, api.SynBoth},
		{"SynBoth, Fin", api.SynBoth, false, fin | ack, api.FinOne},
		{"SynBoth, Ack", api.SynBoth, false, ack, api.Established},
		{"SynBoth, Ack back", api.SynBoth, true, ack, api.Established},
		{"Established, Rst", api.Established, true, rst, api.Closed},
		{"Established, Fin", api.Established, true, fin, api.FinOne},
		{"Established, Ack", api.Established, false, ack | psh | urg, api.Established},
		{"FinOne, Rst", api.FinOne, false, rst, api.Closed},
		{"FinOne, Fin", api.FinOne, false, fin | ack, api.FinTwo},
		{"FinOne, Ack", api.FinOne, true, ack, api.FinOne},
		{"FinTwo, Rst", api.FinTwo, true, rst, api.Closed},
		{"FinTwo, Fin", api.FinTwo, true, fin | ack, api.FinTwo},
		{"FinTwo, Ack", api.FinTwo, true, ack, api.TimeWait},
		{"TimeWait, Rst", api.TimeWait, false, rst, api.Closed},
		{"TimeWait, Syn", api.TimeWait, false, syn, api.SynSent},
		{"TimeWait, Fin", api.TimeWait, true, fin, api.TimeWait},
		{"TimeWait, Ack", api.TimeWait, false, ack, api.TimeWait},
		{"Syn and Fin with Rst", api.Established, false, syn | fin | rst, api.Closed},
		{"all flags", api.FinOne, true, 255, api.Closed},
	} {
		if got, ok := track.Next(c.s, c.back, c.flags); got != c.want || !ok {
			t.Errorf("%s: %d, %v, not %d", c.name, got, ok, c.want)
		}
	}
}

func TestP7_1P2NextOfNothing(t *testing.T) {
	for _, c := range []struct {
		name  string
		s     api.State
		back  bool
		flags byte
	}{
		{"none, Syn back", api.NoState, true, syn},
		{"none, Syn and Ack", api.NoState, false, syn | ack},
		{"none, Rst", api.NoState, false, rst},
		{"none, Ack", api.NoState, false, ack},
		{"none, Fin", api.NoState, false, fin},
		{"none, nothing", api.NoState, false, 0},
		{"Closed, Syn back", api.Closed, true, syn},
		{"Closed, Syn and Ack", api.Closed, false, syn | ack},
		{"Closed, Fin", api.Closed, false, fin},
		{"Closed, Ack", api.Closed, true, ack},
		{"SynSent, Syn and Ack", api.SynSent, false, syn | ack},
		{"SynSent, Fin", api.SynSent, true, fin | ack},
		{"SynSent, Ack", api.SynSent, false, ack},
		{"SynSent, Ack back", api.SynSent, true, ack},
		{"SynSent, nothing", api.SynSent, true, psh},
		{"SynBoth, nothing", api.SynBoth, false, psh | urg},
		{"Established, Syn", api.Established, false, syn},
		{"Established, Syn and Ack back", api.Established, true, syn | ack},
		{"Established, nothing", api.Established, false, 64 | 128},
		{"FinOne, Syn", api.FinOne, false, syn},
		{"FinTwo, Syn", api.FinTwo, false, syn},
		{"TimeWait, Syn back", api.TimeWait, true, syn},
		{"TimeWait, Syn and Ack", api.TimeWait, false, syn | ack},
		{"TimeWait, nothing", api.TimeWait, false, 0},
		{"Syn and Fin", api.SynBoth, false, syn | fin},
		{"Syn, Fin and Ack back", api.SynSent, true, syn | fin | ack},
		{"Unreplied, Syn", api.Unreplied, false, syn},
		{"Unreplied, Rst", api.Unreplied, false, rst},
		{"no state, Syn", 9, false, syn},
		{"below all states, Rst", -1, false, rst},
	} {
		if got, ok := track.Next(c.s, c.back, c.flags); got != api.NoState || ok {
			t.Errorf("%s: %d, %v", c.name, got, ok)
		}
	}
}

// TestP1P7_1NextOfAll: of all flags, in all states and in what is none.
func TestP1P7_1NextOfAll(t *testing.T) {
	for _, s := range states() {
		for _, back := range []bool{false, true} {
			for flags := range 256 {
				want, may := nextOf(s, back, byte(flags))
				if got, ok := track.Next(s, back, byte(flags)); got != want || ok != may {
					t.Errorf("state %d, back %v, %08b: %d, %v, not %d, %v", s, back, flags, got, ok, want, may)
				}
			}
		}
	}
}

func TestP7_2Other(t *testing.T) {
	for _, s := range states() {
		if got := track.Other(s, true); got != api.Established {
			t.Errorf("of %d, back: %d", s, got)
		}
		want := api.Unreplied
		if s == api.Established {
			want = api.Established
		}
		if got := track.Other(s, false); got != want {
			t.Errorf("of %d: %d, not %d", s, got, want)
		}
	}
}

func TestP7_2Time(t *testing.T) {
	times := map[int]map[api.State]int{
		1:  {8: 30, 3: 30},
		6:  {1: 120, 2: 60, 3: 432000, 4: 120, 5: 60, 6: 120, 7: 10},
		17: {8: 30, 3: 180},
		47: {8: 30, 3: 180},
	}
	for proto := range 256 {
		for _, s := range states() {
			if got := track.Time(byte(proto), s); got != times[proto][s] {
				t.Errorf("protocol %d, state %d: %d, not %d", proto, s, got, times[proto][s])
			}
		}
	}
}

func TestP7_2Live(t *testing.T) {
	live := map[api.State]bool{
		api.SynSent: true, api.SynBoth: true, api.Established: true, api.FinOne: true, api.FinTwo: true,
		api.TimeWait: true, api.Unreplied: true,
	}
	for _, s := range states() {
		if got := track.Live(s); got != live[s] {
			t.Errorf("%d: %v", s, got)
		}
	}
}
