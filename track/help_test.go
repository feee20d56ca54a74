package track_test

import "lychgate/api"

// Numbers that are far out.
const (
	least    = -1 << 63
	greatest = 1<<63 - 1
)

// states are all of them, and some that are none.
func states() []api.State {
	all := []api.State{least, -1 << 32, -256, -2, -1, 9, 10, 64, 256, 1<<32 + 3, 1 << 62, greatest}
	for s := api.NoState; s <= api.Unreplied; s++ {
		all = append(all, s)
	}
	return all
}

// newsOf are the words of P7.1: the first of four flags that is set.
func newsOf(flags byte) string {
	for _, f := range []struct {
		mask byte
		name string
	}{{4, "rst"}, {2, "syn"}, {1, "fin"}, {16, "ack"}} {
		if flags&f.mask != 0 {
			return f.name
		}
	}
	return "nothing"
}

func begins(flags byte) bool {
	return flags&2 != 0 && flags&16 == 0 && flags&1 == 0 && flags&4 == 0
}

// nextOf is P7.1 said over again, sentence by sentence.
func nextOf(s api.State, back bool, flags byte) (api.State, bool) {
	if flags&3 == 3 && flags&4 == 0 {
		return 0, false
	}
	start := !back && begins(flags)
	plain := map[api.State]map[string]api.State{
		api.Closed:      {"rst": api.Closed},
		api.SynSent:     {"rst": api.Closed},
		api.SynBoth:     {"rst": api.Closed, "syn": api.SynBoth, "fin": api.FinOne, "ack": api.Established},
		api.Established: {"rst": api.Closed, "fin": api.FinOne, "ack": api.Established},
		api.FinOne:      {"rst": api.Closed, "fin": api.FinTwo, "ack": api.FinOne},
		api.FinTwo:      {"rst": api.Closed, "fin": api.FinTwo, "ack": api.TimeWait},
		api.TimeWait:    {"rst": api.Closed, "fin": api.TimeWait, "ack": api.TimeWait},
	}
	switch {
	case start && (s == api.NoState || s == api.Closed || s == api.SynSent || s == api.TimeWait):
		return api.SynSent, true
	case s == api.SynSent && back && newsOf(flags) == "syn":
		return api.SynBoth, true
	}
	next, ok := plain[s][newsOf(flags)]
	return next, ok
}

// segment is one of a flow, and what the flow becomes by it.
type segment struct {
	back  bool
	flags byte
	want  api.State
}
