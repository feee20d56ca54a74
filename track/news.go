package track

import "lychgate/api"

// news is what a segment tells its flow. A Syn is told apart by its direction and by what it stands with, since some
// states hear it from the one side alone.
type news int

const (
	nothing news = iota
	reset
	begin     // a Syn that begins, not back
	synBack   // any Syn, back
	synOnward // a Syn that does not begin, not back
	fin
	ack
	newsCount
)

func newsOf(back bool, flags byte) news {
	switch {
	case flags&api.Rst != 0:
		return reset
	case flags&api.Syn != 0:
		return newsOfSyn(back, flags)
	case flags&api.Fin != 0:
		return fin
	case flags&api.Ack != 0:
		return ack
	}
	return nothing
}

func newsOfSyn(back bool, flags byte) news {
	switch {
	case back:
		return synBack
	case Begins(flags):
		return begin
	}
	return synOnward
}

// follows is what each state becomes by each of the news; NoState, where the flow does not take it: nothing goes back
// to that state.
func follows() map[api.State][newsCount]api.State {
	return map[api.State][newsCount]api.State{
		api.NoState: {begin: api.SynSent},
		api.SynSent: {reset: api.Closed, begin: api.SynSent, synBack: api.SynBoth},
		api.SynBoth: {
			reset: api.Closed, begin: api.SynBoth, synBack: api.SynBoth, synOnward: api.SynBoth,
			fin: api.FinOne, ack: api.Established,
		},
		api.Established: {reset: api.Closed, fin: api.FinOne, ack: api.Established},
		api.FinOne:      {reset: api.Closed, fin: api.FinTwo, ack: api.FinOne},
		api.FinTwo:      {reset: api.Closed, fin: api.FinTwo, ack: api.TimeWait},
		api.TimeWait:    {reset: api.Closed, begin: api.SynSent, fin: api.TimeWait, ack: api.TimeWait},
		api.Closed:      {reset: api.Closed, begin: api.SynSent},
	}
}
