package gate

import (
	"maps"
	"slices"

	"lychgate/api"
	"lychgate/track"
	"lychgate/tuple"
)

// noMaster is the Master of a flow that came of itself.
const noMaster = -1

// flow is one that goes on: what is told of it, the numbers that it holds, and who changes what its packets carry.
type flow struct {
	Flow
	held   []number
	helper helper
}

func (f *flow) fork() *flow {
	return &flow{Flow: f.Flow, held: slices.Clone(f.held), helper: f.helper.fork()}
}

// other is the tuple by which packets are not found that go forth, or back.
func (f *flow) other(back bool) api.Tuple {
	if back {
		return f.Orig
	}
	return f.Reply
}

// release lets a flow hold a number no more; it is not given back by that.
func (f *flow) release(x number) {
	f.held = slices.DeleteFunc(f.held, func(y number) bool { return x == y })
}

// lookUp is the flow that is found by a tuple, and whether by that which is answered; false, if there is none.
func (g *Gate) lookUp(t api.Tuple) (f *flow, back, ok bool) {
	id, _, ok := g.found.Get(t)
	if !ok {
		return nil, false, false
	}
	f = g.flows[id]
	return f, tuple.Key(t) != tuple.Key(f.Orig), true
}

// roomFor tells whether a flow may begin with these tuples.
func (g *Gate) roomFor(orig, reply api.Tuple) bool {
	_, _, origFound := g.lookUp(orig)
	_, _, replyFound := g.lookUp(reply)
	return len(g.flows) < api.MaxFlows && !origFound && !replyFound && tuple.Key(orig) != tuple.Key(reply)
}

// open lets a flow begin that there is room for, with the numbers that it holds.
func (g *Gate) open(x Flow, held ...number) *flow {
	x.Id = g.begun
	g.begun++
	f := &flow{Flow: x, held: held, helper: helperOf(x)}
	g.flows[x.Id] = f
	g.found.Put(x.Orig, x.Id, g.now)
	g.found.Put(x.Reply, x.Id, g.now)
	g.become(f, firstState(x.Orig.Proto))
	return f
}

func firstState(proto byte) api.State {
	if proto == api.Tcp {
		return api.SynSent
	}
	return api.Unreplied
}

// become lets a flow have a state, and the time that is its.
func (g *Gate) become(f *flow, s api.State) {
	f.State, f.Till = s, g.now+track.Time(f.Orig.Proto, s)
	g.found.Move(f.Orig, f.Till)
	g.found.Move(f.Reply, f.Till)
}

// end lets a flow end, with all that hangs on it.
func (g *Gate) end(f *flow) {
	g.found.Drop(f.Orig)
	g.found.Drop(f.Reply)
	delete(g.flows, f.Id)
	g.give(f.held...)
	g.giveExpected(g.book.Gone(f.Id))
	for _, x := range g.tunnels(f) {
		g.end(x)
	}
}

// byId are the flows in their order.
func (g *Gate) byId() []*flow {
	var all []*flow
	for _, id := range slices.Sorted(maps.Keys(g.flows)) {
		all = append(all, g.flows[id])
	}
	return all
}

// tunnels are the flows of Gre whose Master a flow is.
func (g *Gate) tunnels(master *flow) []*flow {
	var all []*flow
	for _, f := range g.byId() {
		if f.Master == master.Id && f.Orig.Proto == api.Gre {
			all = append(all, f)
		}
	}
	return all
}
