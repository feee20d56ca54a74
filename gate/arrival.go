package gate

import (
	"lychgate/api"
	"lychgate/ctrl"
	"lychgate/ipv4"
	"lychgate/mangle"
	"lychgate/segs"
	"lychgate/track"
	"lychgate/tuple"
)

// leastTtl is that of a packet that may still be handed on.
const leastTtl = 2

// drop is what the steps of a packet give up with: a type of its own, so that no other panic is taken for one.
type drop struct {
	reason api.Reason
}

// refuse gives up. Ahead of it nothing may have changed but the time.
func refuse(wrong bool, why api.Reason) {
	if wrong {
		panic(drop{why})
	}
}

// handle is what becomes of a packet when time has gone on.
func (g *Gate) handle(side api.Side, b []byte) (out Out) {
	defer func() {
		switch r := recover().(type) {
		case nil:
		case drop:
			out = Out{Reason: r.reason}
		default:
			panic(r)
		}
	}()
	p, e := ipv4.Parse(b)
	refuse(e != api.OK || p.Ttl < leastTtl, api.BadBytes)
	p = arrival{Gate: g, packet: p, side: side}.changed()
	p.Ttl--
	b, _ = ipv4.Build(p) // no step makes a packet that is not right
	return Out{Reason: api.Passed, Side: opposite(side), Bytes: b}
}

func opposite(side api.Side) api.Side {
	if side == api.Inside {
		return api.Outside
	}
	return api.Inside
}

// arrival is a packet that has come to a gateway, on a side.
type arrival struct {
	*Gate
	packet api.Packet
	side   api.Side
}

// changed is the packet as it goes on, but for its Ttl.
func (a arrival) changed() api.Packet {
	t, e := tuple.Of(a.packet)
	if e == api.ErrKind { // another protocol, or a message that is no echo
		return a.requoted()
	}
	refuse(e != api.OK, api.BadBytes)
	f, back := a.owner(t)
	is := tuple.Reverse(f.other(back))
	p, _ := mangle.Rewrite(a.packet, is) // it has a tuple, and is no longer than it was
	return f.helper.change(passage{arrival: a, flow: f, back: back, was: t, is: is}, p)
}

// requoted is an error that goes on to the one whose packet it quotes.
func (a arrival) requoted() api.Packet {
	t, e := tuple.Quoted(a.packet)
	refuse(e != api.OK || t.Proto == api.Gre, api.Unknown)
	f, back, ok := a.lookUp(tuple.Reverse(t))
	refuse(!ok || !a.comesAs(f, back), api.Stray)
	other := f.other(back)
	src := a.packet.Src
	if a.side == api.Inside { // who it is inside is not told
		src = other.Dst
	}
	p, _ := mangle.Requote(a.packet, src, other.Src, other) // it quotes a packet, and is no longer than it was
	return p
}

// owner is the flow that the packet belongs to, which goes on by it or begins, and whether it goes back.
func (a arrival) owner(t api.Tuple) (f *flow, back bool) {
	f, back, ok := a.lookUp(t)
	if !ok {
		return a.begin(t), false
	}
	refuse(!a.comesAs(f, back), api.Stray)
	a.become(f, a.next(f, back))
	return f, back
}

// comesAs tells whether the packet comes on the side from which a flow's go forth, or back.
func (a arrival) comesAs(f *flow, back bool) bool {
	return (a.side == f.Side) != back
}

// next is the state that a flow has behind the packet.
func (a arrival) next(f *flow, back bool) api.State {
	switch a.packet.Proto {
	case api.Tcp:
		s, ok := track.Next(f.State, back, a.flags())
		refuse(!ok, api.Invalid)
		return s
	case api.Icmp:
		refuse(a.asks() == back, api.Invalid)
	}
	return track.Other(f.State, back)
}

func (a arrival) flags() byte {
	s, _ := segs.ParseTcp(a.packet) // tuple.Of has told its error
	return s.Flags
}

func (a arrival) asks() bool {
	m, _ := ctrl.ParseIcmp(a.packet) // tuple.Of has told its error
	return ctrl.Asks(m)
}

// begin is a new flow, whose first packet it is.
func (a arrival) begin(t api.Tuple) *flow {
	refuse(t.Proto == api.Tcp && !track.Begins(a.flags()), api.Invalid)
	refuse(t.Proto == api.Icmp && !a.asks(), api.Invalid)
	refuse(t.Proto == api.Gre, api.Stray)
	if a.side == api.Inside {
		return a.beginInside(t)
	}
	return a.beginOutside(t)
}

// beginInside takes a number for the flow; that is given back, if there is no room.
func (a arrival) beginInside(t api.Tuple) *flow {
	rule, ok := a.rules.Masq(t.Src)
	refuse(!ok, api.NoRule)
	x, ok := a.take(source{t.Proto, rule.To}, t.SrcPort)
	refuse(!ok, api.NoRoom)
	reply := api.Tuple{Proto: t.Proto, Src: t.Dst, Dst: rule.To, SrcPort: t.DstPort, DstPort: x.n}
	if t.Proto == api.Icmp { // what is answered has the number that was asked with
		reply.SrcPort = x.n
	}
	if !a.roomFor(t, reply) {
		a.give(x)
		refuse(true, api.NoRoom)
	}
	return a.open(Flow{Orig: t, Reply: reply, Side: api.Inside, Master: noMaster}, x)
}

// beginOutside is for what is expected, or ruled.
func (a arrival) beginOutside(t api.Tuple) *flow {
	e, expected := a.book.Peek(t, a.now)
	if expected {
		f := a.admit(t, e.Host, e.HostPort, e.Master, heldBy(e))
		a.book.Match(t, a.now)
		return f
	}
	rule, ok := a.rules.Dnat(t.Proto, t.Dst, t.DstPort)
	refuse(!ok, api.Stray)
	return a.admit(t, rule.Host, rule.HostPort, noMaster)
}

// admit lets a flow begin that is handed on to a host inside.
func (a arrival) admit(t api.Tuple, host uint32, port uint16, master int, held ...number) *flow {
	reply := api.Tuple{Proto: t.Proto, Src: host, Dst: t.Src, SrcPort: port, DstPort: t.SrcPort}
	refuse(!a.roomFor(t, reply), api.NoRoom)
	return a.open(Flow{Orig: t, Reply: reply, Side: api.Outside, Master: master}, held...)
}
