package gate_test

import (
	"slices"
	"testing"

	"lychgate/api"
	"lychgate/ctrl"
	"lychgate/gate"
)

// dialler and tunnel are the ends of a flow of PPTP that begins inside.
var (
	dialler = end{host, 5}
	tunnel  = end{server, 1723}
)

// controlled is a message of a type, with its call (of Link: its peer's), its peer's call and how it ended.
func controlled(typ int, call, peer uint16, result byte) string {
	size := map[int]int{7: 168, 8: 32, 12: 16, 13: 148, 15: 24, 1: 156}[typ]
	b := make([]byte, size)
	copy(b, []byte{byte(size >> 8), byte(size), 0, 1, 0x1a, 0x2b, 0x3c, 0x4d, 0, byte(typ), 0, 0, byte(call >> 8), byte(call)})
	if typ == 8 {
		copy(b[14:], []byte{byte(peer >> 8), byte(peer), result})
	}
	b[size-1] = 0xee
	return string(b)
}

func request(call uint16) string { return controlled(7, call, 0, 0) }
func hangUp(call uint16) string  { return controlled(12, call, 0, 0) }
func notice(call uint16) string  { return controlled(13, call, 0, 0) }
func link(peer uint16) string    { return controlled(15, peer, 0, 0) }
func reply(call, peer uint16, result byte) string {
	return controlled(8, call, peer, result)
}

func pptpWorld(t *testing.T, low, high uint16) *world {
	t.Helper()
	w := masqueraded(t, low, high)
	w.shakeHands(dialler, tunnel)
	return w
}

// dials, answers are what a side says, and as what it is told.
func (w *world) dials(data, want string) {
	w.Helper()
	if _, s := w.tcp(api.Inside, says(dialler, tunnel, 100, data)); string(s.Data) != want || s.Seq != 100 {
		w.Errorf("% x is told as % x", data, s.Data)
	}
}

func (w *world) answers(data, want string) {
	w.Helper()
	if _, s := w.tcp(api.Outside, says(tunnel, end{public, w.flow(0).Reply.DstPort}, 500, data)); string(s.Data) != want || s.Seq != 500 {
		w.Errorf("% x is told as % x", data, s.Data)
	}
}

func call(id int, client, server2, number uint16, till int) gate.Flow {
	return gate.Flow{Id: id, Side: api.Inside, State: api.Unreplied, Till: till, Master: 0,
		Orig:  api.Tuple{Proto: 47, Src: host, Dst: server, SrcPort: client, DstPort: server2},
		Reply: api.Tuple{Proto: 47, Src: server, Dst: public, SrcPort: server2, DstPort: number}}
}

// TestP16_4Pptp: a call gets a number of the pool; when it is taken its frames go both ways.
func TestP16_4Pptp(t *testing.T) {
	w := pptpWorld(t, 1000, 1009)
	w.drops(api.Outside, frame(server, public, 1000), api.Stray)
	w.dials(request(7), request(1000))
	w.uses(47, public, 1000)
	w.dials(request(7), request(1000)) // once more
	w.uses(47, public, 1000)
	w.drops(api.Outside, frame(server, public, 1000), api.Stray)
	w.now = 9
	w.answers(reply(70, 1000, 1), reply(70, 7, 1))
	if f := w.flow(1); f != call(1, 7, 70, 1000, 39) {
		t.Errorf("%+v", f)
	}
	w.now = 12
	p := w.passes(api.Inside, frame(host, server, 70))
	f, e := ctrl.ParseGre(p)
	if e != api.OK || p.Src != public || p.Dst != server || !ctrl.SameGre(f, api.Frame{Call: 70, HasSeq: true, Seq: 5, Data: []byte("xyz")}) {
		t.Errorf("%+v, %+v", p, f)
	}
	if f := w.flow(1); f.State != api.Unreplied || f.Till != 42 {
		t.Errorf("%+v", f)
	}
	p = w.passes(api.Outside, frame(server, public, 1000))
	f, e = ctrl.ParseGre(p)
	if e != api.OK || p.Src != server || p.Dst != host || !ctrl.SameGre(f, api.Frame{Call: 7, HasSeq: true, Seq: 5, Data: []byte("xyz")}) {
		t.Errorf("%+v, %+v", p, f)
	}
	if f := w.flow(1); f.State != api.Established || f.Till != 192 {
		t.Errorf("%+v", f)
	}
	w.drops(api.Inside, frame(host, server, 71), api.Stray)
	w.drops(api.Inside, frame(host2, server, 70), api.Stray)
	w.drops(api.Outside, frame(host, server, 70), api.Stray)
	w.drops(api.Inside, frame(server, public, 1000), api.Stray)
	w.drops(api.Outside, frame(server2, public, 1000), api.Stray)
	w.answers(link(1000), link(7))
	w.dials(hangUp(7), hangUp(1000))
	w.answers(notice(70), notice(70))
	if len(w.Flows()) != 1 {
		t.Errorf("%+v", w.Flows())
	}
	w.uses(47, public)
	w.drops(api.Inside, frame(host, server, 70), api.Stray)
	w.drops(api.Outside, frame(server, public, 1000), api.Stray)
	w.dials(hangUp(7), hangUp(7)) // the call is gone
	w.answers(link(1000), link(1000))
}

// TestP16_4PptpWish: wished is the call itself.
func TestP16_4PptpWish(t *testing.T) {
	w := pptpWorld(t, 1000, 1009)
	for _, x := range []struct{ call, want uint16 }{{1005, 1005}, {0, 1000}, {1000, 1001}, {65535, 1002}} {
		w.dials(request(x.call), request(x.want))
		w.dials(hangUp(x.call), hangUp(x.want))
	}
	w.uses(47, public, 1000, 1001, 1002, 1005)
	w.dials(request(1006), request(1006)) // four are there: it stays as it is
	w.dials(request(9), request(9))
	w.dials(request(1005), request(1005))
	w.uses(47, public, 1000, 1001, 1002, 1005)
	w.answers(reply(70, 1006, 1), reply(70, 1006, 1))
	if len(w.Flows()) != 1 {
		t.Errorf("%+v", w.Flows())
	}
}

// TestP16_4PptpNoNumber: without one the call stays, and is none.
func TestP16_4PptpNoNumber(t *testing.T) {
	w := pptpWorld(t, 1000, 1001)
	for _, x := range []struct{ call, want uint16 }{{7, 1000}, {8, 1001}, {9, 9}} {
		w.dials(request(x.call), request(x.want))
	}
	w.answers(reply(70, 9, 1), reply(70, 9, 1))
	if len(w.Flows()) != 1 {
		t.Errorf("%+v", w.Flows())
	}
	w.answers(reply(70, 1000, 1), reply(70, 7, 1))
	w.answers(notice(70), notice(70))
	w.dials(request(9), request(1000)) // now there is one
}

// TestP16_4PptpOfOthers: messages of other types, or the other way round, stay and do nothing.
func TestP16_4PptpOfOthers(t *testing.T) {
	w := pptpWorld(t, 1000, 1009)
	w.dials(request(1003), request(1003))
	w.dials(request(7), request(1000))
	was := look(w.Gate)
	for _, data := range []string{reply(70, 1000, 1), reply(7, 7, 1), link(1000), link(7), notice(7), hangUp(8), controlled(1, 7, 0, 0), request(7)[:167], request(7) + "x", "", "x"} {
		w.dials(data, data)
	}
	for _, data := range []string{request(1000), request(7), hangUp(1000), hangUp(7), notice(1000), notice(7), notice(0), reply(70, 7, 1), reply(1000, 70, 1), link(7), controlled(1, 1000, 0, 0), reply(70, 1000, 1)[:31], ""} {
		w.answers(data, data)
	}
	if !same(was, look(w.Gate)) {
		t.Errorf("%+v has become %+v", was, look(w.Gate))
	}
}

// TestP16_4PptpResults: only a call that is taken has a flow; it has one.
func TestP16_4PptpResults(t *testing.T) {
	w := pptpWorld(t, 1000, 1009)
	w.dials(request(7), request(1000))
	for _, result := range []byte{0, 2, 3, 255} {
		w.answers(reply(70, 1000, result), reply(70, 7, result))
		w.answers(notice(70), notice(70))
	}
	if len(w.Flows()) != 1 {
		t.Errorf("%+v", w.Flows())
	}
	w.uses(47, public, 1000)
	w.answers(reply(70, 1000, 1), reply(70, 7, 1))
	w.now = 5
	w.answers(reply(71, 1000, 1), reply(71, 7, 1)) // it is there already
	if f := w.flow(1); f != call(1, 7, 70, 1000, 31) || len(w.Flows()) != 2 {
		t.Errorf("%+v", w.Flows())
	}
}

// TestP16_4PptpAgain: when a call's flow has ended by its time the call is still there, and may have another one.
func TestP16_4PptpAgain(t *testing.T) {
	w := pptpWorld(t, 1000, 1009)
	w.dials(request(7), request(1000))
	w.answers(reply(70, 1000, 1), reply(70, 7, 1))
	w.now = 31
	w.drops(api.Inside, frame(host, server, 70), api.Stray)
	w.uses(47, public, 1000)
	w.answers(notice(70), notice(70)) // of a call without a flow
	w.uses(47, public, 1000)
	w.answers(reply(71, 1000, 1), reply(71, 7, 1))
	if f := w.flow(2); f != call(2, 7, 71, 1000, 61) {
		t.Errorf("%+v", f)
	}
	w.answers(notice(70), notice(70))
	w.flow(2)
	w.answers(notice(71), notice(71))
	w.uses(47, public)
}

// TestP16_4PptpCalls: a Notify ends its own call, and no other.
func TestP16_4PptpCalls(t *testing.T) {
	w := pptpWorld(t, 1000, 1009)
	for i := range uint16(4) {
		w.dials(request(7+i), request(1000+i))
		w.answers(reply(70+i, 1000+i, 1), reply(70+i, 7+i, 1))
	}
	w.answers(notice(72), notice(72))
	w.uses(47, public, 1000, 1001, 1003)
	var ids []int
	for _, f := range w.Flows() {
		ids = append(ids, f.Id)
	}
	if !slices.Equal(ids, []int{0, 1, 2, 4}) {
		t.Errorf("%v", ids)
	}
	w.dials(request(20), request(1002)) // there is room for one again
	w.dials(request(21), request(21))
	w.dials(hangUp(10), hangUp(1003))
	w.answers(reply(70, 1002, 1), reply(70, 20, 1)) // but the server has that call already
	if len(w.Flows()) != 4 {
		t.Errorf("%+v", w.Flows())
	}
}

// TestP16_2PptpEnds: with its Master a flow of Gre ends, and the calls' numbers are given back.
func TestP16_2PptpEnds(t *testing.T) {
	w := pptpWorld(t, 1000, 1009)
	w.dials(request(7), request(1000))
	w.dials(request(8), request(1001))
	w.answers(reply(70, 1000, 1), reply(70, 7, 1))
	w.passes(api.Outside, frame(server, public, 1000))
	other := end{host2, 5}
	w.shakeHands(other, tunnel)
	w.tcp(api.Inside, says(other, tunnel, 100, request(7)))
	w.tcp(api.Outside, says(tunnel, end{public, 1001}, 500, reply(70, 1002, 1)))
	w.passes(api.Outside, frame(server, public, 1002))
	w.uses(47, public, 1000, 1001, 1002)
	w.tcp(api.Inside, flagged(dialler, tunnel, api.Rst))
	w.now += 10
	w.Tick(w.now)
	w.uses(47, public, 1002)
	w.uses(6, public, 1001)
	if l := w.Flows(); len(l) != 2 || l[0].Id != 2 || l[1].Id != 3 || l[1].Master != 2 {
		t.Errorf("%+v", l)
	}
	w.drops(api.Inside, frame(host, server, 70), api.Stray)
	w.passes(api.Inside, frame(host2, server, 70))
}

// TestP16_9PptpGivenBackOnce: a number that a call gave back is another one's then, and stays so when the first flow ends.
func TestP16_9PptpGivenBackOnce(t *testing.T) {
	w := pptpWorld(t, 1000, 1009)
	w.dials(request(7), request(1000))
	w.answers(reply(70, 1000, 1), reply(70, 7, 1))
	w.answers(notice(70), notice(70))
	other := end{host2, 5}
	w.shakeHands(other, tunnel)
	if _, s := w.tcp(api.Inside, says(other, tunnel, 100, request(7))); string(s.Data) != request(1000) {
		t.Errorf("% x", s.Data)
	}
	w.tcp(api.Inside, flagged(dialler, tunnel, api.Rst))
	w.Tick(w.now + 10)
	w.uses(47, public, 1000)
}

// TestP16_4PptpNoRoom: with as many flows as may be the call has none; what is told is told all the same.
func TestP16_4PptpNoRoom(t *testing.T) {
	w := pptpWorld(t, 1000, 1099)
	w.dials(request(7), request(1000))
	for i := range uint16(63) {
		w.udp(api.Inside, datagram(end{host, i}, end{server, 53}, ""))
	}
	w.answers(reply(70, 1000, 1), reply(70, 7, 1))
	if len(w.Flows()) != api.MaxFlows || w.Flows()[63].Orig.Proto != 17 {
		t.Errorf("there are %d", len(w.Flows()))
	}
	w.now = 40
	w.answers(reply(70, 1000, 1), reply(70, 7, 1))
	if f := w.flow(64); f != call(64, 7, 70, 1000, 70) {
		t.Errorf("%+v", f)
	}
}

// TestP16_4PptpAsOne: a flow whose tuples would both be found as one does not begin.
func TestP16_4PptpAsOne(t *testing.T) {
	w := masqueraded(t, 1000, 1009)
	w.rule(api.Rule{Kind: api.Masq, Net: public, Bits: 32, To: public})
	from, to := end{public, 1005}, end{public, 1723}
	w.tcp(api.Inside, flagged(from, to, api.Syn))
	w.tcp(api.Outside, flagged(to, from, api.Syn|api.Ack))
	_, s := w.tcp(api.Inside, says(from, to, 100, request(1007)))
	if string(s.Data) != request(1007) {
		t.Errorf("% x", s.Data)
	}
	w.tcp(api.Outside, says(to, from, 500, reply(1007, 1007, 1)))
	if len(w.Flows()) != 1 {
		t.Errorf("%+v", w.Flows())
	}
	w.tcp(api.Outside, says(to, from, 500, reply(1008, 1007, 1)))
	if len(w.Flows()) != 2 {
		t.Errorf("%+v", w.Flows())
	}
}

// TestP16_4PptpSide: only a flow that began inside, to the port 1723, has calls.
func TestP16_4PptpSide(t *testing.T) {
	w := masqueraded(t, 1000, 1009)
	w.dnat(6, 1723, 1723)
	from, to, in := end{server, 7}, end{public, 1723}, end{host, 1723}
	w.letIn(from, to, in)
	w.tcp(api.Outside, says(from, to, 100, request(7)))
	_, s := w.tcp(api.Inside, says(in, from, 500, request(7)))
	if string(s.Data) != request(7) {
		t.Errorf("% x", s.Data)
	}
	for _, port := range []uint16{21, 1722, 1724, 5060} {
		w.shakeHands(end{host, port}, end{server, port})
		if _, s = w.tcp(api.Inside, says(end{host, port}, end{server, port}, 100, request(7))); string(s.Data) != request(7) {
			t.Errorf("to %d: % x", port, s.Data)
		}
	}
	w.shakeHands(end{host, 1723}, end{server, 80})
	if _, s = w.tcp(api.Inside, says(end{host, 1723}, end{server, 80}, 100, request(7))); string(s.Data) != request(7) {
		t.Errorf("% x", s.Data)
	}
	w.uses(47, public)
}
