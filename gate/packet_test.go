package gate_test

import (
	"bytes"
	"slices"
	"testing"

	"lychgate/api"
	"lychgate/ctrl"
	"lychgate/gate"
	"lychgate/ipv4"
	"lychgate/segs"
	"lychgate/track"
	"lychgate/tuple"
)

// withTtl is a right packet's bytes with another Ttl.
func withTtl(b []byte, ttl byte) []byte {
	p, e := ipv4.Parse(b)
	p.Ttl = ttl
	return bytesOf(p, e)
}

// withProto is a right packet's bytes with another protocol.
func withProto(b []byte, proto byte) []byte {
	p, e := ipv4.Parse(b)
	p.Proto = proto
	return bytesOf(p, e)
}

// spoilt is bytes of which the last one is another, and with it a check sum, or a length, wrong.
func spoilt(b []byte) []byte {
	b = bytes.Clone(b)
	b[len(b)-1] ^= 1
	return b
}

func TestP16_2OtherSides(t *testing.T) {
	w := masqueraded(t, 1000, 1009)
	b := datagram(end{host, 5}, end{server, 53}, "x")
	for _, side := range []api.Side{-1, 2, 3, least, greatest} {
		w.drops(side, b, api.Unknown)
		w.drops(side, nil, api.Unknown)
	}
	w.udp(api.Inside, b)
	for _, side := range []api.Side{-1, 2, 3, least, greatest} {
		w.drops(side, b, api.Unknown)
	}
}

// TestP16_2BadBytes: what is no right packet, and what may go no further.
func TestP16_2BadBytes(t *testing.T) {
	w := masqueraded(t, 1000, 1009)
	for _, b := range [][]byte{
		flagged(end{host, 5}, end{server, 80}, api.Syn), datagram(end{host, 5}, end{server, 53}, "abc"),
		ping(host, server, 5), frame(host, server, 5), fault(host, server, datagram(end{server, 1}, end{host, 2}, "abc")),
	} {
		for n := range len(b) {
			w.drops(api.Inside, b[:n], api.BadBytes)
			w.drops(api.Outside, b[:n], api.BadBytes)
		}
		for bit := range 24 * 8 { // each one in the header is held by its sum, or another error comes ahead
			x := bytes.Clone(b)
			x[bit/8] ^= 1 << (bit % 8)
			w.drops(api.Inside, x, api.BadBytes)
		}
		w.drops(api.Inside, withTtl(b, 0), api.BadBytes)
		w.drops(api.Inside, withTtl(b, 1), api.BadBytes)
	}
	for _, b := range [][]byte{flagged(end{host, 5}, end{server, 80}, api.Syn), datagram(end{host, 5}, end{server, 53}, "abc"), ping(host, server, 5), fault(host, server, make([]byte, 60))} {
		w.drops(api.Inside, spoilt(b), api.BadBytes)
	}
	p, _ := ipv4.Parse(frame(host, server, 5))
	p.Data = append(p.Data, 0)
	w.drops(api.Inside, bytesOf(p, api.OK), api.BadBytes)
	w.drops(api.Inside, nil, api.BadBytes)
	w.drops(api.Outside, []byte{}, api.BadBytes)
}

// TestP16_2LeastTtl: 2 is enough, and 1 is told then.
func TestP16_2LeastTtl(t *testing.T) {
	w := masqueraded(t, 1000, 1009)
	for _, ttl := range []byte{2, 3, 255} {
		if p := w.passes(api.Inside, withTtl(datagram(end{host, 5}, end{server, 53}, "x"), ttl)); p.Ttl != ttl-1 {
			t.Errorf("of %d comes %d", ttl, p.Ttl)
		}
	}
}

// TestP16_2BehindItsLength: bytes behind a packet are none of it.
func TestP16_2BehindItsLength(t *testing.T) {
	w := masqueraded(t, 1000, 1009)
	b := datagram(end{host, 5}, end{server, 53}, "x")
	if p := w.passes(api.Inside, append(b, 1, 2, 3)); len(p.Data) != 9 {
		t.Errorf("% x", p.Data)
	}
}

func TestP16_2Unknown(t *testing.T) {
	w := masqueraded(t, 1000, 1009)
	b := datagram(end{host, 5}, end{server, 53}, "abc")
	for proto := range 256 {
		switch proto {
		case api.Icmp, api.Tcp, api.Udp, api.Gre:
			continue
		}
		w.drops(api.Inside, withProto(b, byte(proto)), api.Unknown)
		w.drops(api.Outside, withProto(b, byte(proto)), api.Unknown)
	}
	for typ := range 256 {
		for _, code := range []byte{0, 1, 255} {
			m := api.Message{Type: byte(typ), Code: code, Rest: 5 << 16}
			if ctrl.IsError(m) || ctrl.IsEcho(m) {
				continue
			}
			w.drops(api.Inside, message(host, server, m), api.Unknown)
			w.drops(api.Outside, message(server, public, m), api.Unknown)
		}
	}
}

// TestP2P16_2ReasonsInTheirOrder: where several apply, the first one is told.
func TestP2P16_2ReasonsInTheirOrder(t *testing.T) {
	w := masqueraded(t, 1000, 1000)
	b := datagram(end{alien, 5}, end{server, 53}, "abc")
	w.drops(2, nil, api.Unknown)
	w.drops(api.Inside, withTtl(withProto(b, 99), 1), api.BadBytes)
	w.drops(api.Inside, spoilt(withProto(b, 99)), api.Unknown)
	w.drops(api.Inside, spoilt(message(host, server, api.Message{Type: 13, Data: []byte("abc")})), api.BadBytes)
	w.drops(api.Inside, flagged(end{alien, 5}, end{server, 80}, api.Ack), api.Invalid)
	w.drops(api.Outside, flagged(end{server, 5}, end{public, 80}, api.Ack), api.Invalid)
	w.drops(api.Inside, pong(alien, server, 5), api.Invalid)
	w.drops(api.Outside, pong(server, public, 5), api.Invalid)
	w.drops(api.Outside, ping(server, public, 5), api.Stray)
	w.drops(api.Inside, frame(alien, server, 5), api.Stray)
	w.udp(api.Inside, datagram(end{host, 5}, end{server, 53}, "")) // it takes the only number
	w.drops(api.Inside, b, api.NoRule)
	w.drops(api.Inside, datagram(end{host, 6}, end{server, 53}, ""), api.NoRoom)
	w.tcp(api.Inside, flagged(end{host, 5}, end{server, 53}, api.Syn))
	w.drops(api.Outside, flagged(end{host, 5}, end{server, 53}, api.Fin|api.Syn), api.Stray) // on the wrong side, and not to be taken
	w.drops(api.Inside, flagged(end{host, 5}, end{server, 53}, api.Fin|api.Syn), api.Invalid)
}

// tracked are packets of one flow: what goes forth, and what comes back to a number.
type tracked struct {
	proto byte
	forth []byte
	back  func(number uint16) []byte
}

func sampled() []tracked {
	return []tracked{
		{6, flagged(end{host, 5}, end{server, 80}, api.Syn), func(n uint16) []byte { return flagged(end{server, 80}, end{public, n}, api.Syn|api.Ack) }},
		{17, datagram(end{host, 5}, end{server, 80}, "abc"), func(n uint16) []byte { return datagram(end{server, 80}, end{public, n}, "abc") }},
		{1, ping(host, server, 5), func(n uint16) []byte { return pong(server, public, n) }},
	}
}

// TestP16_2P16_3FromInside: a flow that begins inside has the least number, and what comes back to that finds it.
func TestP16_2P16_3FromInside(t *testing.T) {
	for _, x := range sampled() {
		w := masqueraded(t, 1000, 1009)
		w.now = 7
		p := w.passes(api.Inside, x.forth)
		got, _ := tuple.Of(p)
		first, reply := api.Tuple{Proto: x.proto, Src: host, Dst: server, SrcPort: 5, DstPort: 80}, api.Tuple{Proto: x.proto, Src: server, Dst: public, SrcPort: 80, DstPort: 1000}
		state, later := api.Unreplied, api.Established
		if x.proto == api.Icmp {
			first.DstPort, reply.SrcPort = 5, 1000
		}
		if x.proto == api.Tcp {
			state, later = api.SynSent, api.SynBoth
		}
		if got != tuple.Reverse(reply) {
			t.Errorf("%d: it goes out as %+v", x.proto, got)
		}
		want := gate.Flow{Id: 0, Orig: first, Reply: reply, Side: api.Inside, State: state, Till: 7 + track.Time(x.proto, state), Master: -1}
		if f := w.flow(0); f != want {
			t.Errorf("%+v, not %+v", f, want)
		}
		w.uses(x.proto, public, 1000)
		w.drops(api.Outside, x.forth, api.Stray)
		w.drops(api.Inside, x.back(1000), api.Stray)
		w.now = 9
		p = w.passes(api.Outside, x.back(1000))
		if got, _ := tuple.Of(p); got != tuple.Reverse(first) {
			t.Errorf("%d: it comes back as %+v", x.proto, got)
		}
		want.State, want.Till = later, 9+track.Time(x.proto, later)
		if f := w.flow(0); f != want || len(w.Flows()) != 1 {
			t.Errorf("%+v, not %+v", f, want)
		}
		w.now = 10
		if x.proto != api.Tcp {
			w.passes(api.Inside, x.forth) // what was answered once stays so
			want.Till++
		}
		if f := w.flow(0); f != want {
			t.Errorf("%+v, not %+v", f, want)
		}
	}
}

// TestP16_3AllElseStays: addresses, ports and the Ttl change; check sums fit, and a Bare datagram stays so.
func TestP16_3AllElseStays(t *testing.T) {
	w := masqueraded(t, 1000, 1009)
	s := api.Segment{Src: 5, Dst: 80, Seq: 3, Ack: 0, Flags: api.Syn | 0xc0 | api.Urg, Window: 77, Urgent: 8, Data: []byte("hello"),
		Options: []api.Option{{Kind: 2, Data: []byte{5, 0xb4}}, {Kind: 1}, {Kind: 5, Data: []byte{0, 0, 0, 9, 0, 0, 0, 19}}, {Kind: 99}}}
	p, got := w.tcp(api.Inside, segment(end{host, 5}, end{server, 80}, s))
	want := carrier(public, server)
	want.Ttl, want.Proto, want.Data = 8, 6, p.Data
	s.Src = 1000
	if !ipv4.Same(p, want) || !segs.SameTcp(got, s) {
		t.Errorf("%+v; %+v", p, got)
	}
	for _, bare := range []bool{false, true} {
		q, d := w.udp(api.Inside, bytesOf(segs.BuildUdp(carrier(host, server), api.Datagram{Src: 5, Dst: 80, Bare: bare, Data: []byte("hello")})))
		want.Proto, want.Data = 17, q.Data
		if !ipv4.Same(q, want) || !segs.SameUdp(d, api.Datagram{Src: 1000, Dst: 80, Bare: bare, Data: []byte("hello")}) {
			t.Errorf("%+v; %+v", q, d)
		}
	}
	r := w.passes(api.Inside, ping(host, server, 5))
	m, e := ctrl.ParseIcmp(r)
	want.Proto, want.Data = 1, r.Data
	if e != api.OK || !ipv4.Same(r, want) || !ctrl.SameIcmp(m, api.Message{Type: 8, Rest: 1000<<16 | 3, Data: []byte("abc")}) {
		t.Errorf("%+v; %+v", r, m)
	}
}

// TestP16_3WordsToSpare: a segment whose header has more words than its options need goes on with them, where no helper has
// anything to change.
func TestP16_3WordsToSpare(t *testing.T) {
	for _, port := range []uint16{21, 80, 1723} {
		w := masqueraded(t, 1000, 1009)
		p, _ := ipv4.Parse(flagged(end{host, 5}, end{server, port}, api.Syn))
		p.Data = append(p.Data, 0, 0, 0, 0, 0, 0, 0, 0)
		p.Data[12] = 7 << 4
		p.Data[16], p.Data[17] = 0, 0
		sum := sumOf(p)
		p.Data[16], p.Data[17] = byte(sum>>8), byte(sum)
		q := w.passes(api.Inside, bytesOf(p, api.OK))
		if len(q.Data) != len(p.Data) || q.Data[12] != 7<<4 {
			t.Errorf("to %d: % x has become % x", port, p.Data, q.Data)
		}
	}
}

// sumOf is the check sum of a segment whose own place has 0 in it.
func sumOf(p api.Packet) uint16 {
	b := bytesOf(p, api.OK)
	return ^uint16(folded(slices.Concat(b[12:20], []byte{0, p.Proto, 0, byte(len(p.Data))}, p.Data)))
}

// TestP16_2TcpStates: a flow goes on as track.Next says, and what it does not take changes nothing.
func TestP16_2TcpStates(t *testing.T) {
	r := chance(2)
	states := map[api.State]int{}
	for range 2000 {
		w := masqueraded(t, 1000, 1009)
		w.tcp(api.Inside, flagged(end{host, 5}, end{server, 80}, api.Syn))
		state := api.SynSent
		for range 12 {
			if w.now += r.IntN(8); w.now >= w.flow(0).Till {
				break
			}
			side, b := api.Inside, []byte(nil)
			flags := pick[byte](r, api.Syn, api.Ack, api.Ack, api.Syn|api.Ack, api.Fin|api.Ack, api.Fin, api.Rst, 0, api.Psh, api.Syn|api.Fin, 0xff)
			if r.IntN(2) == 0 {
				side, b = api.Outside, flagged(end{server, 80}, end{public, 1000}, flags)
			} else {
				b = flagged(end{host, 5}, end{server, 80}, flags)
			}
			next, ok := track.Next(state, side == api.Outside, flags)
			if !ok {
				w.drops(side, b, api.Invalid)
				continue
			}
			w.passes(side, b)
			state = next
			states[state]++
			if f := w.flow(0); f.State != state || f.Till != w.now+track.Time(6, state) {
				t.Fatalf("%+v, not %d", f, state)
			}
		}
	}
	for s := api.SynSent; s <= api.Closed; s++ {
		if states[s] < 20 {
			t.Errorf("the state %d came up %d times", s, states[s])
		}
	}
}

// TestP16_2Icmp: forth it asks, back it answers.
func TestP16_2Icmp(t *testing.T) {
	w := masqueraded(t, 1000, 1009)
	w.drops(api.Inside, pong(host, server, 5), api.Invalid)
	w.passes(api.Inside, ping(host, server, 5))
	w.drops(api.Inside, pong(host, server, 5), api.Invalid)
	w.drops(api.Outside, ping(server, public, 1000), api.Invalid)
	w.passes(api.Outside, pong(server, public, 1000))
	w.passes(api.Inside, ping(host, server, 5))
	w.drops(api.Outside, pong(server, public, 1001), api.Invalid)
	w.drops(api.Outside, ping(server, public, 1001), api.Stray)
}

// TestP16_2WhatBegins: of Tcp only what Begins, of Icmp only what Asks, of Gre nothing.
func TestP16_2WhatBegins(t *testing.T) {
	for flags := range 256 {
		w := masqueraded(t, 1000, 1009)
		w.dnat(6, 80, 8080)
		in, out := flagged(end{host, 5}, end{server, 80}, byte(flags)), flagged(end{server, 5}, end{public, 80}, byte(flags))
		if !track.Begins(byte(flags)) {
			w.drops(api.Inside, in, api.Invalid)
			w.drops(api.Outside, out, api.Invalid)
			continue
		}
		w.tcp(api.Inside, in)
		w.tcp(api.Outside, out)
	}
	w := masqueraded(t, 1000, 1009)
	w.drops(api.Inside, frame(host, server, 5), api.Stray)
	w.drops(api.Outside, frame(server, public, 1000), api.Stray)
}

// TestP16_2Numbers: wished is the port from which it comes; else it is the least, of the protocol and the address.
func TestP16_2Numbers(t *testing.T) {
	w := masqueraded(t, 1000, 1009)
	w.rule(api.Rule{Kind: api.Masq, Net: 0xac100000, Bits: 12, To: public2})
	for _, x := range []struct {
		from uint32
		port uint16
		want uint16
	}{{host, 1003, 1003}, {host, 5, 1000}, {host, 999, 1001}, {host2, 1003, 1002}, {host, 1010, 1004}, {0xac100001, 1003, 1003}, {0xac1fffff, 1003, 1000}, {host, 1009, 1009}} {
		if p, d := w.udp(api.Inside, datagram(end{x.from, x.port}, end{server, 53}, "")); d.Src != x.want || p.Src != public && p.Src != public2 {
			t.Errorf("%x, %d goes out from %x, %d", x.from, x.port, p.Src, d.Src)
		}
	}
	w.uses(17, public, 1000, 1001, 1002, 1003, 1004, 1009)
	w.uses(17, public2, 1000, 1003)
	w.uses(6, public)
	if _, s := w.tcp(api.Inside, flagged(end{host, 1003}, end{server, 53}, api.Syn)); s.Src != 1003 {
		t.Errorf("of Tcp it is %d", s.Src)
	}
	m, _ := ctrl.ParseIcmp(w.passes(api.Inside, ping(host, server, 1003)))
	if m.Rest != 1003<<16|3 {
		t.Errorf("of Icmp it is %x", m.Rest)
	}
}

func TestP16_2NoRule(t *testing.T) {
	w := masqueraded(t, 1000, 1009)
	for _, from := range []uint32{alien, 0, 0x09ffffff, 0x0b000000, public, server} {
		for _, b := range [][]byte{flagged(end{from, 5}, end{server, 80}, api.Syn), datagram(end{from, 5}, end{server, 80}, ""), ping(from, server, 5)} {
			w.drops(api.Inside, b, api.NoRule)
		}
	}
}

// TestP16_2FirstRule: it is the first one that holds.
func TestP16_2FirstRule(t *testing.T) {
	w := &world{T: t, Gate: gate.New(1000, 1009), now: 1}
	w.rule(api.Rule{Kind: api.Masq, Net: host, Bits: 32, To: public2})
	w.rule(api.Rule{Kind: api.Masq, Net: 0, Bits: 0, To: public})
	for from, want := range map[uint32]uint32{host: public2, host2: public, alien: public, 0: public} {
		if p := w.passes(api.Inside, datagram(end{from, 5}, end{server, 53}, "")); p.Src != want {
			t.Errorf("%x goes out from %x", from, p.Src)
		}
	}
}

// TestP16_2NoRoomOfNumbers: when the pool has none it stays so till a flow ends.
func TestP16_2NoRoomOfNumbers(t *testing.T) {
	for _, x := range sampled() {
		w := masqueraded(t, 1000, 1000)
		w.passes(api.Inside, x.forth)
		for _, y := range [][]byte{flagged(end{host, 6}, end{server, 80}, api.Syn), datagram(end{host, 6}, end{server, 80}, ""), ping(host, server, 6)} {
			if y[9] == x.proto {
				w.drops(api.Inside, y, api.NoRoom)
				w.now += 200
				w.passes(api.Inside, y)
			}
		}
		w.uses(x.proto, public, 1000)
	}
}

// TestP16_2NoRoomOfFlows: there are 64, of whatever protocol and from whatever side, and no more.
func TestP16_2NoRoomOfFlows(t *testing.T) {
	w := masqueraded(t, 1000, 1099)
	w.dnat(6, 80, 8080)
	for i := range uint16(61) {
		w.udp(api.Inside, datagram(end{host, i}, end{server, 53}, ""))
	}
	w.tcp(api.Inside, flagged(end{host, 5}, end{server, 80}, api.Syn))
	w.passes(api.Inside, ping(host, server, 5))
	w.tcp(api.Outside, flagged(end{server, 7}, end{public, 80}, api.Syn))
	w.drops(api.Inside, datagram(end{host, 99}, end{server, 53}, ""), api.NoRoom)
	w.drops(api.Inside, flagged(end{host, 6}, end{server, 80}, api.Syn), api.NoRoom)
	w.drops(api.Inside, ping(host, server, 6), api.NoRoom)
	w.drops(api.Outside, flagged(end{server, 8}, end{public, 80}, api.Syn), api.NoRoom)
	w.drops(api.Outside, flagged(end{server, 8}, end{public, 81}, api.Syn), api.Stray)
	w.drops(api.Inside, datagram(end{alien, 99}, end{server, 53}, ""), api.NoRule)
	w.udp(api.Inside, datagram(end{host, 5}, end{server, 53}, "")) // those that are there go on
	if len(w.Flows()) != api.MaxFlows {
		t.Errorf("there are %d", len(w.Flows()))
	}
}

// TestP16_2NoRoomOfTuples: a flow that would be found as another one is, or as itself, does not begin.
func TestP16_2NoRoomOfTuples(t *testing.T) {
	w := masqueraded(t, 1000, 1009)
	w.rule(api.Rule{Kind: api.Masq, Net: public, Bits: 32, To: public})
	w.rule(api.Rule{Kind: api.Dnat, Proto: 17, To: public, Port: 1009, Host: public, HostPort: 1009})
	w.dnat(17, 1000, 7)
	w.dnat(17, 2000, 9)
	w.udp(api.Outside, datagram(end{server, 53}, end{public, 1000}, "")) // by a rule: the number is not taken
	w.drops(api.Inside, datagram(end{host, 5}, end{server, 53}, ""), api.NoRoom)
	w.udp(api.Inside, datagram(end{host, 5}, end{server2, 53}, "")) // answered from elsewhere it may be
	w.uses(17, public, 1000)
	w.udp(api.Inside, datagram(end{host, 9}, end{server, 53}, ""))
	w.drops(api.Outside, datagram(end{server, 53}, end{public, 2000}, ""), api.NoRoom) // the host has such a flow of its own
	w.udp(api.Outside, datagram(end{server, 54}, end{public, 2000}, ""))
	for _, b := range [][]byte{datagram(end{public, 1003}, end{public, 1003}, ""), flagged(end{public, 1003}, end{public, 1003}, api.Syn), ping(public, public, 1003)} {
		w.drops(api.Inside, b, api.NoRoom)
	}
	w.drops(api.Outside, datagram(end{public, 1009}, end{public, 1009}, ""), api.NoRoom)
	w.udp(api.Outside, datagram(end{public, 1008}, end{public, 1009}, ""))
}

// TestP16_2Dnat: what is ruled comes in to the host, and what that answers goes out from where it was called.
func TestP16_2Dnat(t *testing.T) {
	w := masqueraded(t, 1000, 1009)
	w.dnat(6, 80, 8080)
	w.dnat(17, 1005, 53)
	w.now = 3
	p, s := w.tcp(api.Outside, flagged(end{server, 7}, end{public, 80}, api.Syn))
	if p.Src != server || p.Dst != host || s.Src != 7 || s.Dst != 8080 {
		t.Errorf("%+v, %+v", p, s)
	}
	want := gate.Flow{Orig: api.Tuple{Proto: 6, Src: server, Dst: public, SrcPort: 7, DstPort: 80}, Reply: api.Tuple{Proto: 6, Src: host, Dst: server, SrcPort: 8080, DstPort: 7},
		Side: api.Outside, State: api.SynSent, Till: 123, Master: -1}
	if f := w.flow(0); f != want {
		t.Errorf("%+v, not %+v", f, want)
	}
	if p, s = w.tcp(api.Inside, flagged(end{host, 8080}, end{server, 7}, api.Syn|api.Ack)); p.Src != public || p.Dst != server || s.Src != 80 || s.Dst != 7 {
		t.Errorf("%+v, %+v", p, s)
	}
	w.drops(api.Outside, flagged(end{host, 8080}, end{server, 7}, api.Ack), api.Stray)
	w.drops(api.Inside, flagged(end{server, 7}, end{public, 80}, api.Ack), api.Stray)
	w.udp(api.Outside, datagram(end{server, 7}, end{public, 1005}, ""))
	w.uses(6, public)
	w.uses(17, public) // a rule's numbers are not held
	for _, b := range [][]byte{
		flagged(end{server, 7}, end{public, 81}, api.Syn), flagged(end{server, 7}, end{public2, 80}, api.Syn), flagged(end{server, 7}, end{host, 8080}, api.Syn),
		datagram(end{server, 7}, end{public, 80}, ""), datagram(end{server, 7}, end{host, 53}, ""), flagged(end{server, 7}, end{public, 1005}, api.Syn), ping(server, public, 80), ping(server, host, 5),
	} {
		w.drops(api.Outside, b, api.Stray)
	}
}

// TestP16_2TimeGoesOn: flows end when their Till has come, and not ahead of that.
func TestP16_2TimeGoesOn(t *testing.T) {
	for _, x := range sampled() {
		for _, tick := range []bool{false, true} {
			w := masqueraded(t, 1000, 1009)
			w.passes(api.Inside, x.forth)
			till := w.flow(0).Till
			w.now = till - 1
			w.Tick(w.now)
			w.uses(x.proto, public, 1000)
			w.flow(0)
			if w.now = till; tick {
				w.Tick(w.now)
			} else {
				w.Packet(w.now, api.Inside, nil)
			}
			if w.uses(x.proto, public); len(w.Flows()) != 0 {
				t.Errorf("of %d there is %+v", x.proto, w.Flows())
			}
			why := map[byte]api.Reason{6: api.Invalid, 17: api.Stray, 1: api.Invalid}[x.proto]
			w.drops(api.Outside, x.back(1000), why)
			w.passes(api.Inside, x.forth)
			if f := w.flow(1); f.Till != till+till-1 { // it begins anew
				t.Errorf("%+v", f)
			}
		}
	}
}

// TestP16_2FoundByItsKey: a flow is found by all of its tuple.
func TestP16_2FoundByItsKey(t *testing.T) {
	w := masqueraded(t, 1000, 1009)
	w.udp(api.Inside, datagram(end{host, 5}, end{server, 53}, ""))
	for _, b := range [][]byte{
		datagram(end{server2, 53}, end{public, 1000}, ""), datagram(end{server, 54}, end{public, 1000}, ""),
		datagram(end{server, 53}, end{public, 1001}, ""), datagram(end{server, 53}, end{public2, 1000}, ""), flagged(end{server, 53}, end{public, 1000}, api.Syn),
	} {
		w.drops(api.Outside, b, api.Stray)
	}
	if _, d := w.udp(api.Outside, datagram(end{server, 53}, end{public, 1000}, "x")); d.Dst != 5 {
		t.Errorf("%+v", d)
	}
}
