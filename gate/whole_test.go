package gate_test

import (
	"fmt"
	"slices"
	"testing"

	"lychgate/api"
	"lychgate/gate"
	"lychgate/ipv4"
	"lychgate/segs"
	"lychgate/tuple"
)

// step is what one packet did.
type step struct {
	was, is kept // behind the time, and behind the packet
	side    api.Side
	out     gate.Out
}

// watched lets scripts run, and shows each step.
func watched(t *testing.T, seed uint64, dnat bool, see func(x step)) {
	t.Helper()
	r := chance(seed)
	for range 80 {
		g := gate.New(1000, pick[uint16](r, 1003, 1012, 1100))
		for _, x := range ruled(r) {
			if dnat || x.Kind != api.Dnat {
				g.Rule(x)
			}
		}
		s := &script{Rand: r}
		for range 200 {
			now := s.later()
			side, b := s.packet(look(g))
			if side != api.Inside && side != api.Outside {
				continue
			}
			f := g.Fork()
			f.Tick(now)
			o := g.Packet(now, side, b)
			see(step{look(f), look(g), side, o})
			s.note(o)
		}
	}
}

// TestP16_6P2DroppedChangesNothing: what is dropped, as BadBytes, Unknown or otherwise, changes nothing but the time.
func TestP16_6P2DroppedChangesNothing(t *testing.T) {
	told := map[api.Reason]int{}
	watched(t, 166, true, func(x step) {
		if x.out.Reason == api.Passed {
			return
		}
		told[x.out.Reason]++
		if !same(x.was, x.is) || x.out.Side != 0 || len(x.out.Bytes) != 0 {
			t.Fatalf("%d: %+v has become %+v", x.out.Reason, x.was, x.is)
		}
	})
	if told[api.BadBytes] < 100 || told[api.Unknown] < 100 {
		t.Errorf("%v", told)
	}
}

// sums tells whether all check sums of a packet's bytes fit, reckoned in the plainest way.
func sums(b []byte) bool {
	head := int(b[0]&15) * 4
	if folded(b[:head]) != 0xffff {
		return false
	}
	data := b[head:]
	pseudo := slices.Concat(b[12:20], []byte{0, b[9], byte(len(data) >> 8), byte(len(data))}, data)
	switch b[9] {
	case 6:
		return folded(pseudo) == 0xffff
	case 17:
		return data[6] == 0 && data[7] == 0 || folded(pseudo) == 0xffff
	case 1:
		return folded(data) == 0xffff
	}
	return b[9] == 47
}

func folded(b []byte) uint32 {
	total := uint32(0)
	for i, x := range b {
		total += uint32(x) << (8 * (1 - i%2))
	}
	for total > 0xffff {
		total = total>>16 + total&0xffff
	}
	return total
}

// TestP16_7E3Sums: what is passed is right, and its check sums fit, also that of a packet which an error quotes.
func TestP16_7E3Sums(t *testing.T) {
	protos := map[byte]int{}
	watched(t, 167, true, func(x step) {
		if x.out.Reason != api.Passed {
			return
		}
		p, e := ipv4.Parse(x.out.Bytes)
		if e != api.OK || !sums(x.out.Bytes) || x.out.Side != 1-x.side || p.Ttl < 1 {
			t.Fatalf("% x: %d", x.out.Bytes, e)
		}
		protos[p.Proto]++
		if _, e := tuple.Of(p); e == api.OK {
			return
		}
		if _, e := tuple.Quoted(p); e != api.OK || folded(p.Data[8:8+int(p.Data[8]&15)*4]) != 0xffff {
			t.Fatalf("% x", x.out.Bytes)
		}
	})
	for _, proto := range []byte{1, 6, 17, 47} {
		if protos[proto] < 50 {
			t.Errorf("%d of the protocol %d", protos[proto], proto)
		}
	}
}

// owner is the flow by which a packet was passed: its tuple, as it goes on, is the reverse of one of the flow's.
func owner(x step) (gate.Flow, bool) {
	p, _ := ipv4.Parse(x.out.Bytes)
	t, e := tuple.Of(p)
	if e != api.OK { // an error goes where the packet came from that it quotes
		t, _ = tuple.Quoted(p)
		t = tuple.Reverse(t)
	}
	for _, f := range slices.Concat(x.is.flows, x.was.flows) {
		if tuple.Key(tuple.Reverse(f.Orig)) == tuple.Key(t) || tuple.Key(tuple.Reverse(f.Reply)) == tuple.Key(t) {
			return f, true
		}
	}
	return gate.Flow{}, false
}

// TestP16_8E5NothingUncalled: what is passed from outside belongs to a flow that began inside, or was expected, or, where there
// are such rules, is ruled.
func TestP16_8E5NothingUncalled(t *testing.T) {
	for _, dnat := range []bool{false, true} {
		begun, expected, ruled := 0, 0, 0
		watched(t, 168, dnat, func(x step) {
			if x.out.Reason != api.Passed || x.side != api.Outside {
				return
			}
			f, ok := owner(x)
			if !ok {
				t.Fatalf("% x has come in, of none of %+v", x.out.Bytes, x.is.flows)
			}
			known := slices.ContainsFunc(x.was.flows, func(g gate.Flow) bool { return g.Id == f.Id })
			fits := func(e api.Expect) bool {
				return e.Proto == f.Orig.Proto && e.Dst == f.Orig.Dst && e.DstPort == f.Orig.DstPort && (e.Src == 0 || e.Src == f.Orig.Src) &&
					e.Host == f.Reply.Src && e.HostPort == f.Reply.SrcPort && e.Master == f.Master && e.Deadline > x.is.now
			}
			switch {
			case f.Side == api.Inside:
				begun++
			case f.Master >= 0:
				expected++
				if !known && (!slices.ContainsFunc(x.was.expects, fits) || slices.ContainsFunc(x.is.expects, fits)) {
					t.Fatalf("%+v has come, and expected were %+v", f, x.was.expects)
				}
			default:
				ruled++
				if !dnat {
					t.Fatalf("%+v has come without a rule", f)
				}
			}
		})
		if begun < 500 || expected < 200 || (ruled > 200) != dnat {
			t.Errorf("%d began inside, %d were expected, %d ruled", begun, expected, ruled)
		}
	}
}

// TestP16_9E6Bindings: no two flows are found by the same tuple, numbers are held once, and tables keep their limits.
func TestP16_9E6Bindings(t *testing.T) {
	most, mostExpected := 0, 0
	watched(t, 169, true, func(x step) {
		k := x.is
		most, mostExpected = max(most, len(k.flows)), max(mostExpected, len(k.expects))
		keys := map[api.Tuple]int{}
		held := map[[3]uint32]int{}
		own := map[int]int{}
		for _, f := range k.flows {
			keys[tuple.Key(f.Orig)]++
			keys[tuple.Key(f.Reply)]++
			switch {
			case f.Side == api.Inside:
				held[[3]uint32{uint32(f.Reply.Proto), f.Reply.Dst, uint32(f.Reply.DstPort)}]++
			case f.Master >= 0:
				held[[3]uint32{uint32(f.Orig.Proto), f.Orig.Dst, uint32(f.Orig.DstPort)}]++
			}
		}
		for _, e := range k.expects {
			held[[3]uint32{uint32(e.Proto), e.Dst, uint32(e.DstPort)}]++
			own[e.Master]++
			if own[e.Master] > api.MaxOwn {
				t.Fatalf("%+v", k.expects)
			}
		}
		if len(keys) != 2*len(k.flows) || len(k.flows) > api.MaxFlows || len(k.expects) > api.MaxExp {
			t.Fatalf("%+v", k)
		}
		for n, times := range held {
			if times != 1 || !slices.Contains(k.used[[2]uint32{n[0], n[1]}], uint16(n[2])) {
				t.Fatalf("%v is held %d times in %+v", n, times, k)
			}
		}
		for of, used := range k.used {
			for _, n := range used {
				if held[[3]uint32{of[0], of[1], uint32(n)}] == 0 && of[0] != 47 { // a call may be held without its flow
					t.Fatalf("%v, %d is held by none in %+v", of, n, k)
				}
			}
		}
	})
	if most < 10 || mostExpected < 8 {
		t.Errorf("there were %d flows, %d expected", most, mostExpected)
	}
}

// TestE1Examples are the document's.
func TestE1Examples(t *testing.T) {
	w := masqueraded(t, 1000, 1009)
	p, s := w.tcp(api.Inside, flagged(end{host, 5}, end{server, 21}, api.Syn))
	if p.Src != public || s.Src != 1000 || p.Dst != server || s.Dst != 21 {
		t.Errorf("%+v, %+v", p, s)
	}
	w.tcp(api.Outside, flagged(end{server, 21}, end{public, 1000}, api.Syn|api.Ack))
	w.tcp(api.Inside, flagged(end{host, 5}, end{server, 21}, api.Ack))
	w.line(2, "PORT 10,0,0,2,4,1\r\n", "PORT 1,2,3,4,3,233\r\n")
	if p, s = w.tcp(api.Outside, flagged(end{server, 20}, end{public, 1001}, api.Syn)); p.Dst != host || s.Dst != 1025 {
		t.Errorf("%+v, %+v", p, s)
	}
	p, d := w.udp(api.Inside, datagram(end{host, 5}, end{server, 53}, "x"))
	if p.Src != public || d.Src != 1000 {
		t.Errorf("%+v, %+v", p, d)
	}
}

// TestE2NothingOfTheWrong: each packet of a talk is spoilt in each of its bits; what is dropped then changes nothing, and the
// talk goes on as if it had not come.
func TestE2NothingOfTheWrong(t *testing.T) {
	w := ftpWorld(t, 1000, 1009)
	line := says(client, control, 100, "PORT 10,0,0,2,4,1\r\n")
	was := look(w.Gate)
	for bit := range len(line) * 8 {
		b := slices.Clone(line)
		b[bit/8] ^= 1 << (bit % 8)
		o := w.Packet(1, api.Inside, b)
		if o.Reason != api.BadBytes || len(o.Bytes) != 0 || !same(was, look(w.Gate)) {
			t.Fatalf("% x: %+v", b, o)
		}
	}
	for n := range line {
		if o := w.Packet(1, api.Inside, line[:n]); o.Reason != api.BadBytes || !same(was, look(w.Gate)) {
			t.Fatalf("% x: %+v", line[:n], o)
		}
	}
	w.line(100, "PORT 10,0,0,2,4,1\r\n", "PORT 1,2,3,4,3,233\r\n")
}

// peer is who puts a stream together, byte by byte, from segments that may come again.
type peer struct {
	base  uint32
	bytes []byte
}

func (x *peer) hears(t *testing.T, s api.Segment) {
	t.Helper()
	at := int(s.Seq - x.base)
	if at > len(x.bytes) {
		t.Fatalf("from %d to %d there is nothing", len(x.bytes), at)
	}
	for i, c := range s.Data {
		if at+i == len(x.bytes) {
			x.bytes = append(x.bytes, c)
		}
		if x.bytes[at+i] != c {
			t.Fatalf("%q came again as %q", x.bytes[at:], s.Data)
		}
	}
}

// TestE4Streams: a client says lines, some of them again, and the server hears one stream of which each line that names the
// client's address names the public one; what the server hears last is what the client is told to have been heard.
func TestE4Streams(t *testing.T) {
	r := chance(44)
	for range 60 {
		w := masqueraded(t, 1000, 1020)
		isn := pick(r, r.Uint32(), 0xffffffff-uint32(r.IntN(200)), 0)
		w.tcp(api.Inside, segment(client, control, api.Segment{Seq: isn - 1, Flags: api.Syn}))
		w.tcp(api.Outside, segment(control, end{public, 1000}, api.Segment{Seq: 7, Ack: isn, Flags: api.Syn | api.Ack}))
		server := &peer{base: isn}
		var want, said []byte
		type sent struct {
			seq  uint32
			text string
		}
		var all []sent
		for n := range 12 {
			port := 1025 + n
			named := n%2 == 0 // as many as there are numbers, and steps, for
			text := fmt.Sprintf("NOOP %d\r\n", n)
			if named {
				text = pick(r, fmt.Sprintf("PORT 10,0,0,2,%d,%d\r\n", port>>8, port&255), fmt.Sprintf("EPRT |1|10.0.0.2|%d|\r\n", port))
			}
			all = append(all, sent{isn + uint32(len(said)), text})
			said = append(said, text...)
			for again := range 1 + r.IntN(3) {
				x := all[len(all)-1]
				if again > 0 {
					x = all[r.IntN(len(all))]
				}
				_, s := w.tcp(api.Inside, segment(client, control, api.Segment{Seq: x.seq, Ack: 8, Flags: api.Ack, Data: []byte(x.text)}))
				server.hears(t, s)
			}
			if named {
				last := w.Expects()[len(w.Expects())-1]
				if last.HostPort != uint16(port) || last.DstPort == 0 {
					t.Fatalf("%q: %+v", text, last)
				}
				d := int(last.DstPort)
				text = map[byte]string{'P': fmt.Sprintf("PORT 1,2,3,4,%d,%d\r\n", d>>8, d&255), 'E': fmt.Sprintf("EPRT |1|1.2.3.4|%d|\r\n", d)}[text[0]]
				w.tcp(api.Outside, flagged(end{last.Src, 20}, end{public, last.DstPort}, api.Syn))
			}
			want = append(want, text...)
			if string(server.bytes) != string(want) {
				t.Fatalf("%q, not %q", server.bytes, want)
			}
			edge := isn + uint32(len(want))
			_, s := w.tcp(api.Outside, segment(control, end{public, 1000}, api.Segment{Seq: 8, Ack: edge, Flags: api.Ack,
				Options: []api.Option{{Kind: 5, Data: []byte{byte(isn >> 24), byte(isn >> 16), byte(isn >> 8), byte(isn), byte(edge >> 24), byte(edge >> 16), byte(edge >> 8), byte(edge)}}}}))
			if heard := isn + uint32(len(said)); s.Ack != heard || !slices.Equal(segs.Sacks(s), []uint32{isn, heard}) || s.Seq != 8 {
				t.Fatalf("%d is told as %d, %v", edge-isn, s.Ack-isn, segs.Sacks(s))
			}
		}
	}
}
