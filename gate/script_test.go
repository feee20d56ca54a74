package gate_test

import (
	"fmt"
	"math/rand/v2"
	"slices"
	"testing"

	"lychgate/api"
	"lychgate/ctrl"
	"lychgate/gate"
	"lychgate/ipv4"
	"lychgate/segs"
)

// script makes packets that have much to do with what a gateway has in it.
type script struct {
	*rand.Rand
	now    int
	passed []gate.Out // what came out of late
	calls  []uint16   // that are held
}

func dotted(addr uint32, between string) string {
	return fmt.Sprintf("%d%s%d%s%d%s%d", addr>>24, between, addr>>16&255, between, addr>>8&255, between, addr&255)
}

// ftpLine is a line that names an address, mostly that of the one who says it.
func (s *script) ftpLine(addr uint32) string {
	if s.IntN(5) == 0 {
		addr = pick[uint32](s.Rand, host2, server, public)
	}
	port := pick(s.Rand, 1025, 1001, 1003, 21, 50000, s.IntN(65536))
	six := fmt.Sprintf("%s,%d,%d", dotted(addr, ","), port>>8, port&255)
	return pick(s.Rand, "PORT "+six+"\r\n", "PORT "+six+"\r\n", fmt.Sprintf("EPRT |1|%s|%d|\r\n", dotted(addr, "."), port),
		"227 ok ("+six+").\r\n", fmt.Sprintf("229 ok (|||%d|)\r\n", port), "NOOP\r\n", "", "PORT "+six)
}

func (s *script) sipText(addr uint32, port uint16) string {
	if s.IntN(6) == 0 {
		return pick(s.Rand, "", "x", "INVITE\r\n\r\n")
	}
	if s.IntN(6) == 0 {
		addr = pick[uint32](s.Rand, host2, server, public)
	}
	var ports []int
	for range s.IntN(4) {
		ports = append(ports, pick(s.Rand, 4000, 4002, 5000, 5001, 1002, 1004, 65535))
	}
	return invite(dotted(addr, "."), int(pick(s.Rand, port, port, 5060)), ports...)
}

// pptpText is a message, mostly one that this side has to say.
func (s *script) pptpText(ofServer bool) string {
	call := pick[uint16](s.Rand, 1000, 1001, 1002, 1003, 7, 8, 9, 10, 11)
	other := pick[uint16](s.Rand, append(s.calls, 1000, 7)...)
	if s.IntN(5) == 0 {
		ofServer = !ofServer
	}
	text := pick(s.Rand, request(call), request(call), hangUp(call), "")
	if ofServer {
		call = pick[uint16](s.Rand, 70, 70, 71, 72, 73, 1000, 7)
		text = pick(s.Rand, reply(call, other, 1), reply(call, other, 1), reply(call, other, 2), notice(call), link(other), "x")
	}
	if s.IntN(20) == 0 {
		text += "x"
	}
	return text
}

// flags are often those by which a flow in a state goes on.
func (s *script) flags(state api.State, back bool) byte {
	if s.IntN(12) == 0 {
		return pick[byte](s.Rand, api.Rst, api.Fin, api.Fin|api.Ack, api.Syn, 0, api.Syn|api.Fin, byte(s.Uint32()))
	}
	switch {
	case state == api.SynSent && back:
		return api.Syn | api.Ack
	case state == api.Closed || state == api.NoState:
		return api.Syn
	}
	return api.Ack
}

// tcp is a segment of a tuple, of a flow in a state.
func (s *script) tcp(t api.Tuple, state api.State, back bool) []byte {
	text := pick(s.Rand, s.ftpLine(t.Src), s.ftpLine(t.Src), "hello", "")
	if t.SrcPort == 1723 || t.DstPort == 1723 {
		text = s.pptpText(t.SrcPort == 1723)
	}
	x := api.Segment{Seq: 100 + uint32(s.IntN(14))*19, Ack: 90 + uint32(s.IntN(300)), Flags: s.flags(state, back), Data: []byte(text)}
	if s.IntN(8) == 0 {
		x.Seq -= 400 // it may have gone round
	}
	if s.IntN(3) == 0 {
		x.Options = []api.Option{{Kind: 1}, {Kind: 5, Data: []byte{0, 0, 0, byte(s.Uint32()), 0, 0, 1, byte(s.Uint32())}}}
	}
	return segment(end{t.Src, t.SrcPort}, end{t.Dst, t.DstPort}, x)
}

// of is a packet with a tuple.
func (s *script) of(t api.Tuple, state api.State, back bool) []byte {
	switch t.Proto {
	case 6:
		return s.tcp(t, state, back)
	case 17:
		text := pick(s.Rand, s.sipText(t.Src, t.SrcPort), "data")
		return bytesOf(segs.BuildUdp(carrier(t.Src, t.Dst), api.Datagram{Src: t.SrcPort, Dst: t.DstPort, Bare: s.IntN(8) == 0, Data: []byte(text)}))
	case 1:
		if s.IntN(8) == 0 {
			back = !back
		}
		if back {
			return pong(t.Src, t.Dst, t.SrcPort)
		}
		return ping(t.Src, t.Dst, t.SrcPort)
	}
	return bytesOf(ctrl.BuildGre(carrier(t.Src, t.Dst), api.Frame{Call: t.DstPort, HasAck: true, Ack: 3, Data: []byte("gre")}))
}

func (s *script) proto() byte {
	return pick[byte](s.Rand, 6, 6, 6, 17, 17, 1, 47)
}

// fromInside is a packet that may begin a flow.
func (s *script) fromInside() []byte {
	t := api.Tuple{Proto: s.proto(), Src: pick[uint32](s.Rand, host, host, host, host2, alien, 0, public, 0xac100001), Dst: pick[uint32](s.Rand, server, server, server2, public),
		SrcPort: pick(s.Rand, 5, 5060, 21, uint16(990+s.IntN(40))), DstPort: pick[uint16](s.Rand, 21, 21, 21, 53, 80, 1723, 1723, 5060, 5060, 1000)}
	return s.of(t, api.NoState, false)
}

// fromOutside is a packet to a public address.
func (s *script) fromOutside() []byte {
	t := api.Tuple{Proto: s.proto(), Src: pick[uint32](s.Rand, server, server, server2, host, public), Dst: pick[uint32](s.Rand, public, public, public2, host),
		SrcPort: pick[uint16](s.Rand, 20, 21, 53, 5060, 5, 1000), DstPort: pick(s.Rand, 21, 80, 5060, 1723, 1005, uint16(998+s.IntN(16)))}
	return s.of(t, api.NoState, false)
}

// fault is an error that quotes what was passed of late, mostly on the side on which it came out.
func (s *script) fault() (api.Side, []byte) {
	if len(s.passed) == 0 {
		return api.Inside, fault(host, server, nil)
	}
	o := s.passed[s.IntN(len(s.passed))]
	b := o.Bytes[:min(len(o.Bytes), pick(s.Rand, 28, 31, 32, 33, 40, 60, 1000))]
	m := api.Message{Type: pick[byte](s.Rand, 3, 11, 12, 5), Code: 1, Rest: s.Uint32(), Data: b}
	side := o.Side
	if s.IntN(6) == 0 {
		side = 1 - side
	}
	return side, message(pick[uint32](s.Rand, server, host, server2), pick[uint32](s.Rand, public, server), m)
}

// flow is one of some, rather one of PPTP and its calls.
func (s *script) flow(all []gate.Flow) gate.Flow {
	rather := slices.DeleteFunc(slices.Clone(all), func(f gate.Flow) bool { return f.Orig.Proto != 47 && f.Reply.SrcPort != 1723 })
	if len(rather) > 0 && s.IntN(3) == 0 {
		all = rather
	}
	return all[s.IntN(len(all))]
}

// packet is the next one, and the side on which it comes.
func (s *script) packet(k kept) (side api.Side, b []byte) {
	s.calls = slices.Clone(k.used[[2]uint32{47, public}])
	switch x := s.IntN(20); {
	case x < 9 && len(k.flows) > 0:
		f := s.flow(k.flows)
		side, b = f.Side, nil
		if s.IntN(2) == 0 {
			b = s.of(f.Orig, f.State, false)
		} else {
			side, b = 1-f.Side, s.of(f.Reply, f.State, true)
		}
	case x < 11 && len(k.expects) > 0:
		e := k.expects[s.IntN(len(k.expects))]
		src := e.Src
		if src == 0 || s.IntN(8) == 0 {
			src = pick[uint32](s.Rand, server, server2)
		}
		side, b = api.Outside, s.of(api.Tuple{Proto: e.Proto, Src: src, Dst: e.Dst, SrcPort: uint16(20 + s.IntN(4)), DstPort: e.DstPort}, api.NoState, false)
	case x < 16:
		side, b = api.Inside, s.fromInside()
	case x < 18:
		side, b = api.Outside, s.fromOutside()
	default:
		side, b = s.fault()
	}
	return s.spoil(side, b)
}

// spoil lets something be wrong, now and then.
func (s *script) spoil(side api.Side, b []byte) (api.Side, []byte) {
	switch s.IntN(60) {
	case 0:
		return 1 - side, b
	case 1:
		return pick[api.Side](s.Rand, -1, 2, greatest), b
	case 2:
		return side, b[:s.IntN(len(b)+1)]
	case 3:
		b[s.IntN(len(b))] ^= 1 << s.IntN(8)
	case 4:
		p, e := ipv4.Parse(b)
		p.Ttl, p.Proto = byte(s.IntN(4)), pick(s.Rand, p.Proto, byte(s.Uint32()))
		return side, bytesOf(p, e)
	case 5:
		return side, append(b, 1, 2, 3)
	}
	return side, b
}

// later is mostly soon.
func (s *script) later() int {
	s.now += pick(s.Rand, 0, 0, 0, 0, 0, 0, 0, 1, 1, 2, 5, 13)
	switch s.IntN(150) {
	case 0:
		s.now += pick(s.Rand, 30, 60, 120, 180)
	case 1:
		return s.now - 50
	}
	return s.now
}

func (s *script) note(o gate.Out) {
	if o.Reason == api.Passed {
		s.passed = append(s.passed, o)
		s.passed = s.passed[max(0, len(s.passed)-12):]
	}
}

// ruled are the rules of a script, now and then with ones that are not right.
func ruled(r *rand.Rand) (all []api.Rule) {
	all = []api.Rule{{Kind: api.Masq, Net: 0x0a000000, Bits: 8, To: public}, {Kind: api.Masq, Net: 0xac100000, Bits: 12, To: public2}}
	for _, x := range []api.Rule{
		{Kind: api.Dnat, Proto: 6, To: public, Port: 21, Host: host, HostPort: 21}, {Kind: api.Dnat, Proto: 17, To: public, Port: 5060, Host: host, HostPort: 5060},
		{Kind: api.Dnat, Proto: 6, To: public, Port: 80, Host: host2, HostPort: 8080}, {Kind: api.Dnat, Proto: 6, To: public, Port: 1723, Host: host, HostPort: 1723},
		{Kind: api.Dnat, Proto: 17, To: public, Port: 1005, Host: host, HostPort: 5}, {Kind: api.Masq, Net: 0, Bits: 32, To: public},
		{Kind: api.Masq, Net: public, Bits: 32, To: public}, {Kind: api.Masq, Bits: 33, To: public}, {}, all[0],
	} {
		if r.IntN(2) == 0 {
			all = append(all, x)
		}
	}
	return all
}

// newPair is a gateway and its model.
func newPair(t *testing.T, r *rand.Rand) (*gate.Gate, *model) {
	t.Helper()
	high := pick[uint16](r, 1003, 1008, 1012, 1012, 1012, 1100)
	g, m := gate.New(1000, high), &model{low: 1000, high: int(high)}
	for _, x := range ruled(r) {
		if g.Rule(x) == api.OK {
			m.rules = append(m.rules, x)
		}
	}
	return g, m
}

// TestE1P16_2P16_3P16_4P16_5Scripts: what a script tells is what the model says.
func TestE1P16_2P16_3P16_4P16_5Scripts(t *testing.T) {
	r := chance(1)
	told, lines, media, calls, came := map[api.Reason]int{}, 0, 0, 0, 0
	for range 400 {
		g, m := newPair(t, r)
		s := &script{Rand: r}
		for range 300 {
			now := s.later()
			if r.IntN(30) == 0 {
				g.Tick(now)
				m.tick(now)
			}
			side, b := s.packet(m.look())
			o := m.agree(t, g, now, side, b)
			m.check(t, g)
			s.note(o)
			told[o.Reason]++
		}
		for _, f := range m.flows {
			lines += f.streams[0].Len() + f.streams[1].Len()
			media += len(f.media)
			calls += len(f.calls)
			if f.Master >= 0 {
				came++
			}
		}
	}
	for why := api.Passed; why <= api.Unknown; why++ {
		if told[why] < 100 {
			t.Errorf("%d was told %d times", why, told[why])
		}
	}
	if lines < 200 || media < 200 || calls < 100 || came < 200 {
		t.Errorf("%d lines, %d media, %d calls, %d that came", lines, media, calls, came)
	}
}

// TestP4Scripts: of gateways and their Forks each goes on by itself.
func TestP4Scripts(t *testing.T) {
	r := chance(4)
	for range 40 {
		g, m := newPair(t, r)
		gates, models, s := []*gate.Gate{g}, []*model{m}, &script{Rand: r}
		for range 250 {
			at := r.IntN(len(gates))
			side, b := s.packet(models[at].look())
			s.note(models[at].agree(t, gates[at], s.later(), side, b))
			if r.IntN(40) == 0 {
				x := api.Rule{Kind: api.Masq, Net: r.Uint32(), Bits: 32, To: public2}
				if gates[at].Rule(x) == api.OK {
					models[at].rules = append(models[at].rules, x)
				}
			}
			if len(gates) < 5 && r.IntN(25) == 0 {
				gates, models = append(gates, gates[at].Fork()), append(models, models[at].clone())
			}
			for i := range gates {
				models[i].check(t, gates[i])
			}
		}
	}
}

// TestE6ManyFlows: a gateway is filled till there is no room, and emptied, again and again.
func TestE6ManyFlows(t *testing.T) {
	r := chance(6)
	most := 0
	for range 20 {
		g, m := gate.New(1000, 1200), &model{low: 1000, high: 1200}
		x := api.Rule{Kind: api.Masq, Net: 0, Bits: 0, To: public}
		g.Rule(x)
		m.rules = append(m.rules, x)
		now := 0
		for range 400 {
			if r.IntN(10) == 0 {
				now += r.IntN(40)
			}
			t2 := api.Tuple{Proto: pick[byte](r, 6, 17, 17, 1), Src: r.Uint32N(4), Dst: server, SrcPort: uint16(r.IntN(40)), DstPort: 80}
			b := (&script{Rand: r}).of(t2, api.NoState, false)
			m.agree(t, g, now, api.Inside, b)
			m.check(t, g)
			most = max(most, len(m.flows))
		}
	}
	if most != 64 {
		t.Errorf("there were %d", most)
	}
}

// TestP6NothingIsKept: the same script tells the same again, whatever other gateways did in between.
func TestP6NothingIsKept(t *testing.T) {
	tell := func(seed uint64) (all []string) {
		r := chance(seed)
		g, _ := newPair(t, r)
		s := &script{Rand: r}
		for range 300 {
			side, b := s.packet(look(g))
			o := g.Packet(s.later(), side, b)
			s.note(o)
			all = append(all, fmt.Sprintf("%+v %+v", o, look(g)))
		}
		return all
	}
	first := tell(7)
	tell(8)
	if again := tell(7); !slices.Equal(first, again) {
		t.Error("it is told otherwise")
	}
}
