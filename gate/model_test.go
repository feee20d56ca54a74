package gate_test

import (
	"reflect"
	"slices"
	"testing"

	"lychgate/api"
	"lychgate/ctrl"
	"lychgate/ftp"
	"lychgate/gate"
	"lychgate/ipv4"
	"lychgate/mangle"
	"lychgate/pptp"
	"lychgate/segs"
	"lychgate/seqadj"
	"lychgate/sip"
	"lychgate/track"
	"lychgate/tuple"
)

// model is a gateway said over again in the plainest way: lists that are gone through. Which numbers are taken is not kept: it
// is what flows and expected flows hold. A packet that is dropped leaves a copy of it that was made ahead.
type model struct {
	low, high int
	now       int
	next      int
	turns     int
	rules     []api.Rule
	flows     []*modelFlow
	expects   []api.Expect
}

type modelFlow struct {
	gate.Flow
	turn    int
	holds   []api.Tuple // of each number Proto, Dst and DstPort
	streams [2]*seqadj.Stream
	media   []sip.Media
	calls   []modelCall
}

// modelCall has the Id of its flow, or -1.
type modelCall struct {
	client, public uint16
	flow           int
}

func (m *model) clone() *model {
	n := *m
	n.rules, n.expects, n.flows = slices.Clone(m.rules), slices.Clone(m.expects), nil
	for _, f := range m.flows {
		c := *f
		c.holds, c.media, c.calls = slices.Clone(f.holds), slices.Clone(f.media), slices.Clone(f.calls)
		for i, s := range f.streams {
			c.streams[i] = s.Fork()
		}
		n.flows = append(n.flows, &c)
	}
	return &n
}

// used are the numbers of a protocol and an address that are held, rising; one that is held twice stands there twice.
func (m *model) used(proto byte, addr uint32) (all []uint16) {
	held := func(p byte, dst uint32, n uint16) {
		if p == proto && dst == addr {
			all = append(all, n)
		}
	}
	for _, f := range m.flows {
		for _, h := range f.holds {
			held(h.Proto, h.Dst, h.DstPort)
		}
	}
	for _, e := range m.expects {
		held(e.Proto, e.Dst, e.DstPort)
	}
	slices.Sort(all)
	return all
}

// free is the wished number, if it may be had, else the least one; 0, if there is none. Of pairs it is an even one.
func (m *model) free(proto byte, addr uint32, wish uint16, pair bool) uint16 {
	used := m.used(proto, addr)
	may := func(n int) bool {
		return n >= m.low && n <= m.high && !slices.Contains(used, uint16(n))
	}
	if pair {
		single := may
		may = func(n int) bool { return n%2 == 0 && single(n) && single(n+1) }
	}
	if may(int(wish)) {
		return wish
	}
	for n := m.low; n <= m.high; n++ {
		if may(n) {
			return uint16(n)
		}
	}
	return 0
}

func (m *model) expect(e api.Expect) bool {
	own := 0
	for _, x := range m.expects {
		if x.Master == e.Master {
			own++
		}
	}
	if e.Host == 0 || own == 4 || len(m.expects) == 32 {
		return false
	}
	m.expects = append(m.expects, e)
	return true
}

func (m *model) byId(id int) *modelFlow {
	for _, f := range m.flows {
		if f.Id == id {
			return f
		}
	}
	return nil
}

func (m *model) find(t api.Tuple) (f *modelFlow, back bool) {
	for _, f := range m.flows {
		if tuple.Key(f.Orig) == tuple.Key(t) {
			return f, false
		}
		if tuple.Key(f.Reply) == tuple.Key(t) {
			return f, true
		}
	}
	return nil, false
}

// begin is nil, if there is no room.
func (m *model) begin(side api.Side, orig, reply api.Tuple, master int, holds ...api.Tuple) *modelFlow {
	known, _ := m.find(orig)
	other, _ := m.find(reply)
	if len(m.flows) == 64 || known != nil || other != nil || tuple.Key(orig) == tuple.Key(reply) {
		return nil
	}
	f := &modelFlow{Flow: gate.Flow{Id: m.next, Orig: orig, Reply: reply, Side: side, Master: master}, holds: holds, streams: [2]*seqadj.Stream{seqadj.New(), seqadj.New()}}
	m.next++
	m.flows = append(m.flows, f)
	if orig.Proto == 6 {
		m.state(f, api.SynSent)
	} else {
		m.state(f, api.Unreplied)
	}
	return f
}

func (m *model) state(f *modelFlow, s api.State) {
	m.turns++
	f.State, f.Till, f.turn = s, m.now+track.Time(f.Orig.Proto, s), m.turns
}

func (m *model) end(id int) {
	m.flows = slices.DeleteFunc(m.flows, func(f *modelFlow) bool { return f.Id == id })
	m.expects = slices.DeleteFunc(m.expects, func(e api.Expect) bool { return e.Master == id })
	for _, f := range slices.Clone(m.flows) {
		if f.Master == id && f.Orig.Proto == 47 {
			m.end(f.Id)
		}
	}
}

func (m *model) tick(now int) {
	if now > m.now {
		m.now = now
	}
	if m.now > 1<<39 {
		m.now = 1 << 39
	}
	for {
		var first *modelFlow
		for _, f := range m.flows {
			if f.Till <= m.now && (first == nil || f.Till < first.Till || f.Till == first.Till && f.turn < first.turn) {
				first = f
			}
		}
		if first == nil {
			break
		}
		m.end(first.Id)
	}
	m.expects = slices.DeleteFunc(m.expects, func(e api.Expect) bool { return e.Deadline <= m.now })
}

func (m *model) packet(now int, side api.Side, b []byte) gate.Out {
	if side != api.Inside && side != api.Outside {
		return gate.Out{Reason: api.Unknown}
	}
	m.tick(now)
	ahead := m.clone()
	p, why := m.passed(side, b)
	if why != api.Passed {
		*m = *ahead
		return gate.Out{Reason: why}
	}
	p.Ttl--
	return gate.Out{Side: 1 - side, Bytes: bytesOf(p, api.OK)}
}

func (m *model) passed(side api.Side, b []byte) (api.Packet, api.Reason) {
	p, e := ipv4.Parse(b)
	if e != api.OK || p.Ttl < 2 {
		return p, api.BadBytes
	}
	var s api.Segment
	var i api.Message
	switch p.Proto {
	case 6:
		s, e = segs.ParseTcp(p)
	case 17:
		_, e = segs.ParseUdp(p)
	case 1:
		i, e = ctrl.ParseIcmp(p)
	case 47:
		_, e = ctrl.ParseGre(p)
	default:
		return p, api.Unknown
	}
	switch {
	case e != api.OK:
		return p, api.BadBytes
	case p.Proto == 1 && ctrl.IsError(i):
		return m.fault(side, p)
	case p.Proto == 1 && !ctrl.IsEcho(i):
		return p, api.Unknown
	}
	t, _ := tuple.Of(p)
	f, back := m.find(t)
	if f == nil {
		var why api.Reason
		if f, why = m.first(side, t, s.Flags, ctrl.Asks(i)); why != api.Passed {
			return p, why
		}
	} else if why := m.again(side, f, back, s.Flags, ctrl.Asks(i)); why != api.Passed {
		return p, why
	}
	return m.told(side, f, back, t, p), api.Passed
}

func (m *model) fault(side api.Side, p api.Packet) (api.Packet, api.Reason) {
	t, e := tuple.Quoted(p)
	if e != api.OK || t.Proto == 47 {
		return p, api.Unknown
	}
	f, back := m.find(tuple.Reverse(t))
	if f == nil || !back && side != f.Side || back && side == f.Side {
		return p, api.Stray
	}
	other := f.Reply
	if back {
		other = f.Orig
	}
	src := p.Src
	if side == api.Inside {
		src = other.Dst
	}
	p, e = mangle.Requote(p, src, other.Src, other)
	if e != api.OK {
		panic(e)
	}
	return p, api.Passed
}

// again is of a packet whose flow is there.
func (m *model) again(side api.Side, f *modelFlow, back bool, flags byte, asks bool) api.Reason {
	if !back && side != f.Side || back && side == f.Side {
		return api.Stray
	}
	s := track.Other(f.State, back)
	if f.Orig.Proto == 6 {
		next, ok := track.Next(f.State, back, flags)
		if !ok {
			return api.Invalid
		}
		s = next
	}
	if f.Orig.Proto == 1 && asks == back {
		return api.Invalid
	}
	m.state(f, s)
	return api.Passed
}

// first is of a packet that may begin a flow.
func (m *model) first(side api.Side, t api.Tuple, flags byte, asks bool) (*modelFlow, api.Reason) {
	if t.Proto == 6 && flags&(api.Syn|api.Ack|api.Fin|api.Rst) != api.Syn || t.Proto == 1 && !asks {
		return nil, api.Invalid
	}
	if t.Proto == 47 {
		return nil, api.Stray
	}
	var f *modelFlow
	if side == api.Inside {
		at := slices.IndexFunc(m.rules, func(r api.Rule) bool { return r.Kind == api.Masq && uint64(t.Src^r.Net)>>(32-r.Bits) == 0 })
		if at < 0 {
			return nil, api.NoRule
		}
		n := m.free(t.Proto, m.rules[at].To, t.SrcPort, false)
		if n == 0 {
			return nil, api.NoRoom
		}
		reply := api.Tuple{Proto: t.Proto, Src: t.Dst, Dst: m.rules[at].To, SrcPort: t.DstPort, DstPort: n}
		if t.Proto == 1 {
			reply.SrcPort = n
		}
		f = m.begin(side, t, reply, -1, reply)
	} else {
		into := func(host uint32, port uint16) api.Tuple {
			return api.Tuple{Proto: t.Proto, Src: host, Dst: t.Src, SrcPort: port, DstPort: t.SrcPort}
		}
		at := slices.IndexFunc(m.expects, func(e api.Expect) bool {
			return e.Proto == t.Proto && e.Dst == t.Dst && e.DstPort == t.DstPort && (e.Src == 0 || e.Src == t.Src)
		})
		ruled := slices.IndexFunc(m.rules, func(r api.Rule) bool {
			return r.Kind == api.Dnat && r.Proto == t.Proto && r.To == t.Dst && r.Port == t.DstPort
		})
		switch {
		case at >= 0:
			e := m.expects[at]
			m.expects = slices.Delete(m.expects, at, at+1)
			f = m.begin(side, t, into(e.Host, e.HostPort), e.Master, t)
		case ruled >= 0:
			f = m.begin(side, t, into(m.rules[ruled].Host, m.rules[ruled].HostPort), -1)
		default:
			return nil, api.Stray
		}
	}
	if f == nil {
		return nil, api.NoRoom
	}
	return f, api.Passed
}

// told is a packet as it goes on; it is read and built anew.
func (m *model) told(side api.Side, f *modelFlow, back bool, was api.Tuple, p api.Packet) api.Packet {
	is := tuple.Reverse(f.Reply)
	if back {
		is = tuple.Reverse(f.Orig)
	}
	q := p
	q.Src, q.Dst = is.Src, is.Dst
	e := api.OK
	switch p.Proto {
	case 6:
		s, _ := segs.ParseTcp(p)
		s.Src, s.Dst = is.SrcPort, is.DstPort
		if f.Reply.SrcPort == 21 {
			s = m.ftp(side, f, back, is, was, s)
		}
		if f.Reply.SrcPort == 1723 && f.Side == api.Inside {
			s = m.pptp(side, f, s)
		}
		q, e = segs.BuildTcp(q, s)
	case 17:
		d, _ := segs.ParseUdp(p)
		d.Src, d.Dst = is.SrcPort, is.DstPort
		if (f.Reply.SrcPort == 5060 || f.Orig.SrcPort == 5060) && side == api.Inside {
			d = m.sip(f, is, was, d)
		}
		q, e = segs.BuildUdp(q, d)
	case 1:
		i, _ := ctrl.ParseIcmp(p)
		i.Rest = i.Rest&0xffff | uint32(is.SrcPort)<<16
		q, e = ctrl.BuildIcmp(q, i)
	case 47:
		x, _ := ctrl.ParseGre(p)
		x.Call = is.DstPort
		q, e = ctrl.BuildGre(q, x)
	}
	if e != api.OK {
		panic(e)
	}
	return q
}

func (m *model) ftp(side api.Side, f *modelFlow, back bool, is, was api.Tuple, s api.Segment) api.Segment {
	mine, other := f.streams[0], f.streams[1]
	if back {
		mine, other = other, mine
	}
	l, ok := ftp.Find(s.Data, back)
	if side == api.Inside && ok && (l.Kind == ftp.Epsv || l.Addr == was.Src) {
		start, long := s.Seq+uint32(l.Start), l.End-l.Start
		text, known := mine.Find(start, long)
		if n := m.free(6, is.Src, l.Port, false); !known && n != 0 {
			text = ftp.Text(l.Kind, is.Src, n)
			known = mine.Fork().Add(start, long, text) == api.OK &&
				m.expect(api.Expect{Proto: 6, Src: was.Dst, Dst: is.Src, DstPort: n, Host: was.Src, HostPort: l.Port, Master: f.Id, Deadline: m.now + 60})
			if known {
				mine.Add(start, long, text)
			}
		}
		if known {
			s.Data = slices.Concat(s.Data[:l.Start], text, s.Data[l.End:])
		}
	}
	s.Seq = mine.Map(s.Seq)
	if s.Flags&api.Ack != 0 {
		s.Ack = other.Unmap(s.Ack)
	}
	var edges []uint32
	for _, x := range segs.Sacks(s) {
		edges = append(edges, other.Unmap(x))
	}
	return segs.WithSacks(s, edges...)
}

func (m *model) sip(f *modelFlow, is, was api.Tuple, d api.Datagram) api.Datagram {
	x, e := sip.Parse(d.Data)
	if e != api.OK {
		return d
	}
	for _, port := range sip.Ports(x, was.Src) {
		if len(f.media) == 2 || port == 65535 || slices.ContainsFunc(f.media, func(a sip.Media) bool { return a.Was == port }) {
			continue
		}
		n := m.free(17, is.Src, port, true)
		if n == 0 {
			continue
		}
		ahead := slices.Clone(m.expects)
		one := api.Expect{Proto: 17, Dst: is.Src, DstPort: n, Host: was.Src, HostPort: port, Master: f.Id, Deadline: m.now + 120}
		two := one
		two.DstPort, two.HostPort = n+1, port+1
		if !m.expect(one) || !m.expect(two) {
			m.expects = ahead
			continue
		}
		f.media = append(f.media, sip.Media{Was: port, Is: n})
	}
	d.Data, e = sip.Build(sip.Rewrite(x, was.Src, is.Src, was.SrcPort, is.SrcPort, f.media...))
	if e != api.OK {
		panic(e)
	}
	return d
}

func (m *model) pptp(side api.Side, f *modelFlow, s api.Segment) api.Segment {
	x, e := pptp.Parse(s.Data)
	if e != api.OK {
		return s
	}
	at := func(is func(c modelCall) bool) int { return slices.IndexFunc(f.calls, is) }
	byClient := at(func(c modelCall) bool { return c.client == x.Call })
	byPublic := at(func(c modelCall) bool { return c.public == x.Peer })
	if side == api.Inside {
		if n := m.free(47, f.Reply.Dst, x.Call, false); x.Type == 7 && byClient < 0 && len(f.calls) < 4 && n != 0 {
			byClient = len(f.calls)
			f.calls = append(f.calls, modelCall{x.Call, n, -1})
			f.holds = append(f.holds, api.Tuple{Proto: 47, Dst: f.Reply.Dst, DstPort: n})
		}
		if byClient >= 0 && (x.Type == 7 || x.Type == 12) {
			s.Data = pptp.WithCall(s.Data, f.calls[byClient].public)
		}
		return s
	}
	if byPublic >= 0 && (x.Type == 8 || x.Type == 15) {
		c := &f.calls[byPublic]
		if x.Type == 8 && x.Result == 1 && m.byId(c.flow) == nil {
			g := m.begin(api.Inside, api.Tuple{Proto: 47, Src: f.Orig.Src, Dst: f.Orig.Dst, SrcPort: c.client, DstPort: x.Call},
				api.Tuple{Proto: 47, Src: f.Orig.Dst, Dst: f.Reply.Dst, SrcPort: x.Call, DstPort: c.public}, f.Id)
			if g != nil {
				c.flow = g.Id
			}
		}
		s.Data = pptp.WithPeer(s.Data, c.client)
	}
	if x.Type == 13 {
		gone := at(func(c modelCall) bool { g := m.byId(c.flow); return g != nil && g.Orig.DstPort == x.Call })
		if gone >= 0 {
			n := f.calls[gone].public
			m.end(f.calls[gone].flow)
			f.calls = slices.Delete(f.calls, gone, gone+1)
			f.holds = slices.DeleteFunc(f.holds, func(h api.Tuple) bool { return h.Proto == 47 && h.DstPort == n })
		}
	}
	return s
}

func (m *model) look() kept {
	k := kept{now: m.now, expects: m.expects, used: map[[2]uint32][]uint16{}}
	for _, f := range m.flows {
		k.flows = append(k.flows, f.Flow)
	}
	for _, proto := range []byte{1, 6, 17, 47} {
		for _, addr := range []uint32{public, public2, 0, host, server} {
			if used := m.used(proto, addr); len(used) > 0 {
				k.used[[2]uint32{uint32(proto), addr}] = used
			}
		}
	}
	return k
}

// check holds what a gateway tells of itself against its model.
func (m *model) check(t *testing.T, g *gate.Gate) {
	t.Helper()
	if got, want := look(g), m.look(); !same(got, want) {
		t.Fatalf("%+v, not %+v", got, want)
	}
}

// agree does the same with a gateway and its model.
func (m *model) agree(t *testing.T, g *gate.Gate, now int, side api.Side, b []byte) gate.Out {
	t.Helper()
	got, want := g.Packet(now, side, b), m.packet(now, side, b)
	if !reflect.DeepEqual(got, want) {
		t.Fatalf("at %d, on side %d, of % x: %+v, not %+v; there are %+v", now, side, b, got, want, m.look())
	}
	return got
}
