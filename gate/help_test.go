package gate_test

import (
	"bytes"
	"math/rand/v2"
	"reflect"
	"slices"
	"testing"

	"lychgate/api"
	"lychgate/ctrl"
	"lychgate/gate"
	"lychgate/ipv4"
	"lychgate/segs"
)

// Who speaks in the samples.
const (
	host    = 0x0a000002 // inside
	host2   = 0x0a000003
	alien   = 0xc0a80001 // inside, and no rule is for it
	server  = 0x08080808 // outside
	server2 = 0x08080809
	public  = 0x01020304
	public2 = 0x01020305
)

// The edges of whole numbers, and where time stays.
const (
	least    = -1 << 63
	greatest = 1<<63 - 1
	lastTime = 1 << 39
)

// chance is the same row of numbers in every run.
func chance(seed uint64) *rand.Rand {
	return rand.New(rand.NewPCG(16, seed))
}

func pick[T any](r *rand.Rand, all ...T) T {
	return all[r.IntN(len(all))]
}

// end is one of a flow's two.
type end struct {
	addr uint32
	port uint16
}

// A packet in the samples has all that may stand in a header, so that it is seen if something gets lost.
func carrier(src, dst uint32) api.Packet {
	return api.Packet{Tos: 4, Id: 77, Keep: true, Ttl: 9, Src: src, Dst: dst, Options: []byte{7, 4, 5, 0}}
}

func bytesOf(p api.Packet, e api.Errno) []byte {
	if e != api.OK {
		panic(e)
	}
	b, e := ipv4.Build(p)
	if e != api.OK {
		panic(e)
	}
	return b
}

func segment(from, to end, s api.Segment) []byte {
	s.Src, s.Dst = from.port, to.port
	return bytesOf(segs.BuildTcp(carrier(from.addr, to.addr), s))
}

// flagged is a segment without more.
func flagged(from, to end, flags byte) []byte {
	return segment(from, to, api.Segment{Seq: 1, Ack: 1, Flags: flags})
}

// says is a segment with data.
func says(from, to end, seq uint32, data string) []byte {
	return segment(from, to, api.Segment{Seq: seq, Ack: 500, Flags: api.Ack | api.Psh, Window: 9, Data: []byte(data)})
}

func datagram(from, to end, data string) []byte {
	return bytesOf(segs.BuildUdp(carrier(from.addr, to.addr), api.Datagram{Src: from.port, Dst: to.port, Data: []byte(data)}))
}

func message(from, to uint32, m api.Message) []byte {
	return bytesOf(ctrl.BuildIcmp(carrier(from, to), m))
}

// ping asks, pong answers.
func ping(from, to uint32, id uint16) []byte {
	return message(from, to, api.Message{Type: 8, Rest: uint32(id)<<16 | 3, Data: []byte("abc")})
}

func pong(from, to uint32, id uint16) []byte {
	return message(from, to, api.Message{Type: 0, Rest: uint32(id)<<16 | 3, Data: []byte("abc")})
}

func frame(from, to uint32, call uint16) []byte {
	return bytesOf(ctrl.BuildGre(carrier(from, to), api.Frame{Call: call, HasSeq: true, Seq: 5, Data: []byte("xyz")}))
}

// fault is an error that quotes the beginning of a packet.
func fault(from, to uint32, quoted []byte) []byte {
	return message(from, to, api.Message{Type: 3, Code: 1, Data: quoted[:min(len(quoted), 60)]})
}

// kept is all that a gateway tells of itself.
type kept struct {
	now     int
	flows   []gate.Flow
	expects []api.Expect
	used    map[[2]uint32][]uint16
}

func look(g *gate.Gate) kept {
	k := kept{now: g.Now(), flows: g.Flows(), expects: g.Expects(), used: map[[2]uint32][]uint16{}}
	for _, proto := range []byte{1, 6, 17, 47} {
		for _, addr := range []uint32{public, public2, 0, host, server} {
			if used := g.Used(proto, addr); len(used) > 0 {
				k.used[[2]uint32{uint32(proto), addr}] = used
			}
		}
	}
	return k
}

func same(a, b kept) bool {
	return a.now == b.now && slices.Equal(a.flows, b.flows) && slices.Equal(a.expects, b.expects) && reflect.DeepEqual(a.used, b.used)
}

// world is a gateway in a test, and its time.
type world struct {
	*testing.T
	*gate.Gate
	now int
}

// masqueraded is a gateway with a rule for 10.0.0.0, 8 bits.
func masqueraded(t *testing.T, low, high uint16) *world {
	t.Helper()
	w := &world{T: t, Gate: gate.New(low, high), now: 1}
	w.rule(api.Rule{Kind: api.Masq, Net: 0x0a000000, Bits: 8, To: public})
	return w
}

func (w *world) rule(r api.Rule) {
	w.Helper()
	if e := w.Rule(r); e != api.OK {
		w.Fatalf("%+v: %d", r, e)
	}
}

// dnat lets what comes to the public address, at a port, go to the host.
func (w *world) dnat(proto byte, port uint16, hostPort uint16) {
	w.Helper()
	w.rule(api.Rule{Kind: api.Dnat, Proto: proto, To: public, Port: port, Host: host, HostPort: hostPort})
}

// passes is what a packet has become, which must come out on the other side, right and one step older.
func (w *world) passes(side api.Side, b []byte) api.Packet {
	w.Helper()
	o := w.Packet(w.now, side, b)
	if o.Reason != api.Passed || o.Side != 1-side {
		w.Fatalf("it is told %d, and side %d", o.Reason, o.Side)
	}
	was, _ := ipv4.Parse(b)
	p, e := ipv4.Parse(o.Bytes)
	if e != api.OK || p.Ttl != was.Ttl-1 {
		w.Fatalf("%+v, %d", p, e)
	}
	if again, _ := ipv4.Build(p); !bytes.Equal(again, o.Bytes) {
		w.Fatalf("% x, not % x", o.Bytes, again)
	}
	return p
}

// tcp is the segment of what passes.
func (w *world) tcp(side api.Side, b []byte) (api.Packet, api.Segment) {
	w.Helper()
	p := w.passes(side, b)
	s, e := segs.ParseTcp(p)
	if e != api.OK {
		w.Fatal(e)
	}
	return p, s
}

// udp is the datagram of what passes.
func (w *world) udp(side api.Side, b []byte) (api.Packet, api.Datagram) {
	w.Helper()
	p := w.passes(side, b)
	d, e := segs.ParseUdp(p)
	if e != api.OK {
		w.Fatal(e)
	}
	return p, d
}

// drops must tell a reason and nothing else, and change nothing but the time.
func (w *world) drops(side api.Side, b []byte, why api.Reason) {
	w.Helper()
	w.Tick(w.now)
	was := look(w.Gate)
	if o := w.Packet(w.now, side, b); o.Reason != why || o.Side != 0 || len(o.Bytes) != 0 {
		w.Fatalf("it is told %d, side %d and % x, not %d", o.Reason, o.Side, o.Bytes, why)
	}
	if is := look(w.Gate); !same(was, is) {
		w.Fatalf("%+v has become %+v", was, is)
	}
}

// flow is the only one with an Id.
func (w *world) flow(id int) gate.Flow {
	w.Helper()
	for _, f := range w.Flows() {
		if f.Id == id {
			return f
		}
	}
	w.Fatalf("there is no flow %d in %+v", id, w.Flows())
	return gate.Flow{}
}

func (w *world) uses(proto byte, addr uint32, want ...uint16) {
	w.Helper()
	if got := w.Used(proto, addr); !slices.Equal(got, want) {
		w.Errorf("of %d, %x are used %v, not %v", proto, addr, got, want)
	}
}

func (w *world) expects(want ...api.Expect) {
	w.Helper()
	if got := w.Expects(); !slices.Equal(got, want) {
		w.Errorf("expected are %+v, not %+v", got, want)
	}
}

// shakeHands lets a flow of Tcp be Established from inside, and is its public end.
func (w *world) shakeHands(from, to end) end {
	w.Helper()
	p, s := w.tcp(api.Inside, segment(from, to, api.Segment{Seq: 99, Flags: api.Syn}))
	out := end{p.Src, s.Src}
	w.tcp(api.Outside, segment(to, out, api.Segment{Seq: 499, Ack: 100, Flags: api.Syn | api.Ack}))
	w.tcp(api.Inside, segment(from, to, api.Segment{Seq: 100, Ack: 500, Flags: api.Ack}))
	return out
}

// letIn lets a flow of Tcp be Established from outside, to what is ruled.
func (w *world) letIn(from, to, in end) {
	w.Helper()
	w.tcp(api.Outside, segment(from, to, api.Segment{Seq: 99, Flags: api.Syn}))
	w.tcp(api.Inside, segment(in, from, api.Segment{Seq: 499, Ack: 100, Flags: api.Syn | api.Ack}))
	w.tcp(api.Outside, segment(from, to, api.Segment{Seq: 100, Ack: 500, Flags: api.Ack}))
}
