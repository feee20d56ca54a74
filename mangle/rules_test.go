package mangle_test

import (
	"bytes"
	"reflect"
	"slices"
	"testing"

	"lychgate/api"
	"lychgate/ipv4"
	"lychgate/mangle"
	"lychgate/rules"
	"lychgate/segs"
	"lychgate/tuple"
	"lychgate/wire"
)

func TestP1NilLists(t *testing.T) {
	for _, data := range [][]byte{nil, {}} {
		for proto := range 256 {
			p := api.Packet{Proto: byte(proto), Options: data, Data: data}
			want := api.ErrKind
			if slices.Contains(protocols(), byte(proto)) {
				want = api.ErrShort
			}
			if got, e := mangle.Rewrite(p, api.Tuple{Proto: byte(proto)}); e != want || !ipv4.Same(got, api.Packet{}) {
				t.Errorf("Rewrite of protocol %d: %+v, %d", proto, got, e)
			}
			if proto != 1 {
				want = api.ErrKind
			}
			if got, e := mangle.Requote(p, 1, 2, api.Tuple{Proto: byte(proto)}); e != want || !ipv4.Same(got, api.Packet{}) {
				t.Errorf("Requote of protocol %d: %+v, %d", proto, got, e)
			}
		}
	}
}

func TestP1BytesOfAnyKind(t *testing.T) {
	r := chance()
	for range 20000 {
		proto := protocols()[r.IntN(4)]
		p := api.Packet{Proto: proto, Options: someBytes(r, r.IntN(50)), Data: someBytes(r, r.IntN(80))}
		if q, e := mangle.Rewrite(p, someTuple(r, proto)); e != api.OK && !ipv4.Same(q, api.Packet{}) {
			t.Fatalf("%+v: %+v, %d", p, q, e)
		}
		if q, e := mangle.Requote(p, 1, 2, someTuple(r, proto)); e != api.OK && !ipv4.Same(q, api.Packet{}) {
			t.Fatalf("%+v: %+v, %d", p, q, e)
		}
	}
}

// call is one of both calls, of a packet that it takes.
type call struct {
	name string
	p    api.Packet
	do   func(p api.Packet) (api.Packet, api.Errno)
}

func calls() []call {
	var all []call
	for name, s := range samples() {
		all = append(all, call{name, s.packet(), func(p api.Packet) (api.Packet, api.Errno) {
			return mangle.Rewrite(p, s.to())
		}})
	}
	for name, s := range faults() {
		p := outer(1, server, public, s.was)
		all = append(all, call{"an error of " + name, p, func(p api.Packet) (api.Packet, api.Errno) {
			return mangle.Requote(p, server, host, s.to)
		}})
	}
	return all
}

// TestP3HandedInStaysAsItIs looks at the spare room behind the lists too, also where there is an error.
func TestP3HandedInStaysAsItIs(t *testing.T) {
	for _, c := range calls() {
		for _, options := range [][]byte{nil, {1, 2, 3, 4}, {1, 2, 3}} {
			p := c.p
			var data, room []byte
			p.Data, data = roomy(c.p.Data)
			p.Options, room = roomy(options)
			wasData, wasRoom := slices.Clone(data), slices.Clone(room)
			if _, e := c.do(p); (e == api.OK) != (len(options)%4 == 0) {
				t.Errorf("%s: %d", c.name, e)
			}
			if !bytes.Equal(data, wasData) || !bytes.Equal(room, wasRoom) {
				t.Errorf("%s: % x, % x became % x, % x", c.name, wasData, wasRoom, data, room)
			}
		}
	}
}

// TestP3AnsweredIsTheCallers: what is written over an answer's lists, and behind their ends, changes neither what was
// handed in, nor another answer, nor the answer's other list; and so the other way round.
func TestP3AnsweredIsTheCallers(t *testing.T) {
	for _, c := range calls() {
		p := c.p
		p.Data, _ = roomy(c.p.Data)
		p.Options, _ = roomy(c.p.Options)
		first, _ := c.do(p)
		other, _ := c.do(p)
		want := first
		want.Data, want.Options = slices.Clone(first.Data), slices.Clone(first.Options)
		spoil(other.Data)
		if !bytes.Equal(other.Options, c.p.Options) {
			t.Errorf("%s: Options became % x", c.name, other.Options)
		}
		spoil(other.Options)
		if !ipv4.Same(p, c.p) || !ipv4.Same(first, want) {
			t.Errorf("%s: %+v, %+v, by what was written over an answer", c.name, p, first)
		}
		spoil(p.Data)
		spoil(p.Options)
		if !ipv4.Same(first, want) {
			t.Errorf("%s: %+v, by what was written over what was handed in", c.name, first)
		}
	}
}

func TestP6NothingIsKept(t *testing.T) {
	list := calls()
	tell := func() (all []any) {
		for _, c := range list {
			p, e := c.do(c.p)
			q, f := c.do(withOptions(c.p, 3))
			all = append(all, p, e, q, f)
		}
		return all
	}
	first := tell()
	mangle.Rewrite(samples()["an echo"].packet(), api.Tuple{Proto: 1, Src: 7, SrcPort: 7})
	mangle.Rewrite(api.Packet{Proto: 6}, api.Tuple{Proto: 6})
	mangle.Requote(message(t, 3, 1, nil), 7, 7, api.Tuple{})
	if again := tell(); !reflect.DeepEqual(first, again) {
		t.Errorf("%v, then %v", first, again)
	}
}

// TestE1OutAndBack: a segment goes out by its rule, what is answered comes in, and so does an error of a router's.
func TestE1OutAndBack(t *testing.T) {
	r := rules.New()
	r.Add(api.Rule{Kind: api.Masq, Net: 0x0a000000, Bits: 8, To: public})
	p, _ := segs.BuildTcp(api.Packet{Ttl: 9, Src: host, Dst: server}, api.Segment{Src: 5, Dst: 21, Flags: api.Syn})
	orig, _ := tuple.Of(p)
	x, ok := r.Masq(orig.Src)
	forth := api.Tuple{Proto: api.Tcp, Src: x.To, Dst: server, SrcPort: 1000, DstPort: 21}
	out, e := mangle.Rewrite(p, forth)
	if k, f := tuple.Of(out); !ok || e != api.OK || f != api.OK || k != forth {
		t.Fatalf("out: %+v, %d, %d", k, e, f)
	}
	answer, _ := segs.BuildTcp(api.Packet{Ttl: 9, Src: server, Dst: public}, api.Segment{Src: 21, Dst: 1000, Flags: api.Syn | api.Ack})
	in, e := mangle.Rewrite(answer, tuple.Reverse(orig))
	if k, f := tuple.Of(in); e != api.OK || f != api.OK || k != tuple.Reverse(orig) {
		t.Errorf("in: %+v, %d, %d", k, e, f)
	}
	const router = 0x09090909
	fault, e := mangle.Requote(message(t, 11, 0, built(t, out)), router, host, orig)
	if e != api.OK || fault.Src != router || fault.Dst != host || !wire.Good(fault.Data) {
		t.Fatalf("an error: %+v, %d", fault, e)
	}
	if q, f := ipv4.Parse(fault.Data[8:]); f != api.OK || !ipv4.Same(q, p) {
		t.Errorf("it quotes %+v, %d", q, f)
	}
}

// TestE3SumsAreGood: what is changed has check sums that fit, all of them.
func TestE3SumsAreGood(t *testing.T) {
	r := chance()
	for range 3000 {
		p := somePacket(t, r, protocols()[r.IntN(4)])
		q, e := mangle.Rewrite(p, someTuple(r, p.Proto))
		b := built(t, q)
		if got, f := ipv4.Parse(b); e != api.OK || f != api.OK || !ipv4.Same(got, q) {
			t.Fatalf("%+v: %d, %d", q, e, f)
		}
		pseudo := wire.Pseudo(q.Src, q.Dst, q.Proto, len(q.Data))
		switch q.Proto {
		case api.Tcp:
			e = good(append(pseudo, q.Data...))
		case api.Udp:
			if word(p.Data, 6) == 0 {
				e = api.Errno(word(q.Data, 6))
			} else {
				e = good(append(pseudo, q.Data...))
			}
		case api.Icmp:
			e = good(q.Data)
		}
		if e != api.OK {
			t.Fatalf("%+v: %d", q, e)
		}
	}
}

func good(b []byte) api.Errno {
	if sumOf(b) != 0 {
		return api.ErrSum
	}
	return api.OK
}
