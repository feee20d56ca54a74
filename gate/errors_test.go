package gate_test

import (
	"testing"

	"lychgate/api"
	"lychgate/ctrl"
	"lychgate/gate"
	"lychgate/ipv4"
	"lychgate/mangle"
	"lychgate/tuple"
)

// out is what a packet has become, as bytes.
func (w *world) out(side api.Side, b []byte) []byte {
	w.Helper()
	o := w.Packet(w.now, side, b)
	if o.Reason != api.Passed {
		w.Fatal(o.Reason)
	}
	return o.Bytes
}

// faulty lets an error pass: what it quotes must be as the one whose packet it was had sent it.
func (w *world) faulty(side api.Side, b []byte, src, dst uint32, want api.Tuple) {
	w.Helper()
	was := look(w.Gate)
	p := w.passes(side, b)
	got, e := tuple.Quoted(p)
	if e != api.OK || got != want || p.Src != src || p.Dst != dst {
		w.Errorf("%+v, %d: from %x to %x it quotes %+v, not %+v", p, e, p.Src, p.Dst, got, want)
	}
	in, _ := ipv4.Parse(b)
	made, _ := mangle.Requote(in, src, dst, want)
	made.Ttl--
	if !ipv4.Same(p, made) {
		w.Errorf("%+v, not %+v", p, made)
	}
	if is := look(w.Gate); !same(was, is) {
		w.Errorf("%+v has become %+v", was, is)
	}
}

// TestP16_5Outside: an error of a router outside comes to the host, and quotes what that had sent.
func TestP16_5Outside(t *testing.T) {
	for _, x := range sampled() {
		w := masqueraded(t, 1000, 1009)
		sent := w.out(api.Inside, x.forth)
		p, _ := ipv4.Parse(x.forth)
		want, _ := tuple.Of(p)
		w.now += 5
		w.Tick(w.now)
		w.faulty(api.Outside, fault(server2, public, sent), server2, host, want)
		w.faulty(api.Outside, fault(server, public, sent), server, host, want)
		w.faulty(api.Outside, fault(0, 99, sent), 0, host, want) // whereto it was sent plays no part
	}
}

// TestP16_5Inside: an error of a host inside goes out as if the public address told it.
func TestP16_5Inside(t *testing.T) {
	for _, x := range sampled() {
		w := masqueraded(t, 1000, 1009)
		w.out(api.Inside, x.forth)
		sent := w.out(api.Outside, x.back(1000))
		p, _ := ipv4.Parse(x.back(1000))
		want, _ := tuple.Of(p)
		w.faulty(api.Inside, fault(host, server, sent), public, server, want)
		w.faulty(api.Inside, fault(alien, server2, sent), public, server, want)
	}
}

// TestP16_5Dnat: likewise of flows that began outside.
func TestP16_5Dnat(t *testing.T) {
	w := masqueraded(t, 1000, 1009)
	w.dnat(17, 80, 8080)
	forth := datagram(end{server, 7}, end{public, 80}, "abc")
	sent := w.out(api.Outside, forth)
	w.faulty(api.Inside, fault(host, server, sent), public, server, api.Tuple{Proto: 17, Src: server, Dst: public, SrcPort: 7, DstPort: 80})
	sent = w.out(api.Inside, datagram(end{host, 8080}, end{server, 7}, "abc"))
	w.faulty(api.Outside, fault(server2, public, sent), server2, host, api.Tuple{Proto: 17, Src: host, Dst: server, SrcPort: 8080, DstPort: 7})
}

// TestP16_5Types: errors are of three types, of any code, and their second word stays.
func TestP16_5Types(t *testing.T) {
	w := masqueraded(t, 1000, 1009)
	sent := w.out(api.Inside, datagram(end{host, 5}, end{server, 53}, "abc"))
	for typ := range 256 {
		for _, code := range []byte{0, 4, 255} {
			m := api.Message{Type: byte(typ), Code: code, Rest: 0x12345678, Data: sent}
			if !ctrl.IsError(m) {
				if typ != 0 && typ != 8 {
					w.drops(api.Outside, message(server, public, m), api.Unknown)
				}
				continue
			}
			got, _ := ctrl.ParseIcmp(w.passes(api.Outside, message(server, public, m)))
			if got.Type != m.Type || got.Code != code || got.Rest != m.Rest || len(got.Data) != len(sent) {
				t.Errorf("%+v", got)
			}
		}
	}
}

func TestP16_5Unknown(t *testing.T) {
	w := masqueraded(t, 1000, 1009)
	sent := w.out(api.Inside, datagram(end{host, 5}, end{server, 53}, "abc"))
	for n := range 32 { // too few bytes are quoted
		w.drops(api.Outside, fault(server, public, sent[:n]), api.Unknown)
	}
	w.passes(api.Outside, fault(server, public, sent[:32]))
	for _, b := range [][]byte{
		nil, {1, 2, 3}, withProto(sent, 99), frame(public, server, 70), message(public, server, api.Message{Type: 13}),
		fault(public, server, sent), message(public, server, api.Message{Type: 8, Code: 1}), spoiltHead(sent),
	} {
		w.drops(api.Outside, fault(server, public, b), api.Unknown)
		w.drops(api.Inside, fault(host, server, b), api.Unknown)
	}
}

// spoiltHead is a packet whose header has a wrong sum.
func spoiltHead(b []byte) []byte {
	b = append([]byte(nil), b...)
	b[10] ^= 1
	return b
}

// TestP16_5Gre: an error that quotes a frame is none of ours, though its flow is there.
func TestP16_5Gre(t *testing.T) {
	w := pptpWorld(t, 1000, 1009)
	w.dials(request(7), request(1000))
	w.answers(reply(70, 1000, 1), reply(70, 7, 1))
	w.drops(api.Outside, fault(server, public, w.out(api.Inside, frame(host, server, 70))), api.Unknown)
	w.drops(api.Inside, fault(host, server, w.out(api.Outside, frame(server, public, 1000))), api.Unknown)
}

func TestP16_5Stray(t *testing.T) {
	w := masqueraded(t, 1000, 1009)
	forth := datagram(end{host, 5}, end{server, 53}, "abc")
	sent := w.out(api.Inside, forth)
	back := datagram(end{server, 53}, end{public, 1000}, "abc")
	handed := w.out(api.Outside, back)
	w.drops(api.Inside, fault(host, server, sent), api.Stray)      // on the side on which it was not
	w.drops(api.Outside, fault(server, public, handed), api.Stray) // likewise
	w.drops(api.Outside, fault(server, public, forth), api.Stray)  // as it came, and not as it was passed
	w.drops(api.Inside, fault(host, server, back), api.Stray)
	w.drops(api.Outside, fault(server, public, datagram(end{public, 1001}, end{server, 53}, "abc")), api.Stray)
	w.drops(api.Outside, fault(server, public, flagged(end{public, 1000}, end{server, 53}, api.Syn)), api.Stray)
	w.now += 300
	w.drops(api.Outside, fault(server, public, sent), api.Stray) // the flow has ended
}

// TestP16_5NoRuleNoFlow: an error needs no rule, and begins nothing.
func TestP16_5NoRuleNoFlow(t *testing.T) {
	w := &world{T: t, Gate: gate.New(1000, 1009), now: 1}
	w.drops(api.Inside, fault(host, server, datagram(end{server, 53}, end{host, 5}, "abc")), api.Stray)
	w.drops(api.Outside, fault(server, host, datagram(end{host, 5}, end{server, 53}, "abc")), api.Stray)
}

// TestP16_5BadBytes: the message's own form comes first.
func TestP16_5BadBytes(t *testing.T) {
	w := masqueraded(t, 1000, 1009)
	b := fault(server, public, w.out(api.Inside, datagram(end{host, 5}, end{server, 53}, "abc")))
	w.drops(api.Outside, spoilt(b), api.BadBytes)
	w.drops(api.Outside, withTtl(b, 1), api.BadBytes)
	w.passes(api.Outside, withTtl(b, 2))
}
