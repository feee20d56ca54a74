package gate_test

import (
	"bytes"
	"reflect"
	"slices"
	"testing"

	"lychgate/api"
	"lychgate/gate"
)

// TestP1P2P16_2Nil: a nil gateway answers nothing; a call of it that has an error ErrNil, and a packet is Unknown.
func TestP1P2P16_2Nil(t *testing.T) {
	var g *gate.Gate
	for _, r := range []api.Rule{{}, {Kind: api.Masq, Net: 0x0a000000, Bits: 8, To: public}} {
		if e := g.Rule(r); e != api.ErrNil {
			t.Errorf("%+v: %d", r, e)
		}
	}
	for _, now := range []int{least, -1, 0, 1, lastTime, greatest} {
		g.Tick(now)
		for _, side := range []api.Side{-1, api.Inside, api.Outside, 2} {
			for _, b := range [][]byte{nil, {}, {1}, datagram(end{host, 5}, end{server, 53}, "x")} {
				if o := g.Packet(now, side, b); o.Reason != api.Unknown || o.Side != 0 || len(o.Bytes) != 0 {
					t.Errorf("%+v", o)
				}
			}
		}
	}
	if len(g.Flows()) != 0 || len(g.Expects()) != 0 || len(g.Used(6, public)) != 0 || g.Now() != 0 || g.Fork() != nil {
		t.Error("it has something")
	}
}

// TestP1E2BytesOfAnyKind: bytes that are no packet are dropped, and change nothing.
func TestP1E2BytesOfAnyKind(t *testing.T) {
	r := chance(3)
	w := ftpWorld(t, 1000, 1009)
	w.line(100, "PORT 10,0,0,2,4,1\r\n", "PORT 1,2,3,4,3,233\r\n")
	was := look(w.Gate)
	for range 20000 {
		b := make([]byte, r.IntN(100))
		for i := range b {
			b[i] = byte(r.Uint32())
		}
		if len(b) > 0 {
			b[0] = pick(r, b[0], 0x45, 0x46)
		}
		side := api.Side(r.IntN(5) - 1)
		o := w.Packet(1, side, b)
		if want := map[bool]api.Reason{true: api.BadBytes, false: api.Unknown}[side == 0 || side == 1]; o.Reason != want || o.Side != 0 || len(o.Bytes) != 0 {
			t.Fatalf("% x: %+v", b, o)
		}
	}
	if !same(was, look(w.Gate)) {
		t.Errorf("%+v has become %+v", was, look(w.Gate))
	}
}

// TestP1Used: any protocol and address may be asked for.
func TestP1Used(t *testing.T) {
	w := masqueraded(t, 1000, 1009)
	w.udp(api.Inside, datagram(end{host, 5}, end{server, 53}, ""))
	for proto := range 256 {
		for _, addr := range []uint32{0, host, public2, server, 0xffffffff, public} {
			if used := w.Used(byte(proto), addr); (len(used) != 0) != (proto == 17 && addr == public) {
				t.Errorf("%d, %x: %v", proto, addr, used)
			}
		}
	}
}

// TestP3HandedInStaysAsItIs: bytes, and the room behind them, are as they were.
func TestP3HandedInStaysAsItIs(t *testing.T) {
	r := chance(31)
	for range 20 {
		g, _ := newPair(t, r)
		s := &script{Rand: r}
		for range 200 {
			side, b := s.packet(look(g))
			room := append(slices.Clone(b), "spare room"...)
			o := g.Packet(s.later(), side, room[:len(b)])
			if !bytes.Equal(room[:len(b)], b) || string(room[len(b):]) != "spare room" {
				t.Fatalf("% x has become % x", b, room)
			}
			s.note(o)
		}
	}
}

// TestP3AnswersAreTheCallers: of two that are told the same the one is told nothing else, though all that the other was handed, and all that it
// answered, is written over.
func TestP3AnswersAreTheCallers(t *testing.T) {
	r := chance(32)
	for range 40 {
		g, _ := newPair(t, r)
		f, s := g.Fork(), &script{Rand: r}
		for range 250 {
			now := s.later()
			side, b := s.packet(look(g))
			mine := slices.Clone(b)
			o, p := g.Packet(now, side, b), f.Packet(now, side, mine)
			if !reflect.DeepEqual(o, p) || !same(look(g), look(f)) {
				t.Fatalf("%+v, not %+v", p, o)
			}
			s.note(o)
			scribble(mine)
			scribble(p.Bytes)
			overwrite(f.Flows(), gate.Flow{Id: 99})
			overwrite(f.Expects(), api.Expect{Proto: 6, Dst: public, DstPort: 1000, Host: host, HostPort: 1, Deadline: 1 << 40})
			for _, proto := range []byte{1, 6, 17, 47} {
				overwrite(f.Used(proto, public), 77)
			}
		}
	}
}

func scribble(b []byte) {
	b = b[:cap(b)]
	for i := range b {
		b[i] ^= 0xee
	}
}

// overwrite puts something into each place of a list, and behind its end.
func overwrite[T any](all []T, x T) {
	all = all[:cap(all)]
	for i := range all {
		all[i] = x
	}
}

// TestP3NoTwoAnswersShare: what is written over one answer is not seen in another one.
func TestP3NoTwoAnswersShare(t *testing.T) {
	w := ftpWorld(t, 1000, 1009)
	line := says(client, control, 100, "PORT 10,0,0,2,4,1\r\n")
	first := w.Packet(1, api.Inside, line)
	kept := slices.Clone(first.Bytes)
	for range 3 {
		scribble(w.Packet(1, api.Inside, line).Bytes)
	}
	if !bytes.Equal(first.Bytes, kept) || !bytes.Equal(w.Packet(1, api.Inside, line).Bytes, kept) {
		t.Error("bytes have changed")
	}
	flows, expects, used := w.Flows(), w.Expects(), w.Used(6, public)
	overwrite(w.Flows(), gate.Flow{})
	overwrite(w.Expects(), api.Expect{})
	overwrite(w.Used(6, public), 0)
	if flows[0].Reply.DstPort != 1000 || expects[0] != called(1001, 1025, 0, 61) || !slices.Equal(used, []uint16{1000, 1001}) {
		t.Errorf("%+v, %+v, %v", flows, expects, used)
	}
}

// TestP5NothingGoesRound: the greatest times, ports and sequence numbers.
func TestP5NothingGoesRound(t *testing.T) {
	w := masqueraded(t, 65530, 65535)
	w.now = greatest
	w.sips(api.Inside, phone, proxy, invite("10.0.0.2", 5060, 65534, 65535), invite("1.2.3.4", 65530, 65534, 65535))
	if l := w.Expects(); len(l) != 2 || l[1].DstPort != 65535 || l[1].HostPort != 65535 || l[1].Deadline != lastTime+120 {
		t.Errorf("%+v", l)
	}
	w.udp(api.Outside, datagram(end{server, 9}, end{public, 65535}, ""))
	if f := w.flow(1); f.Reply.SrcPort != 65535 || f.Till != lastTime+30 {
		t.Errorf("%+v", f)
	}
	w.now = least
	w.udp(api.Inside, datagram(end{host, 65535}, end{server, 9}, ""))
	if w.Now() != lastTime {
		t.Errorf("it is %d", w.Now())
	}
}
