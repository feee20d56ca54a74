package gate_test

import (
	"fmt"
	"slices"
	"testing"

	"lychgate/api"
	"lychgate/segs"
)

// phone and proxy are the ends of a flow of SIP that begins inside.
var (
	phone = end{host, 5060}
	proxy = end{server, 5060}
)

// invite is a message of a phone at an address and a port, with media.
func invite(addr string, port int, ports ...int) string {
	body := fmt.Sprintf("v=0\r\no=a 1 1 IN IP4 %s\r\nc=IN IP4 %s\r\n", addr, addr)
	for _, p := range ports {
		body += fmt.Sprintf("m=audio %d RTP/AVP 0\r\n", p)
	}
	return fmt.Sprintf("INVITE sip:b@8.8.8.8 SIP/2.0\r\nVia: SIP/2.0/UDP %s:%d;branch=1\r\nContact: <sip:a@%s:%d>\r\nFrom: <sip:a@10.0.0.2>\r\nContent-Length: %d\r\n\r\n%s", addr, port, addr, port, len(body), body)
}

// medium are the two flows that a medium makes expected.
func medium(number, port uint16, master, deadline int) []api.Expect {
	one := api.Expect{Proto: 17, Dst: public, DstPort: number, Host: host, HostPort: port, Master: master, Deadline: deadline}
	two := one
	two.DstPort++
	two.HostPort++
	return []api.Expect{one, two}
}

func (w *world) sips(side api.Side, from, to end, data, want string) api.Datagram {
	w.Helper()
	_, d := w.udp(side, datagram(from, to, data))
	if string(d.Data) != want {
		w.Errorf("%q is told as %q, not %q", data, d.Data, want)
	}
	return d
}

// TestP16_4Sip: a message tells the public address, and its media may come then, from anywhere.
func TestP16_4Sip(t *testing.T) {
	w := masqueraded(t, 7000, 7009)
	w.now = 3
	d := w.sips(api.Inside, phone, proxy, invite("10.0.0.2", 5060, 4000), invite("1.2.3.4", 7000, 7002))
	if d.Src != 7000 || d.Dst != 5060 {
		t.Errorf("%+v", d)
	}
	w.expects(medium(7002, 4000, 0, 123)...)
	w.uses(17, public, 7000, 7002, 7003)
	w.drops(api.Outside, datagram(end{server2, 9}, end{public, 7004}, ""), api.Stray)
	w.drops(api.Outside, datagram(end{server2, 9}, end{public2, 7002}, ""), api.Stray)
	w.drops(api.Outside, flagged(end{server2, 9}, end{public, 7002}, api.Syn), api.Stray)
	w.sips(api.Outside, proxy, end{public, 7000}, "ok", "ok") // so that the flow lasts
	w.now = 122
	p, d := w.udp(api.Outside, datagram(end{server2, 9}, end{public, 7003}, "rtcp"))
	if p.Src != server2 || p.Dst != host || d.Src != 9 || d.Dst != 4001 {
		t.Errorf("%+v, %+v", p, d)
	}
	if f := w.flow(1); f.Master != 0 || f.Side != api.Outside || f.State != api.Unreplied || f.Till != 152 {
		t.Errorf("%+v", f)
	}
	if p, d = w.udp(api.Inside, datagram(end{host, 4001}, end{server2, 9}, "rtcp")); p.Src != public || d.Src != 7003 {
		t.Errorf("%+v, %+v", p, d)
	}
	w.now = 123
	w.drops(api.Outside, datagram(end{server2, 9}, end{public, 7002}, "rtp"), api.Stray)
	w.expects()
	w.uses(17, public, 7000, 7003) // what has come holds its number
}

// TestP16_4SipWish: wished is the port itself, if it is even and free with the next.
func TestP16_4SipWish(t *testing.T) {
	for _, x := range []struct {
		port uint16
		want uint16
	}{{7004, 7004}, {7005, 7002}, {7000, 7002}, {6998, 7002}, {7008, 7008}, {7009, 7002}} {
		w := masqueraded(t, 7000, 7009)
		w.sips(api.Inside, phone, proxy, invite("10.0.0.2", 5060, int(x.port)), invite("1.2.3.4", 7000, int(x.want)))
		w.expects(medium(x.want, x.port, 0, 121)...)
	}
}

// TestP16_4SipMedia: a flow has two media at most, each once, and tells them again as it told them.
func TestP16_4SipMedia(t *testing.T) {
	w := masqueraded(t, 7000, 7019)
	w.sips(api.Inside, phone, proxy, invite("10.0.0.2", 5060, 65535, 4000, 4000, 5000, 6000), invite("1.2.3.4", 7000, 65535, 7002, 7002, 7004, 6000))
	all := slices.Concat(medium(7002, 4000, 0, 121), medium(7004, 5000, 0, 121))
	w.expects(all...)
	w.uses(17, public, 7000, 7002, 7003, 7004, 7005)
	w.now = 20
	w.sips(api.Inside, phone, proxy, invite("10.0.0.2", 5060, 6000, 5000, 4000), invite("1.2.3.4", 7000, 6000, 7004, 7002))
	w.expects(all...)
	for w.now < 200 { // the flow goes on, though its media are expected no more
		w.now += 20
		w.sips(api.Inside, phone, proxy, invite("10.0.0.2", 5060, 5000, 7), invite("1.2.3.4", 7000, 7004, 7))
	}
	w.expects()
	w.uses(17, public, 7000)
}

// TestP16_4SipStays: what comes from outside, or is no message, or not of such a flow, stays; of a message of another address
// that which is not the host's.
func TestP16_4SipStays(t *testing.T) {
	w := masqueraded(t, 7000, 7009)
	other := invite("10.0.0.3", 5060, 4000)
	w.sips(api.Inside, phone, proxy, other, other)
	for _, data := range []string{"", "x", invite("10.0.0.2", 5060, 4000) + "x", "\r\n\r\n"} {
		w.sips(api.Inside, phone, proxy, data, data)
	}
	back := invite("8.8.8.8", 5060, 4000)
	w.sips(api.Outside, proxy, end{public, 7000}, back, back)
	back = invite("10.0.0.2", 5060, 4000)
	w.sips(api.Outside, proxy, end{public, 7000}, back, back)
	plain := invite("10.0.0.2", 5061, 4000)
	w.sips(api.Inside, end{host, 5061}, end{server, 5062}, plain, plain)
	w.expects()
	w.shakeHands(phone, proxy)
	if _, s := w.tcp(api.Inside, says(phone, proxy, 100, plain)); string(s.Data) != plain {
		t.Errorf("%q", s.Data)
	}
	w.expects()
}

// TestP16_4SipPorts: a flow is known by the server's port, or by that from which it began.
func TestP16_4SipPorts(t *testing.T) {
	for _, x := range []struct{ from, to uint16 }{{5060, 5060}, {5060, 9}, {9, 5060}} {
		w := masqueraded(t, 7000, 7009)
		w.sips(api.Inside, end{host, x.from}, end{server, x.to}, invite("10.0.0.2", int(x.from), 4000), invite("1.2.3.4", 7000, 7002))
	}
	w := masqueraded(t, 5060, 5069) // what it goes out from plays no part
	w.sips(api.Inside, end{host, 9}, end{server, 10}, invite("10.0.0.2", 9, 4000), invite("10.0.0.2", 9, 4000))
}

// TestP16_4SipOfAServer: a server inside is ruled to; what it answers names the port that was called.
func TestP16_4SipOfAServer(t *testing.T) {
	for _, x := range []struct{ from, port, in uint16 }{{9, 6060, 5060}, {5060, 6060, 9}, {9, 5060, 5060}} {
		w := masqueraded(t, 7000, 7009)
		w.dnat(17, x.port, x.in)
		from, to, in := end{server, x.from}, end{public, x.port}, end{host, x.in}
		data := invite("10.0.0.2", int(x.in), 4000)
		w.sips(api.Outside, from, to, data, data)
		w.sips(api.Inside, in, from, data, invite("1.2.3.4", int(x.port), 7000))
		w.expects(medium(7000, 4000, 0, 121)...)
	}
	w := masqueraded(t, 7000, 7009)
	w.dnat(17, 5060, 9) // it is called at that port, but neither is it the server's own
	data := invite("10.0.0.2", 9, 4000)
	w.sips(api.Outside, end{server, 10}, end{public, 5060}, data, data)
	w.sips(api.Inside, end{host, 9}, end{server, 10}, data, data)
}

// TestP16_4SipCantBe: without a pair, or without room for both, none is expected, and the port stays.
func TestP16_4SipCantBe(t *testing.T) {
	w := masqueraded(t, 7001, 7003)
	w.sips(api.Inside, end{host, 7002}, proxy, invite("10.0.0.2", 7002, 4000), invite("1.2.3.4", 7002, 4000))
	w.expects()
	w.uses(17, public, 7002)

	w = masqueraded(t, 7000, 7005)
	w.sips(api.Inside, phone, proxy, invite("10.0.0.2", 5060, 4000, 5000, 6000), invite("1.2.3.4", 7000, 7002, 7004, 6000))
	w.udp(api.Inside, datagram(end{host, 9}, end{server, 53}, ""))
	w.uses(17, public, 7000, 7001, 7002, 7003, 7004, 7005)

	w = masqueraded(t, 7000, 7099)
	for i := range uint16(8) {
		w.sips(api.Inside, end{host, i + 1}, proxy, invite("10.0.0.2", int(i+1), 4000, 5000), toldOf(i))
	}
	if len(w.Expects()) != 32 {
		t.Errorf("%d are expected", len(w.Expects()))
	}
	used := len(w.Used(17, public))
	w.sips(api.Inside, end{host, 99}, proxy, invite("10.0.0.2", 99, 4000), invite("1.2.3.4", 7040, 4000))
	if len(w.Used(17, public)) != used+1 {
		t.Errorf("%v", w.Used(17, public))
	}
	w.udp(api.Outside, datagram(end{server, 9}, end{public, 7002}, "")) // one place is free, and two are needed
	w.sips(api.Inside, end{host, 99}, proxy, invite("10.0.0.2", 99, 4000), invite("1.2.3.4", 7040, 4000))
	w.udp(api.Outside, datagram(end{server, 9}, end{public, 7003}, ""))
	w.sips(api.Inside, end{host, 99}, proxy, invite("10.0.0.2", 99, 4000), invite("1.2.3.4", 7040, 7042))
}

// toldOf is what the flow i of TestP16_4SipCantBe tells: each has a number, and two pairs. The number of every other one is
// that which stands alone behind the one ahead.
func toldOf(i uint16) string {
	number := 7000 + int(i/2)*10 + int(i%2)
	first := 7002 + int(i/2)*10 + int(i%2)*4
	return invite("1.2.3.4", number, first, first+2)
}

// TestP16_4SipOwn: of one flow four are expected; where one of them is there still, a medium more has no room.
func TestP16_4SipOwn(t *testing.T) {
	w := masqueraded(t, 7000, 7099)
	w.sips(api.Inside, phone, proxy, invite("10.0.0.2", 5060, 4000), invite("1.2.3.4", 7000, 7002))
	w.sips(api.Inside, phone, proxy, invite("10.0.0.2", 5060, 5000), invite("1.2.3.4", 7000, 7004))
	w.sips(api.Inside, phone, proxy, invite("10.0.0.2", 5060, 6000), invite("1.2.3.4", 7000, 6000))
	w.expects(slices.Concat(medium(7002, 4000, 0, 121), medium(7004, 5000, 0, 121))...)
}

// TestP16_4SipBare: a datagram without a check sum stays so.
func TestP16_4SipBare(t *testing.T) {
	for _, bare := range []bool{false, true} {
		w := masqueraded(t, 7000, 7009)
		b := bytesOf(segs.BuildUdp(carrier(host, server), api.Datagram{Src: 5060, Dst: 5060, Bare: bare, Data: []byte(invite("10.0.0.2", 5060, 4000))}))
		if _, d := w.udp(api.Inside, b); d.Bare != bare || string(d.Data) != invite("1.2.3.4", 7000, 7002) {
			t.Errorf("%+v", d)
		}
	}
}

// TestP16_4SipNoHost: media of no address can't be expected; the message is told all the same.
func TestP16_4SipNoHost(t *testing.T) {
	w := masqueraded(t, 7000, 7009)
	w.rule(api.Rule{Kind: api.Masq, Net: 0, Bits: 32, To: public})
	w.sips(api.Inside, end{0, 5060}, proxy, invite("0.0.0.0", 5060, 4000), invite("1.2.3.4", 7000, 4000))
	w.expects()
	w.uses(17, public, 7000)
}

// TestP16_4SipMaster: when the flow ends, its media are expected no more.
func TestP16_4SipMaster(t *testing.T) {
	w := masqueraded(t, 7000, 7009)
	w.sips(api.Inside, phone, proxy, invite("10.0.0.2", 5060, 4000), invite("1.2.3.4", 7000, 7002))
	w.udp(api.Outside, datagram(end{server, 9}, end{public, 7002}, ""))
	w.udp(api.Inside, datagram(end{host, 4000}, end{server, 9}, ""))
	w.Tick(31)
	w.expects()
	w.uses(17, public, 7002)
	if f := w.flow(1); f.Till != 181 || len(w.Flows()) != 1 {
		t.Errorf("%+v", w.Flows())
	}
}
