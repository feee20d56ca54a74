package gate_test

import (
	"slices"
	"strings"
	"testing"

	"lychgate/api"
	"lychgate/segs"
)

// client and control are the ends of a flow of FTP that begins inside.
var (
	client  = end{host, 5}
	control = end{server, 21}
)

// ftpWorld has such a flow, which is Established: its number is 1000, what comes next has 100, and what is answered 500.
func ftpWorld(t *testing.T, low, high uint16) *world {
	t.Helper()
	w := masqueraded(t, low, high)
	w.shakeHands(client, control)
	return w
}

// called is what a line makes expected.
func called(number, port uint16, master, deadline int) api.Expect {
	return api.Expect{Proto: 6, Src: server, Dst: public, DstPort: number, Host: host, HostPort: port, Master: master, Deadline: deadline}
}

func (w *world) line(seq uint32, data, want string) api.Segment {
	w.Helper()
	_, s := w.tcp(api.Inside, says(client, control, seq, data))
	if string(s.Data) != want {
		w.Errorf("%q is told as %q, not %q", data, s.Data, want)
	}
	return s
}

// TestP16_4FtpPort is the example of the whole: the line, what is expected, and what comes then.
func TestP16_4FtpPort(t *testing.T) {
	w := ftpWorld(t, 1000, 1009)
	w.now = 7
	s := w.line(100, "PORT 10,0,0,2,4,1\r\n", "PORT 1,2,3,4,3,233\r\n")
	if s.Seq != 100 || s.Ack != 500 || s.Src != 1000 || s.Flags != api.Ack|api.Psh || s.Window != 9 {
		t.Errorf("%+v", s)
	}
	w.expects(called(1001, 1025, 0, 67))
	w.uses(6, public, 1000, 1001)
	w.drops(api.Outside, flagged(end{server2, 20}, end{public, 1001}, api.Syn), api.Stray)
	w.drops(api.Outside, flagged(end{server, 20}, end{public, 1002}, api.Syn), api.Stray)
	w.drops(api.Outside, flagged(end{server, 20}, end{public, 1001}, api.Ack), api.Invalid)
	w.drops(api.Outside, datagram(end{server, 20}, end{public, 1001}, ""), api.Stray)
	w.now = 66
	p, s := w.tcp(api.Outside, flagged(end{server, 20}, end{public, 1001}, api.Syn))
	if p.Src != server || p.Dst != host || s.Src != 20 || s.Dst != 1025 {
		t.Errorf("%+v, %+v", p, s)
	}
	w.expects()
	w.uses(6, public, 1000, 1001)
	f := w.flow(1)
	if f.Master != 0 || f.Side != api.Outside || f.State != api.SynSent || f.Till != 66+120 ||
		f.Orig != (api.Tuple{Proto: 6, Src: server, Dst: public, SrcPort: 20, DstPort: 1001}) || f.Reply != (api.Tuple{Proto: 6, Src: host, Dst: server, SrcPort: 1025, DstPort: 20}) {
		t.Errorf("%+v", f)
	}
	w.drops(api.Outside, flagged(end{server, 21}, end{public, 1001}, api.Syn), api.Stray) // it was expected once
	if p, s = w.tcp(api.Inside, flagged(end{host, 1025}, end{server, 20}, api.Syn|api.Ack)); p.Src != public || s.Src != 1001 {
		t.Errorf("%+v, %+v", p, s)
	}
	w.Tick(66 + 120)
	w.uses(6, public, 1000)
}

func TestP16_4FtpEprt(t *testing.T) {
	w := ftpWorld(t, 1000, 1009)
	w.line(100, "eprt |1|10.0.0.2|1005|\r\n", "eprt |1|1.2.3.4|1005|\r\n")
	w.line(124, "Port 10,0,0,2,3,237\r\n", "Port 1,2,3,4,3,233\r\n") // 1005 is taken
	w.expects(called(1005, 1005, 0, 61), called(1001, 1005, 0, 61))
}

// TestP16_4FtpOfAServer: a server inside names its address in what goes back.
func TestP16_4FtpOfAServer(t *testing.T) {
	w := masqueraded(t, 1000, 1009)
	w.dnat(6, 2121, 21)
	from, to, in := end{server, 7}, end{public, 2121}, end{host, 21}
	w.letIn(from, to, in)
	for _, x := range []struct {
		seq        uint32
		data, want string
	}{
		{500, "227 ok (10,0,0,2,200,1).\r\n", "227 ok (1,2,3,4,3,232).\r\n"},
		{600, "229 ok (|||50000|)\r\n", "229 ok (|||1001|)\r\n"},
		{700, "227 ok (10,0,0,3,200,1)\r\n", "227 ok (10,0,0,3,200,1)\r\n"},
		{800, "PORT 10,0,0,2,4,1\r\n", "PORT 10,0,0,2,4,1\r\n"}, // that is what a client says
	} {
		if _, s := w.tcp(api.Inside, says(in, from, x.seq, x.data)); string(s.Data) != x.want {
			t.Errorf("%q is told as %q", x.data, s.Data)
		}
	}
	w.expects(called(1000, 51201, 0, 61), called(1001, 50000, 0, 61))
	for _, data := range []string{"PORT 8,8,8,8,4,1\r\n", "227 ok (8,8,8,8,4,1)\r\n", "EPRT |1|8.8.8.8|1025|\r\n", "229 ok (|||1025|)\r\n", "PORT 10,0,0,2,4,1\r\n"} {
		if _, s := w.tcp(api.Outside, says(from, to, 100, data)); string(s.Data) != data {
			t.Errorf("%q is told as %q", data, s.Data)
		}
	}
	if p, s := w.tcp(api.Outside, flagged(end{server, 9}, end{public, 1001}, api.Syn)); p.Dst != host || s.Dst != 50000 {
		t.Errorf("%+v, %+v", p, s)
	}
}

// TestP16_4FtpStays: lines that are not of this host, not of this side, not whole, or not of such a flow, stay.
func TestP16_4FtpStays(t *testing.T) {
	w := ftpWorld(t, 1000, 1009)
	for _, data := range []string{
		"PORT 10,0,0,3,4,1\r\n", "PORT 1,2,3,4,4,1\r\n", "PORT 8,8,8,8,4,1\r\n", "EPRT |1|10.0.0.3|1025|\r\n", "PORT 10,0,0,2,4,1", "PORT 10,0,0,2,4,1\n",
		"NOOP\r\nPORT 10,0,0,2,4,1\r\n", "PORT 10,0,0,2,0,0\r\n", "227 (10,0,0,2,4,1)\r\n", "229 (|||1025|)\r\n", "USER a\r\n", "",
	} {
		w.line(100, data, data)
	}
	_, s := w.tcp(api.Outside, says(control, end{public, 1000}, 500, "PORT 8,8,8,8,4,1\r\n"))
	if string(s.Data) != "PORT 8,8,8,8,4,1\r\n" {
		t.Errorf("%q", s.Data)
	}
	w.tcp(api.Outside, says(control, end{public, 1000}, 500, "229 (|||1025|)\r\n"))
	for _, port := range []uint16{20, 22, 80, 1723, 5060} {
		w.shakeHands(end{host, 1000 + port}, end{server, port})
		if _, s = w.tcp(api.Inside, says(end{host, 1000 + port}, end{server, port}, 100, "PORT 10,0,0,2,4,1\r\n")); string(s.Data) != "PORT 10,0,0,2,4,1\r\n" {
			t.Errorf("to %d: %q", port, s.Data)
		}
	}
	w.udp(api.Inside, datagram(client, control, "PORT 10,0,0,2,4,1\r\n"))
	w.expects()
}

// TestP16_4FtpServersPort: it is the port of the server, not that of the client, by which a flow is known.
func TestP16_4FtpServersPort(t *testing.T) {
	w := masqueraded(t, 1000, 1009)
	w.dnat(6, 21, 2121)
	w.shakeHands(end{host, 21}, end{server, 2121})
	w.tcp(api.Inside, says(end{host, 21}, end{server, 2121}, 100, "PORT 10,0,0,2,4,1\r\n"))
	w.letIn(end{server, 21}, end{public, 21}, end{host, 2121})
	w.tcp(api.Inside, says(end{host, 2121}, end{server, 21}, 500, "227 (10,0,0,2,4,1)\r\n"))
	w.expects()
}

// TestP16_4E4FtpSentAgain: a line that is sent again is told the same, and nothing more is expected.
func TestP16_4E4FtpSentAgain(t *testing.T) {
	w := ftpWorld(t, 1000, 1009)
	for range 3 {
		w.line(100, "PORT 10,0,0,2,4,1\r\n", "PORT 1,2,3,4,3,233\r\n")
		w.expects(called(1001, 1025, 0, 61))
		w.now += 3
	}
	w.tcp(api.Outside, flagged(end{server, 20}, end{public, 1001}, api.Syn))
	w.line(119, "PORT 10,0,0,2,4,2\r\n", "PORT 1,2,3,4,3,234\r\n")
	w.line(100, "PORT 10,0,0,2,4,1\r\n", "PORT 1,2,3,4,3,233\r\n")
	w.expects(called(1002, 1026, 0, 70))
	w.uses(6, public, 1000, 1001, 1002)
	w.line(100, "PORT 10,0,0,2,9,9\r\n", "PORT 1,2,3,4,3,233\r\n") // bytes of a stream are what they were
}

// TestP16_4E4FtpNumbers: numbers of both directions fit what is told, Acks and edges too.
func TestP16_4E4FtpNumbers(t *testing.T) {
	w := ftpWorld(t, 1000, 1009)
	out := end{public, 1000}
	w.line(100, "PORT 10,0,0,2,4,1\r\n", "PORT 1,2,3,4,3,233\r\n")          // 12 by 13, from 105 on
	w.line(119, "EPRT |1|10.0.0.2|50000|\r\n", "EPRT |1|1.2.3.4|1002|\r\n") // 18 by 16, from 124 on
	for _, x := range []struct{ was, is uint32 }{{50, 50}, {100, 100}, {105, 105}, {106, 105}, {116, 105}, {117, 118}, {119, 120}, {124, 125}, {130, 125}, {142, 141}, {144, 143}, {1 << 31, 1<<31 - 1}} {
		if _, s := w.tcp(api.Inside, says(client, control, x.was, "x")); s.Seq != x.is || s.Ack != 500 {
			t.Errorf("Seq %d is told as %d, Ack %d", x.was, s.Seq, s.Ack)
		}
	}
	for _, x := range []struct{ was, is uint32 }{{50, 50}, {100, 100}, {105, 105}, {106, 105}, {117, 105}, {118, 117}, {120, 119}, {125, 124}, {140, 124}, {141, 142}, {143, 144}} {
		answer := api.Segment{Seq: x.was, Ack: x.was, Flags: api.Ack, Options: []api.Option{{Kind: 1}, {Kind: 5, Data: []byte{0, 0, 0, byte(x.was), 0, 0, 0, 143}}}}
		if _, s := w.tcp(api.Outside, segment(control, out, answer)); s.Ack != x.is || s.Seq != x.was || !slices.Equal(segs.Sacks(s), []uint32{x.is, 144}) {
			t.Errorf("Ack %d is told as %d, edges %v, Seq %d", x.was, s.Ack, segs.Sacks(s), s.Seq)
		}
	}
	w.tcp(api.Outside, segment(control, out, api.Segment{Seq: 500, Ack: 143, Flags: api.Fin})) // without the flag nothing is told by it
	if _, s := w.tcp(api.Outside, segment(control, out, api.Segment{Seq: 500, Ack: 143, Flags: api.Rst})); s.Ack != 143 {
		t.Errorf("Ack %d", s.Ack)
	}
}

// TestP16_4FtpEdgesInside: what comes from inside answers the other stream, of which nothing is replaced.
func TestP16_4FtpEdgesInside(t *testing.T) {
	w := ftpWorld(t, 1000, 1009)
	w.line(100, "PORT 10,0,0,2,4,1\r\n", "PORT 1,2,3,4,3,233\r\n")
	edges := api.Option{Kind: 5, Data: []byte{0, 0, 0, 110, 0, 0, 0, 119}}
	_, s := w.tcp(api.Inside, segment(client, control, api.Segment{Seq: 119, Ack: 119, Flags: api.Ack, Options: []api.Option{edges}}))
	if s.Seq != 120 || s.Ack != 119 || !slices.Equal(segs.Sacks(s), []uint32{110, 119}) {
		t.Errorf("%+v", s)
	}
}

// lineStays: the line stays, and nothing has become of it.
func (w *world) lineStays(seq uint32, data string) {
	w.Helper()
	w.Tick(w.now)
	was := look(w.Gate)
	w.line(seq, data, data)
	is := look(w.Gate)
	if !slices.Equal(was.expects, is.expects) || !slices.Equal(was.used[[2]uint32{6, public}], is.used[[2]uint32{6, public}]) {
		w.Errorf("%+v has become %+v", was, is)
	}
}

// TestP16_4FtpCantBe: if there is no number, or it can't be expected, or the stream does not take it, nothing is done.
func TestP16_4FtpCantBe(t *testing.T) {
	w := ftpWorld(t, 1000, 1000)
	w.lineStays(100, "PORT 10,0,0,2,4,1\r\n") // no number

	w = ftpWorld(t, 1000, 1009)
	for i := range uint32(4) {
		w.line(100+19*i, "PORT 10,0,0,2,4,1\r\n", "PORT 1,2,3,4,3,"+[]string{"233", "234", "235", "236"}[i]+"\r\n")
	}
	w.lineStays(176, "PORT 10,0,0,2,4,1\r\n") // of one Master there are four
	if s := w.line(176, "NOOP\r\n", "NOOP\r\n"); s.Seq != 180 {
		t.Errorf("numbers have moved to %d", s.Seq)
	}
	w.tcp(api.Outside, flagged(end{server, 20}, end{public, 1001}, api.Syn))
	w.line(176, "PORT 10,0,0,2,4,1\r\n", "PORT 1,2,3,4,3,237\r\n") // there is room again, for one
	w.lineStays(195, "PORT 10,0,0,2,4,1\r\n")
}

// TestP16_4FtpAheadOfTheLast: what lies ahead of the last part is not replaced any more.
func TestP16_4FtpAheadOfTheLast(t *testing.T) {
	w := ftpWorld(t, 1000, 1009)
	w.line(100, "PORT 10,0,0,2,4,1\r\n", "PORT 1,2,3,4,3,233\r\n") // from 105 to 117
	w.lineStays(111, "PORT 10,0,0,2,4,1\r\n")
	w.lineStays(50, "PORT 10,0,0,2,4,1\r\n")
	w.lineStays(100, "PORT 10,0,0,2,14,1\r\n") // from where one is, but longer
	w.line(112, "PORT 10,0,0,2,4,1\r\n", "PORT 1,2,3,4,3,234\r\n")
}

// TestP16_4FtpSteps: of a stream eight parts are replaced.
func TestP16_4FtpSteps(t *testing.T) {
	w := ftpWorld(t, 1000, 1009)
	for i := range uint32(8) {
		w.line(100+20*i, "PORT 10,0,0,2,4,1\r\n", "PORT 1,2,3,4,3,233\r\n")
		w.now += 60 // by then it is expected no more
	}
	w.lineStays(300, "PORT 10,0,0,2,4,1\r\n")
	if s := w.line(300, "x", "x"); s.Seq != 308 {
		t.Errorf("numbers have moved to %d", s.Seq)
	}
}

// TestP16_4FtpAllExpected: of all that is expected there are 32.
func TestP16_4FtpAllExpected(t *testing.T) {
	w := masqueraded(t, 1000, 1099)
	for i := range uint16(9) {
		from := end{host, 1000 + i}
		w.shakeHands(from, control)
		for j := range uint32(4) {
			data := "PORT 10,0,0,2,4,1\r\n"
			_, s := w.tcp(api.Inside, says(from, control, 100+20*j, data))
			if full := i == 8; (string(s.Data) == data) != full {
				t.Errorf("the flow %d: %q", i, s.Data)
			}
		}
	}
	if len(w.Expects()) != 32 || len(w.Used(6, public)) != 32+9 {
		t.Errorf("%d are expected, %d numbers used", len(w.Expects()), len(w.Used(6, public)))
	}
}

// TestP16_4FtpHostOfZero: a flow to no address can't be expected.
func TestP16_4FtpHostOfZero(t *testing.T) {
	w := masqueraded(t, 1000, 1009)
	w.rule(api.Rule{Kind: api.Masq, Net: 0, Bits: 32, To: public})
	from := end{0, 5}
	w.shakeHands(from, control)
	data := "PORT 0,0,0,0,4,1\r\n"
	if _, s := w.tcp(api.Inside, says(from, control, 100, data)); string(s.Data) != data {
		t.Errorf("%q", s.Data)
	}
	w.expects()
	w.uses(6, public, 1000)
}

// TestP16_4FtpExpectedTill: what does not come in time is expected no more, and its number is free.
func TestP16_4FtpExpectedTill(t *testing.T) {
	w := ftpWorld(t, 1000, 1009)
	w.line(100, "PORT 10,0,0,2,4,1\r\n", "PORT 1,2,3,4,3,233\r\n")
	w.now = 60
	w.Tick(w.now)
	w.expects(called(1001, 1025, 0, 61))
	w.now = 61
	w.drops(api.Outside, flagged(end{server, 20}, end{public, 1001}, api.Syn), api.Stray)
	w.expects()
	w.uses(6, public, 1000)
}

// TestP16_2ExpectedGone: when a flow ends, what is expected of it is not any more; what has come by it stays.
func TestP16_2ExpectedGone(t *testing.T) {
	w := ftpWorld(t, 1000, 1009)
	w.line(100, "PORT 10,0,0,2,4,1\r\n", "PORT 1,2,3,4,3,233\r\n")
	w.line(119, "PORT 10,0,0,2,4,2\r\n", "PORT 1,2,3,4,3,234\r\n")
	w.tcp(api.Outside, flagged(end{server, 20}, end{public, 1001}, api.Syn))
	w.tcp(api.Inside, flagged(client, control, api.Rst))
	w.now += 10
	w.Tick(w.now)
	w.expects()
	w.uses(6, public, 1001)
	if f := w.flow(1); f.Master != 0 || len(w.Flows()) != 1 {
		t.Errorf("%+v", w.Flows())
	}
	w.tcp(api.Inside, flagged(end{host, 1025}, end{server, 20}, api.Syn|api.Ack))
	w.drops(api.Outside, flagged(end{server, 20}, end{public, 1002}, api.Syn), api.Stray)
}

// TestP16_2ExpectedFirst: what is expected comes ahead of what is ruled; with no room it stays expected.
func TestP16_2ExpectedFirst(t *testing.T) {
	w := ftpWorld(t, 1000, 1099)
	w.dnat(6, 1001, 80)
	w.line(100, "PORT 10,0,0,2,20,1\r\n", "PORT 1,2,3,4,3,233\r\n")
	if _, s := w.tcp(api.Outside, flagged(end{server2, 20}, end{public, 1001}, api.Syn)); s.Dst != 80 { // from elsewhere it is not expected
		t.Errorf("%+v", s)
	}
	w.tcp(api.Inside, flagged(end{host, 5121}, end{server, 19}, api.Syn))
	w.drops(api.Outside, flagged(end{server, 19}, end{public, 1001}, api.Syn), api.NoRoom) // the host has such a flow already
	w.expects(called(1001, 5121, 0, 61))
	for i := range uint16(61) {
		w.udp(api.Inside, datagram(end{host, i}, end{server, 53}, ""))
	}
	w.drops(api.Outside, flagged(end{server, 20}, end{public, 1001}, api.Syn), api.NoRoom)
	w.now = 35
	if _, s := w.tcp(api.Outside, flagged(end{server, 20}, end{public, 1001}, api.Syn)); s.Dst != 5121 {
		t.Errorf("%+v", s)
	}
	if _, s := w.tcp(api.Outside, flagged(end{server, 22}, end{public, 1001}, api.Syn)); s.Dst != 80 {
		t.Errorf("%+v", s)
	}
}

// TestP16_4FtpOfWhatCame: a flow that was expected to the port 21 is one of FTP, too.
func TestP16_4FtpOfWhatCame(t *testing.T) {
	w := ftpWorld(t, 1000, 1009)
	w.line(100, "PORT 10,0,0,2,0,21\r\n", "PORT 1,2,3,4,3,233\r\n")
	w.letIn(end{server, 20}, end{public, 1001}, end{host, 21})
	_, s := w.tcp(api.Inside, says(end{host, 21}, end{server, 20}, 500, "229 (|||9|)\r\n"))
	if string(s.Data) != "229 (|||1002|)\r\n" {
		t.Errorf("%q", s.Data)
	}
	w.expects(called(1002, 9, 1, 61))
}

// TestP16_4FtpLongest: the longest line there may be is told, though it has more bytes then.
func TestP16_4FtpLongest(t *testing.T) {
	w := masqueraded(t, 60000, 60009)
	w.dnat(6, 21, 21)
	w.letIn(end{server, 7}, end{public, 21}, end{host, 21})
	rest := strings.Repeat("x", 128-len("229 (|||1|)\r\n"))
	_, s := w.tcp(api.Inside, says(end{host, 21}, end{server, 7}, 500, "229 (|||1|)"+rest+"\r\n"))
	if string(s.Data) != "229 (|||60000|)"+rest+"\r\n" {
		t.Errorf("%q", s.Data)
	}
	if _, s = w.tcp(api.Inside, says(end{host, 21}, end{server, 7}, 700, "229 (|||1|)"+rest+"x\r\n")); s.Seq != 704 || len(s.Data) != 129 {
		t.Errorf("%+v", s)
	}
}
