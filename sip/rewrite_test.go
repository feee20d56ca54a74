package sip_test

import (
	"fmt"
	"slices"
	"strings"
	"testing"

	"lychgate/api"
	"lychgate/sip"
)

// bodied is a message of which the body alone is of interest.
func bodied(lines ...string) sip.Message {
	return with(strings.Join(lines, "\r\n"))
}

func TestP14_2Ports(t *testing.T) {
	const here, there = "c=IN IP4 10.0.0.2", "c=IN IP4 10.0.0.3"
	for _, c := range []struct {
		body string
		want []uint16
	}{
		{"c=IN IP4 10.0.0.2\r\nm=audio 4000 RTP\r\n", []uint16{4000}},
		{"c=IN IP4 10.0.0.2\r\nm=audio 4000 RTP", []uint16{4000}},
		{"m=audio 4000 RTP\r\nc=IN IP4 10.0.0.2", []uint16{4000}},
		{here + "\r\nm=audio 4000 RTP\r\nm=video 5000 RTP\r\nm=audio 3000 x\r\n", []uint16{4000, 5000, 3000}},
		{here + "\r\nm=a 4000 RTP\r\nm=b 5000 RTP\r\nm=c 4000 x\r\nm=d 5000 \r\nm=e 6 ", []uint16{4000, 5000, 6}},
		{here + "\r\nm=AZaz 1 \r\nm=x 65535 \r\n", []uint16{1, 65535}},
		{there + "\r\n" + here + "\r\n" + there + "\r\nm=a 7 ", []uint16{7}},
		{here + "\r\n\r\n\r\nm=a 7 \r\n\r\n", []uint16{7}},
		{here + "\r\nm=a 7 8 9", []uint16{7}},
		{here + "\r\nm=a 7 \n\rx", []uint16{7}},
		{here, nil}, {here + "\r\n", nil}, {"", nil}, {"\r\n", nil}, {"m=audio 4000 RTP\r\n", nil},
		{there + "\r\nm=audio 4000 RTP\r\n", nil},
	} {
		if got := sip.Ports(with(c.body), host); !slices.Equal(got, c.want) {
			t.Errorf("%q: %v, not %v", c.body, got, c.want)
		}
	}
}

// TestP14_2NoMedia: lines that are nearly those of a medium.
func TestP14_2NoMedia(t *testing.T) {
	for _, line := range []string{
		"m=audio 0 RTP", "m=audio 65536 RTP", "m=audio 04000 RTP", "m=audio 00 RTP", "m=audio -1 RTP", "m=audio +1 RTP", "m=audio 4294967297 RTP",
		"m=audio 18446744073709551617 RTP", "m=audio x RTP", "m=audio 4000", "m=audio 4000\t", "m=audio 4000/2 RTP", "m=audio 4000\r", "m=audio 4000\n",
		"m=audio  4000 RTP", "m=audio\t4000 RTP", "m=audio4000 RTP", "m= 4000 RTP", "m=4000 RTP", "m=au-dio 4000 RTP", "m=audio2 4000 RTP", "m=ä 4000 RTP", "m=\xff 4000 RTP",
		"M=audio 4000 RTP", " m=audio 4000 RTP", "m =audio 4000 RTP", "m", "m=", "m=audio", "m=audio ", "m= ", "m=  ", "a=m=audio 4000 RTP", "\nm=audio 4000 RTP", "\rm=audio 4000 RTP",
		"m=audio RTP 4000 ", "=audio 4000 RTP", "maudio 4000 RTP",
	} {
		m := bodied("c=IN IP4 10.0.0.2", line)
		if got := sip.Ports(m, host); len(got) != 0 {
			t.Errorf("%q: %v", line, got)
		}
		var all []sip.Media
		for _, port := range []uint16{0, 1, 2, 4000, 65535} {
			all = append(all, sip.Media{Was: port, Is: 9})
		}
		if got := sip.Rewrite(m, others, public, 1, 2, all...); !sip.Same(got, m) {
			t.Errorf("%q became %q", m.Body, got.Body)
		}
	}
}

// TestP14_2P14_3NoConnection: lines that nearly name the host.
func TestP14_2P14_3NoConnection(t *testing.T) {
	for _, line := range []string{
		"c=IN IP4 10.0.0.2 ", "c=IN IP4  10.0.0.2", "c=IN IP410.0.0.2", "c=IN IP4 10.0.0.20", "c=IN IP4 10.0.0.02", "c=IN IP4 010.0.0.2", "c=IN IP4 10.0.0.2/127", "c=IN IP4 10.0.0",
		"c=IN IP6 10.0.0.2", "c=in ip4 10.0.0.2", "C=IN IP4 10.0.0.2", " c=IN IP4 10.0.0.2", "a=c=IN IP4 10.0.0.2", "c=IN IP4 10.0.0.2\r", "c=IN IP4 10.0.0.2\n", "\nc=IN IP4 10.0.0.2",
		"c=IN IP4 110.0.0.2", "c=IN IP4 10.0.0.3", "c= IN IP4 10.0.0.2", "c=IN IP4 10,0,0,2", "c=IN IP4 ", "c=",
	} {
		m := bodied(line, "m=audio 4000 RTP")
		if got := sip.Ports(m, host); len(got) != 0 {
			t.Errorf("%q: %v", line, got)
		}
		if got := sip.Rewrite(m, host, public, 1, 2); !sip.Same(got, m) {
			t.Errorf("%q became %q", m.Body, got.Body)
		}
	}
}

// TestP1P14_2OfAnyMessage: Ports does not ask whether a message is right.
func TestP1P14_2OfAnyMessage(t *testing.T) {
	m := sip.Message{Body: []byte("c=IN IP4 0.0.0.0\r\nm=a 5 ")}
	if got := sip.Ports(m, 0); !slices.Equal(got, []uint16{5}) {
		t.Errorf("%v", got)
	}
	var b []byte
	for port := range 70000 {
		b = fmt.Appendf(b, "m=a %d \r\nm=b %d \r\n", port, 65535-port%65536)
	}
	m.Body = append(b, "c=IN IP4 255.255.255.255"...)
	got := sip.Ports(m, 0xffffffff)
	if slices.Sort(got); len(got) != 65535 || got[0] != 1 || len(slices.Compact(got)) != 65535 {
		t.Errorf("of all ports: %d", len(got))
	}
	if got := sip.Ports(m, 0); len(got) != 0 {
		t.Errorf("%d", len(got))
	}
}

func TestP14_2SomeBodies(t *testing.T) {
	r, seen := chance(), 0
	for range 20000 {
		m, addr := sip.Message{Body: someBody(r)}, pick[uint32](r, host, host, others)
		want := portsOf(m, addr)
		if got := sip.Ports(m, addr); !slices.Equal(got, want) {
			t.Fatalf("%q: %v, not %v", m.Body, got, want)
		}
		if len(want) > 1 {
			seen++
		}
	}
	if seen < 500 {
		t.Errorf("only %d had more than one", seen)
	}
}

// valueOf is what becomes of a header's value, for 10.0.0.2:5060 by 1.2.3.4:7000.
func valueOf(t *testing.T, name, value string) string {
	t.Helper()
	m := with("abc", "A: 10.0.0.2:5060", name+": "+value, "Z: SIP/2.0/UDP 10.0.0.2")
	got := sip.Rewrite(m, host, public, 5060, 7000)
	want := copied(m)
	want.Headers[1].Value = got.Headers[1].Value
	if !sip.Right(m) || !sip.Same(got, want) {
		t.Errorf("%s: %q became %q", name, written(m), written(got))
	}
	return got.Headers[1].Value
}

func TestP14_3Via(t *testing.T) {
	for was, want := range map[string]string{
		"SIP/2.0/UDP 10.0.0.2:5060;branch=1":                   "SIP/2.0/UDP 1.2.3.4:7000;branch=1",
		"SIP/2.0/UDP 10.0.0.2:5060":                            "SIP/2.0/UDP 1.2.3.4:7000",
		"SIP/2.0/UDP 10.0.0.2":                                 "SIP/2.0/UDP 1.2.3.4",
		"SIP/2.0/UDP 10.0.0.2;a=10.0.0.2;b":                    "SIP/2.0/UDP 1.2.3.4;a=10.0.0.2;b",
		"SIP/2.0/UDP 10.0.0.2;":                                "SIP/2.0/UDP 1.2.3.4;",
		"SIP/2.0/UDP 10.0.0.2:5061":                            "SIP/2.0/UDP 1.2.3.4:5061",
		"SIP/2.0/UDP 10.0.0.2:1;x":                             "SIP/2.0/UDP 1.2.3.4:1;x",
		"SIP/2.0/UDP 10.0.0.2:65535":                           "SIP/2.0/UDP 1.2.3.4:65535",
		"xSIP/2.0/UDP 10.0.0.2:5060;SIP/2.0/UDP 10.0.0.2:5060": "xSIP/2.0/UDP 1.2.3.4:7000;SIP/2.0/UDP 10.0.0.2:5060",
		"\xff SIP/2.0/UDP 10.0.0.2;\xfe":                       "\xff SIP/2.0/UDP 1.2.3.4;\xfe",
	} {
		for _, name := range []string{"Via", "VIA", "via", "vIA"} {
			if got := valueOf(t, name, was); got != want {
				t.Errorf("%s: %q became %q, not %q", name, was, got, want)
			}
		}
		for _, name := range []string{"Vi", "Vias", "v", "X-Via", "Contact"} {
			if got := valueOf(t, name, was); got != was {
				t.Errorf("%s: %q became %q", name, was, got)
			}
		}
	}
}

func TestP14_3Contact(t *testing.T) {
	for was, want := range map[string]string{
		"<sip:a@10.0.0.2:5060>":             "<sip:a@1.2.3.4:7000>",
		"<sip:a@10.0.0.2>":                  "<sip:a@1.2.3.4>",
		"sip:a@10.0.0.2:5060":               "sip:a@1.2.3.4:7000",
		"sip:a@10.0.0.2;x=1>":               "sip:a@1.2.3.4;x=1>",
		"<sip:a@10.0.0.2:5060>;y=10.0.0.2":  "<sip:a@1.2.3.4:7000>;y=10.0.0.2",
		"@10.0.0.2":                         "@1.2.3.4",
		"<sip:a@10.0.0.2:5061;t=u>;e=1":     "<sip:a@1.2.3.4:5061;t=u>;e=1",
		"<sip:10.0.0.2@10.0.0.2:5060>":      "<sip:10.0.0.2@1.2.3.4:7000>",
		"<sip:a@10.0.0.2>, <sip:b@10.0.0.2": "<sip:a@1.2.3.4>, <sip:b@10.0.0.2",
		"\"\xff\" <sip:a@10.0.0.2>\xfe":     "\"\xff\" <sip:a@1.2.3.4>\xfe",
	} {
		for _, name := range []string{"Contact", "CONTACT", "contact", "cOntacT"} {
			if got := valueOf(t, name, was); got != want {
				t.Errorf("%s: %q became %q, not %q", name, was, got, want)
			}
		}
		for _, name := range []string{"Contacts", "Contac", "m", "From", "Via"} {
			if got := valueOf(t, name, was); got != was {
				t.Errorf("%s: %q became %q", name, was, got)
			}
		}
	}
}

// TestP14_3NoPlace: what is no place, or another's, stays.
func TestP14_3NoPlace(t *testing.T) {
	for _, place := range []string{
		"10.0.0.3:5060", "10.0.0.3", "10.0.0.22", "110.0.0.2", "10.0.0.02", "010.0.0.2", "10.0.0", "10.0.0.2.", "10.0.0.2.3", "10,0,0,2", "10.0.0.256", "host", "",
		"10.0.0.2:0", "10.0.0.2:65536", "10.0.0.2:05060", "10.0.0.2:", "10.0.0.2:x", "10.0.0.2:5060x", "10.0.0.2:-1", "10.0.0.2:+5060", "10.0.0.2: 5060",
		"10.0.0.2 :5060", "10.0.0.2:5060:5060", "10.0.0.2:5060 x", "10.0.0.2:5060,x", "x10.0.0.2", "[10.0.0.2]", "10.0.0.2:70596", "10.0.0.2:4294972356", "10.0.0.2:18446744073709556676",
	} {
		for _, more := range []string{"", ";x"} {
			for name, mark := range map[string]string{"Via": "SIP/2.0/UDP ", "Contact": "<sip:a@"} {
				value := strings.TrimSuffix(mark+place+more, " ")
				if got := valueOf(t, name, value); got != value {
					t.Errorf("%s: %q became %q", name, value, got)
				}
			}
		}
	}
	for name, values := range map[string][]string{
		"Via": {"SIP/2.0/UDP  10.0.0.2", "SIP/2.0/UDP\t10.0.0.2", "SIP/2.0/TCP 10.0.0.2", "sip/2.0/udp 10.0.0.2", "SIP/2.0/UDP10.0.0.2", "10.0.0.2", "@10.0.0.2",
			"SIP/2.0/UDP 10.0.0.2>", "SIP/2.0/UDP 8.8.8.8, SIP/2.0/UDP 10.0.0.2", "SIP/2.0/UDP SIP/2.0/UDP 10.0.0.2", "SIP/2.0/UDP", "SIP/2.0/UDP ;10.0.0.2"},
		"Contact": {"<sip:10.0.0.2>", "sip:a@b@10.0.0.2", "@@10.0.0.2", "<sip:a@ 10.0.0.2>", "10.0.0.2@", "@", "*", "<sip:a@8.8.8.8>, <sip:a@10.0.0.2>", "@;10.0.0.2", "@>10.0.0.2"},
	} {
		for _, value := range values {
			if got := valueOf(t, name, value); got != value {
				t.Errorf("%s: %q became %q", name, value, got)
			}
		}
	}
}

// TestP14_3EachHeader: all headers Via and Contact are changed, not the first alone.
func TestP14_3EachHeader(t *testing.T) {
	m := with("", "Via: SIP/2.0/UDP 10.0.0.2", "Via: SIP/2.0/UDP 8.8.8.8", "Contact: @10.0.0.2", "via: SIP/2.0/UDP 10.0.0.2:5", "CONTACT: @10.0.0.2:6;x")
	want := with("", "Via: SIP/2.0/UDP 1.2.3.4", "Via: SIP/2.0/UDP 8.8.8.8", "Contact: @1.2.3.4", "via: SIP/2.0/UDP 1.2.3.4:5", "CONTACT: @1.2.3.4:9;x")
	if got := sip.Rewrite(m, host, public, 6, 9); !sip.Same(got, want) {
		t.Errorf("%q", written(got))
	}
}

func TestP14_3Body(t *testing.T) {
	media := []sip.Media{{4000, 6000}, {4000, 1}, {5000, 4000}, {7, 65535}, {8, 0}, {0, 9}}
	for _, c := range []struct{ was, want string }{
		{"c=IN IP4 10.0.0.2", "c=IN IP4 1.2.3.4"},
		{"c=IN IP4 10.0.0.2\r\n", "c=IN IP4 1.2.3.4\r\n"},
		{"\r\nc=IN IP4 10.0.0.2\r\n\r\nc=IN IP4 10.0.0.2\r\nc=IN IP4 10.0.0.3", "\r\nc=IN IP4 1.2.3.4\r\n\r\nc=IN IP4 1.2.3.4\r\nc=IN IP4 10.0.0.3"},
		{"o=a 1 2 IN IP4 10.0.0.2\r\n", "o=a 1 2 IN IP4 1.2.3.4\r\n"},
		{"o= IN IP4 10.0.0.2", "o= IN IP4 1.2.3.4"},
		{"o=10.0.0.2 IN IP4 10.0.0.2 IN IP4 10.0.0.2", "o=10.0.0.2 IN IP4 10.0.0.2 IN IP4 1.2.3.4"},
		{"o=\xff\n\r IN IP4 10.0.0.2\r\n\r", "o=\xff\n\r IN IP4 1.2.3.4\r\n\r"},
		{"m=audio 4000 RTP 4000\r\n", "m=audio 6000 RTP 4000\r\n"},
		{"m=audio 5000 ", "m=audio 4000 "},
		{"m=a 7 x\r\nm=b 8 y\r\nm=c 9 z", "m=a 65535 x\r\nm=b 0 y\r\nm=c 9 z"},
		{"m=a 4000 \xff\n\x00", "m=a 6000 \xff\n\x00"},
		{"", ""}, {"\r\n", "\r\n"}, {"\r\n\r\n", "\r\n\r\n"}, {"\r", "\r"}, {"\n", "\n"}, {"\xff\x00", "\xff\x00"}, {"v=0\r\ns=10.0.0.2\r\na=4000 x", "v=0\r\ns=10.0.0.2\r\na=4000 x"},
		{"o=a IN IP4 10.0.0.2 ", "o=a IN IP4 10.0.0.2 "}, {"o=aIN IP4 10.0.0.2", "o=aIN IP4 10.0.0.2"}, {"o=IN IP4 10.0.0.2", "o=IN IP4 10.0.0.2"}, {"O=a IN IP4 10.0.0.2", "O=a IN IP4 10.0.0.2"},
		{" o=a IN IP4 10.0.0.2", " o=a IN IP4 10.0.0.2"}, {"o=a IN IP4 10.0.0.3", "o=a IN IP4 10.0.0.3"}, {"o=a IN IP4 110.0.0.2", "o=a IN IP4 110.0.0.2"}, {"o=a IN IP4  10.0.0.2", "o=a IN IP4  10.0.0.2"},
		{"o=a IN IP4 10.0.0.2\n", "o=a IN IP4 10.0.0.2\n"}, {"o=a in ip4 10.0.0.2", "o=a in ip4 10.0.0.2"}, {"s=a IN IP4 10.0.0.2", "s=a IN IP4 10.0.0.2"},
		{"Via: SIP/2.0/UDP 10.0.0.2\r\nContact: @10.0.0.2", "Via: SIP/2.0/UDP 10.0.0.2\r\nContact: @10.0.0.2"},
	} {
		if got := sip.Rewrite(with(c.was), host, public, 5060, 7000, media...); !sip.Same(got, with(c.want)) {
			t.Errorf("%q became %q, not %q", c.was, written(got), c.want)
		}
	}
}

// TestP14_3WithoutMedia: where no media are told, those of the body stay; and no line c= is needed for others.
func TestP14_3WithoutMedia(t *testing.T) {
	m := with("m=audio 4000 RTP")
	if got := sip.Rewrite(m, host, public, 4000, 7); !sip.Same(got, m) {
		t.Errorf("%q", written(got))
	}
	if got := sip.Rewrite(m, host, public, 0, 0, sip.Media{Was: 4000, Is: 7}); !sip.Same(got, with("m=audio 7 RTP")) {
		t.Errorf("%q", written(got))
	}
}

// TestP14_3Ports: also one that no place may have is written, where it is told so.
func TestP14_3Ports(t *testing.T) {
	m := with("", "Via: SIP/2.0/UDP 10.0.0.2:5060", "Contact: @10.0.0.2")
	for _, c := range []struct {
		port, to uint16
		want     string
	}{{5060, 0, ":0"}, {5060, 1, ":1"}, {5060, 65535, ":65535"}, {5060, 5060, ":5060"}, {0, 7, ":5060"}, {5061, 7, ":5060"}, {65535, 7, ":5060"}} {
		want := with("", "Via: SIP/2.0/UDP 255.255.255.255"+c.want, "Contact: @255.255.255.255")
		if got := sip.Rewrite(m, host, 0xffffffff, c.port, c.to); !sip.Same(got, want) {
			t.Errorf("%d by %d: %q", c.port, c.to, written(got))
		}
	}
}

// TestP14_3Length: the length is the new body's, however its name is written, and wherever it stands.
func TestP14_3Length(t *testing.T) {
	m := sip.Message{Start: "A", Headers: []sip.Header{{"CONTENT-length", "17"}, {"X", "17"}}, Body: []byte("c=IN IP4 10.0.0.2")}
	for to, want := range map[uint32]string{0: "16", public: "16", 0xffffffff: "24", 0x0a000a0a: "19", others: "17"} {
		got := sip.Rewrite(m, host, to, 1, 2)
		if !slices.Equal(got.Headers, []sip.Header{{"CONTENT-length", want}, {"X", "17"}}) || string(got.Body) != "c=IN IP4 "+dotted(to) || got.Start != "A" {
			t.Errorf("%q", written(got))
		}
	}
}

// TestP14_3NotRight: what is not right is itself.
func TestP14_3NotRight(t *testing.T) {
	for name, m := range wrongs() {
		m.Headers = append([]sip.Header{{"Via", "SIP/2.0/UDP 10.0.0.2:5060"}}, m.Headers...)
		if got := sip.Rewrite(m, host, public, 5060, 7000); !sip.Same(got, m) {
			t.Errorf("%s: %q", name, written(got))
		}
	}
	m := with("c=IN IP4 10.0.0.2\r\n")
	m.Body = append(m.Body, 'x')
	if got := sip.Rewrite(m, host, public, 1, 2); !sip.Same(got, m) {
		t.Errorf("%q", written(got))
	}
}

// TestP14_3TooLong: what would become too long is itself, whole.
func TestP14_3TooLong(t *testing.T) {
	for size := 4070; size <= 4096; size++ {
		m := with("c=IN IP4 10.0.0.2\r\nm=a 7 x", "Via: SIP/2.0/UDP 10.0.0.2:5", "Fill: ")
		m.Headers[1].Value = strings.Repeat("x", size-len(written(m)))
		want := copied(m)
		if more := 7 + 7 + 4 + 4; size+more <= 4096 {
			want.Headers[0].Value, want.Headers[2].Value = "SIP/2.0/UDP 255.255.255.255:65535", "37"
			want.Body = []byte("c=IN IP4 255.255.255.255\r\nm=a 65535 x")
		}
		if got := sip.Rewrite(m, host, 0xffffffff, 5, 65535, sip.Media{Was: 7, Is: 65535}); !sip.Right(m) || !sip.Same(got, want) {
			t.Errorf("%d bytes: %q", size, written(got))
		}
	}
}

// TestP1P14_3SomeMessages holds Rewrite against what is said over again.
func TestP1P14_3SomeMessages(t *testing.T) {
	r, changed, long := chance(), 0, 0
	for range 20000 {
		m, c := someMessage(r), someChanges(r)
		want := c.rewritten(m)
		got := c.of(m)
		if !sip.Same(got, want) {
			t.Fatalf("%q by %+v: %q, not %q", written(m), c, written(got), written(want))
		}
		if !sip.Same(m, want) {
			changed++
		} else if len(written(m)) > 4090 {
			long++
		}
	}
	if changed < 5000 || long < 50 {
		t.Errorf("%d were changed; %d were long, and not", changed, long)
	}
}

// TestP14_5ToTheSame: with the same address, port and media it is itself.
func TestP14_5ToTheSame(t *testing.T) {
	r, n := chance(), 0
	for range 20000 {
		m, c := someMessage(r), someChanges(r)
		c.to, c.toPort = c.host, c.port
		for i := range c.media {
			c.media[i].Is = c.media[i].Was
		}
		if got := c.of(m); !sip.Same(got, m) {
			t.Fatalf("%q became %q", written(m), written(got))
		}
		if len(portsOf(m, c.host)) > 0 {
			n++
		}
	}
	if n < 1000 {
		t.Errorf("only %d had media", n)
	}
}

// TestP14_6RewrittenIsRight: if it was; and all is built and parsed.
func TestP14_6RewrittenIsRight(t *testing.T) {
	r := chance()
	for range 20000 {
		m, c := someMessage(r), someChanges(r)
		got := c.of(m)
		if sip.Right(got) != sip.Right(m) {
			t.Fatalf("%q became %q", written(m), written(got))
		}
		if !sip.Right(m) {
			continue
		}
		if again, e := sip.Parse(mustBuild(t, got)); e != api.OK || !sip.Same(again, got) {
			t.Fatalf("%q: %d", written(got), e)
		}
	}
}
