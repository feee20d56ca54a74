package sip_test

import (
	"reflect"
	"slices"
	"strings"
	"testing"

	"lychgate/api"
	"lychgate/ipv4"
	"lychgate/segs"
	"lychgate/sip"
)

func TestP1Nil(t *testing.T) {
	for _, b := range [][]byte{nil, {}} {
		if m, e := sip.Parse(b); e != api.ErrForm || !sip.Same(m, sip.Message{}) {
			t.Errorf("Parse: %+v, %d", m, e)
		}
		for _, l := range [][]sip.Header{nil, {}} {
			m := sip.Message{Headers: l, Body: b}
			if got, e := sip.Build(m); e != api.ErrForm || len(got) != 0 || sip.Right(m) || len(sip.Ports(m, 0)) != 0 {
				t.Errorf("%+v: %q, %d", m, got, e)
			}
			if got := sip.Rewrite(m, 0, 0, 0, 0); !sip.Same(got, m) || !sip.Same(m, sip.Message{}) {
				t.Errorf("Rewrite: %+v", got)
			}
			if got := sip.Rewrite(m, 0, 0, 0, 0, []sip.Media(nil)...); !sip.Same(got, m) {
				t.Errorf("Rewrite: %+v", got)
			}
		}
	}
}

// TestP1P2BytesOfAnyKind: whatever comes, it is answered, and with an error all else is zero.
func TestP1P2BytesOfAnyKind(t *testing.T) {
	r := chance()
	const some = "\r\n: -0a\x00\xff=mc"
	for range 20000 {
		var b []byte
		for range r.IntN(60) {
			b = append(b, some[r.IntN(len(some))])
		}
		want, wantError := parsed(b)
		if m, e := sip.Parse(b); e != wantError || !sip.Same(m, want) {
			t.Fatalf("%q: %+v, %d", b, m, e)
		}
		m := sip.Message{Start: string(b[:len(b)/3]), Headers: []sip.Header{{string(b[len(b)/3:]), string(b)}}, Body: b}
		if got := sip.Rewrite(m, 1, 2, 3, 4, sip.Media{}); sip.Right(m) || !sip.Same(got, m) || len(sip.Ports(m, 1)) != 0 {
			t.Fatalf("%+v: %+v", m, got)
		}
	}
}

// TestP3HandedInStaysAsItIs looks at the spare room behind the lists too.
func TestP3HandedInStaysAsItIs(t *testing.T) {
	for name, was := range map[string]sip.Message{"right": call(), "not right": {Start: "A", Headers: []sip.Header{{"a b", " "}}, Body: []byte("c=IN IP4 10.0.0.2\r\nm=a 4000 ")}} {
		m := copied(was)
		media := []sip.Media{{4000, 6000}, {5000, 7000}, {9, 9}}
		sip.Right(m)
		sip.Build(m)
		sip.Ports(m, host)
		sip.Same(m, m)
		sip.Rewrite(m, host, 0xffffffff, 5060, 65535, media[:2]...)
		sip.Rewrite(m, host, 0, 5060, 0, media[:2]...)
		if !sip.Same(m, was) || m.Headers[:len(m.Headers)+1][len(m.Headers)].Name != "spare" || string(m.Body[:len(m.Body)+5][len(m.Body):]) != "spare" {
			t.Errorf("%s: %q", name, written(m))
		}
		if !slices.Equal(media, []sip.Media{{4000, 6000}, {5000, 7000}, {9, 9}}) {
			t.Errorf("%s: %v", name, media)
		}
	}
	text := written(call())
	data := []byte(text + "spare")
	sip.Parse(data[:len(text)])
	if string(data) != text+"spare" {
		t.Errorf("%q", data)
	}
}

// TestP3ParsedIsTheCallers: what is written over an answer, or over what was handed in, changes nothing of the other one.
func TestP3ParsedIsTheCallers(t *testing.T) {
	text := written(call())
	data := []byte(text + "spare")
	first, _ := sip.Parse(data[:len(text)])
	other, _ := sip.Parse(data[:len(text)])
	spoil(other)
	if string(data) != text+"spare" || !sip.Same(first, call()) {
		t.Errorf("%q, %q, by what was written over an answer", data, written(first))
	}
	spoilBytes(data)
	if !sip.Same(first, call()) {
		t.Errorf("%q, by what was written over what was handed in", written(first))
	}
}

func TestP3BuiltIsTheCallers(t *testing.T) {
	m := copied(call())
	first, other := mustBuild(t, m), mustBuild(t, m)
	spoilBytes(other)
	if !sip.Same(m, call()) || string(first) != written(call()) {
		t.Errorf("%q, %q", written(m), first)
	}
	spoil(m)
	if string(first) != written(call()) {
		t.Errorf("%q, by what was written over what was handed in", first)
	}
	ports, again := sip.Ports(call(), host), sip.Ports(call(), host)
	clear(again[:cap(again)])
	if !slices.Equal(ports, []uint16{4000, 5000}) || !slices.Equal(sip.Ports(call(), host), ports) {
		t.Errorf("%v", ports)
	}
}

// TestP3RewrittenIsTheCallers: also where nothing is changed, or the message is not right, or would become too long.
func TestP3RewrittenIsTheCallers(t *testing.T) {
	long := with("c=IN IP4 10.0.0.2", "Fill: ")
	long.Headers[0].Value = strings.Repeat("x", 4096-len(written(long)))
	for name, was := range map[string]sip.Message{
		"changed": call(), "not changed": with("abc", "A: b"), "too long": long,
		"not right": {Start: "A", Headers: []sip.Header{{"a b", " "}}, Body: []byte("c=IN IP4 10.0.0.2\r\n")},
	} {
		m := copied(was)
		first, other := sip.Rewrite(m, host, 0xffffffff, 5060, 7000), sip.Rewrite(m, host, 0xffffffff, 5060, 7000)
		want := copied(first)
		spoil(other)
		if !sip.Same(m, was) || !sip.Same(first, want) {
			t.Errorf("%s: %q, %q, by what was written over an answer", name, written(m), written(first))
		}
		spoil(m)
		if !sip.Same(first, want) {
			t.Errorf("%s: %q, by what was written over what was handed in", name, written(first))
		}
	}
}

func TestP6NothingIsKept(t *testing.T) {
	tell := func() (all []any) {
		for _, m := range []sip.Message{call(), with("abc", "A: b"), {}} {
			b, e := sip.Build(m)
			n, f := sip.Parse(b)
			all = append(all, b, e, n, f, sip.Right(m), sip.Ports(m, host), sip.Rewrite(m, host, public, 5060, 7000, sip.Media{Was: 4000, Is: 6000}))
		}
		return all
	}
	first := tell()
	sip.Parse([]byte("A\r\nX: 1\r\n"))
	sip.Ports(with("c=IN IP4 10.0.0.2\r\nm=a 9 "), host)
	sip.Rewrite(call(), host, 9, 5060, 9, sip.Media{Was: 4000, Is: 9})
	if again := tell(); !reflect.DeepEqual(first, again) {
		t.Errorf("%v, then %v", first, again)
	}
}

// TestP6TheFirstOneCounts: of media that are alike it is the first one, and each port is told where it comes first.
func TestP6TheFirstOneCounts(t *testing.T) {
	m := with("c=IN IP4 10.0.0.2\r\nm=a 5 x\r\nm=b 4 x\r\nm=c 5 x\r\nm=d 4 x")
	if got := sip.Ports(m, host); !slices.Equal(got, []uint16{5, 4}) {
		t.Errorf("%v", got)
	}
	got := sip.Rewrite(m, others, public, 1, 2, sip.Media{Was: 4, Is: 5}, sip.Media{Was: 5, Is: 6}, sip.Media{Was: 4, Is: 7}, sip.Media{Was: 5, Is: 8})
	if want := "c=IN IP4 10.0.0.2\r\nm=a 6 x\r\nm=b 5 x\r\nm=c 6 x\r\nm=d 5 x"; string(got.Body) != want {
		t.Errorf("%q", got.Body)
	}
}

// TestE1ADatagramsMessage: a phone inside calls: what goes out names the public address and ports, and nothing else is changed.
func TestE1ADatagramsMessage(t *testing.T) {
	p, e := segs.BuildUdp(api.Packet{Ttl: 64, Src: host, Dst: 0x08080808}, api.Datagram{Src: 5060, Dst: 5060, Data: mustBuild(t, call())})
	d, f := segs.ParseUdp(p)
	m, g := sip.Parse(d.Data)
	if e != api.OK || f != api.OK || g != api.OK {
		t.Fatalf("%d, %d, %d", e, f, g)
	}
	var media []sip.Media
	for i, port := range sip.Ports(m, p.Src) {
		media = append(media, sip.Media{Was: port, Is: uint16(1002 + 2*i)})
	}
	d.Data = mustBuild(t, sip.Rewrite(m, p.Src, public, d.Src, 1000, media...))
	p.Src, d.Src = public, 1000
	p, e = segs.BuildUdp(p, d)
	b, f := ipv4.Build(p)
	q, g := ipv4.Parse(b)
	told, h := segs.ParseUdp(q)
	if e != api.OK || f != api.OK || g != api.OK || h != api.OK {
		t.Fatalf("%d, %d, %d, %d", e, f, g, h)
	}
	want := with("v=0\r\no=a 1 1 IN IP4 1.2.3.4\r\ns=-\r\nc=IN IP4 1.2.3.4\r\nt=0 0\r\nm=audio 1002 RTP/AVP 0\r\nm=video 1004 RTP/AVP 31\r\n",
		"Via: SIP/2.0/UDP 1.2.3.4:1000;branch=z9hG4bK1", "From: <sip:a@10.0.0.2>;tag=1", "To: <sip:b@8.8.8.8>",
		"Call-ID: 1@10.0.0.2", "CSeq: 1 INVITE", "Contact: <sip:a@1.2.3.4:1000>", "Content-Type: application/sdp")
	if got, e := sip.Parse(told.Data); e != api.OK || !sip.Same(got, want) {
		t.Errorf("%q", told.Data)
	}
}

// TestE4SentAgain: a message that is sent again is told the same, and one that was told already names nothing inside any more.
func TestE4SentAgain(t *testing.T) {
	r := chance()
	for range 3000 {
		m, c := someMessage(r), someChanges(r)
		c.to, c.media = public, nil
		first := c.of(m)
		if again := c.of(m); !sip.Same(again, first) {
			t.Fatalf("%q, then %q", written(first), written(again))
		}
		if over := c.of(first); !sip.Same(over, first) && !sip.Same(first, m) {
			t.Fatalf("%q became %q", written(first), written(over))
		}
	}
}
