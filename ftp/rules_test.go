package ftp_test

import (
	"bytes"
	"reflect"
	"slices"
	"testing"

	"lychgate/api"
	"lychgate/ftp"
	"lychgate/ipv4"
	"lychgate/segs"
	"lychgate/seqadj"
)

func TestP1Nil(t *testing.T) {
	for _, b := range [][]byte{nil, {}} {
		for _, back := range []bool{false, true} {
			if f, ok := ftp.Find(b, back); ok || f != (ftp.Found{}) {
				t.Errorf("Find: %+v, %v", f, ok)
			}
		}
		for _, text := range [][]byte{nil, {}} {
			if got := ftp.Replace(b, ftp.Found{}, text); len(got) != 0 {
				t.Errorf("Replace: %q", got)
			}
			if got := ftp.Replace(b, ftp.Found{Start: -5, End: 7}, text); len(got) != 0 {
				t.Errorf("Replace out of it: %q", got)
			}
		}
		if got := ftp.Replace(b, ftp.Found{}, []byte("abc")); string(got) != "abc" {
			t.Errorf("Replace: %q", got)
		}
		if got := ftp.Replace([]byte("abc"), ftp.Found{Start: 1, End: 2}, b); string(got) != "ac" {
			t.Errorf("Replace: %q", got)
		}
	}
}

// TestP1P2BytesOfAnyKind: whatever comes, it is answered, and with a false all is zero.
func TestP1P2BytesOfAnyKind(t *testing.T) {
	r, m := chance(), newModel()
	begins := []string{"", "PORT ", "EPRT |1|", "227 (", "229 (|||"}
	for range 60000 {
		b := []byte(begins[r.IntN(5)])
		for range r.IntN(140) {
			b = append(b, []byte{byte(r.Uint32()), '1', ',', '.', '|', ')', '('}[r.IntN(7)])
		}
		if r.IntN(4) != 0 {
			b = append(b, "\r\n"...)
		}
		back := r.IntN(2) == 0
		want, there := m.find(b, back)
		if got, ok := ftp.Find(b, back); ok != there || got != want {
			t.Fatalf("%q, %v: %+v, %v, not %+v, %v", b, back, got, ok, want, there)
		}
	}
	huge := bytes.Repeat([]byte("227 (1,2,3,4,5,6)"), 100000)
	if f, ok := ftp.Find(append(huge, "\r\n"...), true); ok {
		t.Errorf("of very many bytes: %+v", f)
	}
}

// TestP3HandedInStaysAsItIs looks at the spare room behind the bytes too.
func TestP3HandedInStaysAsItIs(t *testing.T) {
	for _, s := range samples() {
		data, all := roomy([]byte(s.line))
		text, allText := roomy([]byte("1,2,3,4,5,6,7,8,9,10"))
		was, wasText := slices.Clone(all), slices.Clone(allText)
		f, _ := ftp.Find(data, s.back)
		for _, place := range []ftp.Found{f, {}, {Start: len(data), End: len(data)}, {End: len(data)}, {Start: -1}, {End: len(all)}} {
			ftp.Replace(data, place, text)
			ftp.Replace(data, place, text[:1])
			ftp.Replace(data, place, nil)
		}
		if !bytes.Equal(all, was) || !bytes.Equal(allText, wasText) {
			t.Errorf("%q became %q; %q became %q", was, all, wasText, allText)
		}
	}
}

// TestP3AnsweredIsTheCallers: what is written over an answer, and behind its end, changes neither what was handed in nor
// another answer; and so the other way round.
func TestP3AnsweredIsTheCallers(t *testing.T) {
	line := "PORT 10,0,0,2,4,1\r\n"
	for _, f := range []ftp.Found{{Start: 5, End: 17}, {Start: 5, End: 5}, {}, {End: 19}, {Start: 19, End: 19}, {Start: -1}, {End: 20}} {
		for _, with := range []string{"", "7", "1,2,3,4,3,233"} {
			data, _ := roomy([]byte(line))
			text, _ := roomy([]byte(with))
			first, other := ftp.Replace(data, f, text), ftp.Replace(data, f, text)
			want := string(first)
			spoil(other)
			if string(data) != line || string(text) != with || string(first) != want {
				t.Errorf("%q, %q, %q, by what was written over an answer", data, text, first)
			}
			spoil(data)
			spoil(text)
			if string(first) != want {
				t.Errorf("%q, not %q, by what was written over what was handed in", first, want)
			}
		}
	}
	for k := ftp.None; k <= ftp.Epsv; k++ {
		want := string(ftp.Text(k, host, 1025))
		spoil(ftp.Text(k, host, 1025))
		if got := string(ftp.Text(k, host, 1025)); got != want {
			t.Errorf("Text of %d: %q, then %q", k, want, got)
		}
	}
}

func TestP6NothingIsKept(t *testing.T) {
	tell := func() (all []any) {
		for _, s := range samples() {
			f, ok := ftp.Find([]byte(s.line), s.back)
			g, also := ftp.Find([]byte(s.line), !s.back)
			text := ftp.Text(f.Kind, public, 1001)
			all = append(all, f, ok, g, also, text, ftp.Replace([]byte(s.line), f, text))
		}
		return all
	}
	first := tell()
	ftp.Find([]byte("PORT 9,9,9,9,9,9\r\n"), false)
	ftp.Find([]byte("PORT 9,9,9,"), false)
	ftp.Text(ftp.Eprt, 9, 9)
	ftp.Replace(nil, ftp.Found{Start: 1}, []byte("9"))
	if again := tell(); !reflect.DeepEqual(first, again) {
		t.Errorf("%v, then %v", first, again)
	}
}

// TestP13_3Replaced: as far as the line may be so long, and of every port but 0, which no line names.
func TestP13_3Replaced(t *testing.T) {
	r, seen, long := chance(), map[ftp.Kind]int{}, 0
	for range 20000 {
		b, back, f := someRight(t, r)
		addr, port := r.Uint32(), uint16(1+r.IntN(65535))
		text := ftp.Text(f.Kind, addr, port)
		line := ftp.Replace(b, f, text)
		want := ftp.Found{Kind: f.Kind, Start: f.Start, End: f.Start + len(text), Addr: addr, Port: port}
		if f.Kind == ftp.Epsv {
			want.Addr = 0
		}
		if len(line) > api.MaxLine {
			want = ftp.Found{}
			long++
		}
		if got, ok := ftp.Find(line, back); ok != (len(line) <= api.MaxLine) || got != want {
			t.Fatalf("%q became %q: %+v, %v, not %+v", b, line, got, ok, want)
		}
		seen[f.Kind]++
	}
	for k := ftp.Port; k <= ftp.Epsv; k++ {
		if seen[k] < 1000 {
			t.Errorf("of kind %d there were %d", k, seen[k])
		}
	}
	if long == 0 {
		t.Error("no line became too long")
	}
}

func TestP13_3AllPorts(t *testing.T) {
	for _, line := range []string{"PORT 10,0,0,2,4,1\r\n", "EPRT |1|10.0.0.2|5|\r\n", "227 a (10,0,0,2,4,1)\r\n", "229 a (|||5|)\r\n"} {
		back := line[0] == '2'
		f, _ := ftp.Find([]byte(line), back)
		for port := 1; port <= 65535; port++ {
			b := ftp.Replace([]byte(line), f, ftp.Text(f.Kind, public, uint16(port)))
			if got, ok := ftp.Find(b, back); !ok || got.Addr != public && got.Kind != ftp.Epsv || int(got.Port) != port {
				t.Fatalf("%q: %+v, %v", b, got, ok)
			}
		}
	}
}

func TestP13_4ReplacedByItself(t *testing.T) {
	r := chance()
	for range 20000 {
		b, _, f := someRight(t, r)
		if got := ftp.Replace(b, f, b[f.Start:f.End]); !bytes.Equal(got, b) {
			t.Fatalf("%q became %q", b, got)
		}
		if got := ftp.Text(f.Kind, f.Addr, f.Port); !bytes.Equal(got, b[f.Start:f.End]) {
			t.Fatalf("%q: its Text is %q", b, got)
		}
	}
}

// TestE1ASegmentsLine: the example of the whole: what a client says of itself goes out with the public address.
func TestE1ASegmentsLine(t *testing.T) {
	p, e := segs.BuildTcp(api.Packet{Ttl: 64, Src: host, Dst: 0x08080808}, api.Segment{Src: 5, Dst: 21, Seq: 100, Flags: api.Ack | api.Psh, Data: []byte("PORT 10,0,0,2,4,1\r\n")})
	s, f := segs.ParseTcp(p)
	if e != api.OK || f != api.OK {
		t.Fatalf("%d, %d", e, f)
	}
	found, ok := ftp.Find(s.Data, false)
	if !ok || found.Addr != host || found.Port != 1025 {
		t.Fatalf("%+v, %v", found, ok)
	}
	s.Data = ftp.Replace(s.Data, found, ftp.Text(found.Kind, public, 1001))
	p, e = segs.BuildTcp(p, s)
	b, f := ipv4.Build(p)
	q, _ := ipv4.Parse(b)
	if told, g := segs.ParseTcp(q); e != api.OK || f != api.OK || g != api.OK || string(told.Data) != "PORT 1,2,3,4,3,233\r\n" {
		t.Errorf("%q, %d, %d, %d", told.Data, e, f, g)
	}
}

// teller changes the lines of one direction as a gateway does.
type teller struct {
	stream *seqadj.Stream
	back   bool
	port   uint16 // the next one that is given out
}

func (g *teller) told(t *testing.T, seq uint32, data []byte) (uint32, []byte) {
	t.Helper()
	f, ok := ftp.Find(data, g.back)
	if ok && (f.Kind == ftp.Epsv || f.Addr == host) {
		start, was := seq+uint32(f.Start), f.End-f.Start
		text, known := g.stream.Find(start, was)
		if !known {
			text = ftp.Text(f.Kind, public, g.port)
			if e := g.stream.Add(start, was, text); e != api.OK {
				t.Fatalf("%q can't be added: %d", data, e)
			}
			g.port++
		}
		data = ftp.Replace(data, f, text)
	}
	return g.stream.Map(seq), data
}

// TestE4Streams: each line that names the address inside is told with the public one, the lines lie one behind the other in
// what is told, what is told back fits, and what is sent again is told the same.
func TestE4Streams(t *testing.T) {
	for _, c := range []struct {
		back      bool
		say, tell []string
	}{
		{false,
			[]string{"USER a\r\n", "PORT 10,0,0,2,4,1\r\n", "LIST\r\n", "EPRT |1|10.0.0.2|60000|\r\n", "PORT 10,0,0,3,4,1\r\n", "port 10,0,0,2,255,255\r\n", "PORT 10,0,0,2,04,1\r\n", "QUIT\r\n"},
			[]string{"USER a\r\n", "PORT 1,2,3,4,3,231\r\n", "LIST\r\n", "EPRT |1|1.2.3.4|1000|\r\n", "PORT 10,0,0,3,4,1\r\n", "port 1,2,3,4,3,233\r\n", "PORT 10,0,0,2,04,1\r\n", "QUIT\r\n"}},
		{true,
			[]string{"220 a\r\n", "227 b (10,0,0,2,4,1).\r\n", "226 c\r\n", "229 d (|||60000|)\r\n", "227 e (9,9,9,9,9,9)\r\n", "227 (10,0,0,2,255,255)\r\n", "221 f\r\n"},
			[]string{"220 a\r\n", "227 b (1,2,3,4,3,231).\r\n", "226 c\r\n", "229 d (|||1000|)\r\n", "227 e (9,9,9,9,9,9)\r\n", "227 (1,2,3,4,3,233)\r\n", "221 f\r\n"}},
	} {
		for _, first := range []uint32{0, 1000, 1<<31 - 30, 1<<32 - 1, 1<<32 - 40} {
			g := &teller{stream: seqadj.New(), back: c.back, port: 999}
			for range 2 { // the second time all of it is sent again
				seq, there := first, first
				for i, line := range c.say {
					at, told := g.told(t, seq, []byte(line))
					if at != there || string(told) != c.tell[i] {
						t.Fatalf("%q at %d: %q at %d, not %q at %d", line, seq, told, at, c.tell[i], there)
					}
					seq, there = seq+uint32(len(line)), there+uint32(len(told))
					if g.stream.Unmap(there) != seq {
						t.Fatalf("%q: what is told back of %d is %d, not %d", line, there, g.stream.Unmap(there), seq)
					}
				}
			}
			if g.port != 1002 || g.stream.Len() != 3 {
				t.Errorf("%d parts, and ports up to %d", g.stream.Len(), g.port)
			}
		}
	}
}
