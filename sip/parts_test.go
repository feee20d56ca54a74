package sip_test

import (
	"bytes"
	"fmt"
	"slices"
	"strings"
	"testing"

	"lychgate/api"
	"lychgate/sip"
)

func TestP14_1ParseAndBuild(t *testing.T) {
	for name, c := range map[string]struct {
		data string
		want sip.Message
	}{
		"the least": {"A\r\nContent-Length: 0\r\n\r\n",
			sip.Message{Start: "A", Headers: []sip.Header{{"Content-Length", "0"}}}},
		"a body": {"A b\r\nX: 1\r\nContent-Length: 3\r\n\r\nabc",
			sip.Message{Start: "A b", Headers: []sip.Header{{"X", "1"}, {"Content-Length", "3"}}, Body: []byte("abc")}},
		"other letters": {"A\r\ncONTENT-lENGTH: 0\r\n\r\n",
			sip.Message{Start: "A", Headers: []sip.Header{{"cONTENT-lENGTH", "0"}}}},
		"an empty value": {"A\r\nX: \r\nContent-Length: 0\r\n\r\n",
			sip.Message{Start: "A", Headers: []sip.Header{{"X", ""}, {"Content-Length", "0"}}}},
		"the same name": {"A\r\nVia: 2\r\nvia: 1\r\nContent-Length: 0\r\nVia: 3\r\n\r\n",
			sip.Message{Start: "A", Headers: []sip.Header{{"Via", "2"}, {"via", "1"}, {"Content-Length", "0"}, {"Via", "3"}}}},
		"all that names may have": {"A\r\nazAZ09-: x\r\n-: y\r\n0: z\r\nContent-Length: 0\r\n\r\n",
			sip.Message{Start: "A", Headers: []sip.Header{{"azAZ09-", "x"}, {"-", "y"}, {"0", "z"}, {"Content-Length", "0"}}}},
		"all that values may have": {"A\r\nX: : a: b  c\t\x00\xff\r\nY: \t\r\nContent-Length: 0\r\n\r\n",
			sip.Message{Start: "A", Headers: []sip.Header{{"X", ": a: b  c\t\x00\xff"}, {"Y", "\t"}, {"Content-Length", "0"}}}},
		"a body with ends of lines": {"A\r\nContent-Length: 12\r\n\r\n\r\n\r\r\n\n\xff: \x00\r\n",
			sip.Message{Start: "A", Headers: []sip.Header{{"Content-Length", "12"}}, Body: []byte("\r\n\r\r\n\n\xff: \x00\r\n")}},
		"a first line of any bytes": {" \x00\xff: \r\nContent-Length: 0\r\n\r\n",
			sip.Message{Start: " \x00\xff: ", Headers: []sip.Header{{"Content-Length", "0"}}}},
	} {
		m, e := sip.Parse([]byte(c.data))
		if e != api.OK || !sip.Same(m, c.want) || m.Start != c.want.Start || !slices.Equal(m.Headers, c.want.Headers) || !bytes.Equal(m.Body, c.want.Body) {
			t.Errorf("%s: %+v, %d", name, m, e)
		}
		if b, e := sip.Build(c.want); e != api.OK || string(b) != c.data || !sip.Right(c.want) {
			t.Errorf("%s: %q, %d, %v", name, b, e, sip.Right(c.want))
		}
	}
}

func TestP14_1P2ParseWrong(t *testing.T) {
	for _, s := range []string{
		"", "A", "A\r\n", "\r\n", "\r\n\r\n", "A\r\n\r\n", "A\r\nX: 1\r\n\r\n", "Content-Length: 0\r\n\r\n",
		"\r\nContent-Length: 0\r\n\r\n", "\nContent-Length: 0\r\n\r\n",
		"A\r\nContent-Length: 0", "A\r\nContent-Length: 0\r\n", "A\r\nContent-Length: 0\r\n\r", "A\r\nContent-Length: 0\r\n\n", "A\r\nContent-Length: 0\n\r\n",
		"A\nContent-Length: 0\r\n\r\n", "A\rContent-Length: 0\r\n\r\n", "A\n\r\nContent-Length: 0\r\n\r\n", "A\r\r\nContent-Length: 0\r\n\r\n",
		"A\rb\r\nContent-Length: 0\r\n\r\n", "A\nb\r\nContent-Length: 0\r\n\r\n", "\r\nA\r\nContent-Length: 0\r\n\r\n",
		"A\r\nContent-Length: 1\r\n\r\n", "A\r\nContent-Length: 0\r\n\r\nx", "A\r\nContent-Length: 2\r\n\r\nx", "A\r\nContent-Length: \r\n\r\n",
		"A\r\nContent-Length: 00\r\n\r\n", "A\r\nContent-Length: 01\r\n\r\nx", "A\r\nContent-Length: +1\r\n\r\nx", "A\r\nContent-Length: -0\r\n\r\n",
		"A\r\nContent-Length: 1a\r\n\r\nx", "A\r\nContent-Length: 0x1\r\n\r\nx", "A\r\nContent-Length: 18446744073709551617\r\n\r\nx",
		"A\r\nContent-Length: 4294967296\r\n\r\n", "A\r\nContent-Length: 18446744073709551616\r\n\r\n",
		"A\r\nContent-Length:0\r\n\r\n", "A\r\nContent-Length:  0\r\n\r\n", "A\r\nContent-Length: 0 \r\n\r\n", "A\r\nContent-Length : 0\r\n\r\n",
		"A\r\n Content-Length: 0\r\n\r\n", "A\r\nContent-Length:\t0\r\n\r\n", "A\r\nContent-Length 0\r\n\r\n", "A\r\nContentLength: 0\r\n\r\n", "A\r\nl: 0\r\n\r\n",
		"A\r\nContent-Length: 0\r\nContent-Length: 0\r\n\r\n", "A\r\nContent-Length: 0\r\ncontent-length: 1\r\n\r\n", "A\r\nContent-Length: 5\r\nX: 1\r\nCONTENT-LENGTH: 0\r\n\r\n",
		"A\r\nX\r\nContent-Length: 0\r\n\r\n", "A\r\nX:1\r\nContent-Length: 0\r\n\r\n", "A\r\nX:\r\nContent-Length: 0\r\n\r\n", "A\r\n: 1\r\nContent-Length: 0\r\n\r\n",
		"A\r\nX Y: 1\r\nContent-Length: 0\r\n\r\n", "A\r\nX:Y: 1\r\nContent-Length: 0\r\n\r\n", "A\r\nX_: 1\r\nContent-Length: 0\r\n\r\n", "A\r\né: 1\r\nContent-Length: 0\r\n\r\n",
		"A\r\nX\xff: 1\r\nContent-Length: 0\r\n\r\n", "A\r\nX\x00: 1\r\nContent-Length: 0\r\n\r\n", "A\r\nX.: 1\r\nContent-Length: 0\r\n\r\n",
		"A\r\nX:  1\r\nContent-Length: 0\r\n\r\n", "A\r\nX: 1 \r\nContent-Length: 0\r\n\r\n", "A\r\nX:  \r\nContent-Length: 0\r\n\r\n",
		"A\r\nX: 1\r2\r\nContent-Length: 0\r\n\r\n", "A\r\nX: 1\n2\r\nContent-Length: 0\r\n\r\n", "A\r\nX: 1\r\r\nContent-Length: 0\r\n\r\n", "A\r\nX: \n\r\nContent-Length: 0\r\n\r\n",
		"A\r\nX: 1\r\n Y\r\nContent-Length: 0\r\n\r\n", "A\r\n\r\nContent-Length: 0\r\n\r\n",
	} {
		if m, e := sip.Parse([]byte(s)); e != api.ErrForm || !sip.Same(m, sip.Message{}) {
			t.Errorf("%q: %+v, %d", s, m, e)
		}
	}
}

// wrongs are messages that are not right, each for one reason.
func wrongs() map[string]sip.Message {
	length := sip.Header{Name: "Content-Length", Value: "0"}
	one := func(h ...sip.Header) sip.Message { return sip.Message{Start: "A", Headers: append(h, length)} }
	return map[string]sip.Message{
		"nothing":                  {},
		"no first line":            {Headers: []sip.Header{length}},
		"a first line with 13":     {Start: "a\rb", Headers: []sip.Header{length}},
		"a first line with 10":     {Start: "a\n", Headers: []sip.Header{length}},
		"two first lines":          {Start: "a\r\nb: c", Headers: []sip.Header{length}},
		"no header":                {Start: "A"},
		"no length":                {Start: "A", Headers: []sip.Header{{"X", "0"}}},
		"two lengths":              one(length),
		"a wrong length":           {Start: "A", Headers: []sip.Header{{"Content-Length", "1"}}},
		"a length of another body": {Start: "A", Headers: []sip.Header{length}, Body: []byte("x")},
		"a nought ahead":           {Start: "A", Headers: []sip.Header{{"Content-Length", "01"}}, Body: []byte("x")},
		"no name":                  one(sip.Header{Value: "x"}),
		"a name with a blank":      one(sip.Header{Name: "a b"}),
		"a name with :":            one(sip.Header{Name: "a:b"}),
		"a name with 13 and 10":    one(sip.Header{Name: "a\r\n"}),
		"a name of other letters":  one(sip.Header{Name: "ä"}),
		"a name of other digits":   one(sip.Header{Name: "٣"}),
		"a blank ahead":            one(sip.Header{Name: "a", Value: " b"}),
		"a blank behind":           one(sip.Header{Name: "a", Value: "b "}),
		"a blank":                  one(sip.Header{Name: "a", Value: " "}),
		"a value with 13":          one(sip.Header{Name: "a", Value: "\rb"}),
		"a value with 10":          one(sip.Header{Name: "a", Value: "b\n"}),
		"a value of two lines":     one(sip.Header{Name: "a", Value: "b\r\nc: d"}),
		"65 headers":               one(slices.Repeat([]sip.Header{{"a", "b"}}, 64)...),
		"4097 bytes":               one(sip.Header{Name: "a", Value: strings.Repeat("b", 4097-29)}),
		"very many bytes":          one(sip.Header{Name: "a", Value: strings.Repeat("b", 1<<20)}),
	}
}

func TestP14_1P2WrongMessages(t *testing.T) {
	for name, m := range wrongs() {
		if b, e := sip.Build(m); e != api.ErrForm || len(b) != 0 || sip.Right(m) {
			t.Errorf("%s: %d bytes, %d, %v", name, len(b), e, sip.Right(m))
		}
	}
}

func TestP14_1AsManyHeadersAsMayBe(t *testing.T) {
	for n := range 80 {
		m := with("x", slices.Repeat([]string{"a: b"}, n)...)
		if got := sip.Right(m); got != (n+1 <= 64) {
			t.Errorf("%d headers: %v", n+1, got)
		}
		want := api.OK
		if n+1 > 64 {
			want = api.ErrForm
		}
		if got, e := sip.Parse([]byte(written(m))); e != want || sip.Same(got, m) != (e == api.OK) {
			t.Errorf("%d headers: %d", n+1, e)
		}
		if b, e := sip.Build(m); e != want || e == api.OK && string(b) != written(m) {
			t.Errorf("%d headers: %d", n+1, e)
		}
	}
}

// TestP14_1AsManyBytesAsMayBe: all is at most 4096 bytes, wherever they are.
func TestP14_1AsManyBytesAsMayBe(t *testing.T) {
	for n := 3900; n < 4200; n++ {
		long, start := strings.Repeat("x", n), with("")
		start.Start = long
		for name, m := range map[string]sip.Message{"the first line": start, "a body": with(long), "a name": with("", long+": b"), "a value": with("", "a: "+long)} {
			size, want := len(written(m)), api.OK
			if size > 4096 {
				want = api.ErrForm
			}
			if b, e := sip.Build(m); e != want || (e == api.OK) != (len(b) == size) || sip.Right(m) != (size <= 4096) {
				t.Errorf("%s of %d bytes: %d bytes, %d, %v", name, n, len(b), e, sip.Right(m))
			}
			if size > 4096 {
				want = api.ErrLong
			}
			if got, e := sip.Parse([]byte(written(m))); e != want || sip.Same(got, m) != (e == api.OK) {
				t.Errorf("%s of %d bytes: %d", name, n, e)
			}
		}
	}
}

// TestP2P14_1LongAheadOfWrong: too many bytes are told ahead of their form.
func TestP2P14_1LongAheadOfWrong(t *testing.T) {
	for _, n := range []int{0, 1, 4095, 4096, 4097, 4098, 100000, 1 << 22} {
		want := api.ErrForm
		if n > 4096 {
			want = api.ErrLong
		}
		for _, c := range []string{"x", "\x00", "\r", "\xff"} {
			if m, e := sip.Parse([]byte(strings.Repeat(c, n))); e != want || !sip.Same(m, sip.Message{}) {
				t.Errorf("%d times %q: %+v, %d", n, c, m, e)
			}
		}
	}
}

func TestP14_1Same(t *testing.T) {
	all := []sip.Message{
		{}, {Start: "A"}, {Start: "a"}, {Start: "A", Body: []byte("x")}, {Start: "A", Body: []byte("y")}, {Start: "A", Body: []byte("xx")}, {Body: []byte("A")},
		{Start: "A", Headers: []sip.Header{{"X", "1"}}}, {Start: "A", Headers: []sip.Header{{"x", "1"}}}, {Start: "A", Headers: []sip.Header{{"X", "2"}}},
		{Start: "A", Headers: []sip.Header{{"X", "1"}, {"Y", "2"}}}, {Start: "A", Headers: []sip.Header{{"Y", "2"}, {"X", "1"}}},
		{Start: "A", Headers: []sip.Header{{"X", "1"}, {"X", "1"}}}, {Start: "A", Headers: []sip.Header{{}}}, {Start: "A", Headers: []sip.Header{{"", "X1"}}},
		call(), {Start: call().Start, Headers: call().Headers}, {Start: call().Start, Body: call().Body},
	}
	for i, a := range all {
		for j, b := range all {
			if got := sip.Same(copied(a), copied(b)); got != (i == j) {
				t.Errorf("%+v, %+v: %v", a, b, got)
			}
		}
	}
	if !sip.Same(sip.Message{Start: "A"}, sip.Message{Start: "A", Headers: []sip.Header{}, Body: []byte{}}) {
		t.Error("an empty list is not as a nil one")
	}
}

// TestP1P14_1SomeMessages holds Right and Build against what is said over again.
func TestP1P14_1SomeMessages(t *testing.T) {
	r, seen := chance(), map[bool]int{}
	for range 20000 {
		m := someMessage(r)
		want := isRight(m)
		seen[want]++
		b, e := sip.Build(m)
		if sip.Right(m) != want || (e == api.OK) != want || e != api.OK && (e != api.ErrForm || len(b) != 0) {
			t.Fatalf("%q: %v, %d, not %v", written(m), sip.Right(m), e, want)
		}
		if want && string(b) != written(m) {
			t.Fatalf("%q, not %q", b, written(m))
		}
	}
	if seen[true] < 5000 || seen[false] < 500 {
		t.Errorf("%v", seen)
	}
}

// TestP1P14_1SomeBytes holds Parse against what is said over again.
func TestP1P14_1SomeBytes(t *testing.T) {
	r, seen := chance(), map[api.Errno]int{}
	const odd = " :\r\n-0aA\x00\xff"
	for range 20000 {
		b := []byte(written(someMessage(r)))
		for range max(0, r.IntN(5)-2) {
			at, fresh := r.IntN(len(b)), odd[r.IntN(len(odd))]
			b = [][]byte{slices.Concat(b[:at], b[at+1:]), slices.Concat(b[:at], []byte{fresh}, b[at:]), slices.Concat(b[:at], []byte{fresh}, b[at+1:])}[r.IntN(3)]
		}
		if r.IntN(10) == 0 {
			b = b[:r.IntN(len(b)+1)]
		}
		want, wantError := parsed(b)
		got, e := sip.Parse(b)
		seen[e]++
		if e != wantError || !sip.Same(got, want) {
			t.Fatalf("%q: %+v, %d, not %+v, %d", b, got, e, want, wantError)
		}
	}
	if len(seen) != 3 || seen[api.OK] < 1000 || seen[api.ErrForm] < 1000 || seen[api.ErrLong] < 20 {
		t.Errorf("%v", seen)
	}
}

// TestP14_4ParseOfBuild: and Build of Parse is the bytes.
func TestP14_4ParseOfBuild(t *testing.T) {
	r, n := chance(), 0
	for range 20000 {
		m := someMessage(r)
		b, e := sip.Build(m)
		if e != api.OK {
			continue
		}
		n++
		got, e := sip.Parse(b)
		if e != api.OK || !sip.Same(got, m) || fmt.Sprintf("%q", got) != fmt.Sprintf("%q", m) {
			t.Fatalf("%q: %+v, %d", b, got, e)
		}
		if again := mustBuild(t, got); !bytes.Equal(again, b) {
			t.Fatalf("%q became %q", b, again)
		}
	}
	if n < 5000 {
		t.Errorf("only %d were right", n)
	}
}
