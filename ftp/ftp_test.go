package ftp_test

import (
	"bytes"
	"slices"
	"strings"
	"testing"

	"lychgate/ftp"
)

func TestP13_1Find(t *testing.T) {
	for _, s := range samples() {
		if f, ok := ftp.Find([]byte(s.line), s.back); !ok || f != s.want {
			t.Errorf("%q: %+v, %v, not %+v", s.line, f, ok, s.want)
		}
	}
}

// TestP13_1OtherSide: what a server says is not found of a client, nor the other way round.
func TestP13_1OtherSide(t *testing.T) {
	for _, s := range samples() {
		if f, ok := ftp.Find([]byte(s.line), !s.back); ok || f != (ftp.Found{}) {
			t.Errorf("%q: %+v, %v", s.line, f, ok)
		}
	}
}

func TestP13_1P2WrongLines(t *testing.T) {
	for _, s := range []string{
		"", "\r\n", "\n", "\r", "PORT", "PORT\r\n", "PORT \r\n", "EPRT \r\n", "227 \r\n", "229 \r\n", "227 (\r\n", "229 (|||\r\n",
		"NOOP\r\n", "USER 1,2,3,4,5,6\r\n", "XPORT 1,2,3,4,5,6\r\n", " PORT 1,2,3,4,5,6\r\n", "POR 1,2,3,4,5,6\r\n", "PORTS 1,2,3,4,5,6\r\n",
		"PORT  1,2,3,4,5,6\r\n", "PORT1,2,3,4,5,6\r\n", "PORT\t1,2,3,4,5,6\r\n", "PORT 1,2,3,4,5,6 \r\n", "PORT 1,2,3,4,5,6,\r\n",
		"PORT 1,2,3,4,5\r\n", "PORT 1,2,3,4,5,\r\n", "PORT 1,2,3,4,,6\r\n", "PORT ,2,3,4,5,6\r\n", "PORT 1,2,3,4,5,6,7\r\n",
		"PORT 1.2.3.4.5.6\r\n", "PORT 1, 2,3,4,5,6\r\n", "PORT (1,2,3,4,5,6)\r\n", "PORT 1,2,3,4,5,6)\r\n", "PORT |1|1.2.3.4|5|\r\n",
		"PORT 01,2,3,4,5,6\r\n", "PORT 1,2,3,4,5,06\r\n", "PORT 00,2,3,4,5,6\r\n", "PORT 1,2,3,4,00,6\r\n", "PORT 1,2,3,4,0,0\r\n",
		"PORT 256,2,3,4,5,6\r\n", "PORT 1,2,3,4,256,6\r\n", "PORT 1,2,3,4,5,256\r\n", "PORT 1,2,3,-4,5,6\r\n", "PORT 1,2,3,+4,5,6\r\n", "PORT 1,2,3,4,5,x\r\n",
		"EPRT |1|1.2.3.4|0|\r\n", "EPRT |1|1.2.3.4|65536|\r\n", "EPRT |1|1.2.3.4|05|\r\n", "EPRT |1|1.2.3.4|00|\r\n", "EPRT |1|1.2.3.4||\r\n",
		"EPRT |1|1.2.3.4|5\r\n", "EPRT |1|1.2.3.4|5| \r\n", "EPRT |1|1.2.3.4|5||\r\n", "EPRT |1|1.2.3.256|5|\r\n", "EPRT |1|1.2.03.4|5|\r\n",
		"EPRT |1|1.2.3|5|\r\n", "EPRT |1|1.2.3.4.5|5|\r\n", "EPRT |1|1,2,3,4|5|\r\n", "EPRT |2|1.2.3.4|5|\r\n", "EPRT |01|1.2.3.4|5|\r\n",
		"EPRT ||1.2.3.4|5|\r\n", "EPRT 1|1.2.3.4|5|\r\n", "EPRT  |1|1.2.3.4|5|\r\n", "EPRT !1!1.2.3.4!5!\r\n", "EPRT 1,2,3,4,5,6\r\n", "EPRT |1||5|\r\n",
		"227(1,2,3,4,5,6)\r\n", "227-a (1,2,3,4,5,6)\r\n", "227  1,2,3,4,5,6\r\n", "227 a 1,2,3,4,5,6)\r\n", "227 a (1,2,3,4,5,6\r\n",
		"227 a (1,2,3,4,5,6 )\r\n", "227 a ( 1,2,3,4,5,6)\r\n", "227 a ((1,2,3,4,5,6)\r\n", "227 (x) (1,2,3,4,5,6)\r\n", "227 a (1,2,3,4,0,0)\r\n",
		"227 a (1,2,3,4,5,256)\r\n", "227 a (1,2,3,4,5)\r\n", "227 a (01,2,3,4,5,6)\r\n", "227 a (|||5|)\r\n", "228 a (1,2,3,4,5,6)\r\n", " 227 a (1,2,3,4,5,6)\r\n",
		"229(|||5|)\r\n", "229-a (|||5|)\r\n", "229 a |||5|)\r\n", "229 a (|||5)\r\n", "229 a (|||5|\r\n", "229 a (||5|)\r\n", "229 a (||||5|)\r\n",
		"229 a (|||0|)\r\n", "229 a (|||65536|)\r\n", "229 a (|||05|)\r\n", "229 a (||||)\r\n", "229 a (|||5||)\r\n", "229 a ((|||5|)\r\n",
		"229 (x) (|||5|)\r\n", "229 a ( |||5|)\r\n", "229 a (|||5 |)\r\n", "229 a (|1|1.2.3.4|5|)\r\n", "229 a (1,2,3,4,5,6)\r\n", "22 (|||5|)\r\n",
	} {
		for _, back := range []bool{false, true} {
			if f, ok := ftp.Find([]byte(s), back); ok || f != (ftp.Found{}) {
				t.Errorf("%q, %v: %+v, %v", s, back, f, ok)
			}
		}
	}
}

// TestP13_1Ends: a line has its end, and neither of the end's bytes ahead of it.
func TestP13_1Ends(t *testing.T) {
	for _, s := range samples() {
		bare := strings.TrimSuffix(s.line, "\r\n")
		wrong := []string{bare, bare + "\n", bare + "\r", bare + "\n\r", bare + "\r\r\n", bare + "\n\r\n", s.line + "\r\n", s.line + s.line, s.line + "x", "\r\n" + s.line, s.line + "\x00"}
		for at := range len(bare) + 1 {
			wrong = append(wrong, bare[:at]+"\r"+bare[at:]+"\r\n", bare[:at]+"\n"+bare[at:]+"\r\n", bare[:at]+"\r\n"+bare[at:]+"\r\n")
		}
		for _, line := range wrong {
			if f, ok := ftp.Find([]byte(line), s.back); ok || f != (ftp.Found{}) {
				t.Errorf("%q: %+v, %v", line, f, ok)
			}
		}
	}
}

// TestP13_1LongLines: of all there may be 128 bytes, with those of the end.
func TestP13_1LongLines(t *testing.T) {
	for n := range 300 {
		filling := strings.Repeat("x", n)
		for _, line := range []string{"227 " + filling + "(1,2,3,4,5,6)\r\n", "227 (1,2,3,4,5,6)" + filling + "\r\n", "229 " + filling + "(|||7|)\r\n", "229 (|||7|)" + filling + "\r\n"} {
			if f, ok := ftp.Find([]byte(line), true); ok != (len(line) <= 128) || ok != (f != ftp.Found{}) {
				t.Errorf("%d bytes: %+v, %v", len(line), f, ok)
			}
		}
	}
}

// TestP13_1Numbers: each of the six takes what is from 0 to 255, and each port what is from 1 to 65535.
func TestP13_1Numbers(t *testing.T) {
	for n := range 300 {
		for at := range 6 {
			all := []int{7, 7, 7, 7, 7, 7}
			all[at] = n
			want := ftp.Found{Kind: ftp.Port, Addr: uint32(folded(all[:4])), Port: uint16(folded(all[4:])), Start: 5}
			line := "PORT " + commas(all) + "\r\n"
			want.End = len(line) - 2
			if f, ok := ftp.Find([]byte(line), false); ok != (n < 256) || ok && f != want {
				t.Errorf("%q: %+v, %v", line, f, ok)
			}
		}
	}
	for port := range 66000 {
		eprt, epsv := "EPRT |1|1.2.3.4|"+decimal(port)+"|\r\n", "229 (|||"+decimal(port)+"|)\r\n"
		may := port >= 1 && port <= 65535
		if f, ok := ftp.Find([]byte(eprt), false); ok != may || ok && (int(f.Port) != port || f.Addr != public) {
			t.Errorf("%q: %+v, %v", eprt, f, ok)
		}
		if f, ok := ftp.Find([]byte(epsv), true); ok != may || ok && (int(f.Port) != port || f.Addr != 0) {
			t.Errorf("%q: %+v, %v", epsv, f, ok)
		}
	}
}

// TestP5P13_1GreatNumbers: what would be a fitting number if it went round is none.
func TestP5P13_1GreatNumbers(t *testing.T) {
	for _, n := range []string{"256", "257", "65536", "65541", "4294967296", "4294967301", "9223372036854775813", "18446744073709551616", "18446744073709551621",
		"340282366920938463463374607431768211461", "1" + strings.Repeat("0", 80)} {
		for _, line := range []string{"PORT " + n + ",2,3,4,5,6\r\n", "PORT 1,2,3,4,5," + n + "\r\n", "EPRT |1|" + n + ".2.3.4|5|\r\n"} {
			if f, ok := ftp.Find([]byte(line), false); ok {
				t.Errorf("%q: %+v", line, f)
			}
		}
		if len(n) < 5 {
			continue
		}
		if f, ok := ftp.Find([]byte("EPRT |1|1.2.3.4|"+n+"|\r\n"), false); ok {
			t.Errorf("%s: %+v", n, f)
		}
		if f, ok := ftp.Find([]byte("229 (|||"+n+"|)\r\n"), true); ok {
			t.Errorf("%s: %+v", n, f)
		}
	}
}

// TestP1P13_1SomeLines holds Find against what is said over again by patterns.
func TestP1P13_1SomeLines(t *testing.T) {
	r, m, seen := chance(), newModel(), map[ftp.Kind]int{}
	for range 60000 {
		b, back := someLine(r), r.IntN(2) == 0
		want, there := m.find(b, back)
		if got, ok := ftp.Find(b, back); ok != there || got != want {
			t.Fatalf("%q, %v: %+v, %v, not %+v, %v", b, back, got, ok, want, there)
		}
		seen[want.Kind]++
	}
	for k := ftp.None; k <= ftp.Epsv; k++ {
		if seen[k] < 1000 {
			t.Errorf("of kind %d there were %d", k, seen[k])
		}
	}
}

func TestP13_2Text(t *testing.T) {
	for _, c := range []struct {
		kind ftp.Kind
		addr uint32
		port uint16
		want string
	}{
		{ftp.Port, host, 1025, "10,0,0,2,4,1"},
		{ftp.Port, public, 1001, "1,2,3,4,3,233"},
		{ftp.Port, 0, 0, "0,0,0,0,0,0"},
		{ftp.Port, 0xffffffff, 65535, "255,255,255,255,255,255"},
		{ftp.Pasv, host, 1025, "10,0,0,2,4,1"},
		{ftp.Pasv, 0xc0a80001, 256, "192,168,0,1,1,0"},
		{ftp.Pasv, 0, 255, "0,0,0,0,0,255"},
		{ftp.Eprt, host, 1025, "|1|10.0.0.2|1025|"},
		{ftp.Eprt, 0, 0, "|1|0.0.0.0|0|"},
		{ftp.Eprt, 0xffffffff, 65535, "|1|255.255.255.255|65535|"},
		{ftp.Epsv, host, 1025, "1025"},
		{ftp.Epsv, 0, 0, "0"},
		{ftp.Epsv, 0xffffffff, 65535, "65535"},
		{ftp.None, host, 1025, ""},
		{ftp.None, 0, 0, ""},
	} {
		if got := ftp.Text(c.kind, c.addr, c.port); string(got) != c.want {
			t.Errorf("%d, %x, %d: %q, not %q", c.kind, c.addr, c.port, got, c.want)
		}
	}
}

// TestP1P13_2TextOfOtherKinds: six numbers are the answer of all kinds of which nothing else is said.
func TestP1P13_2TextOfOtherKinds(t *testing.T) {
	for _, k := range []ftp.Kind{least, -1, 5, 6, 100, greatest} {
		if got := ftp.Text(k, host, 1025); string(got) != "10,0,0,2,4,1" {
			t.Errorf("%d: %q", k, got)
		}
	}
}

func TestP13_2Replace(t *testing.T) {
	for _, c := range []struct {
		data       string
		start, end int
		text, want string
	}{
		{"PORT 10,0,0,2,4,1\r\n", 5, 17, "1,2,3,4,3,233", "PORT 1,2,3,4,3,233\r\n"},
		{"229 (|||1025|)\r\n", 8, 12, "7", "229 (|||7|)\r\n"},
		{"abc", 0, 0, "x", "xabc"}, {"abc", 3, 3, "x", "abcx"}, {"abc", 0, 3, "x", "x"}, {"abc", 1, 2, "", "ac"}, {"abc", 0, 3, "", ""},
		{"abc", 2, 2, "xyz", "abxyzc"}, {"", 0, 0, "x", "x"}, {"", 0, 0, "", ""},
		{"abc", -1, 2, "x", "abc"}, {"abc", -1, -1, "x", "abc"}, {"abc", 2, 1, "x", "abc"}, {"abc", 1, 4, "x", "abc"}, {"abc", 4, 4, "x", "abc"},
		{"abc", 0, -1, "x", "abc"}, {"abc", 3, 0, "x", "abc"}, {"", 0, 1, "x", ""}, {"", 1, 0, "x", ""}, {"", -1, 0, "x", ""},
		{"abc", least, 1, "x", "abc"}, {"abc", least, greatest, "x", "abc"}, {"abc", 0, greatest, "x", "abc"}, {"abc", greatest, least, "x", "abc"},
		{"abc", 0, least, "x", "abc"}, {"abc", greatest, greatest, "x", "abc"}, {"abc", least, least, "x", "abc"},
	} {
		for k := ftp.None; k <= ftp.Epsv; k++ { // the place alone counts
			f := ftp.Found{Kind: k, Start: c.start, End: c.end, Addr: public, Port: 9}
			if got := ftp.Replace([]byte(c.data), f, []byte(c.text)); string(got) != c.want {
				t.Errorf("%q from %d to %d by %q: %q, not %q", c.data, c.start, c.end, c.text, got, c.want)
			}
		}
	}
}

// TestP1P13_2ReplaceAnyBytes goes through all places of some bytes, and beyond them.
func TestP1P13_2ReplaceAnyBytes(t *testing.T) {
	for n := range 7 {
		data, text := []byte("\x00\xff\r\n(,a")[:n], []byte("\x80\x00xyz")[:n%5]
		for start := -2; start < n+3; start++ {
			for end := -2; end < n+3; end++ {
				want := slices.Clone(data)
				if start >= 0 && start <= end && end <= n {
					want = bytes.Join([][]byte{data[:start], text, data[end:]}, nil)
				}
				if got := ftp.Replace(data, ftp.Found{Start: start, End: end}, text); !bytes.Equal(got, want) {
					t.Errorf("%q from %d to %d by %q: %q, not %q", data, start, end, text, got, want)
				}
			}
		}
	}
}
