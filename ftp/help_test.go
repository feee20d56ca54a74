package ftp_test

import (
	"fmt"
	"math/rand/v2"
	"regexp"
	"slices"
	"strconv"
	"strings"
	"testing"

	"lychgate/ftp"
)

// The edges of whole numbers.
const (
	least    = -1 << 63
	greatest = 1<<63 - 1
)

// Who speaks in the samples.
const (
	host   = 0x0a000002
	public = 0x01020304
)

// chance is the same row of numbers in every run.
func chance() *rand.Rand {
	return rand.New(rand.NewPCG(13, 7))
}

// sample is a line, and what it names.
type sample struct {
	line string
	back bool
	want ftp.Found
}

// samples are lines of all kinds: ordinary ones, and those at the edges.
func samples() []sample {
	const top = 0xffffffff
	filled := func(n int) string { return strings.Repeat("x", n) }
	return []sample{
		{"PORT 10,0,0,2,4,1\r\n", false, ftp.Found{Kind: ftp.Port, Start: 5, End: 17, Addr: host, Port: 1025}},
		{"port 10,0,0,2,4,1\r\n", false, ftp.Found{Kind: ftp.Port, Start: 5, End: 17, Addr: host, Port: 1025}},
		{"pOrT 10,0,0,2,4,1\r\n", false, ftp.Found{Kind: ftp.Port, Start: 5, End: 17, Addr: host, Port: 1025}},
		{"PORT 0,0,0,0,0,1\r\n", false, ftp.Found{Kind: ftp.Port, Start: 5, End: 16, Port: 1}},
		{"PORT 1,2,3,4,1,0\r\n", false, ftp.Found{Kind: ftp.Port, Start: 5, End: 16, Addr: public, Port: 256}},
		{"PORT 255,255,255,255,255,255\r\n", false, ftp.Found{Kind: ftp.Port, Start: 5, End: 28, Addr: top, Port: 65535}},
		{"EPRT |1|10.0.0.2|1025|\r\n", false, ftp.Found{Kind: ftp.Eprt, Start: 5, End: 22, Addr: host, Port: 1025}},
		{"ePrt |1|10.0.0.2|1025|\r\n", false, ftp.Found{Kind: ftp.Eprt, Start: 5, End: 22, Addr: host, Port: 1025}},
		{"EPRT |1|0.0.0.0|1|\r\n", false, ftp.Found{Kind: ftp.Eprt, Start: 5, End: 18, Port: 1}},
		{"eprt |1|255.255.255.255|65535|\r\n", false, ftp.Found{Kind: ftp.Eprt, Start: 5, End: 30, Addr: top, Port: 65535}},
		{"227 Entering Passive Mode (10,0,0,2,4,1).\r\n", true, ftp.Found{Kind: ftp.Pasv, Start: 27, End: 39, Addr: host, Port: 1025}},
		{"227 (1,2,3,4,0,1)\r\n", true, ftp.Found{Kind: ftp.Pasv, Start: 5, End: 16, Addr: public, Port: 1}},
		{"227 1,2,3,4,5,6 )) (0,0,0,0,255,255)(7,7,7,7,7,7)\r\n", true, ftp.Found{Kind: ftp.Pasv, Start: 20, End: 35, Port: 65535}},
		{"227 \x00\xff\x80 (1,2,3,4,5,6)\xfe\x00\r\n", true, ftp.Found{Kind: ftp.Pasv, Start: 9, End: 20, Addr: public, Port: 1286}},
		{"227 " + filled(108) + "(1,2,3,4,0,1)x\r\n", true, ftp.Found{Kind: ftp.Pasv, Start: 113, End: 124, Addr: public, Port: 1}},
		{"227 (1,2,3,4,0,1)" + filled(109) + "\r\n", true, ftp.Found{Kind: ftp.Pasv, Start: 5, End: 16, Addr: public, Port: 1}},
		{"229 Entering Extended Passive Mode (|||1025|)\r\n", true, ftp.Found{Kind: ftp.Epsv, Start: 39, End: 43, Port: 1025}},
		{"229 (|||1|)\r\n", true, ftp.Found{Kind: ftp.Epsv, Start: 8, End: 9, Port: 1}},
		{"229 |||5|) (|||65535|)(|||7|)\xff\r\n", true, ftp.Found{Kind: ftp.Epsv, Start: 15, End: 20, Port: 65535}},
		{"229 " + filled(115) + "(|||5|)\r\n", true, ftp.Found{Kind: ftp.Epsv, Start: 123, End: 124, Port: 5}},
	}
}

// model says over again what Find promises.
type model struct {
	port, eprt, pasv, epsv *regexp.Regexp
}

func newModel() model {
	const (
		number = `(0|[1-9][0-9]*)`
		free   = `[^\r\n(]*`
		any    = `[^\r\n]*`
	)
	six := "(" + strings.Repeat(number+",", 5) + number + ")"
	address := strings.Repeat(number+`\.`, 3) + number
	whole := func(form string) *regexp.Regexp { return regexp.MustCompile(`\A` + form + `\r\n\z`) }
	return model{
		port: whole(`[Pp][Oo][Rr][Tt] ` + six),
		eprt: whole(`[Ee][Pp][Rr][Tt] (\|1\|` + address + `\|` + number + `\|)`),
		pasv: whole(`227 ` + free + `\(` + six + `\)` + any),
		epsv: whole(`229 ` + free + `\(\|\|\|` + number + `\|\)` + any),
	}
}

// parts are where the group that is replaced lies, and the numbers of the groups within it (of an Epsv it itself).
func parts(form *regexp.Regexp, b []byte) (at []int, numbers []int) {
	m := form.FindSubmatchIndex(b)
	if m == nil {
		return nil, nil
	}
	groups := slices.Collect(slices.Chunk(m[2:], 2))
	inner := groups[min(1, len(groups)-1):]
	for _, g := range inner {
		n, err := strconv.Atoi(string(b[g[0]:g[1]]))
		if err != nil {
			n = greatest
		}
		numbers = append(numbers, n)
	}
	return groups[0], numbers
}

func allUpTo(most int, numbers []int) bool {
	return !slices.ContainsFunc(numbers, func(n int) bool { return n > most })
}

func folded(numbers []int) (n int) {
	for _, v := range numbers {
		n = n*256 + v
	}
	return n
}

func (m model) find(b []byte, back bool) (ftp.Found, bool) {
	if len(b) > 128 {
		return ftp.Found{}, false
	}
	for kind, form := range map[ftp.Kind]*regexp.Regexp{ftp.Port: m.port, ftp.Pasv: m.pasv, ftp.Eprt: m.eprt, ftp.Epsv: m.epsv} {
		at, numbers := parts(form, b)
		if at == nil || back != (kind == ftp.Pasv || kind == ftp.Epsv) {
			continue
		}
		last := len(numbers) - 1
		addr, port, ok := 0, numbers[last], allUpTo(255, numbers[:last]) && allUpTo(65535, numbers)
		if ok && last == 5 {
			ok = allUpTo(255, numbers)
			addr, port = folded(numbers[:4]), folded(numbers[4:])
		} else if ok {
			addr = folded(numbers[:last])
		}
		if !ok || port == 0 {
			return ftp.Found{}, false
		}
		return ftp.Found{Kind: kind, Start: at[0], End: at[1], Addr: uint32(addr), Port: uint16(port)}, true
	}
	return ftp.Found{}, false
}

// someNumber is mostly one from 0 to 255; now and then one at an edge, or none.
func someNumber(r *rand.Rand) string {
	if r.IntN(60) == 0 {
		return []string{"", "00", "01", "256", "300", "0256", "-1", "+1", " 1", "65535", "4294967297", "18446744073709551617", "a", "1a"}[r.IntN(14)]
	}
	return strconv.Itoa([]int{0, 1, 9, 10, 99, 100, 199, 254, 255, r.IntN(256), r.IntN(256)}[r.IntN(11)])
}

func somePort(r *rand.Rand) string {
	if r.IntN(10) == 0 {
		return []string{"0", "65536", "65535", "1", "00", "080", "99999", "4294967297", "18446744073709551617", ""}[r.IntN(10)]
	}
	return strconv.Itoa(1 + r.IntN(65535))
}

func row(r *rand.Rand, n int, mark string) string {
	var all []string
	for range n {
		all = append(all, someNumber(r))
	}
	return strings.Join(all, mark)
}

// someLine is one that is mostly of a kind, now and then with a few bytes of it spoilt.
func someLine(r *rand.Rand) []byte {
	ahead := []string{"", "", "Entering ", "a)b|1,2", "\xff", "(", strings.Repeat("y", r.IntN(120))}[r.IntN(7)]
	behind := []string{"", "", ".", "(x)", "\x80\x00", strings.Repeat("z", r.IntN(120))}[r.IntN(6)]
	line := []string{
		fmt.Sprintf("%s %s", []string{"PORT", "port", "PoRt", "PORt", "EPRT", "227"}[r.IntN(6)], row(r, 6, ",")),
		fmt.Sprintf("%s |1|%s|%s|", []string{"EPRT", "eprt", "eprT", "Eprt", "PORT", "229"}[r.IntN(6)], row(r, 4, "."), somePort(r)),
		fmt.Sprintf("227 %s(%s)%s", ahead, row(r, 6, ","), behind),
		fmt.Sprintf("229 %s(|||%s|)%s", ahead, somePort(r), behind),
	}[r.IntN(4)]
	b := []byte(line + "\r\n")
	for range max(0, r.IntN(8)-5) {
		b = spoilt(r, b)
	}
	return b
}

// spoilt has a byte more, less, or another one.
func spoilt(r *rand.Rand, b []byte) []byte {
	if len(b) == 0 {
		return b
	}
	const odd = " ,.|()012PpRr\r\n\x00\xff-"
	at, fresh := r.IntN(len(b)), odd[r.IntN(len(odd))]
	switch r.IntN(3) {
	case 0:
		return slices.Delete(b, at, at+1)
	case 1:
		return slices.Insert(b, at, fresh)
	}
	b[at] = fresh
	return b
}

// someRight is a line that names something.
func someRight(t *testing.T, r *rand.Rand) ([]byte, bool, ftp.Found) {
	t.Helper()
	for range 10000 {
		b, back := someLine(r), r.IntN(2) == 0
		if f, ok := ftp.Find(b, back); ok {
			return b, back, f
		}
	}
	t.Fatal("no line names anything")
	return nil, false, ftp.Found{}
}

// roomy is bytes with spare room behind them, and all of these.
func roomy(b []byte) (given, all []byte) {
	all = append(slices.Clone(b), 0xaa, 0xaa, 0xaa, 0xaa, 0xaa, 0xaa, 0xaa, 0xaa)
	return all[:len(b)], all
}

// spoil writes over bytes, and over the spare room behind them.
func spoil(b []byte) {
	b = b[:cap(b)]
	for i := range b {
		b[i] ^= 0xee
	}
}

func decimal(n int) string {
	return strconv.Itoa(n)
}

func commas(numbers []int) string {
	var all []string
	for _, n := range numbers {
		all = append(all, decimal(n))
	}
	return strings.Join(all, ",")
}
