package written_test

import (
	"regexp"
	"strconv"
	"strings"
	"testing"

	"lychgate/written"
)

// odd are texts that are no numbers, or none that may be.
func odd() []string {
	return []string{
		"", " ", "a", "-1", "+1", "1 ", " 1", "1,", "0x1", "1e1", "1_0", "00", "01", "007", "٣", "1٣", "½", "\x001", "1\x00", "1\xff", "\xff",
		"65536", "65537", "99999", "100000", "4294967296", "4294967297", "18446744073709551616", "18446744073709551617",
		"18446744073709551871", strings.Repeat("9", 500), "0" + strings.Repeat("0", 500), strings.Repeat("1", 30),
	}
}

func TestP13_1Byte(t *testing.T) {
	for n := range 1000 {
		got, ok := written.Byte(strconv.Itoa(n))
		if ok != (n <= 255) || ok && int(got) != n {
			t.Errorf("%d: %d, %v", n, got, ok)
		}
		if got, ok := written.Byte("0" + strconv.Itoa(n)); ok {
			t.Errorf("0%d: %d", n, got)
		}
	}
	for _, s := range odd() {
		if got, ok := written.Byte(s); ok {
			t.Errorf("%q: %d", s, got)
		}
	}
}

func TestP13_1Port(t *testing.T) {
	for n := range 100000 {
		got, ok := written.Port(strconv.Itoa(n))
		if ok != (n >= 1 && n <= 65535) || ok && int(got) != n {
			t.Errorf("%d: %d, %v", n, got, ok)
		}
		if got, ok := written.Port("0" + strconv.Itoa(n)); ok {
			t.Errorf("0%d: %d", n, got)
		}
	}
	for _, s := range odd() {
		if got, ok := written.Port(s); ok {
			t.Errorf("%q: %d", s, got)
		}
	}
}

func TestP13_2RowAndAddress(t *testing.T) {
	for want, numbers := range map[string][]byte{"": nil, "0": {0}, "255": {255}, "1-2-3": {1, 2, 3}, "0-0": {0, 0}, "10-0-0-2-4-1": {10, 0, 0, 2, 4, 1}} {
		if got := written.Row("-", numbers...); got != want {
			t.Errorf("%v: %q", numbers, got)
		}
	}
	for want, addr := range map[string]uint32{"0.0.0.0": 0, "10.0.0.2": 0x0a000002, "255.255.255.255": 0xffffffff, "1.2.3.4": 0x01020304, "128.0.0.0": 1 << 31} {
		if got := written.Address(addr); got != want {
			t.Errorf("%x: %q", addr, got)
		}
	}
}

func TestP13_1P14_1SameWord(t *testing.T) {
	for _, c := range []struct {
		a, b string
		want bool
	}{
		{"", "", true}, {"Via", "Via", true}, {"VIA", "via", true}, {"vIa", "ViA", true}, {"Content-Length", "CONTENT-lengtH", true},
		{"227 ", "227 ", true}, {"AZaz09", "azAZ09", true},
		{"Via", "Vi", false}, {"Vi", "Via", false}, {"Via", "Vib", false}, {"", "a", false}, {"a-b", "a_b", false},
		{"@", "`", false}, {"[", "{", false}, {"-", "\r", false}, {"0", "\x10", false}, {"\xc1", "\xe1", false},
		{"k", "\u212a", false}, {"s", "\u017f", false}, {"sk", "\u017fk", false}, {"é", "É", false},
	} {
		if got := written.SameWord(c.a, c.b); got != c.want {
			t.Errorf("%q, %q: %v", c.a, c.b, got)
		}
	}
}

func TestP14_1LettersAndDigits(t *testing.T) {
	letter, digit := regexp.MustCompile(`^[A-Za-z]$`), regexp.MustCompile(`^[0-9]$`)
	for c := rune(-1); c < 0x3000; c++ {
		if written.IsLetter(c) != letter.MatchString(string(c)) || written.IsDigit(c) != digit.MatchString(string(c)) {
			t.Errorf("%q: %v, %v", c, written.IsLetter(c), written.IsDigit(c))
		}
	}
}
