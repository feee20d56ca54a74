// Package written is numbers, addresses and words as lines of text have them, for the layers that read such lines.
// See 'Words' in ../../shared/doc/13-ftp.md.
package written

import (
	"strconv"
	"strings"
)

const (
	mostByte = 1<<8 - 1
	mostPort = 1<<16 - 1
)

// Byte is a number from 0 to 255.
func Byte(text string) (byte, bool) {
	n, ok := number(text, mostByte)
	return byte(n), ok
}

// Port is a number from 1 to 65535.
func Port(text string) (uint16, bool) {
	n, ok := number(text, mostPort)
	return uint16(n), ok && n != 0
}

// Row is how numbers are written with a mark between them.
func Row(mark string, numbers ...byte) string {
	var each []string
	for _, n := range numbers {
		each = append(each, strconv.Itoa(int(n)))
	}
	return strings.Join(each, mark)
}

// Address is how an address is written.
func Address(addr uint32) string {
	return Row(".", byte(addr>>24), byte(addr>>16), byte(addr>>8), byte(addr))
}

// SameWord tells whether two words are the same, letters large or small. It knows no letters but a to z: there are others
// that Unicode takes for the large or small form of one of these.
func SameWord(a, b string) bool {
	if len(a) != len(b) {
		return false
	}
	for i := range len(a) {
		if small(a[i]) != small(b[i]) {
			return false
		}
	}
	return true
}

// IsDigit tells whether a character is a digit.
func IsDigit(c rune) bool {
	return c >= '0' && c <= '9'
}

// IsLetter tells whether a character is a letter, large or small.
func IsLetter(c rune) bool {
	return c >= 'a' && c <= 'z' || c >= 'A' && c <= 'Z'
}

// number is what digits tell. It stops at the first one with which they pass most, so that it never goes round.
func number(text string, most int) (int, bool) {
	n := 0
	for at, c := range text {
		noughtAhead := at > 0 && n == 0
		if !IsDigit(c) || noughtAhead {
			return 0, false
		}
		n = n*10 + int(c-'0')
		if n > most {
			return 0, false
		}
	}
	return n, text != ""
}

func small(c byte) byte {
	if c >= 'A' && c <= 'Z' {
		return c - 'A' + 'a'
	}
	return c
}
