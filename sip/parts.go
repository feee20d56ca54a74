package sip

import (
	"iter"
	"strconv"
	"strings"

	"lychgate/written"
)

const (
	maxHeaders = 64
	maxSize    = 4096
)

const (
	lineEnd    = "\r\n"
	nameEnd    = ": "
	lengthName = "Content-Length"
)

// lines yields the lines of a text, each with what ends it: with nothing, if the last one has no end.
func lines(text string) iter.Seq2[string, string] {
	return func(yield func(line, end string) bool) {
		for rest := text; rest != ""; {
			line, behind, _ := strings.Cut(rest, lineEnd)
			if !yield(line, rest[len(line):len(rest)-len(behind)]) {
				return
			}
			rest = behind
		}
	}
}

// split takes bytes apart at the ends of lines and names alone: it is Right that tells whether the parts may be. There must
// be an empty line; so all that stand ahead of it have their ends.
func split(data string) (Message, bool) {
	start, rest, _ := strings.Cut(data, lineEnd)
	m, taken := Message{Start: start}, 0
	for line, end := range lines(rest) {
		taken += len(line) + len(end)
		if line == "" {
			m.Body = []byte(rest[taken:])
			return m, true
		}
		name, value, ok := strings.Cut(line, nameEnd)
		if !ok {
			return Message{}, false
		}
		m.Headers = append(m.Headers, Header{Name: name, Value: value})
	}
	return Message{}, false
}

// joined is what split takes apart.
func joined(m Message) []byte {
	b := []byte(m.Start + lineEnd)
	for _, h := range m.Headers {
		b = append(b, h.Name+nameEnd+h.Value+lineEnd...)
	}
	b = append(b, lineEnd...)
	return append(b, m.Body...)
}

// size is how many bytes joined has.
func size(m Message) int {
	n := len(m.Start) + len(lineEnd)
	for _, h := range m.Headers {
		n += len(h.Name) + len(nameEnd) + len(h.Value) + len(lineEnd)
	}
	return n + len(lineEnd) + len(m.Body)
}

// rightHeaders tells whether headers may be, ahead of a body of so many bytes.
func rightHeaders(headers []Header, body int) bool {
	if len(headers) > maxHeaders {
		return false
	}
	lengths := 0
	for _, h := range headers {
		if !rightName(h.Name) || !rightValue(h.Value) {
			return false
		}
		if !named(h, lengthName) {
			continue
		}
		if h.Value != lengthValue(body) {
			return false
		}
		lengths++
	}
	return lengths == 1
}

func rightName(name string) bool {
	for _, c := range name {
		if !written.IsLetter(c) && !written.IsDigit(c) && c != '-' {
			return false
		}
	}
	return name != ""
}

func rightValue(value string) bool {
	return rightLine(value) && !strings.HasPrefix(value, " ") && !strings.HasSuffix(value, " ")
}

func rightLine(line string) bool {
	for _, c := range line {
		if c == '\r' || c == '\n' {
			return false
		}
	}
	return true
}

func named(h Header, name string) bool {
	return written.SameWord(h.Name, name)
}

// lengthValue is the one way in which a body's length may be written.
func lengthValue(body int) string {
	return strconv.Itoa(body)
}
