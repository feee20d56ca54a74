package sip

import (
	"strconv"
	"strings"

	"lychgate/written"
)

// What stands ahead of a place, and behind it.
const (
	viaMark     = "SIP/2.0/UDP "
	viaEnds     = ";"
	contactMark = "@"
	contactEnds = ">;"
)

// What lines of a body have ahead of an address, or of a port.
const (
	connection  = "c=IN IP4 "
	origin      = "o="
	originMark  = " IN IP4 "
	mediumStart = "m="
)

// change is what stands in the place of what. Addresses are as they are written: each has one way, so that texts are held
// against each other.
type change struct {
	host, to     string
	port, toPort uint16
	media        []Media
}

func (c change) message(m Message) Message {
	n := Message{Start: m.Start, Body: c.body(m.Body)}
	for _, h := range m.Headers {
		n.Headers = append(n.Headers, Header{Name: h.Name, Value: c.value(h, len(n.Body))})
	}
	return n
}

// value is a header's, ahead of a body of so many bytes.
func (c change) value(h Header, body int) string {
	switch {
	case named(h, "Via"):
		return c.within(h.Value, viaMark, viaEnds)
	case named(h, "Contact"):
		return c.within(h.Value, contactMark, contactEnds)
	case named(h, lengthName):
		return lengthValue(body)
	}
	return h.Value
}

// within changes what stands behind the first mark, up to the first of the ends.
func (c change) within(value, mark, ends string) string {
	ahead, rest, ok := strings.Cut(value, mark)
	if !ok {
		return value
	}
	end := len(rest)
	for at, r := range rest {
		if strings.ContainsRune(ends, r) {
			end = at
			break
		}
	}
	return ahead + mark + c.place(rest[:end]) + rest[end:]
}

// place is a text in which the address, and perhaps the port, are changed; as it is, if it is no place of the host.
func (c change) place(text string) string {
	address, digits, numbered := strings.Cut(text, ":")
	port, ok := written.Port(digits)
	switch {
	case address != c.host || numbered && !ok:
		return text
	case !numbered:
		return c.to
	case port == c.port:
		port = c.toPort
	}
	return c.to + ":" + decimal(port)
}

func (c change) body(body []byte) []byte {
	var b []byte
	for line, end := range lines(string(body)) {
		b = append(b, c.line(line)+end...)
	}
	return b
}

// line is one of a body's.
func (c change) line(line string) string {
	if line == connection+c.host {
		return connection + c.to
	}
	if strings.HasPrefix(line, origin) && strings.HasSuffix(line, originMark+c.host) {
		return strings.TrimSuffix(line, c.host) + c.to
	}
	if x, ok := mediumOf(line); ok {
		return x.ahead + decimal(c.instead(x.port)) + x.behind
	}
	return line
}

// instead is the port that stands in the place of a medium's.
func (c change) instead(port uint16) uint16 {
	for _, x := range c.media {
		if x.Was == port {
			return x.Is
		}
	}
	return port
}

// medium is a line of a body that names a port: what stands ahead of that, it, and what stands behind.
type medium struct {
	ahead  string
	port   uint16
	behind string
}

func mediumOf(line string) (medium, bool) {
	first, rest, _ := strings.Cut(line, " ")
	digits, _, ended := strings.Cut(rest, " ")
	kind, begun := strings.CutPrefix(first, mediumStart)
	port, ok := written.Port(digits)
	if !begun || !ended || !ok || !letters(kind) {
		return medium{}, false
	}
	return medium{ahead: first + " ", port: port, behind: rest[len(digits):]}, true
}

// letters tells whether a text is letters, and not nothing.
func letters(text string) bool {
	for _, c := range text {
		if !written.IsLetter(c) {
			return false
		}
	}
	return text != ""
}

func decimal(n uint16) string {
	return strconv.Itoa(int(n))
}
