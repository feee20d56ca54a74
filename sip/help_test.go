package sip_test

import (
	"bytes"
	"fmt"
	"math/rand/v2"
	"regexp"
	"slices"
	"strconv"
	"strings"
	"testing"

	"lychgate/api"
	"lychgate/sip"
)

// Who speaks in the samples.
const (
	host   = 0x0a000002
	public = 0x01020304
	others = 0x0a000003
)

// chance is the same row of numbers in every run.
func chance() *rand.Rand {
	return rand.New(rand.NewPCG(14, 7))
}

// with is a message of these headers, each as its line has it, with a fitting Content-Length behind them.
func with(body string, headers ...string) sip.Message {
	m := sip.Message{Start: "INVITE sip:b@8.8.8.8 SIP/2.0", Body: []byte(body)}
	for _, h := range headers {
		name, value, _ := strings.Cut(h, ": ")
		m.Headers = append(m.Headers, sip.Header{Name: name, Value: value})
	}
	m.Headers = append(m.Headers, sip.Header{Name: "Content-Length", Value: strconv.Itoa(len(body))})
	return m
}

// call is a message as a phone sends it.
func call() sip.Message {
	return with("v=0\r\no=a 1 1 IN IP4 10.0.0.2\r\ns=-\r\nc=IN IP4 10.0.0.2\r\nt=0 0\r\nm=audio 4000 RTP/AVP 0\r\nm=video 5000 RTP/AVP 31\r\n",
		"Via: SIP/2.0/UDP 10.0.0.2:5060;branch=z9hG4bK1", "From: <sip:a@10.0.0.2>;tag=1", "To: <sip:b@8.8.8.8>",
		"Call-ID: 1@10.0.0.2", "CSeq: 1 INVITE", "Contact: <sip:a@10.0.0.2:5060>", "Content-Type: application/sdp")
}

// written is a message's bytes as it would be, right or not.
func written(m sip.Message) string {
	s := m.Start + "\r\n"
	for _, h := range m.Headers {
		s += h.Name + ": " + h.Value + "\r\n"
	}
	return s + "\r\n" + string(m.Body)
}

// copied is a message with lists of its own, each with spare room.
func copied(m sip.Message) sip.Message {
	return sip.Message{
		Start:   m.Start,
		Headers: append(slices.Clone(m.Headers), sip.Header{Name: "spare"})[:len(m.Headers)],
		Body:    append(slices.Clone(m.Body), "spare"...)[:len(m.Body)],
	}
}

// spoil writes over a message's lists, and over the spare room behind them.
func spoil(m sip.Message) {
	for i := range m.Headers[:cap(m.Headers)] {
		m.Headers[:cap(m.Headers)][i] = sip.Header{Name: "Spoilt", Value: "spoilt"}
	}
	spoilBytes(m.Body)
}

func spoilBytes(b []byte) {
	b = b[:cap(b)]
	for i := range b {
		b[i] ^= 0xee
	}
}

// dotted says over again how an address is written.
func dotted(addr uint32) string {
	return fmt.Sprintf("%d.%d.%d.%d", addr>>24, addr>>16&255, addr>>8&255, addr&255)
}

// The forms of names, of what stands ahead of a body, and of a line of a medium (its number may yet be too great).
var (
	nameForm   = regexp.MustCompile(`\A[A-Za-z0-9-]+\z`)
	headForm   = regexp.MustCompile(`\A([^\r\n]+)\r\n((?:[A-Za-z0-9-]+: [^\r\n]*\r\n)*)\r\n`)
	mediumForm = regexp.MustCompile(`(?s)\A(m=[A-Za-z]+ )([1-9][0-9]*)( .*)\z`)
)

// isRight says over again what a right message is.
func isRight(m sip.Message) bool {
	lengths := 0
	for _, h := range m.Headers {
		if !nameForm.MatchString(h.Name) || strings.ContainsAny(h.Value, "\r\n") || h.Value != strings.Trim(h.Value, " ") {
			return false
		}
		if strings.ToLower(h.Name) == "content-length" {
			lengths++
			if h.Value != fmt.Sprint(len(m.Body)) {
				return false
			}
		}
	}
	return m.Start != "" && !strings.ContainsAny(m.Start, "\r\n") && len(m.Headers) <= 64 && lengths == 1 && len(written(m)) <= 4096
}

// parsed says over again what Parse promises.
func parsed(data []byte) (sip.Message, api.Errno) {
	if len(data) > 4096 {
		return sip.Message{}, api.ErrLong
	}
	head := headForm.FindSubmatch(data)
	if head == nil {
		return sip.Message{}, api.ErrForm
	}
	m := sip.Message{Start: string(head[1]), Body: data[len(head[0]):]}
	for _, line := range bytes.Split(head[2], []byte("\r\n")) {
		if len(line) > 0 {
			name, value, _ := bytes.Cut(line, []byte(": "))
			m.Headers = append(m.Headers, sip.Header{Name: string(name), Value: string(value)})
		}
	}
	if !isRight(m) {
		return sip.Message{}, api.ErrForm
	}
	return m, api.OK
}

// medium is what stands ahead of a medium's number, that, and what stands behind.
func medium(line string) (ahead string, port int, behind string, ok bool) {
	found := mediumForm.FindStringSubmatch(line)
	if found == nil {
		return "", 0, "", false
	}
	port, err := strconv.Atoi(found[2])
	return found[1], port, found[3], err == nil && port <= 65535
}

// portsOf says over again what Ports promises.
func portsOf(m sip.Message, addr uint32) (ports []uint16) {
	all := strings.Split(string(m.Body), "\r\n")
	if !slices.Contains(all, "c=IN IP4 "+dotted(addr)) {
		return nil
	}
	for _, line := range all {
		if _, port, _, ok := medium(line); ok && !slices.Contains(ports, uint16(port)) {
			ports = append(ports, uint16(port))
		}
	}
	return ports
}

// changes are what Rewrite is told.
type changes struct {
	host, to     uint32
	port, toPort uint16
	media        []sip.Media
}

func (c changes) of(m sip.Message) sip.Message {
	return sip.Rewrite(m, c.host, c.to, c.port, c.toPort, c.media...)
}

// rewritten says over again what Rewrite promises.
func (c changes) rewritten(m sip.Message) sip.Message {
	if !isRight(m) {
		return m
	}
	body := strings.Split(string(m.Body), "\r\n")
	for i := range body {
		body[i] = c.line(body[i])
	}
	n := sip.Message{Start: m.Start, Headers: slices.Clone(m.Headers), Body: []byte(strings.Join(body, "\r\n"))}
	for i, h := range n.Headers {
		switch strings.ToLower(h.Name) {
		case "via":
			n.Headers[i].Value = c.value(h.Value, "SIP/2.0/UDP ", ";")
		case "contact":
			n.Headers[i].Value = c.value(h.Value, "@", ";>")
		case "content-length":
			n.Headers[i].Value = fmt.Sprint(len(n.Body))
		}
	}
	if !isRight(n) {
		return m
	}
	return n
}

func (c changes) line(s string) string {
	was, is := dotted(c.host), dotted(c.to)
	if ahead, port, behind, ok := medium(s); ok {
		for _, x := range slices.Backward(c.media) {
			if int(x.Was) == port {
				s = ahead + fmt.Sprint(x.Is) + behind
			}
		}
		return s
	}
	ahead, ok := strings.CutSuffix(s, was)
	if ok && (ahead == "c=IN IP4 " || ahead[:min(2, len(ahead))] == "o=" && strings.HasSuffix(ahead, " IN IP4 ")) {
		return ahead + is
	}
	return s
}

func (c changes) value(s, mark, ends string) string {
	at := strings.Index(s, mark)
	if at < 0 {
		return s
	}
	at += len(mark)
	text := s[at:]
	for _, end := range ends {
		text = strings.Split(text, string(end))[0]
	}
	behind := s[at+len(text):]
	if text == dotted(c.host) {
		return s[:at] + dotted(c.to) + behind
	}
	digits, numbered := strings.CutPrefix(text, dotted(c.host)+":")
	port, err := strconv.Atoi(digits)
	if !numbered || err != nil || port < 1 || port > 65535 || fmt.Sprint(port) != digits {
		return s
	}
	if port == int(c.port) {
		port = int(c.toPort)
	}
	return s[:at] + fmt.Sprintf("%s:%d", dotted(c.to), port) + behind
}

func pick[T any](r *rand.Rand, all ...T) T {
	return all[r.IntN(len(all))]
}

func someAddress(r *rand.Rand) string {
	if r.IntN(6) == 0 {
		return pick(r, "10.0.0.22", "110.0.0.2", "10.0.0.02", "10.0.0", "10.0.0.2.", "host", "")
	}
	return pick(r, "10.0.0.2", "10.0.0.2", "10.0.0.2", "10.0.0.3")
}

func somePlace(r *rand.Rand) string {
	if r.IntN(6) == 0 {
		return someAddress(r) + pick(r, ":0", ":65536", ":05060", ":", ":x", " ", ":5060 ", ":5060:5060")
	}
	return someAddress(r) + pick(r, "", ":5060", ":5060", ":5061", ":1", ":65535")
}

func someHeader(r *rand.Rand) sip.Header {
	place, more := somePlace(r), pick(r, "", "", ";branch=1", ";a=10.0.0.2:5060", ">", ",b", " c", ";", ">;b", "\xff")
	switch r.IntN(8) {
	case 0, 1, 2:
		name := pick(r, "Via", "VIA", "via", "vIa", "Vias", "v")
		mark := pick(r, "SIP/2.0/UDP ", "SIP/2.0/UDP ", "SIP/2.0/UDP ", "x SIP/2.0/UDP ", "SIP/2.0/UDP  ", "SIP/2.0/TCP ", "sip/2.0/udp ", "SIP/2.0/UDP x, SIP/2.0/UDP ", "")
		return sip.Header{Name: name, Value: strings.Trim(mark+place+more, " ")}
	case 3, 4, 5:
		name := pick(r, "Contact", "CONTACT", "contact", "cOntact", "Contacts", "m")
		mark := pick(r, "<sip:a@", "<sip:a@", "sip:b@", "@", "<sip:a@b@", "<sip:", "\"a\xfe\" <sip:c@")
		return sip.Header{Name: name, Value: strings.Trim(mark+place+more, " ")}
	}
	return pick(r, sip.Header{Name: "X"}, sip.Header{Name: "From", Value: "<sip:a@10.0.0.2:5060>"}, sip.Header{Name: "a-1", Value: "é: \xff\x00 b"},
		sip.Header{Name: "-", Value: ":"}, sip.Header{Name: "0", Value: "SIP/2.0/UDP 10.0.0.2:5060"})
}

func someBodyLine(r *rand.Rand) string {
	address := someAddress(r)
	switch r.IntN(5) {
	case 0:
		if r.IntN(4) == 0 {
			return pick(r, "c=IN IP4 ", "c=IN IP6 ", "c=IN IP4", " c=IN IP4 ", "C=IN IP4 ") + address + pick(r, "", " ", "/127", "\r", "\n")
		}
		return "c=IN IP4 " + address
	case 1:
		return pick(r, "o=a 1 1", "o=a 1 1", "o=", "o=\xff\n", "O=a", "a=o=") + pick(r, " IN IP4 ", " IN IP4 ", " IN IP4 ", "IN IP4 ", " IN IP4") + address + pick(r, "", "", "", " ", "\n")
	case 2, 3:
		kind, port, rest := pick(r, "m=audio ", "m=video ", "m=A "), pick(r, "4000", "4000", "4001", "5000", "6000", "1", "65535"), pick(r, " RTP", " ", " \xff\n", " 4000 4000")
		switch r.IntN(12) {
		case 0:
			kind = pick(r, "m=", "m= ", "m=a-b ", "m=é ", "M=audio ", "m=audio  ", "m=a1 ", "=audio ")
		case 1:
			port = pick(r, "0", "65536", "04000", "", "4000/2", "70000000000000000000", "x")
		case 2:
			rest = pick(r, "", "\t", "x", "\r")
		}
		return kind + port + rest
	}
	return pick(r, "", "v=0", "s=10.0.0.2", "\r", "\n", "\xff\x00", "a=x c=IN IP4 10.0.0.2")
}

func someBody(r *rand.Rand) []byte {
	var all []string
	for range r.IntN(10) {
		all = append(all, someBodyLine(r))
	}
	return []byte(strings.Join(all, "\r\n") + pick(r, "", "\r\n", "\r", "\n", "\r\n\r\n"))
}

// someMessage is mostly a right one.
func someMessage(r *rand.Rand) sip.Message {
	m := sip.Message{Start: pick(r, "INVITE x SIP/2.0", "SIP/2.0 200 OK", " ", "\xff", ":", "10.0.0.2"), Body: someBody(r)}
	for range r.IntN(8) {
		m.Headers = append(m.Headers, someHeader(r))
	}
	length := sip.Header{Name: pick(r, "Content-Length", "content-length", "CONTENT-LENGTH", "cOnTeNt-LeNgTh"), Value: strconv.Itoa(len(m.Body))}
	m.Headers = slices.Insert(m.Headers, r.IntN(len(m.Headers)+1), length)
	if r.IntN(30) == 0 { // as many bytes as there may be, or some more or fewer
		fill := 4096 - len(written(m)) - len("Fill: \r\n") + r.IntN(20) - 15
		m.Headers = append(m.Headers, sip.Header{Name: "Fill", Value: strings.Repeat("x", max(0, fill))})
	}
	if r.IntN(20) == 0 {
		spoilOne(r, &m)
	}
	return m
}

// spoilOne lets something be wrong, most often.
func spoilOne(r *rand.Rand, m *sip.Message) {
	at := r.IntN(len(m.Headers))
	switch r.IntN(8) {
	case 0:
		m.Start = pick(r, "", "\r", "a\nb", "a\r\nb")
	case 1:
		m.Headers[at].Name = pick(r, "", "a b", "a:", "é", "a_b", "\xff", " ", "a\r", "Content-Length")
	case 2:
		m.Headers[at].Value = pick(r, " ", " a", "a ", "a\r", "\nb", "a\r\nb", "0", "01", "")
	case 3:
		m.Headers = slices.Delete(m.Headers, at, at+1)
	case 4:
		m.Headers = append(m.Headers, m.Headers[at])
	case 5:
		m.Body = append(m.Body, 'x')
	case 6:
		m.Headers = append(m.Headers, make([]sip.Header, 60)...)
	case 7:
		for len(m.Headers) < 63+r.IntN(3) {
			m.Headers = append(m.Headers, sip.Header{Name: "n"})
		}
	}
}

func someChanges(r *rand.Rand) changes {
	c := changes{
		host: pick[uint32](r, host, host, host, others), to: pick[uint32](r, public, 0, 0xffffffff, 0xc0a8ffff, host),
		port: pick[uint16](r, 5060, 5060, 5061, 0, 1, 65535), toPort: pick[uint16](r, 7000, 0, 65535, 5060, 7),
	}
	for range r.IntN(4) {
		c.media = append(c.media, sip.Media{Was: pick[uint16](r, 4000, 4001, 5000, 1, 65535, 0), Is: pick[uint16](r, 6000, 0, 65535, 4000, 7)})
	}
	return c
}

// mustBuild is the bytes of a right message.
func mustBuild(t *testing.T, m sip.Message) []byte {
	t.Helper()
	b, e := sip.Build(m)
	if e != api.OK {
		t.Fatalf("Build of %q: %d", written(m), e)
	}
	return b
}
