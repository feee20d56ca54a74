package ftp

import (
	"bytes"

	"lychgate/api"
	"lychgate/wire"
	"lychgate/written"
)

const lineEnd = "\r\n"

// lineOf is what stands ahead of a line's end; nothing, if the bytes are not one line.
func lineOf(data []byte) []byte {
	line, ended := bytes.CutSuffix(data, []byte(lineEnd))
	if !ended || len(data) > api.MaxLine || bytes.ContainsAny(line, lineEnd) {
		return nil
	}
	return line
}

// input is bytes, and how many of them have been taken.
type input struct {
	bytes []byte
	at    int
}

// take takes this text, letters large or small.
func (in *input) take(text string) bool {
	end := in.at + len(text)
	if end > len(in.bytes) || !written.SameWord(string(in.bytes[in.at:end]), text) {
		return false
	}
	in.at = end
	return true
}

// past takes all up to the first such byte, and that too.
func (in *input) past(mark byte) bool {
	n := bytes.IndexByte(in.bytes[in.at:], mark)
	in.at += n + 1
	return n >= 0
}

// digits takes all digits that stand there, so that a number never ends ahead of one.
func (in *input) digits() string {
	start := in.at
	for in.at < len(in.bytes) && written.IsDigit(rune(in.bytes[in.at])) {
		in.at++
	}
	return string(in.bytes[start:in.at])
}

// over tells whether all are taken.
func (in *input) over() bool {
	return in.at == len(in.bytes)
}

// reader takes a line's parts one behind the other: it has the bytes inside, and what they have named so far.
type reader struct {
	input
	Found
}

// kind takes what a line begins with.
func (r *reader) kind(back bool) Kind {
	switch {
	case !back && r.take("PORT "):
		return Port
	case !back && r.take("EPRT "):
		return Eprt
	case back && r.take("227 "):
		return Pasv
	case back && r.take("229 "):
		return Epsv
	}
	return None
}

// six takes six numbers.
func (r *reader) six() bool {
	var numbers [6]byte
	r.Start = r.at
	if !r.row(numbers[:], ",") {
		return false
	}
	r.End = r.at
	r.Addr, r.Port = wire.Get32(numbers[:], 0), wire.Get16(numbers[:], 4)
	return r.Port != 0
}

// barred takes an address and a port, with the bars about them.
func (r *reader) barred() bool {
	var numbers [4]byte
	r.Start = r.at
	if !r.take("|1|") || !r.row(numbers[:], ".") || !r.take("|") || !r.number() || !r.take("|") {
		return false
	}
	r.End = r.at
	r.Addr = wire.Get32(numbers[:], 0)
	return true
}

// lone takes a port without an address.
func (r *reader) lone() bool {
	r.Start = r.at
	ok := r.number()
	r.End = r.at
	return ok
}

// row takes as many numbers from 0 to 255 as there is room for, with a mark between them.
func (r *reader) row(room []byte, mark string) bool {
	for i := range room {
		if i > 0 && !r.take(mark) {
			return false
		}
		n, ok := written.Byte(r.digits())
		if !ok {
			return false
		}
		room[i] = n
	}
	return true
}

// number takes a port.
func (r *reader) number() bool {
	n, ok := written.Port(r.digits())
	r.Port = n
	return ok
}
