package seqadj

import (
	"iter"

	"lychgate/wire"
)

// span is bytes of a stream: from start on, up to end and without it. All of it goes round.
type span struct {
	start, end uint32
}

func (s span) length() int {
	return int(s.end - s.start)
}

// part is bytes that are replaced: where they were, and where the text is that stands in their place. What lies behind
// it is moved by as much as its ends are apart, for its is has in it what the parts ahead have moved already.
type part struct {
	was, is span
	text    []byte
}

// behind tells whether a number is behind another one.
func behind(a, b uint32) bool {
	return wire.Ahead(a, b) > 0
}

// passed tells whether a number lies ahead of the end of the last part.
func (s *Stream) passed(start uint32) bool {
	last := len(s.parts) - 1
	return last >= 0 && wire.Ahead(start, s.parts[last].was.end) < 0
}

// shift is how far what lies behind all parts is moved.
func (s *Stream) shift() uint32 {
	last := len(s.parts) - 1
	if last < 0 {
		return 0
	}
	return s.parts[last].is.end - s.parts[last].was.end
}

// fromLast yields the parts, the last one first.
func (s *Stream) fromLast() iter.Seq[part] {
	return func(yield func(part) bool) {
		for i := len(s.parts) - 1; i >= 0; i-- {
			if !yield(s.parts[i]) {
				return
			}
		}
	}
}

// across is where a number goes, by the last part that does not begin behind it: there and back are the same, but for
// which of a part's spans the number is held against.
func (s *Stream) across(n uint32, way func(p part) (from, to span)) uint32 {
	if s == nil {
		return 0
	}
	there := n
search:
	for p := range s.fromLast() {
		from, to := way(p)
		switch {
		case behind(from.start, n):
			// One of the parts ahead has it, or none.
		case behind(from.end, n):
			there = to.start
			break search
		default:
			there = n + (to.end - from.end)
			break search
		}
	}
	return there
}
