package segs

import (
	"bytes"
	"iter"
	"slices"

	"lychgate/api"
)

const (
	maxOptions = 40
	edgeSize   = 4
	prefixSize = 2 // Kind and length
)

// Kinds of options.
const (
	endKind  = 0
	fillKind = 1 // one byte, without a length
	sackKind = 5
)

// walk yields the options of a header's bytes, in memory of their own; a wrong one is told by false, and is the last.
func walk(b []byte) iter.Seq2[api.Option, bool] {
	return func(yield func(api.Option, bool) bool) {
		for at := 0; at < len(b); {
			rest, size := b[at:], 1
			switch rest[0] {
			case endKind:
				if !blank(rest) {
					goto wrong
				}
				return
			case fillKind:
			default:
				if len(rest) < prefixSize {
					goto wrong
				}
				size = int(rest[1])
				if size < prefixSize || size > len(rest) {
					goto wrong
				}
			}
			if !yield(optionOf(rest[:size]), true) {
				return
			}
			at += size
		}
		return
	wrong:
		yield(api.Option{}, false)
	}
}

// optionOf is the option of just these bytes.
func optionOf(b []byte) api.Option {
	if b[0] == fillKind {
		return api.Option{Kind: fillKind}
	}
	return api.Option{Kind: b[0], Data: bytes.Clone(b[prefixSize:])}
}

func blank(b []byte) bool {
	return !slices.ContainsFunc(b, func(v byte) bool { return v != 0 })
}

func readOptions(b []byte) ([]api.Option, bool) {
	var options []api.Option
	for o, ok := range walk(b) {
		if !ok {
			return nil, false
		}
		options = append(options, o)
	}
	return options, true
}

// optionBytes are the bytes of options, up to the next word; false, if these are not right.
func optionBytes(options []api.Option) ([]byte, bool) {
	var h header
	for _, o := range options {
		// The room is asked for ahead of the putting, so that a length never has more than its one byte.
		if !rightOption(o) || optionSize(o) > maxOptions-len(h.bytes) {
			return nil, false
		}
		h.put(o.Kind)
		if o.Kind != fillKind {
			h.put(byte(optionSize(o)))
			h.put(o.Data...)
		}
	}
	for len(h.bytes)%wordSize != 0 {
		h.put(endKind)
	}
	return h.bytes, true
}

func rightOption(o api.Option) bool {
	return o.Kind != endKind && (o.Kind != fillKind || len(o.Data) == 0)
}

func optionSize(o api.Option) int {
	if o.Kind == fillKind {
		return 1
	}
	return prefixSize + len(o.Data)
}

func ownOptions(options []api.Option) []api.Option {
	own := slices.Clone(options)
	for i := range own {
		own[i].Data = bytes.Clone(own[i].Data)
	}
	return own
}

func sameOption(a, b api.Option) bool {
	return a.Kind == b.Kind && bytes.Equal(a.Data, b.Data)
}

// tellsEdges takes one to four pairs of edges: no more have room in a header.
func tellsEdges(o api.Option) bool {
	pairs := len(o.Data) / (2 * edgeSize)
	return o.Kind == sackKind && len(o.Data)%(2*edgeSize) == 0 && pairs >= 1 && pairs <= 4
}
