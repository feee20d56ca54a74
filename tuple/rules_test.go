package tuple_test

import (
	"bytes"
	"reflect"
	"slices"
	"testing"

	"lychgate/api"
	"lychgate/tuple"
)

func TestP1NilLists(t *testing.T) {
	for _, data := range [][]byte{nil, {}} {
		for proto := range 256 {
			p := api.Packet{Proto: byte(proto), Options: data, Data: data}
			want := api.ErrKind
			if slices.Contains([]int{1, 6, 17, 47}, proto) {
				want = api.ErrShort
			}
			if got, e := tuple.Of(p); e != want || got != (api.Tuple{}) {
				t.Errorf("Of protocol %d: %+v, %d", proto, got, e)
			}
			if proto != 1 {
				want = api.ErrKind
			}
			if got, e := tuple.Quoted(p); e != want || got != (api.Tuple{}) {
				t.Errorf("Quoted of protocol %d: %+v, %d", proto, got, e)
			}
		}
	}
}

// TestP1BytesBeyondAPacket: what is longer than a packet may be is read all the same, where the chapters name no error of it.
func TestP1BytesBeyondAPacket(t *testing.T) {
	s := samples()["a datagram"]
	p := quoting(t, s.proto, s.bytes)
	p.Data = append(p.Data, make([]byte, 70001)...)
	if got, e := tuple.Quoted(p); e != api.OK || got != s.tuple() {
		t.Errorf("%+v, %d", got, e)
	}
	echo := outer(1, append(slices.Clone(samples()["an echo"].bytes), make([]byte, 70001)...))
	if got, e := tuple.Of(echo); e != api.OK || got != samples()["an echo"].tuple() {
		t.Errorf("%+v, %d", got, e)
	}
}

// TestP3HandedInStaysAsItIs looks at the spare room behind the lists too.
func TestP3HandedInStaysAsItIs(t *testing.T) {
	for name, s := range samples() {
		for _, p := range []api.Packet{outer(s.proto, s.bytes), quoting(t, s.proto, s.bytes)} {
			whole := append(slices.Clone(p.Data), 0xaa, 0xaa, 0xaa, 0xaa)
			options := append(slices.Clone(p.Options), 0xaa, 0xaa)
			p.Data, p.Options = whole[:len(p.Data)], options[:len(p.Options)]
			was, wasOptions := slices.Clone(whole), slices.Clone(options)
			tuple.Of(p)
			tuple.Quoted(p)
			if !bytes.Equal(whole, was) || !bytes.Equal(options, wasOptions) {
				t.Errorf("%s: % x became % x", name, was, whole)
			}
		}
	}
}

// TestP3ToldIsNotKept: what is written over a packet afterwards changes nothing of what was told, or will be.
func TestP3ToldIsNotKept(t *testing.T) {
	for name, s := range samples() {
		p := outer(s.proto, slices.Clone(s.bytes))
		first, _ := tuple.Of(p)
		spoil(p.Data)
		tuple.Of(p)
		again, e := tuple.Of(outer(s.proto, s.bytes))
		if first != s.tuple() || again != first || e != api.OK {
			t.Errorf("%s: %+v, then %+v, %d", name, first, again, e)
		}
	}
}

func TestP6NothingIsKept(t *testing.T) {
	tell := func() (all []any) {
		for _, name := range []string{"a segment", "a datagram", "an echo", "a bare frame"} {
			s := samples()[name]
			k, e := tuple.Of(outer(s.proto, s.bytes))
			q, f := tuple.Quoted(quoting(t, s.proto, s.bytes))
			all = append(all, k, e, q, f, tuple.Reverse(k), tuple.Key(k), tuple.Hash(k))
		}
		return all
	}
	first := tell()
	tuple.Of(outer(6, []byte{9}))
	tuple.Of(outer(99, nil))
	tuple.Quoted(message(t, 3, 0, make([]byte, 40)))
	tuple.Hash(api.Tuple{Proto: 47, SrcPort: 9, DstPort: 9})
	if again := tell(); !reflect.DeepEqual(first, again) {
		t.Errorf("%v, then %v", first, again)
	}
}
