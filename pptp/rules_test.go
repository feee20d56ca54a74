package pptp_test

import (
	"math/rand/v2"
	"reflect"
	"slices"
	"testing"

	"lychgate/api"
	"lychgate/pptp"
)

func TestP1Nil(t *testing.T) {
	for _, b := range [][]byte{nil, {}} {
		if m, e := pptp.Parse(b); e != api.ErrShort || m != (pptp.Message{}) {
			t.Errorf("%+v, %d", m, e)
		}
		if len(pptp.WithCall(b, 7)) != 0 || len(pptp.WithPeer(b, 7)) != 0 {
			t.Error("there are bytes")
		}
	}
}

// TestP1P2P15_1BytesOfAnyKind: whatever comes, it is answered as it is said over again, and with an error all else is zero.
func TestP1P2P15_1BytesOfAnyKind(t *testing.T) {
	r, told := chance(), map[api.Errno]int{}
	for range 100000 {
		b := some(r)
		want, wantError := parsed(b)
		m, e := pptp.Parse(b)
		if m != want || e != wantError {
			t.Fatalf("% x: %+v, %d, not %+v, %d", b, m, e, want, wantError)
		}
		told[e]++
		call, peer := -1, -1
		if e == api.OK {
			call, peer = places(m.Type)
		}
		v := uint16(r.Uint32())
		if got := pptp.WithCall(b, v); !slices.Equal(got, put(b, call, v)) {
			t.Fatalf("% x, WithCall %x: % x", b, v, got)
		}
		if got := pptp.WithPeer(b, v); !slices.Equal(got, put(b, peer, v)) {
			t.Fatalf("% x, WithPeer %x: % x", b, v, got)
		}
	}
	for _, e := range []api.Errno{api.OK, api.ErrShort, api.ErrForm, api.ErrKind} {
		if told[e] < 1000 {
			t.Errorf("%d was told %d times", e, told[e])
		}
	}
}

// TestP2P15_1ErrorsInTheirOrder: of several the first one is told.
func TestP2P15_1ErrorsInTheirOrder(t *testing.T) {
	wrongHead := func(b []byte) []byte { b[4] = 0; return b }
	for _, x := range []struct {
		what string
		b    []byte
		want api.Errno
	}{
		{"short, and all wrong", make([]byte, 11), api.ErrShort},
		{"a wrong head, and another type", wrongHead(headed(9, 32)), api.ErrForm},
		{"a wrong length, and another type", headed(9, 32)[:31], api.ErrForm},
		{"another type, of no one's size", headed(9, 33), api.ErrKind},
		{"a right type, of another one's size", headed(8, 16), api.ErrForm},
	} {
		if m, e := pptp.Parse(x.b); e != x.want || m != (pptp.Message{}) {
			t.Errorf("%s: %+v, %d, not %d", x.what, m, e, x.want)
		}
	}
}

// spare is a copy of bytes with room behind, in which something stands.
func spare(b []byte) []byte {
	return append(slices.Clone(b), 0x55, 0x66, 0x77)[:len(b)]
}

func behind(b []byte) []byte {
	return b[len(b) : len(b)+3]
}

// TestP3Lists: what is handed in stays as it is, with the room behind it, and what is answered lies nowhere in it.
func TestP3Lists(t *testing.T) {
	all := [][]byte{{1, 2, 3}, headed(9, 32), headed(8, 16)}
	for _, x := range types {
		all = append(all, message(x.typ))
	}
	for _, was := range all {
		b := spare(was)
		pptp.Parse(b)
		for _, change := range []func([]byte, uint16) []byte{pptp.WithCall, pptp.WithPeer} {
			first, other := change(b, 0x0102), change(b, 0x0102)
			kept := slices.Clone(first)
			if !slices.Equal(b, was) || !slices.Equal(behind(b), []byte{0x55, 0x66, 0x77}) {
				t.Fatalf("% x has become % x, % x", was, b, behind(b))
			}
			other = other[:cap(other)]
			for i := range other {
				other[i] ^= 0xff
			}
			if !slices.Equal(b, was) || !slices.Equal(behind(b), []byte{0x55, 0x66, 0x77}) || !slices.Equal(first, kept) {
				t.Fatalf("% x: what is written over an answer is seen", was)
			}
			for i := range b {
				b[i] ^= 0xff
			}
			if !slices.Equal(first, kept) {
				t.Fatalf("% x: what is written over what was handed in is seen", was)
			}
			b = spare(was)
		}
	}
}

// TestP6NothingIsKept: the same is told again, whatever was asked for in between.
func TestP6NothingIsKept(t *testing.T) {
	tell := func(r *rand.Rand) (all []any) {
		for range 200 {
			b := some(r)
			m, e := pptp.Parse(b)
			all = append(all, m, e, pptp.WithCall(b, 5), pptp.WithPeer(b, 6), pptp.Size(r.IntN(20)))
		}
		return all
	}
	first := tell(chance())
	tell(rand.New(rand.NewPCG(1, 2)))
	if again := tell(chance()); !reflect.DeepEqual(first, again) {
		t.Error("it is told otherwise")
	}
}

// TestP15_2AllElseIsAsItWas: with another call every other byte, and all else that Parse tells, stays.
func TestP15_2AllElseIsAsItWas(t *testing.T) {
	r := chance()
	for range 20000 {
		b, v := some(r), uint16(r.Uint32())
		was, e := pptp.Parse(b)
		if e != api.OK {
			continue
		}
		call, e := pptp.Parse(pptp.WithCall(b, v))
		want := was
		if was.Type != pptp.Link {
			want.Call = v
		}
		if call != want || e != api.OK {
			t.Fatalf("%+v: WithCall %d: %+v, %d", was, v, call, e)
		}
		peer, e := pptp.Parse(pptp.WithPeer(b, v))
		want = was
		if was.Type == pptp.Link || was.Type == pptp.Reply {
			want.Peer = v
		}
		if peer != want || e != api.OK {
			t.Fatalf("%+v: WithPeer %d: %+v, %d", was, v, peer, e)
		}
	}
}

func TestP15_3WithItsOwn(t *testing.T) {
	r := chance()
	for range 20000 {
		b := some(r)
		m, e := pptp.Parse(b)
		if e != api.OK {
			continue
		}
		if got := pptp.WithCall(b, m.Call); !slices.Equal(got, b) {
			t.Fatalf("% x becomes % x", b, got)
		}
		if got := pptp.WithPeer(b, m.Peer); !slices.Equal(got, b) {
			t.Fatalf("% x becomes % x", b, got)
		}
		if got := pptp.WithCall(pptp.WithCall(b, m.Call+1), m.Call); !slices.Equal(got, b) {
			t.Fatalf("% x: there and back % x", b, got)
		}
		if got := pptp.WithPeer(pptp.WithPeer(b, m.Peer+1), m.Peer); !slices.Equal(got, b) {
			t.Fatalf("% x: there and back % x", b, got)
		}
	}
}
