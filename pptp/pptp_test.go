package pptp_test

import (
	"slices"
	"testing"

	"lychgate/api"
	"lychgate/pptp"
)

func TestP15_1Size(t *testing.T) {
	for typ := -300; typ < 70000; typ++ {
		if got := pptp.Size(typ); got != sizeOf(typ) {
			t.Errorf("%d: %d", typ, got)
		}
	}
	for _, typ := range []int{-1 << 63, 1<<63 - 1, 1<<32 + 7, 1<<16 + 8} {
		if got := pptp.Size(typ); got != 0 {
			t.Errorf("%d: %d", typ, got)
		}
	}
	if pptp.Request != 7 || pptp.Reply != 8 || pptp.Clear != 12 || pptp.Notify != 13 || pptp.Link != 15 {
		t.Error("types are others")
	}
}

func TestP15_1Parse(t *testing.T) {
	for _, x := range []struct {
		typ  int
		want pptp.Message
	}{
		{7, pptp.Message{Type: pptp.Request, Call: 0x7071}},
		{8, pptp.Message{Type: pptp.Reply, Call: 0x7071, Peer: 0x7273, Result: 0x74}},
		{12, pptp.Message{Type: pptp.Clear, Call: 0x7071}},
		{13, pptp.Message{Type: pptp.Notify, Call: 0x7071}},
		{15, pptp.Message{Type: pptp.Link, Peer: 0x7071}},
	} {
		if m, e := pptp.Parse(message(x.typ)); m != x.want || e != api.OK {
			t.Errorf("%d: %+v, %d, not %+v", x.typ, m, e, x.want)
		}
	}
}

// TestP15_1Example is that of the chapter.
func TestP15_1Example(t *testing.T) {
	b := []byte{0, 0x10, 0, 1, 0x1a, 0x2b, 0x3c, 0x4d, 0, 0x0c, 0, 0, 1, 2, 0, 0}
	if m, e := pptp.Parse(b); m != (pptp.Message{Type: pptp.Clear, Call: 0x0102}) || e != api.OK {
		t.Errorf("%+v, %d", m, e)
	}
	if got := pptp.WithCall(b, 0x0304); !slices.Equal(got, []byte{0, 0x10, 0, 1, 0x1a, 0x2b, 0x3c, 0x4d, 0, 0x0c, 0, 0, 3, 4, 0, 0}) {
		t.Errorf("% x", got)
	}
}

func refused(t *testing.T, what string, b []byte, want api.Errno) {
	t.Helper()
	if m, e := pptp.Parse(b); e != want || m != (pptp.Message{}) {
		t.Errorf("%s: %+v, %d, not %d", what, m, e, want)
	}
	for _, got := range [][]byte{pptp.WithCall(b, 0xeeee), pptp.WithPeer(b, 0xeeee)} {
		if !slices.Equal(got, b) {
			t.Errorf("%s: % x becomes % x", what, b, got)
		}
	}
}

func TestP15_1Short(t *testing.T) {
	for _, x := range types {
		for n := range 12 {
			refused(t, "short", message(x.typ)[:n], api.ErrShort)
		}
	}
}

// TestP15_1Lengths: the length is how many bytes there are, and these are as many as the type has.
func TestP15_1Lengths(t *testing.T) {
	for _, x := range types {
		b := message(x.typ)
		for n := 12; n < x.size; n++ {
			refused(t, "cut off", b[:n], api.ErrForm)
			refused(t, "of another size", headed(x.typ, n), api.ErrForm)
		}
		refused(t, "one more", append(b, 0), api.ErrForm)
		refused(t, "twice", append(b, b...), api.ErrForm)
		refused(t, "of a greater size", headed(x.typ, x.size+1), api.ErrForm)
		refused(t, "of the greatest size", headed(x.typ, 65535), api.ErrForm)
	}
}

// TestP15_1BeyondTwoBytes: of more bytes than two can tell the length is wrong, also where it would go round; and that comes
// ahead of another type.
func TestP15_1BeyondTwoBytes(t *testing.T) {
	for _, more := range []int{0, 12, 16, 24, 32, 148, 168} {
		for _, typ := range []int{7, 8, 12, 13, 15, 1} {
			refused(t, "gone round", headed(typ, 65536+more), api.ErrForm)
		}
	}
	refused(t, "of another type", headed(1, 65535), api.ErrKind)
}

// TestP15_1Heads goes through every bit of the first twelve bytes.
func TestP15_1Heads(t *testing.T) {
	for _, x := range types {
		for bit := range 96 {
			b := message(x.typ)
			b[bit/8] ^= 1 << (bit % 8)
			want := api.ErrForm
			if bit/8 == 8 || bit/8 == 9 {
				_, want = parsed(b)
			}
			if want == api.OK {
				t.Fatal("one bit makes another right message")
			}
			refused(t, "a bit", b, want)
		}
	}
}

func TestP15_1Types(t *testing.T) {
	for typ := range 65536 {
		if sizeOf(typ) == 0 {
			if m, e := pptp.Parse(headed(typ, 32)); e != api.ErrKind || m != (pptp.Message{}) {
				t.Fatalf("%d: %+v, %d", typ, m, e)
			}
		}
	}
	for _, x := range types {
		refused(t, "of the higher byte", headed(x.typ<<8, x.size), api.ErrKind)
	}
}

func TestP15_1WithCallWithPeer(t *testing.T) {
	for _, x := range types {
		b := message(x.typ)
		call, peer := places(x.typ)
		for _, v := range []uint16{0, 1, 0xff, 0x100, 0x1234, 0xffff} {
			if got := pptp.WithCall(b, v); !slices.Equal(got, put(b, call, v)) {
				t.Errorf("WithCall of %d: % x", x.typ, got)
			}
			if got := pptp.WithPeer(b, v); !slices.Equal(got, put(b, peer, v)) {
				t.Errorf("WithPeer of %d: % x", x.typ, got)
			}
		}
	}
}
