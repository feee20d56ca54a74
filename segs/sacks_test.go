package segs_test

import (
	"reflect"
	"slices"
	"testing"

	"lychgate/api"
	"lychgate/segs"
)

// edgeOption is one of Kind 5 with the words 1, 2, .. and so many bytes.
func edgeOption(n int) api.Option {
	data := make([]byte, n)
	for i := 3; i < n; i += 4 {
		data[i] = byte(i/4 + 1)
	}
	return api.Option{Kind: 5, Data: data}
}

func TestP3_3Sacks(t *testing.T) {
	if got := segs.Sacks(sampleTcp()); !slices.Equal(got, []uint32{0x3039, 0xfffffffe}) {
		t.Errorf("%x", got)
	}
	for _, c := range []struct {
		name    string
		options []api.Option
		want    []uint32
	}{
		{"nil", nil, nil},
		{"none of Kind 5", []api.Option{{Kind: 1}, {Kind: 4, Data: make([]byte, 8)}, {Kind: 6, Data: make([]byte, 16)}}, nil},
		{"of 8 bytes", []api.Option{edgeOption(8)}, []uint32{1, 2}},
		{"of 16 bytes", []api.Option{edgeOption(16)}, []uint32{1, 2, 3, 4}},
		{"of 24 bytes", []api.Option{edgeOption(24)}, []uint32{1, 2, 3, 4, 5, 6}},
		{"of 32 bytes", []api.Option{edgeOption(32)}, []uint32{1, 2, 3, 4, 5, 6, 7, 8}},
		{"of 0 bytes", []api.Option{edgeOption(0)}, nil},
		{"of 4 bytes", []api.Option{edgeOption(4)}, nil},
		{"of 7 bytes", []api.Option{edgeOption(7)}, nil},
		{"of 9 bytes", []api.Option{edgeOption(9)}, nil},
		{"of 12 bytes", []api.Option{edgeOption(12)}, nil},
		{"of 28 bytes", []api.Option{edgeOption(28)}, nil},
		{"of 36 bytes", []api.Option{edgeOption(36)}, nil},
		{"of 40 bytes", []api.Option{edgeOption(40)}, nil},
		{"of 256 bytes", []api.Option{edgeOption(256)}, nil},
		{"the first of two", []api.Option{edgeOption(8), edgeOption(16)}, []uint32{1, 2}},
		{"behind one of another length", []api.Option{edgeOption(12), {Kind: 1}, edgeOption(16), edgeOption(8)}, []uint32{1, 2, 3, 4}},
	} {
		if got := segs.Sacks(api.Segment{Options: c.options, Data: []byte{5, 10}}); !slices.Equal(got, c.want) {
			t.Errorf("%s: %v", c.name, got)
		}
	}
}

func TestP3_3WithSacks(t *testing.T) {
	for _, c := range []struct {
		name  string
		bytes int
		edges []uint32
		want  []uint32
	}{
		{"none", 16, nil, []uint32{1, 2, 3, 4}},
		{"fewer", 16, []uint32{0xa1b2c3d4}, []uint32{0xa1b2c3d4, 2, 3, 4}},
		{"fewer, an odd number", 16, []uint32{9, 8, 7}, []uint32{9, 8, 7, 4}},
		{"as many", 16, []uint32{9, 8, 7, 6}, []uint32{9, 8, 7, 6}},
		{"more", 8, []uint32{9, 8, 7, 6}, []uint32{9, 8}},
		{"the most", 32, []uint32{9, 8, 7, 6, 5, 4, 3, 2, 1}, []uint32{9, 8, 7, 6, 5, 4, 3, 2}},
		{"far more", 24, make([]uint32, 1000), make([]uint32, 6)},
		{"no place", 12, []uint32{9}, nil},
	} {
		s := sampleTcp()
		s.Options = []api.Option{edgeOption(4), {Kind: 1}, edgeOption(c.bytes), edgeOption(8)}
		if c.want == nil {
			s.Options = s.Options[:3]
		}
		got := segs.WithSacks(s, c.edges...)
		if !slices.Equal(segs.Sacks(got), c.want) {
			t.Errorf("%s: %v", c.name, segs.Sacks(got))
		}
		if len(got.Options) != len(s.Options) {
			t.Fatalf("%s: %+v", c.name, got)
		}
		got.Options[2] = s.Options[2]
		if !segs.SameTcp(got, s) {
			t.Errorf("%s: all else is not as it was: %+v", c.name, got)
		}
	}
}

func TestP3_3WithSacksWhereThereAreNone(t *testing.T) {
	for _, s := range []api.Segment{{}, {Options: []api.Option{}}, {Seq: 7, Options: []api.Option{{Kind: 0, Data: []byte{1}}, {Kind: 1}}, Data: []byte{5}}} {
		if got := segs.WithSacks(s, 1, 2, 3); !segs.SameTcp(got, s) {
			t.Errorf("%+v became %+v", s, got)
		}
		if got := segs.WithSacks(s); !segs.SameTcp(got, s) {
			t.Errorf("%+v became %+v", s, got)
		}
	}
}

func TestP3_3WithSacksInTheFirstOption(t *testing.T) {
	got := segs.WithSacks(api.Segment{Options: []api.Option{edgeOption(8), {Kind: 1}}}, 9)
	want := api.Segment{Options: []api.Option{{Kind: 5, Data: []byte{0, 0, 0, 9, 0, 0, 0, 2}}, {Kind: 1}}}
	if !segs.SameTcp(got, want) {
		t.Errorf("%+v", got)
	}
}

// Its own edges put in their places are the same segment, and one that is built and parsed has those that were put.
func TestP3_3SacksOfWithSacks(t *testing.T) {
	s := sampleTcp()
	if got := segs.WithSacks(s, segs.Sacks(s)...); !reflect.DeepEqual(got, s) {
		t.Errorf("%+v", got)
	}
	got, e := segs.ParseTcp(builtTcp(t, outer(0, nil), segs.WithSacks(s, 0xffffffff, 0)))
	if e != api.OK || !slices.Equal(segs.Sacks(got), []uint32{0xffffffff, 0}) {
		t.Errorf("%+v, %d", got, e)
	}
}
