package segs_test

import (
	"bytes"
	"reflect"
	"slices"
	"testing"

	"lychgate/api"
	"lychgate/segs"
)

func TestP1NilLists(t *testing.T) {
	for _, data := range [][]byte{nil, {}} {
		for proto := range 256 {
			p := api.Packet{Proto: byte(proto), Options: data, Data: data}
			segs.ParseTcp(p)
			segs.ParseUdp(p)
			builtTcp(t, p, api.Segment{Options: []api.Option{}, Data: data})
			builtUdp(t, p, api.Datagram{Data: data})
		}
	}
	var none []uint32
	if got := segs.WithSacks(api.Segment{}, none...); !segs.SameTcp(got, api.Segment{}) || len(segs.Sacks(got)) != 0 {
		t.Errorf("%+v", got)
	}
}

// TestP1BytesBeyondAPacket: what is longer than a packet may be is read all the same, where the chapter names no error of it.
func TestP1BytesBeyondAPacket(t *testing.T) {
	data := make([]byte, 70000)
	data[69999] = 3
	want := sampleTcp()
	want.Options, want.Data = nil, data
	if got, e := segs.ParseTcp(tcpPacket(nil, data)); e != api.OK || !segs.SameTcp(got, want) {
		t.Errorf("%d bytes, %d", len(got.Data), e)
	}
}

// TestP5LengthsDoNotGoRound: of 2^8 or 2^16 bytes more than a length tells, none is left out of the reckoning.
func TestP5LengthsDoNotGoRound(t *testing.T) {
	data := make([]byte, 65536)
	if _, e := segs.BuildTcp(api.Packet{}, api.Segment{Data: data}); e != api.ErrLong {
		t.Errorf("BuildTcp: %d", e)
	}
	if _, e := segs.BuildTcp(api.Packet{}, api.Segment{Options: []api.Option{{Kind: 2, Data: data[:256]}}}); e != api.ErrForm {
		t.Errorf("BuildTcp with an option: %d", e)
	}
	if _, e := segs.BuildUdp(api.Packet{}, api.Datagram{Data: data}); e != api.ErrLong {
		t.Errorf("BuildUdp: %d", e)
	}
	if _, e := segs.ParseUdp(outer(api.Udp, append([]byte{0, 0, 0, 0, 0, 8, 0, 0}, data...))); e != api.ErrForm {
		t.Errorf("ParseUdp: %d", e)
	}
}

// roomy is a list with spare room, and the whole of it.
func roomy(b []byte) (list, whole []byte) {
	whole = append(slices.Clone(b), 0xaa, 0xaa, 0xaa, 0xaa)
	return whole[:len(b)], whole
}

// roomyTcp is the sample with spare room behind each of its lists; all of them are told.
func roomyTcp() (api.Segment, [][]byte) {
	s := sampleTcp()
	var all [][]byte
	s.Options = append(s.Options, api.Option{Kind: 77, Data: []byte{7}})[:5]
	for i := range s.Options {
		var whole []byte
		s.Options[i].Data, whole = roomy(s.Options[i].Data)
		all = append(all, whole)
	}
	var whole []byte
	s.Data, whole = roomy(s.Data)
	return s, append(all, whole, s.Options[:6][5].Data)
}

func spoilTcp(s api.Segment) {
	for _, o := range s.Options {
		spoil(o.Data)
	}
	options := s.Options[:cap(s.Options)]
	for i := range options {
		options[i] = api.Option{Kind: 99}
	}
	spoil(s.Data)
}

func cloned(lists [][]byte) [][]byte {
	var own [][]byte
	for _, b := range lists {
		own = append(own, slices.Clone(b))
	}
	return own
}

// TestP3SegmentHandedInStaysAsItIs writes over all of the answers.
func TestP3SegmentHandedInStaysAsItIs(t *testing.T) {
	s, lists := roomyTcp()
	p := outer(9, []byte{1})
	var options []byte
	p.Options, options = roomy(p.Options)
	lists = append(lists, options)
	was := cloned(lists)
	edges := []uint32{1, 2, 3, 4}
	q := builtTcp(t, p, s)
	spoil(q.Options)
	spoil(q.Data)
	spoilTcp(segs.WithSacks(s, edges[:2]...))
	clear(segs.Sacks(s))
	segs.SameTcp(s, s)
	if !reflect.DeepEqual(lists, was) || !slices.Equal(edges, []uint32{1, 2, 3, 4}) {
		t.Errorf("% x became % x", was, lists)
	}
	if !segs.SameTcp(s, sampleTcp()) || s.Options[:6][5].Kind != 77 || p.Proto != 9 || !bytes.Equal(p.Data, []byte{1}) {
		t.Errorf("%+v, %+v", s, p)
	}
}

func TestP3SegmentAnsweredIsTheCallers(t *testing.T) {
	s, lists := roomyTcp()
	p := outer(9, nil)
	q := builtTcp(t, p, s)
	with, edges := segs.WithSacks(s, 0x3039), segs.Sacks(s)
	spoil(builtTcp(t, p, s).Data)
	spoilTcp(segs.WithSacks(s, 5))
	for _, b := range lists {
		clear(b)
	}
	clear(s.Options)
	clear(p.Options)
	if !reflect.DeepEqual(q, outer(api.Tcp, sampleTcpBytes())) {
		t.Errorf("%+v", q)
	}
	if !segs.SameTcp(with, sampleTcp()) || !slices.Equal(edges, []uint32{0x3039, 0xfffffffe}) {
		t.Errorf("%+v, %x", with, edges)
	}
}

func TestP3ParsedSegmentIsTheCallers(t *testing.T) {
	data, whole := roomy(sampleTcpBytes())
	was := slices.Clone(whole)
	p := outer(api.Tcp, data)
	got, _ := segs.ParseTcp(p)
	other, _ := segs.ParseTcp(p)
	spoilTcp(other)
	if !bytes.Equal(whole, was) {
		t.Errorf("% x became % x", was, whole)
	}
	clear(whole)
	if !segs.SameTcp(got, sampleTcp()) {
		t.Errorf("%+v", got)
	}
}

// No list of an answer lies in another one of it.
func TestP3ListsOfOneSegmentAreApart(t *testing.T) {
	read, _ := segs.ParseTcp(outer(api.Tcp, sampleTcpBytes()))
	for name, s := range map[string]api.Segment{"read": read, "WithSacks": segs.WithSacks(sampleTcp(), 0x3039)} {
		for i := range s.Options {
			spoil(s.Options[i].Data)
			s.Options[i].Data = sampleTcp().Options[i].Data
			if !segs.SameTcp(s, sampleTcp()) {
				t.Errorf("%s: option %d lies in another list: %+v", name, i, s)
			}
		}
		spoil(s.Data)
		s.Data = sampleTcp().Data
		if !segs.SameTcp(s, sampleTcp()) {
			t.Errorf("%s: Data lie in another list: %+v", name, s)
		}
	}
}

func TestP3OptionsWithOneListAreApart(t *testing.T) {
	one := make([]byte, 8)
	s := segs.WithSacks(api.Segment{Options: []api.Option{{Kind: 9, Data: one}, {Kind: 5, Data: one}}, Data: one}, 7)
	spoil(s.Options[1].Data)
	spoil(s.Data)
	if !bytes.Equal(s.Options[0].Data, make([]byte, 8)) || !bytes.Equal(one, make([]byte, 8)) {
		t.Errorf("%+v", s)
	}
}

func TestP3Datagrams(t *testing.T) {
	d := sampleUdp()
	var whole, options, bytesRead []byte
	d.Data, whole = roomy(d.Data)
	p := outer(9, []byte{1})
	p.Options, options = roomy(p.Options)
	q, other := builtUdp(t, p, d), builtUdp(t, p, d)
	spoil(other.Data)
	spoil(other.Options)
	if !bytes.Equal(whole, []byte("sip\xaa\xaa\xaa\xaa")) || !bytes.Equal(options, []byte{1, 2, 3, 4, 0xaa, 0xaa, 0xaa, 0xaa}) {
		t.Errorf("% x, % x", whole, options)
	}
	clear(whole)
	clear(options)
	if !reflect.DeepEqual(q, outer(api.Udp, sampleUdpBytes())) {
		t.Errorf("%+v", q)
	}
	q.Data, bytesRead = roomy(q.Data)
	was := slices.Clone(bytesRead)
	got, _ := segs.ParseUdp(q)
	again, _ := segs.ParseUdp(q)
	spoil(again.Data)
	if !bytes.Equal(bytesRead, was) {
		t.Errorf("% x became % x", was, bytesRead)
	}
	clear(bytesRead)
	if !segs.SameUdp(got, sampleUdp()) {
		t.Errorf("%+v", got)
	}
}

func TestP6NothingIsKept(t *testing.T) {
	tell := func() []any {
		s, e := segs.ParseTcp(outer(api.Tcp, sampleTcpBytes()))
		d, f := segs.ParseUdp(outer(api.Udp, sampleUdpBytes()))
		p, g := segs.BuildTcp(outer(0, nil), sampleTcp())
		q, h := segs.BuildUdp(outer(0, nil), sampleUdp())
		return []any{s, e, d, f, p, g, q, h, segs.Sacks(s), segs.WithSacks(s, 3), segs.SameTcp(s, s), segs.SameUdp(d, d)}
	}
	first := tell()
	segs.ParseTcp(tcpPacket([]byte{2, 0, 0, 0}, nil))
	segs.ParseUdp(outer(api.Udp, []byte{9}))
	segs.BuildTcp(api.Packet{}, api.Segment{Options: []api.Option{{Kind: 1}, {}}})
	segs.BuildUdp(api.Packet{Options: []byte{1}}, api.Datagram{})
	segs.WithSacks(sampleTcp(), 9, 9)
	if again := tell(); !reflect.DeepEqual(first, again) {
		t.Errorf("%v, then %v", first, again)
	}
}
