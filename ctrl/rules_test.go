package ctrl_test

import (
	"bytes"
	"reflect"
	"slices"
	"testing"

	"lychgate/api"
	"lychgate/ctrl"
)

func TestP1NilLists(t *testing.T) {
	for _, data := range [][]byte{nil, {}} {
		for proto := range 256 {
			p := api.Packet{Proto: byte(proto), Options: data, Data: data}
			ctrl.ParseIcmp(p)
			ctrl.ParseGre(p)
			builtIcmp(t, p, api.Message{Data: data})
			builtGre(t, p, api.Frame{Data: data})
		}
	}
}

// TestP1BytesBeyondAPacket: what is longer than a packet may be is read all the same, where the chapter names no error of it.
func TestP1BytesBeyondAPacket(t *testing.T) {
	data := make([]byte, 70000)
	data[69999] = 3
	b := resummed(slices.Concat(sampleIcmpBytes()[:8], data))
	want := sampleIcmp()
	want.Data = data
	if got, e := ctrl.ParseIcmp(outer(api.Icmp, b)); e != api.OK || !ctrl.SameIcmp(got, want) {
		t.Errorf("%d bytes, %d", len(got.Data), e)
	}
}

// TestP5LengthsDoNotGoRound: of 2^16 bytes more than a length tells, none is left out of the reckoning.
func TestP5LengthsDoNotGoRound(t *testing.T) {
	data := make([]byte, 65536)
	if _, e := ctrl.BuildGre(api.Packet{}, api.Frame{Data: data}); e != api.ErrLong {
		t.Errorf("BuildGre: %d", e)
	}
	if _, e := ctrl.BuildIcmp(api.Packet{}, api.Message{Data: data}); e != api.ErrLong {
		t.Errorf("BuildIcmp: %d", e)
	}
	if _, e := ctrl.ParseGre(outer(api.Gre, append([]byte{0x20, 0x01, 0x88, 0x0b, 0, 0, 0, 7}, data...))); e != api.ErrForm {
		t.Errorf("ParseGre: %d", e)
	}
}

// roomy is a list with spare room, and the whole of it.
func roomy(b []byte) (list, whole []byte) {
	whole = append(slices.Clone(b), 0xaa, 0xaa, 0xaa, 0xaa)
	return whole[:len(b)], whole
}

// building is a call that builds, the data that it is handed, and what it should make.
type building struct {
	data  []byte
	build func(p api.Packet, data []byte) api.Packet
	want  api.Packet
}

func buildings(t *testing.T) map[string]building {
	return map[string]building{
		"BuildIcmp": {sampleIcmp().Data, func(p api.Packet, data []byte) api.Packet {
			m := sampleIcmp()
			m.Data = data
			return builtIcmp(t, p, m)
		}, outer(api.Icmp, sampleIcmpBytes())},
		"BuildGre": {sampleGre().Data, func(p api.Packet, data []byte) api.Packet {
			f := sampleGre()
			f.Data = data
			return builtGre(t, p, f)
		}, outer(api.Gre, sampleGreBytes())},
	}
}

// TestP3Build writes over all of an answer, and then over all that was handed in.
func TestP3Build(t *testing.T) {
	for name, c := range buildings(t) {
		data, wholeData := roomy(c.data)
		p := outer(9, []byte{1})
		var wholeOptions []byte
		p.Options, wholeOptions = roomy(p.Options)
		was := slices.Concat(wholeData, wholeOptions)
		first, other := c.build(p, data), c.build(p, data)
		spoil(other.Data)
		spoil(other.Options)
		if now := slices.Concat(wholeData, wholeOptions); !bytes.Equal(now, was) {
			t.Errorf("%s: % x became % x", name, was, now)
		}
		clear(wholeData)
		clear(wholeOptions)
		if !reflect.DeepEqual(first, c.want) || p.Proto != 9 || !bytes.Equal(p.Data, []byte{1}) {
			t.Errorf("%s: %+v", name, first)
		}
	}
}

func TestP3Parse(t *testing.T) {
	icmp, wholeIcmp := roomy(sampleIcmpBytes())
	gre, wholeGre := roomy(sampleGreBytes())
	was := slices.Concat(wholeIcmp, wholeGre)
	m, _ := ctrl.ParseIcmp(outer(api.Icmp, icmp))
	f, _ := ctrl.ParseGre(outer(api.Gre, gre))
	otherMessage, _ := ctrl.ParseIcmp(outer(api.Icmp, icmp))
	otherFrame, _ := ctrl.ParseGre(outer(api.Gre, gre))
	spoil(otherMessage.Data)
	spoil(otherFrame.Data)
	if now := slices.Concat(wholeIcmp, wholeGre); !bytes.Equal(now, was) {
		t.Errorf("% x became % x", was, now)
	}
	clear(wholeIcmp)
	clear(wholeGre)
	if !ctrl.SameIcmp(m, sampleIcmp()) || !ctrl.SameGre(f, sampleGre()) {
		t.Errorf("%+v, %+v", m, f)
	}
}

func TestP6NothingIsKept(t *testing.T) {
	tell := func() []any {
		m, e := ctrl.ParseIcmp(outer(api.Icmp, sampleIcmpBytes()))
		f, g := ctrl.ParseGre(outer(api.Gre, sampleGreBytes()))
		p, h := ctrl.BuildIcmp(outer(0, nil), sampleIcmp())
		q, i := ctrl.BuildGre(outer(0, nil), sampleGre())
		return []any{m, e, f, g, p, h, q, i, ctrl.IsError(m), ctrl.IsEcho(m), ctrl.Asks(m), ctrl.SameIcmp(m, m), ctrl.SameGre(f, f)}
	}
	first := tell()
	ctrl.ParseIcmp(outer(api.Icmp, []byte{9}))
	ctrl.ParseGre(outer(api.Gre, make([]byte, 20)))
	spoil(builtGre(t, api.Packet{}, api.Frame{Call: 9}).Data)
	ctrl.BuildIcmp(api.Packet{Options: []byte{1}}, api.Message{})
	ctrl.BuildGre(api.Packet{}, api.Frame{Seq: 1})
	if again := tell(); !reflect.DeepEqual(first, again) {
		t.Errorf("%v, then %v", first, again)
	}
}
