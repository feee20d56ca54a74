package gate

import (
	"testing"

	"lychgate/api"
	"lychgate/ipv4"
	"lychgate/segs"
)

// TestP16_3CantBeBuilt: what a helper made is left, if it can't be built. No helper makes such a thing today, so that it is made
// here by hand.
func TestP16_3CantBeBuilt(t *testing.T) {
	p, e := segs.BuildTcp(api.Packet{Ttl: 9, Src: 1, Dst: 2}, api.Segment{Src: 3, Dst: 4, Data: []byte("abc")})
	was, f := segs.ParseTcp(p)
	if e != api.OK || f != api.OK {
		t.Fatal(e, f)
	}
	is := was
	is.Data = make([]byte, api.MaxPacket-39)
	if q := withSegment(p, was, is); !ipv4.Same(p, q) {
		t.Errorf("of too many bytes: %+v", q)
	}
	is.Data = is.Data[1:]
	if q := withSegment(p, was, is); len(q.Data) != api.MaxPacket-20 {
		t.Errorf("of as many as may be: %d", len(q.Data))
	}
	is.Data, is.Options = was.Data, []api.Option{{Kind: 0}}
	if q := withSegment(p, was, is); !ipv4.Same(p, q) {
		t.Errorf("of wrong options: %+v", q)
	}
	if q := withSegment(p, was, was); !ipv4.Same(p, q) {
		t.Errorf("of nothing new: %+v", q)
	}

	p, _ = segs.BuildUdp(api.Packet{Ttl: 9, Src: 1, Dst: 2}, api.Datagram{Src: 3, Dst: 4, Data: []byte("abc")})
	d := api.Datagram{Src: 3, Dst: 4, Data: make([]byte, api.MaxPacket-27)}
	if q := withDatagram(p, d); !ipv4.Same(p, q) {
		t.Errorf("of too many bytes: %+v", q)
	}
	d.Data = d.Data[1:]
	if q := withDatagram(p, d); len(q.Data) != api.MaxPacket-20 {
		t.Errorf("of as many as may be: %d", len(q.Data))
	}
}
