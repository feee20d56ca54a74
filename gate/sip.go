package gate

import (
	"slices"

	"lychgate/api"
	"lychgate/segs"
	"lychgate/sip"
)

const (
	maxMedia = 2
	lastPort = 65535 // behind it there is none for the other half of a medium
)

// sipHelper tells the public address in messages, and has those media of which it told the ports.
type sipHelper struct {
	media []sip.Media
}

func (h *sipHelper) fork() helper {
	return &sipHelper{media: slices.Clone(h.media)}
}

func (h *sipHelper) change(x passage, p api.Packet) api.Packet {
	d, _ := segs.ParseUdp(p) // it has a tuple
	m, e := sip.Parse(d.Data)
	if !x.inside() || e != api.OK {
		return p
	}
	host := x.was.Src
	for _, port := range sip.Ports(m, host) {
		h.expect(x, port)
	}
	d.Data, _ = sip.Build(sip.Rewrite(m, host, x.is.Src, x.was.SrcPort, x.is.SrcPort, h.media...)) // it is right
	return withDatagram(p, d)
}

// expect lets both flows of a medium be expected, at numbers of their own; neither, if one can't be.
func (h *sipHelper) expect(x passage, port uint16) {
	known := slices.ContainsFunc(h.media, func(m sip.Media) bool { return m.Was == port })
	if known || len(h.media) >= maxMedia || port >= lastPort {
		return
	}
	even, next, ok := x.pair(source{api.Udp, x.is.Src}, port)
	if !ok {
		return
	}
	if !x.expect(x.medium(even, port), x.medium(next, port+1)) {
		x.give(even, next)
		return
	}
	h.media = append(h.media, sip.Media{Was: port, Is: even.n})
}

// medium is a flow that may come from anywhere to a number, to be handed on to a port of the host.
func (x passage) medium(at number, port uint16) api.Expect {
	return api.Expect{
		Proto: at.proto, Dst: at.addr, DstPort: at.n,
		Host: x.was.Src, HostPort: port, Master: x.Id, Deadline: x.now + sipTime,
	}
}
