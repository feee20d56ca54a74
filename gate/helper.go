package gate

import (
	"lychgate/api"
	"lychgate/segs"
)

// Ports by which it is known what a flow carries.
const (
	ftpPort  = 21
	pptpPort = 1723
	sipPort  = 5060
)

// How long what a helper expects may take to come.
const (
	ftpTime = 60
	sipTime = 120
)

// helper changes what the packets of one flow carry, and keeps what it must know of that flow.
type helper interface {
	// change is a packet that has its new tuple already, as it goes on.
	change(x passage, p api.Packet) api.Packet
	fork() helper
}

// passage is a packet on its way through a flow: was is its tuple as it came, is that which it goes on with.
type passage struct {
	arrival
	*flow
	back    bool
	was, is api.Tuple
}

func (x passage) inside() bool {
	return x.side == api.Inside
}

// helperOf is the helper of a flow that begins.
func helperOf(f Flow) helper {
	server := f.Reply.SrcPort
	switch f.Orig.Proto {
	case api.Tcp:
		if server == ftpPort {
			return newFtpHelper()
		}
		if server == pptpPort && f.Side == api.Inside {
			return &pptpHelper{}
		}
	case api.Udp:
		if server == sipPort || f.Orig.SrcPort == sipPort {
			return &sipHelper{}
		}
	}
	return noHelper{}
}

// noHelper leaves packets as they are.
type noHelper struct{}

func (noHelper) change(_ passage, p api.Packet) api.Packet { return p }

func (h noHelper) fork() helper { return h }

// withSegment is a packet with another segment. One that is not changed is not built anew: its header may have more words than
// its options need, and they stay.
func withSegment(p api.Packet, was, is api.Segment) api.Packet {
	if segs.SameTcp(was, is) {
		return p
	}
	q, e := segs.BuildTcp(p, is)
	return built(p, q, e)
}

// withDatagram is a packet with another datagram.
func withDatagram(p api.Packet, d api.Datagram) api.Packet {
	q, e := segs.BuildUdp(p, d)
	return built(p, q, e)
}

// built is what was made of a packet; the packet itself, if it could not be.
func built(was, is api.Packet, e api.Errno) api.Packet {
	if e != api.OK {
		return was
	}
	return is
}
