package mangle

import (
	"lychgate/api"
	"lychgate/wire"
)

// Where parts stand in a unit.
const (
	atSrcPort = 0 // of a segment, and of a datagram
	atDstPort = 2
	atNumber  = 4 // of a message
	atCall    = 6 // of a frame
)

// Where check sums stand in a unit.
const (
	atTcpSum  = 16
	atUdpSum  = 6
	atIcmpSum = 2
)

// unit is a segment, datagram, message or frame, of which the tuple changes. Its bytes are never written to: each
// change makes them anew.
type unit struct {
	bytes   []byte
	was, is api.Tuple
}

// whole is what is done of each protocol with a unit of which all bytes are there: its check sum is reckoned anew.
func (u *unit) whole() map[byte]func() {
	return map[byte]func(){
		api.Tcp:  u.segment,
		api.Udp:  u.datagram,
		api.Icmp: u.message,
		api.Gre:  u.frame,
	}
}

// quoted is what is done of each protocol with a unit of which the end may be missing, so that its check sum can't be
// reckoned, but only be patched.
func (u *unit) quoted() map[byte]func() {
	return map[byte]func(){
		api.Tcp:  u.quotedSegment,
		api.Udp:  u.quotedDatagram,
		api.Icmp: u.quotedMessage,
		api.Gre:  u.frame,
	}
}

func (u *unit) segment() {
	u.putPorts()
	u.put(atTcpSum, 0)
	u.put(atTcpSum, wire.Sum(u.summed()))
}

func (u *unit) quotedSegment() {
	u.putPorts()
	u.put(atTcpSum, u.patched(u.get(atTcpSum))) // neither is anything, if the sum is not quoted
}

func (u *unit) datagram() {
	u.putPorts()
	if u.bare() {
		return
	}
	u.put(atUdpSum, 0)
	u.put(atUdpSum, notBare(wire.Sum(u.summed())))
}

func (u *unit) quotedDatagram() {
	u.putPorts()
	if !u.bare() {
		u.put(atUdpSum, notBare(u.patched(u.get(atUdpSum))))
	}
}

func (u *unit) message() {
	u.put(atNumber, u.is.SrcPort)
	u.put(atIcmpSum, 0)
	u.put(atIcmpSum, wire.Sum(u.bytes))
}

func (u *unit) quotedMessage() {
	u.put(atNumber, u.is.SrcPort)
	u.put(atIcmpSum, wire.Patch(u.get(atIcmpSum), u.was.SrcPort, u.is.SrcPort))
}

// frame is the same of a quoted one, because there is no check sum.
func (u *unit) frame() {
	u.put(atCall, u.is.DstPort)
}

func (u *unit) putPorts() {
	u.put(atSrcPort, u.is.SrcPort)
	u.put(atDstPort, u.is.DstPort)
}

func (u *unit) put(at int, v uint16) {
	u.bytes = wire.Put16(u.bytes, at, v)
}

func (u *unit) get(at int) uint16 {
	return wire.Get16(u.bytes, at)
}

// bare tells whether a datagram has no check sum.
func (u *unit) bare() bool {
	return u.get(atUdpSum) == 0
}

// notBare is a datagram's check sum, which is never 0, because that would say that there is none.
func notBare(sum uint16) uint16 {
	if sum == 0 {
		return 0xffff
	}
	return sum
}

// summed is what the check sum of a segment or a datagram is reckoned of.
func (u *unit) summed() []byte {
	return append(wire.Pseudo(u.is.Src, u.is.Dst, u.is.Proto, len(u.bytes)), u.bytes...)
}

// patched is the check sum of a segment or a datagram when its tuple changes.
func (u *unit) patched(sum uint16) uint16 {
	is := summedWords(u.is)
	for i, was := range summedWords(u.was) {
		sum = wire.Patch(sum, was, is[i])
	}
	return sum
}

// summedWords are those of a tuple that go into a check sum, in the order in which it is patched.
func summedWords(t api.Tuple) [6]uint16 {
	return [6]uint16{
		uint16(t.Src >> 16), uint16(t.Src),
		uint16(t.Dst >> 16), uint16(t.Dst),
		t.SrcPort, t.DstPort,
	}
}
