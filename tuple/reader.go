package tuple

import (
	"lychgate/api"
	"lychgate/ctrl"
	"lychgate/segs"
	"lychgate/wire"
)

// firstSize is how many bytes of a quoted packet's Data are looked at: more of them need not be there.
const firstSize = 8

// Where parts stand in these first bytes.
const (
	atSrcPort = 0
	atDstPort = 2
	atType    = 0
	atCode    = 1
	atNumber  = 4
	atCall    = 6
)

type ports struct {
	src, dst uint16
}

// reader is how the ports of one protocol are read: of a whole packet, and of the first bytes of a quoted one.
type reader struct {
	whole func(p api.Packet) (ports, api.Errno)
	begun func(first [firstSize]byte) (ports, api.Errno)
}

// readers are those of the protocols that have tuples.
func readers() map[byte]reader {
	return map[byte]reader{
		api.Tcp:  {whole: ofTcp, begun: ofTwoWords},
		api.Udp:  {whole: ofUdp, begun: ofTwoWords},
		api.Icmp: {whole: ofIcmp, begun: ofEcho},
		api.Gre:  {whole: ofGre, begun: ofBeginning},
	}
}

func ofTcp(p api.Packet) (ports, api.Errno) {
	s, e := segs.ParseTcp(p)
	return ports{s.Src, s.Dst}, e
}

func ofUdp(p api.Packet) (ports, api.Errno) {
	d, e := segs.ParseUdp(p)
	return ports{d.Src, d.Dst}, e
}

func ofIcmp(p api.Packet) (ports, api.Errno) {
	m, e := ctrl.ParseIcmp(p)
	if e != api.OK {
		return ports{}, e
	}
	return ofNumber(m, uint16(m.Rest>>16))
}

func ofGre(p api.Packet) (ports, api.Errno) {
	f, e := ctrl.ParseGre(p)
	return ports{dst: f.Call}, e
}

func ofTwoWords(first [firstSize]byte) (ports, api.Errno) {
	return ports{wire.Get16(first[:], atSrcPort), wire.Get16(first[:], atDstPort)}, api.OK
}

func ofEcho(first [firstSize]byte) (ports, api.Errno) {
	return ofNumber(api.Message{Type: first[atType], Code: first[atCode]}, wire.Get16(first[:], atNumber))
}

// ofNumber has the number of a message in both places, because an echo tells the same one in both directions.
func ofNumber(m api.Message, number uint16) (ports, api.Errno) {
	if !ctrl.IsEcho(m) {
		return ports{}, api.ErrKind
	}
	return ports{number, number}, api.OK
}

// ofBeginning asks ctrl for its error alone: so few bytes are never more than a frame says that it has, so that
// ErrForm is of the first four, and ErrShort tells no more than that the rest is not quoted.
func ofBeginning(first [firstSize]byte) (ports, api.Errno) {
	if _, e := ctrl.ParseGre(api.Packet{Proto: api.Gre, Data: first[:]}); e == api.ErrForm {
		return ports{}, e
	}
	return ports{dst: wire.Get16(first[:], atCall)}, api.OK
}
