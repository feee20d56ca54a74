package gate

import (
	"lychgate/api"
	"lychgate/ftp"
	"lychgate/segs"
	"lychgate/seqadj"
)

// ftpHelper tells the public address in lines that name one inside. Streams are by the side from which they come: a flow's
// packets of one direction all come from the same.
type ftpHelper struct {
	streams [2]*seqadj.Stream
}

func newFtpHelper() *ftpHelper {
	return &ftpHelper{streams: [2]*seqadj.Stream{api.Inside: seqadj.New(), api.Outside: seqadj.New()}}
}

// fork has the same streams, because none is ever changed in its place: what is replaced more makes another one.
func (h *ftpHelper) fork() helper {
	other := *h
	return &other
}

func (h *ftpHelper) change(x passage, p api.Packet) api.Packet {
	was, _ := segs.ParseTcp(p) // it has a tuple
	is := was
	is.Data = h.line(x, was)
	h.renumber(x.side, &is)
	return withSegment(p, was, is)
}

// line is a segment's data, with another address, if they are a line that names one inside.
func (h *ftpHelper) line(x passage, s api.Segment) []byte {
	f, ok := ftp.Find(s.Data, x.back)
	if !x.inside() || !ok || f.Kind != ftp.Epsv && f.Addr != x.was.Src {
		return s.Data
	}
	start := s.Seq + uint32(f.Start)
	text, ok := h.streams[x.side].Find(start, f.End-f.Start)
	if !ok {
		text, ok = h.expect(x, f, start)
	}
	if !ok {
		return s.Data
	}
	return ftp.Replace(s.Data, f, text)
}

// expect lets a flow be expected at a number of its own, and is the text that tells it; false: nothing is changed.
func (h *ftpHelper) expect(x passage, f ftp.Found, start uint32) ([]byte, bool) {
	n, ok := x.take(source{api.Tcp, x.is.Src}, f.Port)
	if !ok {
		return nil, false
	}
	text := ftp.Text(f.Kind, n.addr, n.n)
	stream := h.streams[x.side].Fork()
	if stream.Add(start, f.End-f.Start, text) != api.OK || !x.expect(api.Expect{
		Proto: n.proto, Src: x.is.Dst, Dst: n.addr, DstPort: n.n,
		Host: x.was.Src, HostPort: f.Port, Master: x.Id, Deadline: x.now + ftpTime,
	}) {
		x.give(n)
		return nil, false
	}
	h.streams[x.side] = stream
	return text, true
}

// renumber lets a segment's numbers fit what was replaced in its stream, and in the other one, which it answers.
func (h *ftpHelper) renumber(side api.Side, s *api.Segment) {
	answered := h.streams[opposite(side)]
	s.Seq = h.streams[side].Map(s.Seq)
	if s.Flags&api.Ack != 0 {
		s.Ack = answered.Unmap(s.Ack)
	}
	edges := segs.Sacks(*s)
	for i := range edges {
		edges[i] = answered.Unmap(edges[i])
	}
	*s = segs.WithSacks(*s, edges...)
}
