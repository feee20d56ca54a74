package gate

import (
	"slices"

	"lychgate/api"
	"lychgate/pptp"
	"lychgate/segs"
)

const (
	maxCalls = 4
	done     = 1 // the Result of a call that was taken
)

// call is one: what the client calls, and what stands in its place. The server's is known by the flow of Gre that is the
// call's, as long as there is one.
type call struct {
	client uint16
	public number
}

// pptpHelper gives out calls, and lets the flows of Gre begin that they are of.
type pptpHelper struct {
	calls []call
}

func (h *pptpHelper) fork() helper {
	return &pptpHelper{calls: slices.Clone(h.calls)}
}

func (h *pptpHelper) change(x passage, p api.Packet) api.Packet {
	was, _ := segs.ParseTcp(p) // it has a tuple
	m, e := pptp.Parse(was.Data)
	if e != api.OK {
		return p
	}
	is := was
	if x.inside() {
		is.Data = h.fromClient(x, m, was.Data)
	} else {
		is.Data = h.fromServer(x, m, was.Data)
	}
	return withSegment(p, was, is)
}

// fromClient is a message's bytes as the server is told them.
func (h *pptpHelper) fromClient(x passage, m pptp.Message, data []byte) []byte {
	if m.Type != pptp.Request && m.Type != pptp.Clear {
		return data
	}
	c, ok := h.find(func(c call) bool { return c.client == m.Call })
	if !ok && m.Type == pptp.Request {
		c, ok = h.add(x, m.Call)
	}
	if !ok {
		return data
	}
	return pptp.WithCall(data, c.public.n)
}

// fromServer is a message's bytes as the client is told them.
func (h *pptpHelper) fromServer(x passage, m pptp.Message, data []byte) []byte {
	if m.Type == pptp.Notify {
		h.hangUp(x, m.Call)
		return data
	}
	c, ok := h.find(func(c call) bool { return c.public.n == m.Peer })
	if !ok || m.Type != pptp.Reply && m.Type != pptp.Link {
		return data
	}
	if m.Type == pptp.Reply && m.Result == done {
		c.connect(x, m.Call)
	}
	return pptp.WithPeer(data, c.client)
}

func (h *pptpHelper) find(wanted func(c call) bool) (call, bool) {
	at := slices.IndexFunc(h.calls, wanted)
	if at < 0 {
		return call{}, false
	}
	return h.calls[at], true
}

// add is a new call; false, if there is no room or no number for it.
func (h *pptpHelper) add(x passage, client uint16) (call, bool) {
	if len(h.calls) >= maxCalls {
		return call{}, false
	}
	n, ok := x.take(source{api.Gre, x.Reply.Dst}, client)
	if !ok {
		return call{}, false
	}
	c := call{client: client, public: n}
	h.calls = append(h.calls, c)
	x.held = append(x.held, n)
	return c, true
}

// hangUp lets the call be gone whose flow has a call of the server's.
func (h *pptpHelper) hangUp(x passage, server uint16) {
	for _, f := range x.tunnels(x.flow) {
		if f.Orig.DstPort != server {
			continue
		}
		x.end(f)
		n := number{source{api.Gre, f.Reply.Dst}, f.Reply.DstPort}
		h.calls = slices.DeleteFunc(h.calls, func(c call) bool { return c.public == n })
		x.release(n)
		x.give(n)
	}
}

// connect lets the call's flow of Gre begin, with a call of the server's, if it is not there and there is room.
func (c call) connect(x passage, server uint16) {
	orig := api.Tuple{Proto: api.Gre, Src: x.Orig.Src, Dst: x.Orig.Dst, SrcPort: c.client, DstPort: server}
	reply := api.Tuple{Proto: api.Gre, Src: x.Orig.Dst, Dst: x.Reply.Dst, SrcPort: server, DstPort: c.public.n}
	if c.connected(x) || !x.roomFor(orig, reply) {
		return
	}
	x.open(Flow{Orig: orig, Reply: reply, Side: api.Inside, Master: x.Id})
}

func (c call) connected(x passage) bool {
	return slices.ContainsFunc(x.tunnels(x.flow), func(f *flow) bool { return f.Reply.DstPort == c.public.n })
}
