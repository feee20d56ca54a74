package expect

import "lychgate/api"

// Right tells whether an expected flow is right. Its Src may be 0, which stands for any.
func Right(e api.Expect) bool {
	return carried(e) && e.Dst != 0 && e.DstPort != 0 && e.Host != 0 && e.HostPort != 0 &&
		e.Master >= 0 && e.Deadline >= 0 && e.Deadline <= api.MaxTime
}

// carried tells whether the protocol is one of ours; of frames alone the other side's number is known ahead.
func carried(e api.Expect) bool {
	switch e.Proto {
	case api.Tcp, api.Udp:
		return e.SrcPort == 0
	case api.Gre:
		return true
	}
	return false
}

// alike tells of expected flows whether they go to the same place as one does. From where they come does not count, so that
// of what comes to a place one flow at most is expected.
func alike(e api.Expect) func(x api.Expect) bool {
	return func(x api.Expect) bool {
		return x.Proto == e.Proto && x.Dst == e.Dst && x.DstPort == e.DstPort
	}
}

// fits does not ask for the SrcPort: the other side chooses it, and a frame of Gre does not tell it.
func fits(t api.Tuple, e api.Expect) bool {
	return t.Proto == e.Proto && t.Dst == e.Dst && t.DstPort == e.DstPort && (e.Src == 0 || t.Src == e.Src)
}
