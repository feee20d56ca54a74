package rules

import "lychgate/api"

// addressBits is how many bits an address has.
const addressBits = 32

// Right tells whether a rule is right.
func Right(x api.Rule) bool {
	switch x.Kind {
	case api.Masq:
		return rightMasq(x)
	case api.Dnat:
		return rightDnat(x)
	}
	return false
}

func rightMasq(x api.Rule) bool {
	if x.Bits < 0 || x.Bits > addressBits || x.Net&^upper(x.Bits) != 0 || x.To == 0 {
		return false
	}
	// What stands in no other field than these is a rule of Masq with all else 0.
	return x == api.Rule{Kind: api.Masq, Net: x.Net, Bits: x.Bits, To: x.To}
}

func rightDnat(x api.Rule) bool {
	proto := x.Proto == api.Tcp || x.Proto == api.Udp
	return proto && x.To != 0 && x.Port != 0 && x.Host != 0 && x.HostPort != 0 && x.Net == 0 && x.Bits == 0
}

// upper has so many of the upper bits set, and no other ones. It is asked of bits from 0 to 32 alone.
func upper(bits int) uint32 {
	return ^uint32(0) << (addressBits - bits)
}
