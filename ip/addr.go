package ip

import (
	"isthmus/api"
	"isthmus/code"
)

const (
	bitsFour = 32
	bitsSix  = 128
)

// mayAddr tells whether a may be.
func mayAddr(a api.Addr) bool {
	return a.V6 || a.Hi == 0 && a.Lo < 1<<bitsFour
}

// width is how many bits an address of a's version has.
func width(a api.Addr) int {
	if a.V6 {
		return bitsSix
	}
	return bitsFour
}

// cut is a with its first bits alone, as many as count says; the others are 0.
func cut(a api.Addr, count uint8) api.Addr {
	// Both versions end where Lo does: ahead of an address of IPv4 stand bits of
	// Hi and Lo that are none of it.
	kept := bitsSix - width(a) + int(count)
	a.Hi &= ones(kept)
	a.Lo &= ones(kept - 64)
	return a
}

// ones has the highest bits of 64, as many as count says: none, if it is below 0,
// and all, if it is above 64.
func ones(count int) uint64 {
	return ^uint64(0) << max(64-count, 0)
}

// addrBytes are the bytes of a, which may be.
func addrBytes(a api.Addr) string {
	if a.V6 {
		return code.U64(a.Hi) + code.U64(a.Lo)
	}
	return code.U32(uint32(a.Lo))
}

// readAddr is the address of the next bytes of r.
func readAddr(r *code.Reader, v6 bool) api.Addr {
	if !v6 {
		return api.Addr{Lo: uint64(r.U32())}
	}
	hi := r.U64()
	return api.Addr{V6: true, Hi: hi, Lo: r.U64()}
}
