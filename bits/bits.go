// Package bits is layer 1, arithmetic on machine words: see shared/doc/01-bits.md.
package bits

import "lathe/api"

// maxBytes is how many bytes the widest word has.
const maxBytes = 8

// opposites leaves Set out: no condition holds exactly where Set does not.
var opposites = [...]int8{
	api.Eq:  api.Ne,
	api.Ne:  api.Eq,
	api.Gt:  api.Le,
	api.Ge:  api.Lt,
	api.Lt:  api.Ge,
	api.Le:  api.Gt,
	api.Sgt: api.Sle,
	api.Sge: api.Slt,
	api.Slt: api.Sge,
	api.Sle: api.Sgt,
}

// Width: P1.1.
func Width(w int8) bool {
	return w == 8 || w == 16 || w == 32 || w == 64
}

// Cut: P1.1.
func Cut(v uint64, w int8) uint64 {
	switch w {
	case 8:
		return uint64(uint8(v))
	case 16:
		return uint64(uint16(v))
	case 32:
		return uint64(uint32(v))
	}
	return v
}

// Sign: P1.1.
func Sign(v uint64, w int8) uint64 {
	switch w {
	case 8:
		return uint64(int8(v))
	case 16:
		return uint64(int16(v))
	case 32:
		return uint64(int32(v))
	}
	return v
}

// Do: P1.2.
func Do(op, w int8, a, b uint64) (uint64, api.Errno) {
	if op < api.Add || op > api.Arsh || !computes(w) {
		return 0, api.ErrArg
	}
	return Cut(compute(op, w, Cut(a, w), Cut(b, w)), w), api.OK
}

// Holds: P1.2.
func Holds(cc, w int8, a, b uint64) (bool, api.Errno) {
	if cc < api.Eq || cc > api.Set || !computes(w) {
		return false, api.ErrArg
	}
	return holds(cc, w, Cut(a, w), Cut(b, w)), api.OK
}

// Not: P1.2.
func Not(cc int8) (int8, bool) {
	if cc < 0 || int(cc) >= len(opposites) {
		return 0, false
	}
	return opposites[cc], true
}

// Get: P1.3.
func Get(b []byte) uint64 {
	var v uint64
	for i, x := range b[:min(len(b), maxBytes)] {
		v |= uint64(x) << (8 * uint(i))
	}
	return v
}

// Put: P1.3.
func Put(v uint64, n int) []byte {
	b := make([]byte, min(max(n, 0), maxBytes))
	for i := range b {
		b[i] = byte(v >> (8 * uint(i)))
	}
	return b
}

// computes: bytes and halves are only loaded and stored, so operations and conditions do without their widths.
func computes(w int8) bool {
	return w == 32 || w == 64
}

// compute takes words of the width w, and leaves it to Do to cut what an operation carries above it.
func compute(op, w int8, a, b uint64) uint64 {
	// Both widths are powers of two: one less is the mask of the counts below them.
	count := func(b uint64) uint { return uint(b) & uint(w-1) }
	operations := [...]func(a, b uint64) uint64{
		api.Add:  func(a, b uint64) uint64 { return a + b },
		api.Sub:  func(a, b uint64) uint64 { return a - b },
		api.Mul:  func(a, b uint64) uint64 { return a * b },
		api.Div:  quotient,
		api.Or:   func(a, b uint64) uint64 { return a | b },
		api.And:  func(a, b uint64) uint64 { return a & b },
		api.Lsh:  func(a, b uint64) uint64 { return a << count(b) },
		api.Rsh:  func(a, b uint64) uint64 { return a >> count(b) },
		api.Neg:  func(a, _ uint64) uint64 { return -a },
		api.Mod:  remainder,
		api.Xor:  func(a, b uint64) uint64 { return a ^ b },
		api.Mov:  func(_, b uint64) uint64 { return b },
		api.Arsh: func(a, b uint64) uint64 { return uint64(int64(Sign(a, w)) >> count(b)) },
	}
	return operations[op](a, b)
}

func quotient(a, b uint64) uint64 {
	if b == 0 {
		return 0
	}
	return a / b
}

func remainder(a, b uint64) uint64 {
	if b == 0 {
		return a
	}
	return a % b
}

func holds(cc, w int8, a, b uint64) bool {
	signedA, signedB := int64(Sign(a, w)), int64(Sign(b, w))
	switch cc {
	case api.Eq:
		return a == b
	case api.Ne:
		return a != b
	case api.Gt:
		return a > b
	case api.Ge:
		return a >= b
	case api.Lt:
		return a < b
	case api.Le:
		return a <= b
	case api.Sgt:
		return signedA > signedB
	case api.Sge:
		return signedA >= signedB
	case api.Slt:
		return signedA < signedB
	case api.Sle:
		return signedA <= signedB
	}
	return a&b != 0 // Set
}
