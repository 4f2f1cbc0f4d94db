package encode

import (
	"lathe/api"
	"lathe/bits"
)

// The shapes of encodings: what stands behind the code.
const (
	bare   int8 = iota // nothing
	toRm               // reg Src, rm Dst
	toReg              // reg Dst, rm Src
	number             // rm Dst, then Imm in 4 bytes
	count              // rm Dst, then Imm in one byte: how far to shift
	single             // rm Dst
	inCode             // Imm in 4 bytes; the code itself names Dst
	load               // reg Dst, memory
	store              // reg Src, memory
	near               // Imm in 4 bytes
	short              // Imm in one byte
)

// both are the two widths that most operations have. Each width is a bit of its own.
const both int8 = 32 | 64

// What stands in the lowest bits of some codes.
const (
	inDst uint16 = 7
	inCc  uint16 = 15
)

// code is how an operation is encoded.
type code struct {
	shape int8
	at    int8   // the widths at which it is, as a bit mask; none where W is not named
	value uint16 // its one or two bytes, the last one lowest
	digit int8   // what stands in the place of reg where no register does
	low   uint16 // the bits of value that Cc or Dst is put in
}

// codes are those of all operations; some operations have others, too.
var codes = [...]code{
	api.XMov:   {toRm, both, 0x89, 0, 0},
	api.XMovI:  {number, 64, 0xC7, 0, 0},
	api.XAdd:   {toRm, both, 0x01, 0, 0},
	api.XOr:    {toRm, both, 0x09, 0, 0},
	api.XAnd:   {toRm, both, 0x21, 0, 0},
	api.XSub:   {toRm, both, 0x29, 0, 0},
	api.XXor:   {toRm, both, 0x31, 0, 0},
	api.XCmp:   {toRm, both, 0x39, 0, 0},
	api.XTest:  {toRm, both, 0x85, 0, 0},
	api.XAddI:  {number, both, 0x81, 0, 0},
	api.XOrI:   {number, both, 0x81, 1, 0},
	api.XAndI:  {number, both, 0x81, 4, 0},
	api.XSubI:  {number, both, 0x81, 5, 0},
	api.XXorI:  {number, both, 0x81, 6, 0},
	api.XCmpI:  {number, both, 0x81, 7, 0},
	api.XTestI: {number, both, 0xF7, 0, 0},
	api.XMul:   {toReg, both, 0x0FAF, 0, 0},
	api.XShl:   {count, both, 0xC1, 4, 0},
	api.XShr:   {count, both, 0xC1, 5, 0},
	api.XSar:   {count, both, 0xC1, 7, 0},
	api.XShlC:  {single, both, 0xD3, 4, 0},
	api.XShrC:  {single, both, 0xD3, 5, 0},
	api.XSarC:  {single, both, 0xD3, 7, 0},
	api.XNeg:   {single, both, 0xF7, 3, 0},
	api.XDiv:   {single, both, 0xF7, 6, 0},
	api.XCmov:  {toReg, both, 0x0F40, 0, inCc},
	api.XLoad:  {load, both, 0x8B, 0, 0},
	api.XStore: {store, 16 | both, 0x89, 0, 0},
	api.XJmp:   {near, 32, 0xE9, 0, 0},
	api.XJcc:   {near, 32, 0x0F80, 0, inCc},
	api.XRet:   {bare, 0, 0xC3, 0, 0},
	api.XHost:  {bare, 0, 0x0F05, 0, 0},
}

// others are what operations have at the widths that their rows in codes leave out.
var others = [...]struct {
	op int8
	code
}{
	{api.XMovI, code{inCode, 32, 0xB8, 0, inDst}},
	{api.XLoad, code{load, 8, 0x0FB6, 0, 0}},
	{api.XLoad, code{load, 16, 0x0FB7, 0, 0}},
	{api.XStore, code{store, 8, 0x88, 0, 0}},
	{api.XJmp, code{short, 8, 0xEB, 0, 0}},
	{api.XJcc, code{short, 8, 0x70, 0, inCc}},
}

// eachCode goes over all codes, each with its operation.
func eachCode(yield func(op int8, c code) bool) {
	for op, c := range codes {
		if !yield(int8(op), c) {
			return
		}
	}
	for _, o := range others {
		if !yield(o.op, o.code) {
			return
		}
	}
}

// codeOf tells the code of an operation at a width, or false if it has none.
func codeOf(op, w int8) (code, bool) {
	if op < 0 || int(op) >= len(codes) {
		return code{}, false
	}
	if c := codes[op]; c.has(w) {
		return c, true
	}
	for _, o := range others {
		if o.op == op && o.has(w) {
			return o.code, true
		}
	}
	return code{}, false
}

// has tells whether a code is one at the width w.
func (c code) has(w int8) bool {
	if c.at == 0 {
		return w == 0
	}
	return bits.Width(w) && c.at&w != 0
}

// fits tells whether the fields of an instruction with this code are in range, which 0 is in those that it does not name.
func fits(x api.X, c code) bool {
	if !register(x.Dst) || !register(x.Src) || !register(x.Base) || c.low == inCc && !condition(x.Cc) {
		return false
	}
	switch c.shape {
	case count:
		return x.Imm >= 0 && x.Imm < int(x.W)
	case short:
		return int(int8(x.Imm)) == x.Imm
	}
	return int(int32(x.Imm)) == x.Imm && int(int32(x.Disp)) == x.Disp
}

func register(r int8) bool {
	return r >= 0 && r < api.XRegs
}

func condition(cc int8) bool {
	return cc >= api.CcB && cc <= api.CcA || cc >= api.CcL && cc <= api.CcG
}
