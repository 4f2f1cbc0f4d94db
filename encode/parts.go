package encode

import (
	"bytes"
	"iter"

	"lathe/api"
	"lathe/modrm"
)

// Bytes that stand ahead of a code.
const (
	half   byte = 0x66 // of stores of 16 bits
	escape byte = 0x0F // the first one of a code of two
)

// widths are what W may be; 0 is that of instructions which do not name it.
var widths = [...]int8{0, 8, 16, 32, 64}

// parts are what an instruction's bytes tell beside its code.
type parts struct {
	reg, rm int8
	disp    int
	imm     int
	cc      int8
}

// partsOf tells the parts of an instruction with this code.
func partsOf(x api.X, c code) parts {
	p := parts{disp: x.Disp, imm: x.Imm, cc: x.Cc}
	switch c.shape {
	case toRm:
		p.reg, p.rm = x.Src, x.Dst
	case toReg:
		p.reg, p.rm = x.Dst, x.Src
	case number, count, single, inCode:
		p.reg, p.rm = c.digit, x.Dst
	case load:
		p.reg, p.rm = x.Dst, x.Base
	case store:
		p.reg, p.rm = x.Src, x.Base
	}
	return p
}

// filled undoes partsOf: it makes an instruction in which the fields that its code does not name are 0.
func filled(op, w int8, c code, p parts) api.X {
	x := api.X{Op: op, W: w}
	if c.low == inCc {
		x.Cc = p.cc
	}
	switch c.shape {
	case toRm:
		x.Src, x.Dst = p.reg, p.rm
	case toReg:
		x.Dst, x.Src = p.reg, p.rm
	case number, count, inCode:
		x.Dst, x.Imm = p.rm, p.imm
	case single:
		x.Dst = p.rm
	case load:
		x.Dst, x.Base, x.Disp = p.reg, p.rm, p.disp
	case store:
		x.Src, x.Base, x.Disp = p.reg, p.rm, p.disp
	case near, short:
		x.Imm = p.imm
	}
	return x
}

// encoded tells the bytes of a valid instruction, whose parts are all in modrm's ranges.
func encoded(x api.X) []byte {
	c, _ := codeOf(x.Op, x.W)
	p := partsOf(x, c)
	b := ahead(x, c, p)
	switch {
	case inMemory(c.shape):
		operand, _ := modrm.Mem(p.reg, p.rm, p.disp)
		b = append(b, operand...)
	case inOperand(c.shape):
		operand, _ := modrm.Regs(p.reg, p.rm)
		b = append(b, operand...)
	}
	if n := immBytes(c.shape); n > 0 {
		imm, _ := modrm.Num(p.imm, n)
		b = append(b, imm...)
	}
	return b
}

// ahead tells the bytes of a valid instruction up to its code, with it.
func ahead(x api.X, c code, p parts) []byte {
	var b []byte
	bytewise, wide := c.shape == store && x.W == 8, x.W == 64
	if c.shape == store && x.W == 16 {
		b = append(b, half)
	}
	if bytewise || wide || modrm.Needs(p.reg, p.rm) {
		rex, _ := modrm.Rex(wide, p.reg, p.rm)
		b = append(b, rex)
	}
	value := c.value
	if c.low == inCc {
		value |= uint16(p.cc)
	}
	if c.shape == inCode {
		value |= uint16(p.rm) & inDst
	}
	if first := byte(value >> 8); first != 0 {
		b = append(b, first)
	}
	return append(b, byte(value))
}

// maybe tells the instructions whose code stands at the beginning of b, with the parts that stand around it.
// They need not be valid, and what b begins with need not be their encoding: what is left out here saves Read time.
func maybe(b []byte) iter.Seq[api.X] {
	return func(yield func(api.X) bool) {
		f, ok := find(b)
		if !ok {
			return
		}
		for op, c := range eachCode {
			if !f.is(c) {
				continue
			}
			p := f.parts(c)
			for _, w := range widths {
				if !c.has(w) || f.wide != (w == 64) {
					continue
				}
				x := filled(op, w, c, p)
				lossless := partsOf(x, c) == p // another operation's digit, for one, is lost
				if lossless && !yield(x) {
					return
				}
			}
		}
	}
}

// found is what bytes tell that begin with a code, whatever code it is.
type found struct {
	wide            bool
	regHigh, rmHigh int8 // of the REX byte
	value           uint16
	behind          []byte // all that stands behind the code
}

// find reads bytes up to their code.
func find(b []byte) (found, bool) {
	var f found
	b, _ = bytes.CutPrefix(b, []byte{half})
	if len(b) > 0 {
		var rex bool
		if f.wide, f.regHigh, f.rmHigh, rex = modrm.ReadRex(b[0]); rex {
			b = b[1:]
		}
	}
	if len(b) > 0 && b[0] == escape {
		f.value, b = uint16(escape)<<8, b[1:]
	}
	if len(b) == 0 {
		return found{}, false
	}
	f.value |= uint16(b[0])
	f.behind = b[1:]
	return f, true
}

// is tells whether a code is the one that was found.
func (f *found) is(c code) bool {
	return f.value&^c.low == c.value
}

// parts tells the parts of an instruction with the code that was found.
func (f *found) parts(c code) parts {
	var p parts
	behind := f.behind
	if c.low == inCc {
		p.cc = int8(f.value & inCc)
	}
	switch {
	case inOperand(c.shape):
		var n int
		p.reg, p.rm, p.disp, _, n, _ = modrm.Read(behind)
		behind = behind[n:]
	case c.shape == inCode:
		p.rm = int8(f.value & inDst)
	}
	p.reg |= f.regHigh
	p.rm |= f.rmHigh
	p.imm = modrm.Signed(behind[:min(len(behind), immBytes(c.shape))])
	return p
}

// inOperand tells whether an operand follows the codes of a shape.
func inOperand(shape int8) bool {
	switch shape {
	case toRm, toReg, number, count, single, load, store:
		return true
	}
	return false
}

func inMemory(shape int8) bool {
	return shape == load || shape == store
}

// immBytes tells how many bytes Imm has, where an encoding ends with it.
func immBytes(shape int8) int {
	switch shape {
	case number, inCode, near:
		return 4
	case count, short:
		return 1
	}
	return 0
}
