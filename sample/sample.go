// Package sample is what the tests of several layers have in common: instructions and steps, written short, and numbers to make some of.
package sample

import "lathe/api"

// Exit is what most programs end with.
var Exit = api.Instr{Kind: api.InExit}

// Imm tells an operation with a number as its second operand.
func Imm(op, width, dst int8, n int) api.Instr {
	return api.Instr{Kind: api.InAlu, Op: op, Width: width, Dst: dst, Imm: n}
}

// Reg tells an operation on two registers.
func Reg(op, width, dst, src int8) api.Instr {
	return api.Instr{Kind: api.InAlu, Op: op, Width: width, Dst: dst, ByReg: true, Src: src}
}

// Movi sets a register to a number.
func Movi(dst int8, n int) api.Instr {
	return Imm(api.Mov, 64, dst, n)
}

// Mov sets a register to what is in another one.
func Mov(dst, src int8) api.Instr {
	return Reg(api.Mov, 64, dst, src)
}

// Load tells a load at src + off.
func Load(size, dst, src int8, off int) api.Instr {
	return api.Instr{Kind: api.InLoad, Size: size, Dst: dst, Src: src, Off: off}
}

// Store tells a store at dst + off.
func Store(size, dst, src int8, off int) api.Instr {
	return api.Instr{Kind: api.InStore, Size: size, Dst: dst, Src: src, Off: off}
}

// JumpImm tells a jump that compares a register with a number.
func JumpImm(cc, dst int8, n, off int) api.Instr {
	return api.Instr{Kind: api.InJump, Op: cc, Dst: dst, Imm: n, Off: off}
}

// JumpReg tells a jump that compares two registers.
func JumpReg(cc, dst, src int8, off int) api.Instr {
	return api.Instr{Kind: api.InJump, Op: cc, Dst: dst, ByReg: true, Src: src, Off: off}
}

// Goto tells a jump that is always taken.
func Goto(off int) api.Instr {
	return api.Instr{Kind: api.InGoto, Off: off}
}

// Call tells a host call.
func Call(num int) api.Instr {
	return api.Instr{Kind: api.InCall, Imm: num}
}

// Needs tells the registers that a valid instruction reads, as the document lists them.
func Needs(x api.Instr) []int8 {
	var l []int8
	switch x.Kind {
	case api.InAlu:
		if x.Op != api.Mov {
			l = append(l, x.Dst)
		}
		if x.ByReg {
			l = append(l, x.Src)
		}
	case api.InLoad:
		l = append(l, x.Src)
	case api.InStore:
		l = append(l, x.Dst, x.Src)
	case api.InJump:
		l = append(l, x.Dst)
		if x.ByReg {
			l = append(l, x.Src)
		}
	case api.InCall:
		l = append(l, []int8{1, 2, 3, 4, 5}[:x.Imm%6]...)
	case api.InExit:
		l = append(l, 0)
	}
	return l
}

// Take tells the step that makes a scratch register what is in a source register.
func Take(phys, reg int8) api.Ir {
	return api.Ir{Kind: api.IrTake, Reg: reg, Phys: phys}
}

// Give tells the step that makes a source register what is in a scratch register.
func Give(reg, phys int8) api.Ir {
	return api.Ir{Kind: api.IrGive, Reg: reg, Phys: phys}
}

// Step tells the step of a target instruction.
func Step(x api.X) api.Ir {
	return api.Ir{Kind: api.IrX, X: x}
}

// Jump tells the step that goes on at a block if a condition of the target holds.
func Jump(cc int8, to int) api.Ir {
	return api.Ir{Kind: api.IrJump, X: api.X{Op: api.XJcc, Cc: cc}, To: to}
}

// Stream tells numbers, the same ones each time.
type Stream uint64

// Word tells a number of 64 bits, whose lowest bits soon repeat.
func (s *Stream) Word() uint64 {
	*s = *s*6364136223846793005 + 1442695040888963407
	return uint64(*s)
}

// Below tells a number from 0 to n - 1.
func (s *Stream) Below(n int) int {
	return int(s.Word() >> 33 % uint64(n))
}

// Pick tells one of some things.
func Pick[T any](s *Stream, l ...T) T {
	return l[s.Below(len(l))]
}
