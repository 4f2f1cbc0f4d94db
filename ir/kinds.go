package ir

import (
	"lathe/api"
	"lathe/encode"
	"lathe/flags"
)

// scratch are the target's registers that steps compute in.
var scratch = [...]int8{api.Rax, api.Rcx, api.Rdx, api.R11}

// reading tells a step with nothing but the fields that its kind names (the kind itself is left out), and whether they are in range.
type reading func(x api.Ir) (named api.Ir, inRange bool)

// kindOf tells how steps of a kind are read. It is nil if there is no such kind.
func kindOf(kind int8) reading {
	copies := func(x api.Ir) (api.Ir, bool) {
		return api.Ir{Reg: x.Reg, Phys: x.Phys}, isSource(x.Reg) && isScratch(x.Phys)
	}
	kinds := [...]reading{
		api.IrX: func(x api.Ir) (api.Ir, bool) {
			return api.Ir{X: x.X}, computes(x.X)
		},
		api.IrTake: copies,
		api.IrGive: copies,
		api.IrHost: func(x api.Ir) (api.Ir, bool) {
			return api.Ir{Num: x.Num}, x.Num >= 0 && x.Num < api.MaxHosts
		},
		api.IrJump: func(x api.Ir) (api.Ir, bool) {
			return api.Ir{X: api.X{Op: api.XJcc, Cc: x.X.Cc}, To: x.To}, flags.May(x.X.Cc) && isBlock(x.To)
		},
		api.IrGoto: func(x api.Ir) (api.Ir, bool) {
			return api.Ir{To: x.To}, isBlock(x.To)
		},
		api.IrExit: func(api.Ir) (api.Ir, bool) {
			return api.Ir{}, true
		},
	}
	if kind < 0 || int(kind) >= len(kinds) {
		return nil
	}
	return kinds[kind]
}

// computes tells whether an instruction is valid, goes on behind itself, and needs no registers but scratch registers.
func computes(x api.X) bool {
	switch x.Op {
	case api.XJmp, api.XJcc, api.XRet, api.XHost:
		return false
	}
	others := ^0
	for _, r := range scratch {
		others &^= 1 << r
	}
	return encode.May(x) && (encode.Reads(x)|encode.Writes(x))&others == 0
}

func isSource(register int8) bool {
	return register >= 0 && register < api.Regs
}

func isScratch(register int8) bool {
	for _, r := range scratch {
		if r == register {
			return true
		}
	}
	return false
}

// isBlock tells whether a step may lead to a block of this number. The chapter lets MaxProg be one, which no block has.
func isBlock(to int) bool {
	return to >= 0 && to <= api.MaxProg
}
