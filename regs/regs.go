// Package regs tells sets of the source's registers as bit masks. Several layers share it.
package regs

import (
	"lathe/api"
	"lathe/instr"
)

// The registers that have a use of their own.
const (
	Result   int8 = 0
	FirstArg int8 = 1 // the context, at first
	FrameEnd int8 = 10
)

// MostArgs is how many arguments a host call may have, and how many registers it leaves not set.
const MostArgs = 5

// Only tells the set of one register.
func Only(register int8) int {
	return 1 << register
}

// Args tells the first n registers from R1 on.
func Args(n int) int {
	return (1<<n - 1) << FirstArg
}

// Reads tells the registers that a valid instruction reads.
func Reads(x api.Instr) int {
	switch x.Kind {
	case api.InAlu:
		if x.Op == api.Mov {
			return second(x)
		}
		return Only(x.Dst) | second(x)
	case api.InLoad:
		return Only(x.Src)
	case api.InStore:
		return Only(x.Dst) | Only(x.Src)
	case api.InJump:
		return Only(x.Dst) | second(x)
	case api.InCall:
		return Args(instr.Args(x.Imm))
	case api.InExit:
		return Only(Result)
	}
	return 0 // InGoto
}

// second tells the register that is the second operand, if it is one.
func second(x api.Instr) int {
	if x.ByReg {
		return Only(x.Src)
	}
	return 0
}
