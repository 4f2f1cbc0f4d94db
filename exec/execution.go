package exec

import (
	"lathe/api"
	"lathe/bits"
	"lathe/flags"
)

// execution is a machine on which an instruction is executed. The instruction is valid, so bits and flags have no error to tell of its width.
type execution struct {
	api.Machine
	x      api.X
	loaded uint64
}

// run executes the instruction. A machine on which it faults is of no use any more.
func (r *execution) run() api.Errno {
	executes := [...]func(operand uint64) api.Errno{
		api.XMov:   r.move,
		api.XMovI:  r.move,
		api.XAdd:   r.add,
		api.XOr:    r.or,
		api.XAnd:   r.and,
		api.XSub:   r.subtract,
		api.XXor:   r.xor,
		api.XCmp:   r.compare,
		api.XTest:  r.test,
		api.XAddI:  r.add,
		api.XOrI:   r.or,
		api.XAndI:  r.and,
		api.XSubI:  r.subtract,
		api.XXorI:  r.xor,
		api.XCmpI:  r.compare,
		api.XTestI: r.test,
		api.XMul:   r.multiply,
		api.XShl:   r.shiftLeft,
		api.XShr:   r.shiftRight,
		api.XSar:   r.shiftSigned,
		api.XShlC:  r.shiftLeft,
		api.XShrC:  r.shiftRight,
		api.XSarC:  r.shiftSigned,
		api.XNeg:   r.negate,
		api.XDiv:   r.divide,
		api.XCmov:  r.moveIf,
		api.XLoad:  r.move,
		api.XStore: r.leave,
		api.XJmp:   r.jump,
		api.XJcc:   r.jumpIf,
		api.XRet:   r.comeBack,
		api.XHost:  r.answer,
	}
	return executes[r.x.Op](r.operand())
}

// operand tells what an instruction takes beside Dst. Those that take nothing do not look at it.
func (r *execution) operand() uint64 {
	switch r.x.Op {
	case api.XShlC, api.XShrC, api.XSarC:
		return r.R[api.Rcx]
	case api.XLoad, api.XRet, api.XHost:
		return r.loaded
	case api.XMov, api.XAdd, api.XOr, api.XAnd, api.XSub, api.XXor, api.XCmp, api.XTest, api.XMul, api.XCmov:
		return r.R[r.x.Src]
	}
	return uint64(r.x.Imm) // the conversion copies its sign
}

func (r *execution) move(operand uint64) api.Errno {
	r.R[r.x.Dst] = bits.Cut(operand, r.x.W)
	return api.OK
}

func (r *execution) add(operand uint64) api.Errno {
	r.F, _ = flags.Add(r.x.W, r.dst(), operand)
	return r.compute(api.Add, operand)
}

func (r *execution) subtract(operand uint64) api.Errno {
	r.compare(operand)
	return r.compute(api.Sub, operand)
}

func (r *execution) compare(operand uint64) api.Errno {
	r.F, _ = flags.Sub(r.x.W, r.dst(), operand)
	return api.OK
}

func (r *execution) and(operand uint64) api.Errno {
	r.test(operand)
	return r.compute(api.And, operand)
}

func (r *execution) test(operand uint64) api.Errno {
	return r.flagsOf(r.dst() & operand)
}

func (r *execution) or(operand uint64) api.Errno {
	r.compute(api.Or, operand)
	return r.flagsOf(r.dst())
}

func (r *execution) xor(operand uint64) api.Errno {
	r.compute(api.Xor, operand)
	return r.flagsOf(r.dst())
}

func (r *execution) negate(uint64) api.Errno {
	r.F, _ = flags.Sub(r.x.W, 0, r.dst())
	return r.compute(api.Neg, 0)
}

func (r *execution) multiply(operand uint64) api.Errno {
	r.F = flags.None()
	return r.compute(api.Mul, operand)
}

func (r *execution) shiftLeft(count uint64) api.Errno {
	r.F = flags.None()
	return r.compute(api.Lsh, count)
}

func (r *execution) shiftRight(count uint64) api.Errno {
	r.F = flags.None()
	return r.compute(api.Rsh, count)
}

func (r *execution) shiftSigned(count uint64) api.Errno {
	r.F = flags.None()
	return r.compute(api.Arsh, count)
}

// divide takes its divisor, which may be in rax, ahead of all that it writes.
func (r *execution) divide(uint64) api.Errno {
	number, divisor := r.R[api.Rax], r.dst()
	if bits.Cut(r.R[api.Rdx], r.x.W) != 0 || bits.Cut(divisor, r.x.W) == 0 {
		return api.ErrFault
	}
	r.R[api.Rax], _ = bits.Do(api.Div, r.x.W, number, divisor)
	r.R[api.Rdx], _ = bits.Do(api.Mod, r.x.W, number, divisor)
	r.F = flags.None()
	return api.OK
}

// moveIf cuts Dst even where the condition does not hold.
func (r *execution) moveIf(operand uint64) api.Errno {
	holds, e := flags.Holds(r.x.Cc, r.F)
	if e != api.OK {
		return e
	}
	if holds {
		return r.move(operand)
	}
	return r.move(r.dst())
}

// leave is what a store does: what it changes is not in the machine.
func (r *execution) leave(uint64) api.Errno {
	return api.OK
}

func (r *execution) jump(distance uint64) api.Errno {
	r.At += distance
	return api.OK
}

func (r *execution) jumpIf(distance uint64) api.Errno {
	holds, e := flags.Holds(r.x.Cc, r.F)
	if holds {
		return r.jump(distance)
	}
	return e
}

func (r *execution) comeBack(to uint64) api.Errno {
	r.At = to
	r.R[api.Rsp] += returnBytes
	return api.OK
}

func (r *execution) answer(v uint64) api.Errno {
	r.R[api.Rax], r.R[api.Rcx], r.R[api.R11] = v, 0, 0
	return api.OK
}

func (r *execution) dst() uint64 {
	return r.R[r.x.Dst]
}

// compute makes Dst the result of an operation of the width W.
func (r *execution) compute(op int8, operand uint64) api.Errno {
	r.R[r.x.Dst], _ = bits.Do(op, r.x.W, r.dst(), operand)
	return api.OK
}

// flagsOf leaves the flags of a result alone.
func (r *execution) flagsOf(result uint64) api.Errno {
	r.F, _ = flags.Of(r.x.W, result)
	return api.OK
}
