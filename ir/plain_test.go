package ir

import (
	"math"
	"slices"

	"lathe/api"
	"lathe/encode"
	"lathe/exec"
	"lathe/flags"
	"lathe/sample"
)

// What the chapter says, with registers by their names, and only what an instruction does left to exec.

// scratchRegisters are rax, rcx, rdx and r11.
var scratchRegisters = []int8{0, 1, 2, 11}

// conditions are the target's ten.
var conditions = []int8{2, 3, 4, 5, 6, 7, 12, 13, 14, 15}

// plainMay tells whether a step is valid. Where an instruction names a register is enough to see which ones it reads and writes: those that it takes unnamed are scratch registers, as is register 0 in the fields that it does not name.
func plainMay(x api.Ir) bool {
	noX := x.X == api.X{}
	noRegs := x.Reg == 0 && x.Phys == 0
	switch x.Kind {
	case api.IrX:
		for _, r := range []int8{x.X.Dst, x.X.Src, x.X.Base} {
			if !slices.Contains(scratchRegisters, r) {
				return false
			}
		}
		return encode.May(x.X) && x.X.Op < api.XJmp && noRegs && x.Num == 0 && x.To == 0
	case api.IrTake, api.IrGive:
		return noX && x.Num == 0 && x.To == 0 && x.Reg >= 0 && x.Reg <= 10 && slices.Contains(scratchRegisters, x.Phys)
	case api.IrHost:
		return noX && noRegs && x.To == 0 && x.Num >= 0 && x.Num <= 15
	case api.IrJump:
		only := x.X.W == 0 && x.X.Dst == 0 && x.X.Src == 0 && x.X.Base == 0 && x.X.Disp == 0 && x.X.Imm == 0
		return only && x.X.Op == 29 && slices.Contains(conditions, x.X.Cc) && noRegs && x.Num == 0 && x.To >= 0 && x.To <= 64
	case api.IrGoto:
		return noX && noRegs && x.Num == 0 && x.To >= 0 && x.To <= 64
	case api.IrExit:
		return noX && noRegs && x.Num == 0 && x.To == 0
	}
	return false
}

// state is what steps work on.
type state struct {
	source  map[int8]uint64
	scratch map[int8]uint64
	f       api.Flags
}

func newState(regs [11]uint64) state {
	s := state{map[int8]uint64{}, map[int8]uint64{0: 0, 1: 0, 2: 0, 11: 0}, api.Flags{}}
	for r, v := range regs {
		s.source[int8(r)] = v
	}
	return s
}

// result is what Do answers.
type result struct {
	out [11]uint64
	m   api.Machine
	at  int
	e   api.Errno
}

func do(l []api.Ir, regs [11]uint64) result {
	out, m, at, e := Do(l, regs)
	return result{out, m, at, e}
}

// run executes steps, and tells what Do is to answer if it is asked for no more. They go on from what earlier ones left.
func (s *state) run(l []api.Ir) result {
	for at, x := range l {
		switch {
		case x.Kind == api.IrX && (x.X.Op == api.XLoad || x.X.Op == api.XStore), x.Kind >= api.IrHost:
			return s.answer(at)
		case x.Kind == api.IrTake:
			s.scratch[x.Phys] = s.source[x.Reg]
		case x.Kind == api.IrGive:
			s.source[x.Reg] = s.scratch[x.Phys]
		default:
			m, e := exec.Do(s.machine(), x.X, 0)
			if e != api.OK {
				return result{e: api.ErrFault}
			}
			for r := range s.scratch {
				s.scratch[r] = m.R[r]
			}
			s.f = m.F
		}
	}
	return s.answer(len(l))
}

func (s *state) machine() api.Machine {
	m := api.Machine{F: s.f}
	for r, v := range s.scratch {
		m.R[r] = v
	}
	return m
}

func (s *state) answer(at int) result {
	o := result{m: s.machine(), at: at}
	for r, v := range s.source {
		o.out[r] = v
	}
	return o
}

// plainDo is Do of any steps.
func plainDo(l []api.Ir, regs [11]uint64) result {
	for _, x := range l {
		if !plainMay(x) {
			return result{e: api.ErrArg}
		}
	}
	s := newState(regs)
	return s.run(l)
}

// words are those at which widths, signs and carries turn.
var words = []uint64{
	0, 1, 2, 3, 5, 7, 31, 32, 33, 63, 64, 65, 0x80, 0xFF, 0x7FFF, 1<<31 - 1, 1 << 31, 1<<31 + 1, 1<<32 - 1, 1 << 32, 1<<32 + 1, 0xDEADBEEF, 0x0123456789ABCDEF,
	1<<64 - 1<<32, 1<<64 - 1<<31, 1<<63 - 1, 1 << 63, 1<<63 + 1, math.MaxUint64 - 1, math.MaxUint64,
}

// someRegs tells source registers that hold words, most often each another one.
func someRegs(s *sample.Stream) [11]uint64 {
	var regs [11]uint64
	for i := range regs {
		regs[i] = sample.Pick(s, words...)
	}
	return regs
}

// someX tells an instruction that may be a step and does not stop.
func someX(s *sample.Stream) api.X {
	w := sample.Pick[int8](s, 32, 64)
	dst, src := sample.Pick(s, scratchRegisters...), sample.Pick(s, scratchRegisters...)
	imm := sample.Pick(s, 0, 1, -1, s.Below(70), math.MaxInt32, math.MinInt32, int(int32(s.Word()>>20)))
	switch s.Below(8) {
	case 0, 1:
		op := sample.Pick(s, api.XMov, api.XAdd, api.XOr, api.XAnd, api.XSub, api.XXor, api.XCmp, api.XTest, api.XMul)
		return api.X{Op: op, W: w, Dst: dst, Src: src}
	case 2, 3:
		op := sample.Pick(s, api.XMovI, api.XAddI, api.XOrI, api.XAndI, api.XSubI, api.XXorI, api.XCmpI, api.XTestI)
		return api.X{Op: op, W: w, Dst: dst, Imm: imm}
	case 4:
		return api.X{Op: sample.Pick(s, api.XShl, api.XShr, api.XSar), W: w, Dst: dst, Imm: s.Below(int(w))}
	case 5:
		return api.X{Op: sample.Pick(s, api.XShlC, api.XShrC, api.XSarC, api.XNeg), W: w, Dst: dst}
	case 6:
		return api.X{Op: api.XCmp, W: w, Dst: dst, Src: src}
	}
	return api.X{Op: api.XCmov, W: w, Dst: dst, Src: src, Cc: sample.Pick(s, conditions...)}
}

// someSteps tells a few steps that belong together. They use the first registers of the source.
func someSteps(s *sample.Stream, registers int) []api.Ir {
	reg, phys := int8(s.Below(registers)), sample.Pick(s, scratchRegisters...)
	switch s.Below(16) {
	case 0, 1, 2:
		return []api.Ir{sample.Take(phys, reg)}
	case 3, 4, 5:
		return []api.Ir{sample.Give(reg, phys)}
	case 6: // a division that most often does not fault
		rdx := sample.Step(api.X{Op: api.XMovI, W: 32, Dst: api.Rdx, Imm: s.Below(12) / 11})
		return []api.Ir{rdx, sample.Step(api.X{Op: api.XDiv, W: sample.Pick[int8](s, 32, 64), Dst: sample.Pick(s, api.Rax, api.Rcx, api.R11)})}
	}
	return []api.Ir{sample.Step(someX(s))}
}

// straight tells valid steps of which none stops.
func straight(s *sample.Stream, registers int) []api.Ir {
	var l []api.Ir
	if s.Below(4) > 0 { // conditions would fault
		l = append(l, sample.Step(api.X{Op: api.XTest, W: 64}))
	}
	for range s.Below(12) {
		l = append(l, someSteps(s, registers)...)
	}
	return l
}

// someStop tells a step before which execution stops.
func someStop(s *sample.Stream) api.Ir {
	w := sample.Pick[int8](s, 8, 16, 32, 64)
	phys, base := sample.Pick(s, scratchRegisters...), sample.Pick(s, scratchRegisters...)
	return sample.Pick(s,
		sample.Step(api.X{Op: api.XLoad, W: w, Dst: phys, Base: base, Disp: s.Below(99) - 50}),
		sample.Step(api.X{Op: api.XStore, W: w, Src: phys, Base: base, Disp: s.Below(99) - 50}),
		api.Ir{Kind: api.IrHost, Num: s.Below(16)},
		sample.Jump(sample.Pick(s, conditions...), s.Below(65)),
		api.Ir{Kind: api.IrGoto, To: s.Below(65)},
		api.Ir{Kind: api.IrExit},
	)
}

// someList tells steps, now and then with one that stops, and seldom with one that is not valid.
func someList(s *sample.Stream, registers int) []api.Ir {
	l := straight(s, registers)
	for range s.Below(3) {
		l = slices.Insert(l, s.Below(len(l)+1), someStop(s))
	}
	if s.Below(20) == 0 {
		l = slices.Insert(l, s.Below(len(l)+1), sample.Pick(s, wrongSteps()...))
	}
	return l
}

// rightSteps are valid steps of all kinds, and of IrX those of all operations and widths.
func rightSteps() []api.Ir {
	l := []api.Ir{
		sample.Take(api.Rcx, 4), sample.Take(api.R11, 10), sample.Take(api.Rax, 0), sample.Give(4, api.Rdx), sample.Give(0, api.Rax), sample.Give(10, api.R11),
		{Kind: api.IrHost}, {Kind: api.IrHost, Num: 15}, sample.Jump(api.CcB, 0), sample.Jump(api.CcG, 64), {Kind: api.IrGoto}, {Kind: api.IrGoto, To: 64}, {Kind: api.IrExit},
	}
	for _, x := range instructions() {
		l = append(l, sample.Step(x))
	}
	return l
}

// wrongSteps are steps that are not valid, of all kinds and none.
func wrongSteps() []api.Ir {
	return []api.Ir{
		{}, // XMov without a width
		{Kind: 7},
		{Kind: -1},
		sample.Take(api.Rbx, 1),
		sample.Take(-1, 1),
		sample.Take(api.Rax, 11),
		sample.Give(-1, api.Rax),
		sample.Give(1, api.R10),
		{Kind: api.IrTake, Reg: 1, To: 1},
		{Kind: api.IrHost, Num: 16},
		{Kind: api.IrHost, Num: -1},
		{Kind: api.IrHost, Reg: 1},
		{Kind: api.IrGoto, To: 65},
		{Kind: api.IrGoto, To: -1},
		{Kind: api.IrGoto, X: api.X{Op: api.XJcc, Cc: api.CcE}},
		{Kind: api.IrExit, Num: 1},
		sample.Jump(8, 1),
		sample.Jump(api.CcE, 65),
		{Kind: api.IrJump, X: api.X{Op: api.XJcc, W: 8, Cc: api.CcE}},
		{Kind: api.IrJump, X: api.X{Op: api.XCmov, Cc: api.CcE}},
		sample.Step(api.X{Op: api.XRet}),
		sample.Step(api.X{Op: api.XHost}),
		sample.Step(api.X{Op: api.XJmp, W: 8}),
		sample.Step(api.X{Op: api.XJcc, W: 32, Cc: api.CcE}),
		sample.Step(api.X{Op: api.XMov, W: 64, Dst: api.Rbx}),
		sample.Step(api.X{Op: api.XMov, W: 64, Src: api.Rsp}),
		sample.Step(api.X{Op: api.XLoad, W: 64, Base: api.Rsp}),
		sample.Step(api.X{Op: api.XStore, W: 64, Src: api.R12}),
		sample.Step(api.X{Op: api.XShl, W: 32, Imm: 32}),
		{Kind: api.IrX, X: api.X{Op: api.XMov, W: 64}, Phys: 1},
	}
}

// instructions are valid ones of all operations and widths that may be steps, on rax alone.
func instructions() []api.X {
	var l []api.X
	for op := range api.XJmp {
		for _, w := range []int8{8, 16, 32, 64} {
			x := api.X{Op: op, W: w}
			if op == api.XCmov {
				x.Cc = api.CcBe
			}
			if encode.May(x) {
				l = append(l, x)
			}
		}
	}
	return l
}

// setting is an instruction on rax and rcx that leaves flags, with what is in these registers ahead of it.
type setting struct {
	x    api.X
	a, b uint64
}

// settings are by the flags that they leave.
func settings() map[api.Flags]setting {
	l := map[api.Flags]setting{}
	for _, op := range []int8{api.XCmp, api.XAdd} {
		for _, a := range words {
			for _, b := range words {
				f, _ := flags.Sub(64, a, b)
				if op == api.XAdd {
					f, _ = flags.Add(64, a, b)
				}
				l[f] = setting{api.X{Op: op, W: 64, Dst: api.Rax, Src: api.Rcx}, a, b}
			}
		}
	}
	l[flags.None()] = setting{api.X{Op: api.XShl, W: 64}, 0, 0}
	return l
}
