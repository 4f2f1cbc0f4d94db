package verify

import (
	"math"
	"slices"
	"testing"

	"lathe/api"
	"lathe/instr"
	"lathe/model"
	"lathe/state"
	"lathe/value"
)

// wrong are programs that are not valid, one for each way in which they may not be, and what Check tells of them.
func wrong() []struct {
	p  api.Prog
	at int
	e  api.Errno
} {
	long := slices.Repeat([]api.Instr{exit}, 65)
	return []struct {
		p  api.Prog
		at int
		e  api.Errno
	}{
		{prog(-1, exit), 0, api.ErrArg}, {prog(257, exit), 0, api.ErrArg}, {prog(math.MinInt, exit), 0, api.ErrArg}, {prog(math.MaxInt), 0, api.ErrArg},
		{api.Prog{}, 0, api.ErrLong}, {prog(8, []api.Instr{}...), 0, api.ErrLong}, {prog(8, long...), 0, api.ErrLong},
		{prog(8, api.Instr{Kind: 7}, exit), 0, api.ErrOp}, {prog(8, movi(0, 0), api.Instr{Kind: -1}, exit), 1, api.ErrOp}, {prog(8, movi(10, 0), exit), 0, api.ErrOp}, {prog(8, movi(0, 0), mov(0, 11), exit), 1, api.ErrOp},
		{prog(8, load(3, 0, 1, 0), exit), 0, api.ErrOp}, {prog(8, movi(0, 0), call(16), exit), 1, api.ErrOp}, {prog(8, jumpImm(11, 1, 0, 0), exit), 0, api.ErrOp},
		{prog(8, movi(0, 0), exit, goTo(0)), 2, api.ErrJump}, {prog(8, jumpImm(api.Eq, 1, 0, -2), exit), 0, api.ErrJump}, {prog(8, goTo(1<<15-1)), 0, api.ErrJump},
		{prog(8, exit, movi(0, 0)), 1, api.ErrEnd}, {prog(8, jumpImm(api.Eq, 1, 0, -1)), 0, api.ErrEnd}, {prog(0, movi(0, 0), call(0)), 1, api.ErrEnd},
	}
}

// stepped holds Step against plainStep for one instruction, which is laid at 1 of 3.
func stepped(t *testing.T, size int, x api.Instr, s api.State) {
	t.Helper()
	p := prog(size, goTo(1), x, exit)
	want, e := plainStep(p, 1, s)
	if got, errno := Step(p, 1, s); errno != e || !slices.Equal(got, want) {
		t.Fatalf("Step of %v from %v = %v, %v, not %v, %v", x, s.Regs, got, errno, want, e)
	}
}

// becomes holds that an instruction leads to the next one alone, with one register changed.
func becomes(t *testing.T, size int, x api.Instr, s api.State, r int8, want api.Type) {
	t.Helper()
	l, e := Step(prog(size, x, exit), 0, s)
	s.Regs[r] = want
	if e != api.OK || len(l) != 1 || l[0].To != 1 || l[0].S != s {
		t.Errorf("%v: %v, %v, not R%d = %v", x, l, e, r, want)
	}
}

func rejected(t *testing.T, size int, x api.Instr, s api.State, want api.Errno) {
	t.Helper()
	if l, e := Step(prog(size, x, exit), 0, s); e != want || len(l) != 0 {
		t.Errorf("%v: %v, %v, not %v", x, l, e, want)
	}
}

// P11.1

func TestStepErrors(t *testing.T) {
	for i, c := range wrong() {
		for _, s := range []api.State{state.First(), {}} {
			for _, at := range []int{0, c.at, -1, 64} {
				if l, e := Step(c.p, at, s); e != c.e || len(l) != 0 {
					t.Errorf("%d: Step at %d = %v, %v, not %v", i, at, l, e, c.e)
				}
			}
		}
	}
	p := prog(8, movi(0, 0), exit)
	for _, i := range []int{-1, 2, 64, math.MinInt, math.MaxInt, 1 << 32} {
		if l, e := Step(p, i, state.First()); e != api.ErrArg || len(l) != 0 {
			t.Errorf("Step at %d = %v, %v", i, l, e)
		}
	}
	for _, x := range invalid {
		for r := range int8(api.Regs) {
			s := stateOf(map[int8]api.Type{r: x})
			if l, e := Step(p, 0, s); e != api.ErrArg || len(l) != 0 {
				t.Errorf("Step from %v in R%d = %v, %v", x, r, l, e)
			}
		}
		for n := range api.Slots {
			s := state.First()
			s.Slots[n] = x
			if l, e := Step(p, 1, s); e != api.ErrArg || len(l) != 0 { // ahead of ErrUnset
				t.Errorf("Step from %v in slot %d = %v, %v", x, n, l, e)
			}
		}
	}
	if _, e := Step(p, 0, api.State{}); e != api.ErrArg { // its slots are unset
		t.Error(e)
	}
}

// samples are valid instructions of all kinds: with each register, and with the ends of all other fields.
func samples() (l []api.Instr) {
	for a := range int8(11) {
		for b := range int8(11) {
			for op := api.Add; op <= api.Arsh; op++ {
				l = append(l, reg(op, 64, a, b), reg(op, 32, a, b))
			}
			for cc := api.Eq; cc <= api.Set; cc++ {
				l = append(l, jumpReg(cc, a, b, 0))
			}
			for _, size := range []int8{1, 2, 4, 8} {
				for _, off := range []int{0, -1 << 15, 1<<15 - 1} {
					l = append(l, load(size, a, b, off), store(size, a, b, off))
				}
			}
		}
		for _, n := range []int{0, 1, -1, 1<<31 - 1, -1 << 31} {
			for op := api.Add; op <= api.Arsh; op++ {
				l = append(l, imm(op, 64, a, n), imm(op, 32, a, n))
			}
			for cc := api.Eq; cc <= api.Set; cc++ {
				l = append(l, jumpImm(cc, a, n, 0))
			}
		}
	}
	for n := range 16 {
		l = append(l, call(n))
	}
	l = append(l, goTo(0), goTo(-1<<15), exit)
	return slices.DeleteFunc(l, func(x api.Instr) bool { return !instr.May(x) })
}

func TestReadsAndWrites(t *testing.T) {
	for _, x := range samples() {
		if r, w := Reads(x), Writes(x); r != set(needs(x)) || w != set(makes(x)) {
			t.Errorf("%v reads %b, writes %b", x, r, w)
		}
	}
	for i, c := range []struct {
		x             api.Instr
		reads, writes int
	}{
		{movi(3, 1), 0, 8}, {mov(3, 4), 16, 8}, {reg(api.Mov, 32, 9, 10), 1 << 10, 1 << 9}, {reg(api.Add, 64, 0, 10), 1 | 1<<10, 1}, {imm(api.Neg, 32, 2, 0), 4, 4}, {reg(api.Xor, 64, 2, 2), 4, 4},
		{load(8, 0, 10, -8), 1 << 10, 1}, {store(1, 10, 3, -8), 8 | 1<<10, 0}, {jumpImm(api.Set, 5, 1, 0), 32, 0}, {jumpReg(api.Eq, 5, 6, 0), 96, 0}, {goTo(0), 0, 0}, {exit, 1, 0},
		{call(0), 0, 63}, {call(1), 2, 63}, {call(5), 62, 63}, {call(6), 0, 63}, {call(11), 62, 63}, {call(15), 14, 63},
	} {
		if Reads(c.x) != c.reads || Writes(c.x) != c.writes {
			t.Errorf("%d: %b, %b", i, Reads(c.x), Writes(c.x))
		}
	}
}

func TestReadsAndWritesOfWhatIsNotValid(t *testing.T) {
	for _, x := range []api.Instr{
		{Kind: -1}, {Kind: 7}, {Kind: 127}, {}, {Kind: api.InAlu, Width: 16}, movi(10, 0), movi(11, 0), movi(-1, 0), mov(0, 11), mov(0, -128), mov(127, 0), imm(13, 64, 0, 0), imm(-1, 64, 0, 0), imm(api.Neg, 64, 1, 1), reg(api.Neg, 64, 1, 1), movi(0, 1<<31),
		load(3, 0, 1, 0), load(8, 10, 1, 0), load(8, 0, 1, 1<<15), load(8, 0, 63, 0), store(0, 1, 0, 0), store(8, 1, 0, -1<<15-1), store(8, 64, 0, 0),
		jumpImm(11, 1, 0, 0), jumpReg(api.Eq, 1, 11, 0), {Kind: api.InJump, Dst: 1, ByReg: true, Src: 2, Imm: 1}, {Kind: api.InJump, Dst: 1, Src: 2}, {Kind: api.InGoto, Imm: 1}, goTo(1 << 15),
		call(-1), call(16), call(math.MaxInt), {Kind: api.InCall, Imm: 3, Dst: 1}, {Kind: api.InExit, Off: 1}, {Kind: api.InExit, ByReg: true},
	} {
		if Reads(x) != 0 || Writes(x) != 0 {
			t.Errorf("%v reads %b, writes %b", x, Reads(x), Writes(x))
		}
	}
}

func TestWithinByHand(t *testing.T) {
	p := prog(8, exit)
	for i, c := range []struct {
		t         api.Type
		off, size int
		want      bool
	}{
		{context(0, 0), 0, 8, true}, {context(0, 0), 1, 8, false}, {context(0, 0), -1, 8, false}, {context(0, 1), 0, 8, false}, {context(0, 7), 0, 1, true}, {context(0, 8), 0, 1, false}, {context(-4, 0), 4, 4, true}, {context(-4, 0), 3, 4, false}, {context(8, 8), 0, 1, false}, {context(8, 8), -1, 1, true}, {context(-far, -far), far, 8, true}, {context(far, far), -far, 8, true}, {context(far, far), 1 - far, 8, false},
		{frame(64, 64), -64, 8, true}, {frame(64, 64), -65, 8, false}, {frame(64, 64), -8, 8, true}, {frame(64, 64), -7, 8, false}, {frame(64, 64), -1, 1, true}, {frame(64, 64), 0, 1, false}, {frame(0, 56), 0, 8, true}, {frame(0, 57), 0, 8, false}, {frame(-1, 0), 0, 1, false}, {frame(3, 9), 40, 2, true},
		{frame(0, 0), 0, 0, false}, {frame(0, 0), 0, 3, false}, {frame(0, 0), 0, 16, false}, {frame(0, 0), 0, -1, false}, {frame(0, 0), 0, math.MinInt, false}, {frame(0, 0), 0, 1<<32 + 1, false}, {frame(0, 0), 0, 256 + 8, false},
		{frame(2, 1), 0, 1, false}, {context(7, 0), 0, 1, false}, {frame(-far-1, 0), far, 1, false}, {frame(-far-1, -far-1), far + 1, 1, false}, {frame(-far, -far), far + 1, 1, false}, {frame(far+1, far+1), -far, 1, false}, {frame(far, far), -far - 1, 1, false}, {frame(0, math.MaxInt), 0, 1, false}, {frame(math.MinInt, 0), 0, 1, false}, {frame(math.MinInt, 64), -8, 1, false}, {frame(math.MinInt, 0), -1, 1, false}, {frame(math.MinInt, math.MinInt), math.MinInt, 1, false}, {frame(0, math.MaxInt), 0, 8, false}, {frame(0, 0), math.MaxInt, 8, false}, {frame(0, 0), math.MinInt, 8, false}, {frame(math.MaxInt, math.MaxInt), math.MinInt, 1, false},
		{api.Type{}, 0, 1, false}, {one(0), 0, 1, false}, {unknown, 0, 1, false}, {one(api.ContextAt), 0, 1, false}, {api.Type{Kind: 4}, 0, 1, false}, {api.Type{Kind: -1}, 0, 1, false}, {api.Type{Lo: 1, Hi: 2}, 0, 1, false},
	} {
		if Within(p, c.t, c.off, c.size) != c.want {
			t.Errorf("%d: Within(%v, %d, %d) = %t", i, c.t, c.off, c.size, !c.want)
		}
	}
}

func TestWithinAgainstPlain(t *testing.T) {
	ends := []int{-far - 1, -far, -far + 1, -9, -8, -7, -1, 0, 1, 2, 4, 7, 8, 9, 55, 56, 57, 60, 62, 63, 64, 65, 248, 255, 256, 257, far - 8, far - 1, far, far + 1}
	for _, n := range []int{0, 1, 7, 8, 64, 256, -1, math.MinInt, math.MaxInt} { // a program need not be valid
		p := api.Prog{Context: n}
		for _, kind := range []int8{api.TyContext, api.TyFrame, api.TyScalar} {
			for _, lo := range ends {
				for _, hi := range ends {
					for _, off := range ends {
						for size := range 10 {
							x := api.Type{Kind: kind, Lo: lo, Hi: hi}
							if got := Within(p, x, off, size); got != plainWithin(p, x, off, size) {
								t.Fatalf("context %d: Within(%v, %d, %d) = %t", n, x, off, size, got)
							}
						}
					}
				}
			}
		}
	}
}

func TestReadingWhatIsUnset(t *testing.T) {
	all := mixed(4)
	all.Regs = [api.Regs]api.Type{}
	for i := range all.Regs {
		all.Regs[i] = frame(0, 0)
	}
	if !state.May(all) {
		t.Fatal("not a valid state")
	}
	for _, x := range samples() {
		if x.Off != 0 {
			continue
		}
		for r := range int8(api.Regs) {
			s := all
			s.Regs[r] = api.Type{}
			_, e := Step(prog(8, x, exit), 0, s)
			if want := slices.Contains(needs(x), r); want && e != api.ErrUnset || !want && e != api.OK {
				t.Fatalf("%v without R%d: %v", x, r, e)
			}
		}
	}
	// ahead of ErrMem
	rejected(t, 8, store(8, 0, 2, 0), stateOf(map[int8]api.Type{0: one(1)}), api.ErrUnset)
	rejected(t, 8, store(8, 2, 0, 0), stateOf(map[int8]api.Type{0: one(1)}), api.ErrUnset)
	rejected(t, 8, store(8, 1, 2, 9), state.First(), api.ErrUnset)
	rejected(t, 8, load(8, 0, 2, 0), state.First(), api.ErrUnset)
}

func TestAluByHand(t *testing.T) {
	s := stateOf(map[int8]api.Type{0: one(5), 2: upTo(1, 7), 3: context(2, 4), 4: frame(0, 8), 5: upTo(-2, 3), 6: scalarOf(value.Bytes(4))})
	for _, c := range []struct {
		x    api.Instr
		want api.Type
	}{
		{movi(0, -3), one(-3)}, {movi(0, 1<<31-1), one(1<<31 - 1)}, {mov(0, 2), upTo(1, 7)}, {mov(0, 3), context(2, 4)}, {mov(3, 0), one(5)}, {mov(7, 10), frame(64, 64)}, {mov(4, 3), context(2, 4)},
		{imm(api.Mov, 32, 0, -3), one(1<<32 - 3)}, {imm(api.Mov, 32, 3, 9), one(9)}, {imm(api.Mov, 32, 7, 9), one(9)}, {reg(api.Mov, 32, 0, 3), scalarOf(value.Bytes(4))}, {reg(api.Mov, 32, 7, 4), scalarOf(value.Bytes(4))}, {reg(api.Mov, 32, 3, 0), one(5)}, {reg(api.Mov, 32, 3, 4), scalarOf(value.Bytes(4))},
		{imm(api.Add, 64, 0, 4), one(9)}, {imm(api.Sub, 32, 0, 6), one(1<<32 - 1)}, {imm(api.Neg, 64, 0, 0), one(-5)}, {imm(api.Neg, 32, 0, 0), one(1<<32 - 5)}, {reg(api.Mul, 64, 0, 0), one(25)},
		{imm(api.Add, 64, 3, 9), context(11, 13)}, {imm(api.Add, 64, 3, -9), context(-7, -5)}, {imm(api.Sub, 64, 3, 9), context(-7, -5)}, {imm(api.Sub, 64, 3, -9), context(11, 13)},
		{reg(api.Add, 64, 3, 5), context(0, 7)}, {reg(api.Sub, 64, 3, 5), context(-1, 6)}, {reg(api.Add, 64, 5, 3), context(0, 7)}, {reg(api.Sub, 64, 5, 3), unknown}, {reg(api.Add, 64, 0, 10), frame(69, 69)}, {reg(api.Sub, 64, 4, 2), frame(-7, 7)},
		{reg(api.Add, 64, 3, 4), unknown}, {reg(api.Sub, 64, 3, 4), unknown}, {reg(api.Sub, 64, 3, 3), unknown}, {reg(api.Add, 64, 4, 4), unknown}, {reg(api.Xor, 64, 3, 3), unknown},
		{imm(api.And, 64, 3, 0), unknown}, {imm(api.Neg, 64, 3, 0), unknown}, {imm(api.Neg, 32, 3, 0), scalarOf(value.Bytes(4))}, {imm(api.Mul, 64, 3, 1), unknown}, {imm(api.Or, 64, 3, 0), unknown}, {reg(api.Mul, 64, 0, 3), unknown}, {imm(api.Lsh, 64, 4, 0), unknown},
		{imm(api.Add, 32, 3, 1), scalarOf(value.Bytes(4))}, {reg(api.Add, 32, 0, 3), scalarOf(value.Bytes(4))}, {imm(api.Sub, 32, 4, 0), scalarOf(value.Bytes(4))}, {reg(api.Div, 32, 3, 4), scalarOf(value.Bytes(4))},
		{imm(api.Add, 64, 3, far-4), context(far-2, far)}, {imm(api.Add, 64, 3, far-3), unknown}, {imm(api.Sub, 64, 3, far+2), unknown}, {imm(api.Sub, 64, 3, far), context(2-far, 4-far)}, {imm(api.Add, 64, 3, -far), context(2-far, 4-far)}, {imm(api.Add, 64, 3, -far-1), unknown}, {imm(api.Sub, 64, 3, 4-far), context(far-2, far)}, {imm(api.Sub, 64, 3, 3-far), unknown},
		{reg(api.Add, 64, 3, 6), unknown}, {reg(api.Sub, 64, 3, 6), unknown}, {reg(api.Add, 64, 6, 3), unknown},
	} {
		becomes(t, 8, c.x, s, c.x.Dst, c.want)
	}
	// Mov leaves the scalar as it is, even one that could be narrowed.
	wide := upTo(5, 5)
	becomes(t, 8, mov(7, 0), stateOf(map[int8]api.Type{0: wide}), 7, wide)
	becomes(t, 8, reg(api.Mov, 32, 7, 0), stateOf(map[int8]api.Type{0: wide}), 7, one(5))
}

func TestAluAgainstPlain(t *testing.T) {
	types := append([]api.Type{{}}, valid...)
	for op := api.Add; op <= api.Arsh; op++ {
		for _, width := range []int8{32, 64} {
			for i, a := range types {
				for k, b := range types {
					s := mixed(i + k)
					s.Regs[2], s.Regs[3] = a, b
					if op != api.Neg {
						stepped(t, 8, reg(op, width, 2, 3), s)
					}
				}
				s := mixed(i)
				s.Regs[2] = a
				if op == api.Neg {
					stepped(t, 8, imm(op, width, 2, 0), s)
					continue
				}
				stepped(t, 8, reg(op, width, 2, 2), s)
				for _, n := range []int{0, 1, -1, 5, 31, 64, far, far + 1, -far, -far - 1, 2 * far, 1<<31 - 1, -1 << 31} {
					stepped(t, 8, imm(op, width, 2, n), s)
				}
			}
		}
	}
}

func TestLoadsByHand(t *testing.T) {
	s := stateOf(map[int8]api.Type{0: one(5), 3: context(0, 4), 4: frame(8, 16), 5: frame(0, 0)})
	s.Slots[0], s.Slots[1], s.Slots[7] = context(2, 4), upTo(1, 7), frame(3, 9)
	for _, c := range []struct {
		x    api.Instr
		want api.Type
	}{
		{load(8, 0, 1, 0), unknown}, {load(4, 0, 1, 4), scalarOf(value.Bytes(4))}, {load(2, 1, 1, 6), scalarOf(value.Bytes(2))}, {load(1, 7, 1, 7), scalarOf(value.Bytes(1))}, {load(4, 3, 3, 0), scalarOf(value.Bytes(4))},
		{load(8, 0, 5, 0), context(2, 4)}, {load(8, 0, 10, -64), context(2, 4)}, {load(8, 0, 5, 8), upTo(1, 7)}, {load(8, 10-1, 10, -8), frame(3, 9)}, {load(8, 5, 5, 56), frame(3, 9)}, {load(8, 0, 10, -16), one(0)},
		{load(8, 0, 5, 4), unknown}, {load(4, 0, 5, 0), scalarOf(value.Bytes(4))}, {load(1, 0, 5, 16), scalarOf(value.Bytes(1))}, {load(8, 0, 4, 0), unknown}, {load(8, 0, 4, 40), unknown}, {load(2, 0, 4, -8), scalarOf(value.Bytes(2))},
	} {
		becomes(t, 8, c.x, s, c.x.Dst, c.want)
	}
	for _, x := range []api.Instr{
		load(8, 0, 0, 0), load(1, 0, 0, 0), load(8, 0, 1, 1), load(8, 0, 1, -1), load(1, 0, 1, 8), load(8, 0, 3, 0), load(4, 0, 3, 1), load(8, 0, 4, 41), load(8, 0, 4, -9), load(8, 0, 10, -65), load(8, 0, 10, -7), load(1, 0, 10, 0), load(1, 0, 5, 64), load(1, 0, 5, -1), load(8, 0, 1, 1<<15-1), load(8, 0, 1, -1<<15),
	} {
		rejected(t, 8, x, s, api.ErrMem)
	}
}

func TestStoresByHand(t *testing.T) {
	first := stateOf(map[int8]api.Type{0: one(5), 3: context(0, 4), 4: frame(8, 16), 5: frame(0, 0)})
	for i := range first.Slots {
		first.Slots[i] = one(10 + i)
	}
	for _, c := range []struct {
		x    api.Instr
		want map[int]api.Type
	}{
		{store(8, 1, 0, 0), nil}, {store(1, 1, 10, 7), nil}, {store(4, 3, 3, 0), nil},
		{store(8, 5, 0, 0), map[int]api.Type{0: one(5)}}, {store(8, 5, 1, 8), map[int]api.Type{1: context(0, 0)}}, {store(8, 10, 10, -8), map[int]api.Type{7: frame(64, 64)}}, {store(8, 10, 3, -64), map[int]api.Type{0: context(0, 4)}},
		{store(8, 5, 0, 4), map[int]api.Type{0: unknown, 1: unknown}}, {store(4, 5, 0, 8), map[int]api.Type{1: unknown}}, {store(1, 10, 10, -1), map[int]api.Type{7: unknown}}, {store(2, 5, 0, 7), map[int]api.Type{0: unknown, 1: unknown}},
		{store(8, 4, 0, 0), map[int]api.Type{1: unknown, 2: unknown}}, {store(8, 4, 0, 1), map[int]api.Type{1: unknown, 2: unknown, 3: unknown}}, {store(1, 4, 0, -1), map[int]api.Type{0: unknown, 1: unknown}}, {store(4, 4, 4, 44), map[int]api.Type{6: unknown, 7: unknown}},
	} {
		s := first
		for n, x := range c.want {
			s.Slots[n] = x
		}
		l, e := Step(prog(8, c.x, exit), 0, first)
		if e != api.OK || len(l) != 1 || l[0].To != 1 || l[0].S != s {
			t.Errorf("%v: %v, %v, not %v", c.x, l, e, s.Slots)
		}
	}
	for _, x := range []api.Instr{
		store(8, 0, 0, 0), store(1, 0, 1, 0), store(8, 1, 0, 1), store(8, 1, 0, -1), store(1, 1, 0, 8), store(8, 3, 0, 0), store(4, 3, 0, 1), store(8, 4, 0, 41), store(8, 4, 0, -9), store(8, 10, 0, -65), store(8, 10, 0, -7), store(1, 10, 0, 0), store(1, 5, 0, 64), store(1, 5, 0, -1), store(8, 10, 10, 1<<15-1), store(8, 10, 10, -1<<15),
	} {
		rejected(t, 8, x, first, api.ErrMem)
	}
}

func TestAccessesAgainstPlain(t *testing.T) {
	types := append([]api.Type{{}}, valid...)
	offs := []int{-1 << 15, -65, -64, -63, -17, -16, -8, -4, -2, -1, 0, 1, 2, 3, 4, 5, 7, 8, 9, 24, 40, 48, 49, 52, 56, 57, 60, 63, 64, 248, 255, 256, 1<<15 - 1}
	for _, n := range []int{0, 1, 8, 64, 256} {
		for i, at := range types {
			for k, off := range offs {
				for _, size := range []int8{1, 2, 4, 8} {
					s := mixed(i + k)
					s.Regs[2], s.Regs[3] = at, types[(3*i+k)%len(types)]
					stepped(t, n, load(size, 3, 2, off), s)
					stepped(t, n, load(size, 2, 2, off), s)
					stepped(t, n, store(size, 2, 3, off), s)
					stepped(t, n, store(size, 2, 2, off), s)
				}
			}
		}
	}
}

func TestJumpsByHand(t *testing.T) {
	const down, ahead = 1, 3 // where a jump at 0 leads
	first := stateOf(map[int8]api.Type{0: scalarOf(value.Bytes(1)), 2: one(7), 3: upTo(3, 9), 4: context(0, 4)})
	low := func(hi int) api.Type {
		x, _ := value.Given(api.Le, value.Bytes(1), value.One(uint64(hi)))
		return scalarOf(x)
	}
	high := func(lo int) api.Type {
		x, _ := value.Given(api.Ge, value.Bytes(1), value.One(uint64(lo)))
		return scalarOf(x)
	}
	type side struct {
		to   int
		r    int8
		want api.Type
	}
	odd, _ := value.Given(api.Set, value.Bytes(1), value.One(1))
	for _, c := range []struct {
		x    api.Instr
		want []side
	}{
		{jumpImm(api.Gt, 0, 9, 2), []side{{down, 0, low(9)}, {ahead, 0, high(10)}}}, {jumpImm(api.Ge, 0, 9, 2), []side{{down, 0, low(8)}, {ahead, 0, high(9)}}}, {jumpImm(api.Lt, 0, 9, 2), []side{{down, 0, high(9)}, {ahead, 0, low(8)}}}, {jumpReg(api.Le, 0, 2, 2), []side{{down, 0, high(8)}, {ahead, 0, low(7)}}},
		{jumpImm(api.Eq, 0, 9, 2), []side{{down, 0, first.Regs[0]}, {ahead, 0, one(9)}}}, {jumpImm(api.Ne, 0, 9, 2), []side{{down, 0, one(9)}, {ahead, 0, first.Regs[0]}}},
		{jumpImm(api.Eq, 0, 256, 2), []side{{down, 0, first.Regs[0]}}}, {jumpImm(api.Ne, 0, -1, 2), []side{{ahead, 0, first.Regs[0]}}}, {jumpImm(api.Sge, 0, -1, 2), []side{{ahead, 0, first.Regs[0]}}}, {jumpImm(api.Slt, 0, 0, 2), []side{{down, 0, first.Regs[0]}}}, {jumpImm(api.Gt, 0, -1, 2), []side{{down, 0, first.Regs[0]}}},
		{jumpImm(api.Set, 0, 1, 2), []side{{down, 0, first.Regs[0]}, {ahead, 0, scalarOf(odd)}}}, {jumpImm(api.Set, 2, 7, 2), []side{{down, 2, one(7)}, {ahead, 2, one(7)}}}, {jumpImm(api.Set, 2, 0, 2), []side{{down, 2, one(7)}, {ahead, 2, one(7)}}}, {jumpImm(api.Eq, 2, 7, 2), []side{{ahead, 2, one(7)}}}, {jumpImm(api.Eq, 2, 6, 2), []side{{down, 2, one(7)}}},
		{jumpReg(api.Eq, 4, 0, 2), []side{{down, 4, first.Regs[4]}, {ahead, 4, first.Regs[4]}}}, {jumpReg(api.Lt, 0, 4, 2), []side{{down, 0, first.Regs[0]}, {ahead, 0, first.Regs[0]}}}, {jumpReg(api.Ne, 4, 4, 2), []side{{down, 4, first.Regs[4]}, {ahead, 4, first.Regs[4]}}}, {jumpImm(api.Eq, 1, 0, 2), []side{{down, 1, first.Regs[1]}, {ahead, 1, first.Regs[1]}}}, {jumpImm(api.Set, 10, 0, 2), []side{{down, 10, first.Regs[10]}, {ahead, 10, first.Regs[10]}}},
		{jumpImm(api.Gt, 0, 9, 0), []side{{down, 0, low(9)}, {down, 0, high(10)}}}, {jumpImm(api.Gt, 0, 9, -1), []side{{down, 0, low(9)}, {0, 0, high(10)}}}, {jumpImm(api.Set, 1, 9, -1), []side{{down, 1, first.Regs[1]}, {0, 1, first.Regs[1]}}},
	} {
		l, e := Step(prog(8, c.x, goTo(1), exit, exit), 0, first)
		var want []api.Side
		for _, x := range c.want {
			s := first
			s.Regs[x.r] = x.want
			want = append(want, api.Side{To: x.to, S: s})
		}
		if e != api.OK || !slices.Equal(l, want) {
			t.Errorf("%v: %v, %v, not %v", c.x, l, e, want)
		}
	}
}

func TestJumpsAgainstPlain(t *testing.T) {
	types := append([]api.Type{{}}, valid...)
	none := 0
	for cc := api.Eq; cc <= api.Set; cc++ {
		for i, a := range types {
			for k, b := range types {
				s := mixed(i + k)
				s.Regs[2], s.Regs[3] = a, b
				for _, off := range []int{-2, -1, 0} {
					stepped(t, 8, jumpReg(cc, 2, 3, off), s)
				}
				if l, e := Step(prog(8, jumpReg(cc, 2, 3, 0), exit), 0, s); e == api.OK && len(l) == 0 {
					none++
				}
			}
			s := mixed(i)
			s.Regs[2], s.Regs[10] = a, a
			stepped(t, 8, jumpReg(cc, 2, 2, 0), s)
			for _, n := range []int{0, 1, -1, 5, 1<<31 - 1, -1 << 31} {
				stepped(t, 8, jumpImm(cc, 2, n, 0), s)
				stepped(t, 8, jumpImm(cc, 10, n, 0), s)
			}
		}
	}
	if none == 0 {
		t.Error("no jump without sides")
	}
}

func TestCallsGotosAndExits(t *testing.T) {
	for n := range valid {
		s := mixed(n)
		for num := range 16 {
			after := s
			after.Regs[0] = unknown
			for r := 1; r <= 5; r++ {
				after.Regs[r] = api.Type{}
			}
			l, e := Step(prog(8, call(num), exit), 0, s)
			if e != api.OK || !slices.Equal(l, []api.Side{{To: 1, S: after}}) {
				t.Errorf("call %d: %v, %v", num, l, e)
			}
			stepped(t, 8, call(num), s)
		}
		p := prog(8, goTo(2), goTo(-2), goTo(-1), exit)
		for i, to := range []int{3, 0, 2} {
			l, e := Step(p, i, s)
			if e != api.OK || !slices.Equal(l, []api.Side{{To: to, S: s}}) {
				t.Errorf("goto at %d: %v, %v", i, l, e)
			}
		}
		if l, e := Step(p, 3, s); e != api.OK || len(l) != 0 {
			t.Errorf("exit: %v, %v", l, e)
		}
	}
	if l, e := Step(prog(0, call(0), exit), 0, state.First()); e != api.OK || len(l) != 1 {
		t.Errorf("%v, %v", l, e)
	}
	rejected(t, 0, call(2), state.First(), api.ErrUnset)
	rejected(t, 0, call(15), stateOf(map[int8]api.Type{2: one(1)}), api.ErrUnset)
	rejected(t, 0, exit, state.First(), api.ErrUnset)
}

func TestSidesAreValid(t *testing.T) {
	for i, p := range programs(400) {
		for at := range p.L {
			l, e := Step(p, at, mixed(i+at))
			if want, errno := plainStep(p, at, mixed(i+at)); e != errno || !slices.Equal(l, want) {
				t.Fatalf("Step of %v: %v, %v", p.L[at], l, e)
			}
			for _, side := range l {
				if !state.May(side.S) || side.To < 0 || side.To >= len(p.L) {
					t.Fatalf("%v leads to %v", p.L[at], side)
				}
			}
		}
	}
}

// P11.2

// isEmpty tells whether nothing is told of any instruction.
func isEmpty(r api.Report) bool { return len(r.Seen) == 0 && len(r.S) == 0 }

// matches holds Run against what plainRun tells, in all that Run tells.
func matches(t *testing.T, p api.Prog, want verified) {
	t.Helper()
	r, at, e := Run(p)
	if e != want.e || at != want.at {
		t.Fatalf("%v: %d, %v, not %d, %v", p, at, e, want.at, want.e)
	}
	if e != api.OK {
		if !isEmpty(r) {
			t.Fatalf("%v: %v beside %v", p, r, e)
		}
		return
	}
	if len(r.Seen) != len(p.L) || len(r.S) != len(p.L) {
		t.Fatalf("%v: %v", p, r)
	}
	for i := range p.L {
		s, seen := want.states[i]
		if r.Seen[i] != seen || r.S[i] != s {
			t.Fatalf("%v: state %d is %v (%t), not %v (%t)", p, i, r.S[i], r.Seen[i], s, seen)
		}
		if got, ok := At(r, i); ok != seen || got != s {
			t.Fatalf("%v: At %d = %v, %t", p, i, got, ok)
		}
	}
}

func TestRunErrors(t *testing.T) {
	for i, c := range wrong() {
		if at, e := instr.Check(c.p); at != c.at || e != c.e {
			t.Fatalf("%d: Check = %d, %v", i, at, e)
		}
		if r, at, e := Run(c.p); at != c.at || e != c.e || !isEmpty(r) {
			t.Errorf("%d: Run = %v, %d, %v", i, r, at, e)
		}
	}
}

func TestRunByHand(t *testing.T) {
	for i, c := range []struct {
		p  api.Prog
		at int
		e  api.Errno
	}{
		{prog(0, movi(0, 0), exit), 0, api.OK}, {prog(0, exit), 0, api.ErrUnset}, {prog(4, load(8, 0, 1, 0), exit), 0, api.ErrMem}, {prog(8, load(8, 0, 1, 0), exit), 0, api.OK},
		{prog(8, movi(2, 3), reg(api.Div, 64, 0, 2), exit), 1, api.ErrUnset}, {prog(0, movi(0, 5), movi(2, 0), reg(api.Div, 64, 0, 2), exit), 0, api.OK},
		{prog(0, call(0), mov(6, 2), exit), 1, api.ErrUnset}, {prog(0, call(0), mov(6, 0), exit), 0, api.OK}, {prog(0, call(0), call(1), exit), 1, api.ErrUnset},
		// the instruction that is rejected first, not the one with the lowest index
		{prog(0, goTo(1), exit, load(8, 0, 1, 0), exit), 2, api.ErrMem}, {prog(0, jumpImm(api.Eq, 1, 0, 1), exit, load(8, 0, 1, 0), exit), 1, api.ErrUnset}, {prog(0, jumpImm(api.Eq, 1, 0, 1), goTo(1), load(8, 0, 1, 0), exit), 2, api.ErrMem},
		// what is never reached may do anything
		{prog(0, movi(0, 0), exit, load(8, 0, 9, 0), exit), 0, api.OK}, {prog(0, goTo(-1), load(8, 0, 9, 0), exit), 0, api.OK}, {prog(0, movi(0, 0), jumpImm(api.Eq, 0, 0, 1), load(8, 0, 0, 0), exit), 0, api.OK},
		// set on one way only
		{prog(0, movi(0, 0), jumpImm(api.Eq, 1, 0, 1), movi(2, 0), mov(0, 2), exit), 3, api.ErrUnset},
		// guarded accesses, and one that isn't
		{prog(8, load(1, 2, 1, 0), movi(0, 0), jumpImm(api.Gt, 2, 7, 2), reg(api.Add, 64, 1, 2), load(1, 0, 1, 0), exit), 0, api.OK}, {prog(8, load(1, 2, 1, 0), movi(0, 0), jumpImm(api.Gt, 2, 8, 2), reg(api.Add, 64, 1, 2), load(1, 0, 1, 0), exit), 4, api.ErrMem},
		{prog(8, load(8, 2, 1, 0), movi(0, 0), jumpImm(api.Sgt, 2, 7, 3), jumpImm(api.Slt, 2, 0, 2), reg(api.Add, 64, 1, 2), load(1, 0, 1, 0), exit), 0, api.OK}, {prog(8, load(8, 2, 1, 0), movi(0, 0), jumpImm(api.Sgt, 2, 7, 2), reg(api.Add, 64, 1, 2), load(1, 0, 1, 0), exit), 4, api.ErrMem},
		// pointers in the frame
		{prog(8, store(8, 10, 1, -16), load(8, 2, 10, -16), load(8, 0, 2, 0), exit), 0, api.OK}, {prog(8, store(8, 10, 1, -16), store(1, 10, 1, -9), load(8, 2, 10, -16), load(8, 0, 2, 0), exit), 3, api.ErrMem},
		// loops: widened, and held by their conditions
		{prog(0, movi(0, 0), movi(2, 10), reg(api.Add, 64, 0, 2), imm(api.Sub, 64, 2, 1), jumpImm(api.Ne, 2, 0, -3), exit), 0, api.OK},
		{prog(64, movi(0, 0), movi(2, 0), jumpImm(api.Ge, 2, 64, 4), mov(3, 1), reg(api.Add, 64, 3, 2), store(1, 3, 0, 0), imm(api.Add, 64, 2, 1), exit), 0, api.OK},
		{prog(8, movi(0, 0), movi(2, 0), jumpImm(api.Ge, 2, 8, 5), mov(3, 1), reg(api.Add, 64, 3, 2), store(1, 3, 0, 0), imm(api.Add, 64, 2, 1), goTo(-6), exit), 0, api.OK}, {prog(7, movi(0, 0), movi(2, 0), jumpImm(api.Ge, 2, 8, 5), mov(3, 1), reg(api.Add, 64, 3, 2), store(1, 3, 0, 0), imm(api.Add, 64, 2, 1), goTo(-6), exit), 5, api.ErrMem}, {prog(64, movi(0, 0), movi(2, 0), jumpImm(api.Ge, 2, 64, 5), mov(3, 1), reg(api.Add, 64, 3, 2), store(1, 3, 0, 0), imm(api.Add, 64, 2, 1), goTo(-6), exit), 5, api.ErrMem}, // the pointer is widened
		{prog(64, movi(0, 0), mov(3, 1), store(1, 3, 0, 0), imm(api.Add, 64, 3, 1), goTo(-3)), 2, api.ErrMem},
	} {
		r, at, e := Run(c.p)
		if at != c.at || e != c.e || isEmpty(r) != (e != api.OK) {
			t.Errorf("%d: %d, %v, %v", i, at, e, r.Seen)
		}
		matches(t, c.p, plainRun(c.p))
	}
}

func TestRunAgainstPlain(t *testing.T) {
	errors, grown, widened, late := map[api.Errno]int{}, 0, 0, 0
	for _, p := range programs(12000) {
		want := plainRun(p)
		matches(t, p, want)
		errors[want.e]++
		for _, n := range want.grown {
			if n > 0 {
				grown++
			}
			if n > 9 { // the tenth time, it is Widen that told more
				widened++
			}
		}
		if want.e != api.OK && want.visits > len(p.L) {
			late++
		}
	}
	if errors[api.OK] < 2000 || errors[api.ErrUnset] < 500 || errors[api.ErrMem] < 500 || grown < 2000 || widened < 200 || late < 50 {
		t.Error("too few of a kind:", errors, grown, widened, late)
	}
}

func TestJoinsAheadOfWidening(t *testing.T) {
	// R2 counts up by one each time: its state at 1 grows up to the joins' end, then by widening.
	p := prog(0, movi(2, 0), imm(api.Add, 64, 2, 1), jumpImm(api.Lt, 2, 100, -2), movi(0, 0), exit)
	for last := range 14 {
		p.L[2].Imm = last
		want := plainRun(p)
		matches(t, p, want)
		r, _, _ := Run(p)
		s, _ := At(r, 1)
		joined := max(last-1, 0)
		if most := s.Regs[2].S.R.UMax; joined <= 9 && most != uint64(joined) || joined > 9 && most < uint64(joined) {
			t.Errorf("up to %d: R2 is up to %d", last, most)
		}
	}
	// A pointer that moves is anywhere up to Far when it is widened, which no condition holds it back from.
	walk := prog(256, movi(0, 0), mov(3, 1), imm(api.Add, 64, 3, 1), jumpReg(api.Ne, 3, 1, -2), exit)
	matches(t, walk, plainRun(walk))
	r, _, e := Run(walk)
	if s, ok := At(r, 2); e != api.OK || !ok || s.Regs[3] != unknown {
		t.Error(s.Regs[3], ok, e)
	}
	down := prog(256, movi(0, 0), mov(3, 10), imm(api.And, 64, 0, 1), jumpImm(api.Eq, 0, 9, 2), mov(3, 10), goTo(-4), exit)
	matches(t, down, plainRun(down))
}

// spending tells a program whose loop, which ends at n, is visited again for each bit of R2 that is found not to be known: k at most.
func spending(n, k int, last ...api.Instr) api.Prog {
	p := prog(0, movi(0, 0), movi(2, 1))
	for len(p.L) < n {
		p.L = append(p.L, movi(3, len(p.L)))
	}
	p.L = append(p.L, imm(api.Lsh, 64, 2, 64-k), imm(api.Rsh, 64, 2, 64-k), imm(api.Lsh, 64, 2, 1))
	p.L = append(p.L, jumpImm(api.Set, 1, 1, 1-len(p.L)))
	p.L = append(p.L, last...)
	p.L = append(p.L, exit)
	return p
}

func TestTheBudget(t *testing.T) {
	ends := map[api.Errno]int{}
	for n := 10; n < 56; n++ {
		for _, k := range []int{45, 60} {
			p := spending(n, k)
			want := plainRun(p)
			matches(t, p, want)
			ends[want.e]++
		}
	}
	if ends[api.OK] < 20 || ends[api.ErrSpend] < 20 {
		t.Error("too few of a kind:", ends)
	}
}

func TestTheBudgetIsSpentWhole(t *testing.T) {
	const loop, bits, spare = 30, 60, 16
	whole := plainRun(spending(loop, bits))
	if whole.visits != api.MaxVisits-spare || whole.e != api.OK {
		t.Fatal("visits:", whole.visits, whole.e)
	}
	end := len(spending(loop, bits).L) - 1
	for n := range 25 {
		tail := slices.Repeat([]api.Instr{movi(4, 0)}, n)
		p := spending(loop, bits, tail...)
		_, at, e := Run(p)
		if n <= spare && (at != 0 || e != api.OK) || n > spare && (at != end+spare || e != api.ErrSpend) {
			t.Errorf("%d more visits: %d, %v", n, at, e)
		}
		matches(t, p, plainRun(p))
		// a rejection by the last visit there may be, and one that is too late
		p = spending(loop, bits, append(tail, mov(0, 9))...)
		_, at, e = Run(p)
		if n <= spare && (at != end+n || e != api.ErrUnset) || n > spare && (at != end+spare || e != api.ErrSpend) {
			t.Errorf("%d more visits, then a rejection: %d, %v", n, at, e)
		}
		matches(t, p, plainRun(p))
	}
}

func TestAt(t *testing.T) {
	p := prog(0, movi(0, 5), jumpImm(api.Ne, 0, 5, 1), exit, load(8, 0, 3, 0), exit)
	r, at, e := Run(p)
	if at != 0 || e != api.OK || !slices.Equal(r.Seen, []bool{true, true, true, false, false}) || r.S[3] != (api.State{}) || r.S[4] != (api.State{}) {
		t.Fatal(r, at, e)
	}
	after := stateOf(map[int8]api.Type{0: one(5)})
	for i, want := range []api.State{state.First(), after, after} {
		if s, ok := At(r, i); !ok || s != want {
			t.Errorf("At %d: %v, %t", i, s, ok)
		}
	}
	for _, i := range []int{3, 4, 5, 64, -1, math.MinInt, math.MaxInt, 1 << 32} {
		if s, ok := At(r, i); ok || s != (api.State{}) {
			t.Errorf("At %d: %v, %t", i, s, ok)
		}
	}
	for _, r := range []api.Report{{}, {Seen: []bool{true}}, {S: []api.State{after}}, {Seen: []bool{false}, S: []api.State{after}}, {Seen: make([]bool, 2), S: []api.State{after}}} { // Run makes none of them
		for i := -1; i < 4; i++ {
			if s, ok := At(r, i); ok || s != (api.State{}) {
				t.Errorf("At %d of %v: %v, %t", i, r, s, ok)
			}
		}
	}
	odd := api.Report{Seen: []bool{false, true, true}, S: []api.State{after, state.First()}}
	if s, ok := At(odd, 1); !ok || s != state.First() {
		t.Error(s, ok)
	}
	if s, ok := At(odd, 2); ok || s != (api.State{}) {
		t.Error(s, ok)
	}
}

// P11.3

// sampled tells a context of n bytes, and answers.
func (s *stream) sampled(n int) (context []byte, answers []uint64) {
	fixed := byte(s.below(256))
	same := s.below(3) == 0
	for range n {
		context = append(context, pick(s, byte(s.below(256)), byte(s.below(10)), 0, 255))
		if same {
			context[len(context)-1] = fixed
		}
	}
	for range pick(s, 0, 1, 3, 40) {
		answers = append(answers, s.word())
	}
	return context, answers
}

func TestSoundness(t *testing.T) {
	s := stream(7)
	accepted, steps, ends := 0, 0, map[int8]int{}
	for _, p := range programs(9000) {
		r, _, e := Run(p)
		if e != api.OK {
			continue
		}
		accepted++
		for range 6 {
			context, answers := s.sampled(p.Context)
			fuel := pick(&s, 20, 100, 300)
			for i, x := range model.Each(p, context, answers, fuel) {
				steps++
				if at, ok := At(r, i); !ok || !state.Has(at, x) {
					t.Fatalf("%v: at %d the model is %v, which is not in %v (%t)", p, i, x, at, ok)
				}
			}
			o, e := model.Run(p, context, answers, fuel)
			if e != api.OK || o.Kind == api.EndFault {
				t.Fatalf("%v: %v, %v", p, o, e)
			}
			ends[o.Kind]++
		}
	}
	if accepted < 2000 || steps < 200000 || ends[api.EndFuel] < 1000 || ends[api.EndReturn] < 1000 || ends[api.EndRefused] < 100 {
		t.Error("too few of a kind:", accepted, steps, ends)
	}
}

// R3, R4

func TestNothingIsModifiedOrShared(t *testing.T) {
	l := []api.Instr{movi(0, 0), movi(2, 0), jumpImm(api.Ge, 2, 8, 3), store(8, 10, 2, -8), imm(api.Add, 64, 2, 1), goTo(-4), exit, movi(9, 9), movi(9, 9)}
	p := prog(8, l[:7]...)
	kept := slices.Clone(l)
	first, at, e := Run(p)
	if at != 0 || e != api.OK {
		t.Fatal(at, e)
	}
	second, _, _ := Run(p)
	if !slices.Equal(first.Seen, second.Seen) || !slices.Equal(first.S, second.S) {
		t.Error(first, second)
	}
	clear(first.Seen[:cap(first.Seen)])
	clear(first.S[:cap(first.S)])
	third, _, _ := Run(p)
	if !slices.Equal(third.Seen, second.Seen) || !slices.Equal(third.S, second.S) {
		t.Error(third, second)
	}
	s, _ := At(second, 2)
	sides, _ := Step(p, 2, s)
	again, _ := Step(p, 2, s)
	if len(sides) != 2 || !slices.Equal(sides, again) {
		t.Error(sides, again)
	}
	clear(sides[:cap(sides)])
	if after, _ := Step(p, 2, s); !slices.Equal(after, again) {
		t.Error(after, again)
	}
	if !slices.Equal(l, kept) {
		t.Error("an argument is modified:", l)
	}
}
