package ir

import (
	"math"
	"slices"
	"testing"

	"lathe/api"
	"lathe/encode"
	"lathe/exec"
	"lathe/flags"
	"lathe/sample"
)

// eachByte calls f with every int8.
func eachByte(f func(v int8)) {
	for v := math.MinInt8; v <= math.MaxInt8; v++ {
		f(int8(v))
	}
}

// changed calls f with a step that has one field after the other changed to every number, or, of the wide fields, to some.
func changed(x api.Ir, f func(x api.Ir)) {
	eachByte(func(v int8) {
		for i := range 9 {
			y := x
			*[]*int8{&y.Kind, &y.Reg, &y.Phys, &y.X.Op, &y.X.W, &y.X.Dst, &y.X.Src, &y.X.Base, &y.X.Cc}[i] = v
			f(y)
		}
	})
	for _, v := range []int{0, 1, -1, 10, 11, 15, 16, 31, 32, 63, 64, 65, -128, 256, math.MaxInt32, math.MaxInt32 + 1, math.MinInt32, math.MinInt32 - 1, 1 << 32, 1<<32 + 1, math.MaxInt, math.MinInt} {
		for i := range 4 {
			y := x
			*[]*int{&y.Num, &y.To, &y.X.Disp, &y.X.Imm}[i] = v
			f(y)
		}
	}
}

// mustDo is Do where it may not fail.
func mustDo(t *testing.T, l []api.Ir, regs [11]uint64) result {
	t.Helper()
	r := do(l, regs)
	if r.e != api.OK {
		t.Fatalf("%+v: %v", l, r.e)
	}
	return r
}

// fails holds that Do answers nothing but an error.
func fails(t *testing.T, l []api.Ir, e api.Errno) {
	t.Helper()
	if r := do(l, [11]uint64{0: 5, 1: 6, 2: 7, 3: 8, 10: 9}); r != (result{e: e}) {
		t.Errorf("%+v: %+v, not %v alone", l, r, e)
	}
}

// P17.1

func TestMayByHand(t *testing.T) {
	for _, x := range rightSteps() {
		if !May(x) {
			t.Errorf("%+v is valid", x)
		}
	}
	for _, x := range wrongSteps() {
		if May(x) {
			t.Errorf("%+v is not valid", x)
		}
	}
}

func TestMayOfChangedFields(t *testing.T) {
	right := 0
	for _, x := range rightSteps() {
		changed(x, func(x api.Ir) {
			want := plainMay(x)
			if got := May(x); got != want {
				t.Errorf("May(%+v) = %t", x, got)
			}
			if want {
				right++
			}
		})
	}
	if right < 1000 {
		t.Error("too few that are valid:", right)
	}
}

func TestMayOfAllRegisters(t *testing.T) {
	right := 0
	for _, x := range append(instructions(), api.X{Op: api.XJmp, W: 8}, api.X{Op: api.XJcc, W: 32, Cc: api.CcB}, api.X{Op: api.XRet}, api.X{Op: api.XHost}) {
		for dst := range int8(16) {
			for src := range int8(16) {
				for base := range int8(16) {
					x.Dst, x.Src, x.Base = dst, src, base
					want := plainMay(sample.Step(x))
					if got := May(sample.Step(x)); got != want {
						t.Errorf("May of %+v = %t", x, got)
					}
					if want {
						right++
					}
				}
			}
		}
	}
	// 9 operations on two registers and XCmov at 2 widths, loads and stores at 4; those on one at 2: 8 with Imm, 3 and 3 shifts, XNeg, XDiv
	if most := (10*2+2*4)*16 + 16*2*4; right != most {
		t.Errorf("%d are valid, not %d", right, most)
	}
}

func TestMayNeedsScratchRegistersOnly(t *testing.T) {
	for _, x := range instructions() {
		for r := range int8(16) {
			for i := range 3 {
				y := x
				*[]*int8{&y.Dst, &y.Src, &y.Base}[i] = r
				if !encode.May(y) {
					continue
				}
				all := encode.Reads(y) | encode.Writes(y)
				if got := May(sample.Step(y)); got != (all&^0b1000_0000_0111 == 0) {
					t.Errorf("May of %+v, which needs %b, is %t", y, all, got)
				}
			}
		}
	}
}

func TestMayOfJumps(t *testing.T) {
	eachByte(func(cc int8) {
		for to := -3; to <= 70; to++ {
			want := slices.Contains(conditions, cc) && to >= 0 && to <= 64
			if got := May(sample.Jump(cc, to)); got != want {
				t.Errorf("a jump to %d if %d: %t", to, cc, got)
			}
			want = to >= 0 && to <= 64
			if got := May(api.Ir{Kind: api.IrGoto, To: to}); got != want {
				t.Errorf("a jump to %d: %t", to, got)
			}
		}
	})
}

func TestCheck(t *testing.T) {
	right := rightSteps()
	for _, l := range [][]api.Ir{nil, {}, right[:1], right} {
		if at, e := Check(l); at != 0 || e != api.OK {
			t.Errorf("%d valid steps: %d, %v", len(l), at, e)
		}
	}
	for _, x := range wrongSteps() {
		for first := range 12 {
			l := slices.Clone(right[:12])
			l[first] = x
			if at, e := Check(l); at != first || e != api.ErrArg {
				t.Errorf("%+v at %d: %d, %v", x, first, at, e)
			}
			l[11] = wrongSteps()[first] // the first one counts
			if at, e := Check(l); at != first || e != api.ErrArg {
				t.Errorf("%+v at %d and one at the end: %d, %v", x, first, at, e)
			}
		}
	}
}

func TestTakesAndGives(t *testing.T) {
	want := map[int8]int{}
	var l []api.Ir
	s := sample.Stream(1)
	for range 200 { // whether they are valid or not
		x := api.Ir{Kind: int8(s.Below(9) - 1), Reg: int8(s.Below(16) - 3), Phys: int8(s.Below(16)), Num: s.Below(2), X: api.X{Op: int8(s.Below(32))}}
		l = append(l, x)
		if s.Below(20) == 0 {
			l = nil
			clear(want)
		} else if x.Reg >= 0 && x.Reg <= 10 {
			want[x.Kind] |= 1 << x.Reg
		}
		if Takes(l) != want[api.IrTake] || Gives(l) != want[api.IrGive] {
			t.Fatalf("%+v: %b, %b", l, Takes(l), Gives(l))
		}
	}
}

func TestTakesAndGivesOfAllNumbers(t *testing.T) {
	eachByte(func(reg int8) {
		want := 0
		if reg >= 0 && reg <= 10 {
			want = 1 << reg
		}
		take, give := []api.Ir{sample.Take(api.Rbx, reg)}, []api.Ir{sample.Give(reg, -1)}
		if Takes(take) != want || Gives(take) != 0 || Takes(give) != 0 || Gives(give) != want {
			t.Errorf("register %d: %b, %b, %b, %b", reg, Takes(take), Gives(take), Takes(give), Gives(give))
		}
		eachByte(func(kind int8) {
			l := []api.Ir{{Kind: kind, Reg: reg}}
			if kind != api.IrTake && Takes(l) != 0 || kind != api.IrGive && Gives(l) != 0 {
				t.Errorf("kind %d, register %d: %b, %b", kind, reg, Takes(l), Gives(l))
			}
		})
	})
	if Takes(nil) != 0 || Gives(nil) != 0 || Takes([]api.Ir{}) != 0 || Gives([]api.Ir{}) != 0 {
		t.Error("no steps have registers")
	}
	l := []api.Ir{sample.Take(0, 3), sample.Give(5, 0), {Kind: api.IrExit}, sample.Take(1, 4), sample.Take(0, 3), sample.Give(0, 1)}
	if Takes(l) != 0b11000 || Gives(l) != 0b100001 { // behind a stop, too
		t.Errorf("%b, %b", Takes(l), Gives(l))
	}
}

func TestStops(t *testing.T) {
	eachByte(func(kind int8) {
		eachByte(func(op int8) {
			want := kind == 3 || kind == 4 || kind == 5 || kind == 6 || kind == 0 && (op == 26 || op == 27)
			for _, x := range []api.Ir{
				{Kind: kind, X: api.X{Op: op}},
				{Kind: kind, X: api.X{Op: op, W: 64, Dst: 15, Cc: -1}, Reg: 99, Phys: -1, Num: -7, To: 1000}, // whether it is valid or not
			} {
				if got := Stops(x); got != want {
					t.Errorf("Stops(%+v) = %t", x, got)
				}
			}
		})
	})
	for _, x := range rightSteps() {
		want := x.Kind >= api.IrHost || x.X.Op == api.XLoad || x.X.Op == api.XStore
		if Stops(x) != want {
			t.Errorf("Stops(%+v) = %t", x, !want)
		}
	}
}

func TestSame(t *testing.T) {
	right := rightSteps()
	for i, x := range right {
		for j, y := range right {
			if got := Same([]api.Ir{x}, []api.Ir{y}); got != (i == j) {
				t.Errorf("%+v and %+v: %t", x, y, got)
			}
		}
		changed(x, func(y api.Ir) {
			other := slices.Clone(right)
			other[i] = y
			if got := Same(right, other); got != (x == y) {
				t.Errorf("%+v instead of %+v: %t", y, x, got)
			}
		})
	}
}

func TestSameOfLists(t *testing.T) {
	a, b, c := sample.Take(0, 1), sample.Give(1, 0), api.Ir{Kind: 99, Num: -5}
	for _, x := range []struct {
		a, b []api.Ir
		same bool
	}{
		{nil, nil, true},
		{nil, []api.Ir{}, true},
		{[]api.Ir{}, nil, true},
		{nil, []api.Ir{a}, false},
		{[]api.Ir{{}}, nil, false},
		{[]api.Ir{a, b}, []api.Ir{a, b}, true},
		{[]api.Ir{a, b}, []api.Ir{b, a}, false},
		{[]api.Ir{a, b}, []api.Ir{a}, false},
		{[]api.Ir{a}, []api.Ir{a, b}, false},
		{[]api.Ir{a, b}, []api.Ir{b}, false},
		{[]api.Ir{a, a}, []api.Ir{a}, false},
		{[]api.Ir{c, c}, []api.Ir{c, c}, true}, // that are not valid
	} {
		if got := Same(x.a, x.b); got != x.same {
			t.Errorf("%+v and %+v: %t", x.a, x.b, got)
		}
	}
}

// P17.2

func TestExample(t *testing.T) {
	l := []api.Ir{sample.Take(api.Rax, 3), sample.Step(api.X{Op: api.XAddI, W: 64, Imm: 2}), sample.Give(3, api.Rax)}
	r := mustDo(t, l, [11]uint64{2: 9, 3: 5})
	if r.out != [11]uint64{2: 9, 3: 7} || r.m != (api.Machine{R: [16]uint64{7}, F: api.Flags{Known: true}}) || r.at != 3 {
		t.Errorf("%+v", r)
	}
}

func TestNoSteps(t *testing.T) {
	regs := [11]uint64{1, 2, 3, 4, 5, 6, 7, 8, 9, 10, 11}
	for _, l := range [][]api.Ir{nil, {}} {
		if r := do(l, regs); r != (result{out: regs}) {
			t.Errorf("%+v", r)
		}
	}
}

func TestCopies(t *testing.T) {
	var regs [11]uint64
	for i := range regs {
		regs[i] = uint64(i+1) << 40
	}
	for _, phys := range scratchRegisters {
		for reg := range int8(11) {
			r := mustDo(t, []api.Ir{sample.Take(phys, reg)}, regs)
			want := result{out: regs, at: 1}
			want.m.R[phys] = regs[reg]
			if r != want {
				t.Errorf("register %d becomes R%d: %+v", phys, reg, r)
			}
			r = mustDo(t, []api.Ir{sample.Give(reg, phys)}, regs) // 0 at first
			want = result{out: regs, at: 1}
			want.out[reg] = 0
			if r != want {
				t.Errorf("R%d becomes register %d: %+v", reg, phys, r)
			}
			for to := range int8(11) {
				r = mustDo(t, []api.Ir{sample.Take(phys, reg), sample.Give(to, phys)}, regs)
				want = result{out: regs, at: 2}
				want.out[to], want.m.R[phys] = regs[reg], regs[reg]
				if r != want {
					t.Errorf("R%d becomes R%d by register %d: %+v", to, reg, phys, r)
				}
			}
		}
	}
}

// taken tells steps that make all scratch registers what is in R0 to R3, and the flags known.
func taken() []api.Ir {
	compare := sample.Step(api.X{Op: api.XCmp, W: 64, Dst: api.Rcx, Src: api.Rdx})
	return []api.Ir{sample.Take(api.Rax, 0), sample.Take(api.Rcx, 1), sample.Take(api.Rdx, 2), sample.Take(api.R11, 3), compare}
}

func TestEachInstruction(t *testing.T) {
	done, faults := 0, 0
	for _, x := range instructions() {
		if x.Op == api.XLoad || x.Op == api.XStore {
			continue
		}
		for _, dst := range scratchRegisters {
			for _, src := range scratchRegisters {
				x.Dst, x.Src = dst, src
				if !encode.May(x) {
					continue
				}
				for i := range words {
					regs := [11]uint64{words[i], words[i*7%len(words)], words[i*i%len(words)*(i%2)], words[i*11%len(words)], 4, 5, 6, 7}
					m := api.Machine{}
					m.R[0], m.R[1], m.R[2], m.R[11] = regs[0], regs[1], regs[2], regs[3]
					m.F, _ = flags.Sub(64, regs[1], regs[2])
					after, e := exec.Do(m, x, 0)
					after.At = 0
					want := result{out: regs, m: after, at: 6, e: e}
					if done++; e != api.OK {
						want = result{e: api.ErrFault}
						faults++
					}
					if r := do(append(taken(), sample.Step(x)), regs); r != want {
						t.Fatalf("%+v on %x: %+v, not %+v", x, regs, r, want)
					}
				}
			}
		}
	}
	if done-faults < 5000 || faults < 50 {
		t.Error("too few of a kind:", done, faults)
	}
}

func TestFaults(t *testing.T) {
	div := func(w, dst int8) api.Ir { return sample.Step(api.X{Op: api.XDiv, W: w, Dst: dst}) }
	move := sample.Step(api.X{Op: api.XCmov, W: 64, Dst: api.Rcx, Src: api.Rdx, Cc: api.CcE})
	compare := sample.Step(api.X{Op: api.XCmp, W: 64, Dst: api.Rcx, Src: api.Rdx})
	exit := api.Ir{Kind: api.IrExit}
	for _, w := range []int8{32, 64} {
		fails(t, []api.Ir{div(w, api.Rcx)}, api.ErrFault)                                              // by 0
		fails(t, []api.Ir{sample.Take(api.Rax, 0), div(w, api.Rcx), exit}, api.ErrFault)               // ahead of a stop
		fails(t, []api.Ir{sample.Take(api.Rdx, 0), sample.Take(api.Rcx, 1), div(w, 1)}, api.ErrFault)  // rdx is not 0
		fails(t, []api.Ir{sample.Take(api.R11, 0), div(w, api.R11), div(w, api.Rcx)}, api.ErrFault)    // the second one
		mustDo(t, []api.Ir{sample.Take(api.R11, 0), div(w, api.R11), exit, div(w, 1)}, [11]uint64{12}) // behind a stop
		mustDo(t, []api.Ir{sample.Take(api.Rcx, 0), sample.Take(api.Rax, 1), div(w, api.Rcx)}, [11]uint64{12, 5})
	}
	for _, cc := range conditions {
		move.X.Cc = cc
		fails(t, []api.Ir{move}, api.ErrFault) // the flags are not known at first
		fails(t, append(taken()[:4], move), api.ErrFault)
		mustDo(t, []api.Ir{compare, move, move}, [11]uint64{})
		for _, lost := range []api.X{{Op: api.XMul, W: 32, Dst: api.Rcx}, {Op: api.XShl, W: 64}, {Op: api.XSarC, W: 32, Dst: api.Rdx}} {
			fails(t, []api.Ir{compare, sample.Step(lost), move}, api.ErrFault)
			mustDo(t, []api.Ir{compare, sample.Step(lost), compare, move}, [11]uint64{})
		}
	}
}

func TestWhatIsNotValidIsNotDone(t *testing.T) {
	fault := sample.Step(api.X{Op: api.XDiv, W: 64, Dst: api.Rcx})
	for _, x := range wrongSteps() {
		fails(t, []api.Ir{x}, api.ErrArg)
		fails(t, []api.Ir{sample.Take(api.Rax, 3), x, sample.Give(4, api.Rax)}, api.ErrArg)
		fails(t, []api.Ir{sample.Take(api.Rax, 3), sample.Give(4, api.Rax), x}, api.ErrArg)
		fails(t, []api.Ir{fault, x}, api.ErrArg) // ahead of the fault
		fails(t, []api.Ir{x, fault}, api.ErrArg)
		fails(t, []api.Ir{{Kind: api.IrExit}, x}, api.ErrArg) // even behind a stop
		fails(t, []api.Ir{sample.Give(1, api.Rax), {Kind: api.IrGoto, To: 3}, sample.Give(2, api.Rax), x}, api.ErrArg)
	}
}

func TestStopsAtEachPlace(t *testing.T) {
	var straight []api.Ir
	for reg := range int8(10) {
		straight = append(straight, sample.Take(api.Rdx, reg), sample.Step(api.X{Op: api.XAddI, W: 64, Dst: api.Rdx, Imm: 7}), sample.Give(reg+1, api.Rdx))
	}
	regs := [11]uint64{100}
	s := sample.Stream(5)
	for at := range len(straight) + 1 {
		state := newState(regs)
		want := state.run(straight[:at])
		for range 30 {
			stop := someStop(&s)
			l := slices.Insert(slices.Clone(straight), at, stop)
			if r := do(l, regs); r != want || !Stops(stop) {
				t.Fatalf("%+v at %d: %+v, not %+v", stop, at, r, want)
			}
			l = slices.Insert(l, at+1, someStop(&s)) // the first one counts
			if r := do(l, regs); r != want {
				t.Fatalf("%+v at %d and another one behind it: %+v, not %+v", stop, at, r, want)
			}
		}
	}
}

func TestStopsAheadOfAllThatStops(t *testing.T) {
	for _, x := range rightSteps() {
		l := []api.Ir{sample.Take(api.Rdx, 0), x, sample.Give(1, api.Rdx)}
		r := do(l, [11]uint64{55})
		stops := x.Kind >= api.IrHost || x.X.Op >= api.XLoad
		if r.e == api.OK && (r.at == 1) != stops {
			t.Errorf("%+v: %+v", x, r)
		}
		if stops && r != (result{[11]uint64{55}, api.Machine{R: [16]uint64{2: 55}}, 1, api.OK}) {
			t.Errorf("%+v: %+v", x, r)
		}
	}
}

func TestDoAgainstTheDocument(t *testing.T) {
	s := sample.Stream(3)
	errors, stopped := map[api.Errno]int{}, 0
	for i := range 40000 {
		l, regs := someList(&s, 11), someRegs(&s)
		r, want := do(l, regs), plainDo(l, regs)
		if r != want {
			t.Fatalf("%d: %+v on %x: %+v, not %+v", i, l, regs, r, want)
		}
		if errors[r.e]++; r.e == api.OK && r.at < len(l) {
			stopped++
		}
	}
	if errors[api.OK] < 10000 || errors[api.ErrArg] < 1000 || errors[api.ErrFault] < 1000 || stopped < 5000 {
		t.Error("too few of a kind:", errors, stopped)
	}
}

func TestTheMachine(t *testing.T) {
	s := sample.Stream(9)
	known := 0
	for range 5000 {
		l, regs := someList(&s, 11), someRegs(&s)
		r := do(l, regs)
		for n, v := range r.m.R {
			if v != 0 && n != 0 && n != 1 && n != 2 && n != 11 {
				t.Fatalf("%+v: register %d is %#x", l, n, v)
			}
		}
		if r.m.At != 0 || !r.m.F.Known && r.m.F != (api.Flags{}) {
			t.Fatalf("%+v: %+v", l, r.m)
		}
		if r.m.F.Known {
			known++
		}
	}
	if known < 1000 {
		t.Error("too few with known flags:", known)
	}
}

func TestManySteps(t *testing.T) {
	const n = 100000
	add := sample.Step(api.X{Op: api.XAddI, W: 64, Imm: 3})
	l := append(slices.Repeat([]api.Ir{add}, n), sample.Give(4, api.Rax))
	if r := mustDo(t, l, [11]uint64{}); r.out != [11]uint64{4: 3 * n} || r.at != n+1 || r.m.At != 0 {
		t.Errorf("%+v", r)
	}
	l[n].Reg = 11
	if at, e := Check(l); at != n || e != api.ErrArg {
		t.Error(at, e)
	}
	fails(t, l, api.ErrArg)
}

// P17.3

func TestWhatIsNotGivenStays(t *testing.T) {
	s := sample.Stream(11)
	stayed := 0
	for range 20000 {
		l, regs := someList(&s, 11), someRegs(&s)
		r := do(l, regs)
		if r.e != api.OK {
			continue
		}
		for reg := range regs {
			if Gives(l)>>reg&1 == 0 {
				if stayed++; r.out[reg] != regs[reg] {
					t.Fatalf("%+v on %x: R%d is %#x", l, regs, reg, r.out[reg])
				}
			}
		}
	}
	if stayed < 50000 {
		t.Error("too few registers that are not given:", stayed)
	}
}

func TestJoinedListsGoOnFromTheFirst(t *testing.T) {
	s := sample.Stream(13)
	ended := map[api.Errno]int{}
	for range 20000 {
		first, second, regs := straight(&s, 11), straight(&s, 11), someRegs(&s)
		if s.Below(3) == 0 {
			second = append(second, someStop(&s), sample.Give(1, api.Rax))
		}
		joined := do(slices.Concat(first, second), regs)
		r := do(first, regs)
		if r.e == api.OK {
			on := newState(r.out) // with the scratch registers and flags kept
			for n := range on.scratch {
				on.scratch[n] = r.m.R[n]
			}
			on.f = r.m.F
			if r = on.run(second); r.e == api.OK {
				r.at += len(first)
			}
		}
		if ended[joined.e]++; joined != r {
			t.Fatalf("%+v, then %+v on %x: %+v, not %+v", first, second, regs, joined, r)
		}
	}
	if ended[api.OK] < 5000 || ended[api.ErrFault] < 1000 {
		t.Error("too few of a kind:", ended)
	}
}

// restored tells steps that make the scratch registers and flags what is in a machine, and source registers from R5 on that they need.
func restored(t *testing.T, m api.Machine, from setting) ([]api.Ir, [11]uint64) {
	t.Helper()
	regs := [11]uint64{5: m.R[0], 6: m.R[1], 7: m.R[2], 8: m.R[11], 9: from.a, 10: from.b}
	l := []api.Ir{sample.Take(api.Rax, 9), sample.Take(api.Rcx, 10), sample.Step(from.x), sample.Take(api.Rax, 5), sample.Take(api.Rcx, 6), sample.Take(api.Rdx, 7), sample.Take(api.R11, 8)}
	if r := mustDo(t, l, regs); r.m != m {
		t.Fatalf("%+v is not restored: %+v", m, r.m)
	}
	return l, regs
}

func TestOneAfterTheOtherByDoAlone(t *testing.T) {
	s := sample.Stream(17)
	from := settings()
	if len(from) < 10 {
		t.Fatal("too few flags:", from)
	}
	done := 0
	for range 20000 {
		first, second, regs := straight(&s, 5), straight(&s, 5), someRegs(&s)
		one := do(first, regs)
		if one.e != api.OK {
			continue
		}
		f, ok := from[one.m.F]
		if !ok {
			t.Fatalf("nothing leaves %+v", one.m.F)
		}
		ahead, kept := restored(t, one.m, f)
		copy(kept[:5], one.out[:5])
		two := do(append(ahead, second...), kept)
		joined := do(append(first, second...), regs)
		if two.e != joined.e {
			t.Fatalf("%+v, then %+v on %x: %v, not %v", first, second, regs, joined.e, two.e)
		}
		if two.e != api.OK {
			continue
		}
		done++
		copy(two.out[5:], regs[5:]) // of which neither list gives one
		two.at += len(first) - len(ahead)
		if two != joined {
			t.Fatalf("%+v, then %+v on %x: %+v, not %+v", first, second, regs, joined, two)
		}
	}
	if done < 5000 {
		t.Error("too few:", done)
	}
}

// R3, R4

func TestNothingIsModified(t *testing.T) {
	s := sample.Stream(19)
	for range 2000 {
		l, regs := append(someList(&s, 11), sample.Take(0, 1), api.Ir{Kind: api.IrExit}), someRegs(&s)
		whole, was := slices.Clone(l), regs
		part := l[:len(l)-2]
		before := do(part, regs)
		Check(part)
		Takes(part)
		Gives(part)
		Same(part, l)
		if !slices.Equal(l, whole) || regs != was {
			t.Fatalf("%+v, not %+v", l, whole)
		}
		if again := do(part, regs); again != before {
			t.Fatalf("%+v: %+v, then %+v", part, before, again)
		}
	}
}
