package exec

import (
	"maps"
	"math"
	"slices"
	"testing"

	"lathe/api"
	"lathe/bits"
	"lathe/encode"
	"lathe/flags"
	"lathe/instr"
)

// Words with all bits set: all of them, and those from 32 and from 31 on.
const (
	all    uint64 = math.MaxUint64
	from32        = all - (1<<32 - 1)
	from31        = all - (1<<31 - 1)
)

// words are those at which widths, signs and carries turn.
var words = []uint64{
	0, 1, 2, 3, 5, 7, 31, 32, 33, 63, 64, 65, 0x7F, 0x80, 0xFF, 0x100, 0x7FFF, 0x8000, 0xFFFF, 0x10000,
	1<<31 - 1, 1 << 31, 1<<31 + 1, 1<<32 - 1, 1 << 32, 1<<32 + 1, 1<<32 + 31, 3 << 31, 0xDEADBEEF, 0x0123456789ABCDEF, 0xFEDCBA9876543210, 0xAAAAAAAAAAAAAAAA,
	from32, from31, 1<<63 - 1, 1 << 63, 1<<63 + 1, all - 1, all,
}

// imms are numbers of 4 bytes.
var imms = []int{0, 1, -1, 7, -7, 127, -128, 0x12345678, -0x12345678, math.MaxInt32, math.MinInt32}

var registers = []int8{0, 1, 2, 3, 4, 5, 6, 7, 8, 9, 10, 11, 12, 13, 14, 15}

// The flags of a machine: known and not, and some that no call returns.
var someFlags = []api.Flags{
	{}, {Known: true}, {Known: true, C: true}, {Known: true, Z: true}, {Known: true, S: true}, {Known: true, O: true},
	{Known: true, Z: true, S: true, O: true}, {Known: true, C: true, S: true}, {C: true, Z: true},
}

// eachByte calls f with every int8.
func eachByte(f func(v int8)) {
	for v := math.MinInt8; v <= math.MaxInt8; v++ {
		f(int8(v))
	}
}

// eachFlags calls f with all flags, whether a call returns them or not.
func eachFlags(f func(x api.Flags)) {
	for i := range 32 {
		f(api.Flags{Known: i&1 != 0, C: i&2 != 0, Z: i&4 != 0, S: i&8 != 0, O: i&16 != 0})
	}
}

// eachX calls f with valid instructions: all operations, widths, registers and conditions, and some numbers.
func eachX(f func(x api.X)) {
	for _, r := range rows {
		for _, w := range r.at() {
			for _, cc := range numbers(r, "Cc", slices.Sorted(maps.Keys(conditions))) {
				for _, dst := range numbers(r, "Dst", registers) {
					for _, src := range numbers(r, "Src", registers) {
						for _, base := range numbers(r, "Base", registers) {
							for _, x := range withNumbers(r, w) {
								x.Op, x.W, x.Cc, x.Dst, x.Src, x.Base = r.op, w, cc, dst, src, base
								f(x)
							}
						}
					}
				}
			}
		}
	}
}

// withNumbers tells instructions that have nothing but a Disp or an Imm.
func withNumbers(r row, w int8) []api.X {
	var l []api.X
	shifts := []int{0, 1, 5, int(w) - 1}
	jumps := []int{0, 1, -1, 127, -128}
	if w == 32 {
		jumps = append(jumps, math.MaxInt32, math.MinInt32)
	}
	for _, disp := range numbers(r, "Disp", []int{0, -8, math.MaxInt32, math.MinInt32}) {
		for _, imm := range numbers(r, "Imm", imms) {
			for _, shift := range numbers(r, "Shift", shifts) {
				for _, jump := range numbers(r, "Jump", jumps) {
					l = append(l, api.X{Disp: disp, Imm: imm + shift + jump})
				}
			}
		}
	}
	return l
}

// machine tells one whose registers and place are words, each another one, from the n-th on.
func machine(n int, f api.Flags) api.Machine {
	m := api.Machine{F: f, At: words[n*7%len(words)]}
	for i := range m.R {
		m.R[i] = words[(n+i*5)%len(words)]
	}
	return m
}

// hold compares what Do answers with the chapter's words.
func hold(t *testing.T, m api.Machine, x api.X, loaded uint64) {
	t.Helper()
	want, e := plainDo(m, x, loaded)
	if got, f := Do(m, x, loaded); got != want || f != e {
		t.Errorf("%+v, %+v, %#x: %+v, %v, not %+v, %v", m, x, loaded, got, f, want, e)
	}
}

// must is Do where it may not fail.
func must(t *testing.T, m api.Machine, x api.X, loaded uint64) api.Machine {
	t.Helper()
	o, e := Do(m, x, loaded)
	if e != api.OK {
		t.Fatalf("%+v, %+v: %v", m, x, e)
	}
	return o
}

// with tells a machine with some registers.
func with(r map[int8]uint64) api.Machine {
	m := api.Machine{At: api.CodeAt}
	for n, v := range r {
		m.R[n] = v
	}
	return m
}

// P15.1

// byHand is an instruction with what it leaves: a register, the flags, and how far At goes.
type byHand struct {
	x      api.X
	reg    int8
	want   uint64
	f      api.Flags
	length uint64
}

// known tells known flags of the letters of those that are set.
func known(s string) api.Flags {
	f := api.Flags{Known: true}
	for _, c := range s {
		f.C, f.Z, f.S, f.O = f.C || c == 'C', f.Z || c == 'Z', f.S || c == 'S', f.O || c == 'O'
	}
	return f
}

// holdByHand executes instructions on one and the same machine.
func holdByHand(t *testing.T, l []byHand) {
	t.Helper()
	m := with(map[int8]uint64{api.Rax: 5, api.Rcx: 1<<32 + 35, api.Rbx: all, api.R9: 1 << 31})
	for _, c := range l {
		o := must(t, m, c.x, 0x0123456789ABCDEF)
		if o.R[c.reg] != c.want || o.F != c.f || o.At != api.CodeAt+c.length {
			t.Errorf("%+v: %#x, %v, %d bytes, not %#x, %v, %d", c.x, o.R[c.reg], o.F, o.At-api.CodeAt, c.want, c.f, c.length)
		}
	}
}

func TestMovesAndSumsByHand(t *testing.T) {
	holdByHand(t, []byHand{
		{api.X{Op: api.XSubI, W: 64, Dst: api.Rax, Imm: 7}, api.Rax, all - 1, known("CS"), 7},
		{api.X{Op: api.XSubI, W: 32, Dst: api.Rax, Imm: 7}, api.Rax, 1<<32 - 2, known("CS"), 6},
		{api.X{Op: api.XSub, W: 64, Dst: api.Rax, Src: api.Rax}, api.Rax, 0, known("Z"), 3},
		{api.X{Op: api.XMov, W: 64, Dst: api.R9, Src: api.Rbx}, api.R9, all, api.Flags{}, 3},
		{api.X{Op: api.XMov, W: 32, Dst: api.R9, Src: api.Rbx}, api.R9, 1<<32 - 1, api.Flags{}, 3},
		{api.X{Op: api.XMov, W: 32, Dst: api.Rcx, Src: api.Rcx}, api.Rcx, 35, api.Flags{}, 2},
		{api.X{Op: api.XMovI, W: 64, Dst: api.Rax, Imm: -2}, api.Rax, all - 1, api.Flags{}, 7},
		{api.X{Op: api.XMovI, W: 32, Dst: api.Rax, Imm: -2}, api.Rax, 1<<32 - 2, api.Flags{}, 5},
		{api.X{Op: api.XAdd, W: 64, Dst: api.Rax, Src: api.Rbx}, api.Rax, 4, known("C"), 3},
		{api.X{Op: api.XAdd, W: 32, Dst: api.R9, Src: api.R9}, api.R9, 0, known("CZO"), 3},
		{api.X{Op: api.XAdd, W: 64, Dst: api.R9, Src: api.R9}, api.R9, 1 << 32, known(""), 3},
		{api.X{Op: api.XAddI, W: 64, Dst: api.Rax, Imm: -5}, api.Rax, 0, known("CZ"), 7},
		{api.X{Op: api.XAnd, W: 32, Dst: api.Rbx, Src: api.R9}, api.Rbx, 1 << 31, known("S"), 3},
		{api.X{Op: api.XAndI, W: 64, Dst: api.Rbx, Imm: -8}, api.Rbx, all - 7, known("S"), 7},
		{api.X{Op: api.XAndI, W: 64, Dst: api.Rax, Imm: 2}, api.Rax, 0, known("Z"), 7},
		{api.X{Op: api.XOr, W: 64, Dst: api.Rax, Src: api.R9}, api.Rax, 1<<31 + 5, known(""), 3},
		{api.X{Op: api.XOrI, W: 32, Dst: api.Rax, Imm: math.MinInt32}, api.Rax, 1<<31 + 5, known("S"), 6},
		{api.X{Op: api.XOrI, W: 64, Dst: api.Rax, Imm: math.MinInt32}, api.Rax, from31 + 5, known("S"), 7},
		{api.X{Op: api.XXor, W: 64, Dst: api.Rbx, Src: api.Rax}, api.Rbx, all - 5, known("S"), 3},
		{api.X{Op: api.XXorI, W: 32, Dst: api.Rbx, Imm: -1}, api.Rbx, 0, known("Z"), 6},
		{api.X{Op: api.XCmp, W: 64, Dst: api.Rax, Src: api.Rbx}, api.Rax, 5, known("C"), 3},
		{api.X{Op: api.XCmp, W: 32, Dst: api.Rbx, Src: api.Rbx}, api.Rbx, all, known("Z"), 2}, // nothing is cut
		{api.X{Op: api.XCmpI, W: 32, Dst: api.R9, Imm: 1}, api.R9, 1 << 31, known("O"), 7},
		{api.X{Op: api.XTest, W: 32, Dst: api.Rbx, Src: api.R9}, api.Rbx, all, known("S"), 3},
		{api.X{Op: api.XTestI, W: 64, Dst: api.Rax, Imm: 2}, api.Rax, 5, known("Z"), 7},
	})
}

func TestProductsAndShiftsAndLoadsByHand(t *testing.T) {
	holdByHand(t, []byHand{
		{api.X{Op: api.XMul, W: 64, Dst: api.Rax, Src: api.R9}, api.Rax, 5 << 31, api.Flags{}, 4},
		{api.X{Op: api.XMul, W: 32, Dst: api.Rax, Src: api.R9}, api.Rax, 1 << 31, api.Flags{}, 4},
		{api.X{Op: api.XShl, W: 64, Dst: api.Rax, Imm: 63}, api.Rax, 1 << 63, api.Flags{}, 4},
		{api.X{Op: api.XShl, W: 32, Dst: api.Rbx, Imm: 0}, api.Rbx, 1<<32 - 1, api.Flags{}, 3},
		{api.X{Op: api.XShr, W: 32, Dst: api.Rbx, Imm: 31}, api.Rbx, 1, api.Flags{}, 3},
		{api.X{Op: api.XSar, W: 64, Dst: api.Rbx, Imm: 63}, api.Rbx, all, api.Flags{}, 4},
		{api.X{Op: api.XSar, W: 32, Dst: api.R9, Imm: 4}, api.R9, 0xF8000000, api.Flags{}, 4},
		{api.X{Op: api.XSar, W: 64, Dst: api.R9, Imm: 4}, api.R9, 0x08000000, api.Flags{}, 4},
		{api.X{Op: api.XShlC, W: 32, Dst: api.Rax}, api.Rax, 40, api.Flags{}, 2},
		{api.X{Op: api.XShlC, W: 64, Dst: api.Rax}, api.Rax, 5 << 35, api.Flags{}, 3},
		{api.X{Op: api.XShrC, W: 32, Dst: api.Rcx}, api.Rcx, 4, api.Flags{}, 2}, // by itself
		{api.X{Op: api.XSarC, W: 32, Dst: api.R9}, api.R9, 0xF0000000, api.Flags{}, 3},
		{api.X{Op: api.XNeg, W: 32, Dst: api.Rbx}, api.Rbx, 1, known("C"), 2},
		{api.X{Op: api.XNeg, W: 32, Dst: api.R9}, api.R9, 1 << 31, known("CSO"), 3},
		{api.X{Op: api.XNeg, W: 64, Dst: api.Rdx}, api.Rdx, 0, known("Z"), 3},
		{api.X{Op: api.XDiv, W: 64, Dst: api.Rax}, api.Rax, 1, api.Flags{}, 3},
		{api.X{Op: api.XDiv, W: 32, Dst: api.Rcx}, api.Rdx, 5, api.Flags{}, 2},
		{api.X{Op: api.XLoad, W: 8, Dst: api.R9, Base: api.Rax}, api.R9, 0xEF, api.Flags{}, 8},
		{api.X{Op: api.XLoad, W: 16, Dst: api.Rax, Base: api.Rax}, api.Rax, 0xCDEF, api.Flags{}, 7},
		{api.X{Op: api.XLoad, W: 32, Dst: api.Rax, Base: api.Rax}, api.Rax, 0x89ABCDEF, api.Flags{}, 6},
		{api.X{Op: api.XLoad, W: 64, Dst: api.Rax, Base: api.Rax}, api.Rax, 0x0123456789ABCDEF, api.Flags{}, 7},
		{api.X{Op: api.XStore, W: 8, Src: api.Rbx, Base: api.Rax}, api.Rbx, all, api.Flags{}, 7},
	})
}

func TestDoOfAllPairs(t *testing.T) {
	for _, r := range rows {
		for _, w := range r.at() {
			for _, a := range words {
				for _, b := range words {
					m := with(map[int8]uint64{api.Rbx: a, api.R13: b, api.Rcx: b, api.Rax: b})
					x := api.X{Op: r.op, W: w}
					x.Dst = numbers(r, "Dst", []int8{api.Rbx})[0]
					x.Src = numbers(r, "Src", []int8{api.R13})[0]
					x.Cc = numbers(r, "Cc", []int8{api.CcBe})[0]
					hold(t, m, x, b)
				}
			}
		}
	}
}

func TestDoWithAllImms(t *testing.T) {
	for _, r := range rows {
		for _, w := range r.at() {
			for _, x := range withNumbers(r, w) {
				x.Op, x.W = r.op, w
				x.Dst = numbers(r, "Dst", []int8{api.R12})[0]
				x.Cc = numbers(r, "Cc", []int8{api.CcL})[0]
				for _, a := range words {
					hold(t, api.Machine{R: [16]uint64{api.R12: a, api.Rcx: 77}, At: a}, x, a)
				}
			}
		}
	}
}

func TestDoOnAllRegisters(t *testing.T) {
	n := 0
	eachX(func(x api.X) {
		n++
		m := machine(n, someFlags[n%len(someFlags)])
		if x.Op == api.XDiv && n%2 == 0 {
			m.R[api.Rdx] = 0
		}
		hold(t, m, x, words[n*3%len(words)])
	})
}

func TestFlagsOfConditions(t *testing.T) {
	m := machine(9, api.Flags{})
	for cc := range conditions {
		eachFlags(func(f api.Flags) {
			m.F = f
			hold(t, m, api.X{Op: api.XJcc, W: 8, Cc: cc, Imm: -7}, 0)
			hold(t, m, api.X{Op: api.XJcc, W: 32, Cc: cc, Imm: 700}, 0)
			for _, w := range []int8{32, 64} {
				x := api.X{Op: api.XCmov, W: w, Cc: cc, Dst: api.Rsi, Src: api.R15}
				hold(t, m, x, 0)
				if o, e := Do(m, x, 0); (e == api.ErrFault) == f.Known || e == api.OK && o.F != f {
					t.Errorf("%+v with the flags %+v: %+v, %v", x, f, o.F, e)
				}
			}
		})
	}
}

func TestConditionsByHand(t *testing.T) {
	m := with(map[int8]uint64{api.Rax: 5, api.Rbx: all})
	jump := api.X{Op: api.XJcc, W: 8, Cc: api.CcB, Imm: 10}
	move := api.X{Op: api.XCmov, W: 32, Cc: api.CcAe, Dst: api.Rbx, Src: api.Rax}
	for _, x := range []api.X{jump, move} {
		if o, e := Do(m, x, 0); e != api.ErrFault || o != (api.Machine{}) {
			t.Errorf("%+v, flags not known: %+v, %v", x, o, e)
		}
	}
	m = must(t, m, api.X{Op: api.XCmpI, W: 64, Dst: api.Rax, Imm: 7}, 0)
	if o := must(t, m, jump, 0); o.At != m.At+12 {
		t.Errorf("B holds: %d bytes", o.At-m.At)
	}
	if o := must(t, m, move, 0); o.R[api.Rbx] != 1<<32-1 { // Ae does not, but Dst is cut
		t.Errorf("Ae does not hold: %#x", o.R[api.Rbx])
	}
	jump.Cc, move.Cc = api.CcAe, api.CcB
	if o := must(t, m, jump, 0); o.At != m.At+2 {
		t.Errorf("Ae does not hold: %d bytes", o.At-m.At)
	}
	if o := must(t, m, move, 0); o.R[api.Rbx] != 5 {
		t.Errorf("B holds: %#x", o.R[api.Rbx])
	}
}

func TestWhatSetsNoFlagsKeepsOrLosesThem(t *testing.T) {
	eachFlags(func(f api.Flags) {
		m := with(map[int8]uint64{api.Rax: 6})
		m.F = f
		for _, r := range rows {
			x := api.X{Op: r.op, W: r.at()[0], Cc: numbers(r, "Cc", []int8{api.CcG})[0]}
			asks := x.Op == api.XCmov || x.Op == api.XJcc
			if asks && !f.Known || r.flags != "" && r.flags != "?" {
				continue
			}
			want := f
			if r.flags == "?" {
				want = flags.None()
			}
			if o := must(t, m, x, 7); o.F != want {
				t.Errorf("%+v of the flags %+v leaves %+v", x, f, o.F)
			}
		}
	})
}

func TestDivisions(t *testing.T) {
	for _, c := range []struct {
		w             int8
		rax, rdx, rbx uint64
		e             api.Errno
		quotient      uint64
		remainder     uint64
	}{
		{64, 17, 0, 5, api.OK, 3, 2},
		{64, all, 0, 2, api.OK, 1<<63 - 1, 1}, // without a sign
		{64, 3, 0, all, api.OK, 0, 3},
		{64, 0, 0, 1, api.OK, 0, 0},
		{64, 17, 1, 5, api.ErrFault, 0, 0},
		{64, 17, 1 << 32, 5, api.ErrFault, 0, 0},
		{64, 17, 0, 0, api.ErrFault, 0, 0},
		{64, 17, 1, 0, api.ErrFault, 0, 0},
		{64, 17, 0, 1 << 32, api.OK, 0, 17},
		{32, 17, 1 << 32, 5, api.OK, 3, 2}, // of rdx only the lowest bits count
		{32, 17, from32, 5, api.OK, 3, 2},
		{32, 17, 1 << 31, 5, api.ErrFault, 0, 0},
		{32, 17, 0, 1 << 32, api.ErrFault, 0, 0}, // a divisor that is 0 once it is cut
		{32, 9<<32 + 17, 0, 7<<32 + 5, api.OK, 3, 2},
		{32, all, 0, 1, api.OK, 1<<32 - 1, 0},
	} {
		m := with(map[int8]uint64{api.Rax: c.rax, api.Rdx: c.rdx, api.Rbx: c.rbx})
		o, e := Do(m, api.X{Op: api.XDiv, W: c.w, Dst: api.Rbx}, 0)
		if e != c.e || o.R[api.Rax] != c.quotient || o.R[api.Rdx] != c.remainder {
			t.Errorf("width %d, %#x, %#x by %#x: %+v, %v", c.w, c.rdx, c.rax, c.rbx, o, e)
		}
		if e == api.ErrFault && o != (api.Machine{}) || e == api.OK && o.R[api.Rbx] != c.rbx {
			t.Errorf("width %d, %#x, %#x by %#x: %+v, %v", c.w, c.rdx, c.rax, c.rbx, o, e)
		}
	}
}

func TestDivisionByWhatItWrites(t *testing.T) {
	m := with(map[int8]uint64{api.Rax: 6})
	o := must(t, m, api.X{Op: api.XDiv, W: 64, Dst: api.Rax}, 0)
	if o.R[api.Rax] != 1 || o.R[api.Rdx] != 0 {
		t.Errorf("6 by 6: %#x", o.R)
	}
	for _, rdx := range []uint64{0, 3, 1 << 32} { // either it is 0, or it is not
		m.R[api.Rdx] = rdx
		for _, w := range []int8{32, 64} {
			if o, e := Do(m, api.X{Op: api.XDiv, W: w, Dst: api.Rdx}, 0); e != api.ErrFault {
				t.Errorf("width %d, by rdx, which is %d: %+v, %v", w, rdx, o, e)
			}
		}
	}
}

func TestShiftsByRcx(t *testing.T) {
	const v = 0x89ABCDEF01234567
	for count := range uint64(200) {
		for _, w := range []int8{32, 64} {
			for op := api.XShlC; op <= api.XSarC; op++ {
				m := with(map[int8]uint64{api.Rcx: count, api.Rdi: v})
				hold(t, m, api.X{Op: op, W: w, Dst: api.Rdi}, 0)
				hold(t, m, api.X{Op: op, W: w, Dst: api.Rcx}, 0)
				m.R[api.Rcx] += 1 << 40
				hold(t, m, api.X{Op: op, W: w, Dst: api.Rdi}, 0)
			}
		}
	}
}

func TestPlaces(t *testing.T) {
	for _, c := range []struct {
		x          api.X
		at, loaded uint64
		want       uint64
	}{
		{api.X{Op: api.XJmp, W: 8, Imm: 0}, 100, 9, 102},
		{api.X{Op: api.XJmp, W: 8, Imm: 127}, 100, 9, 229},
		{api.X{Op: api.XJmp, W: 8, Imm: -128}, 100, 9, all - 25}, // below 0
		{api.X{Op: api.XJmp, W: 8, Imm: -2}, 100, 9, 100},
		{api.X{Op: api.XJmp, W: 32, Imm: 1000}, 100, 9, 1105},
		{api.X{Op: api.XJmp, W: 32, Imm: math.MinInt32}, 1 << 40, 9, 1<<40 + 5 - 1<<31},
		{api.X{Op: api.XJmp, W: 32, Imm: math.MaxInt32}, all, 9, 1<<31 + 3}, // above all words
		{api.X{Op: api.XMov, W: 64}, all - 2, 9, 0},
		{api.X{Op: api.XRet}, 100, 0, 0},
		{api.X{Op: api.XRet}, 100, all, all},
		{api.X{Op: api.XHost}, 100, 9, 102},
		{api.X{Op: api.XStore, W: 16}, 100, 9, 107},
	} {
		if o := must(t, api.Machine{At: c.at}, c.x, c.loaded); o.At != c.want {
			t.Errorf("%+v at %d goes on at %#x, not %#x", c.x, c.at, o.At, c.want)
		}
	}
}

func TestReturnAndHost(t *testing.T) {
	m := machine(3, api.Flags{Known: true, S: true})
	m.R[api.Rsp] = api.StackTop
	want := m
	want.At, want.R[api.Rsp] = 77, api.StackEnd
	if o := must(t, m, api.X{Op: api.XRet}, 77); o != want {
		t.Errorf("XRet: %+v, not %+v", o, want)
	}
	m.R[api.Rsp] = all - 7
	if o := must(t, m, api.X{Op: api.XRet}, 77); o.R[api.Rsp] != 0 {
		t.Errorf("XRet at the end of all words: rsp is %#x", o.R[api.Rsp])
	}
	want = m
	want.At, want.R[api.Rax], want.R[api.Rcx], want.R[api.R11] = m.At+2, all, 0, 0
	if o := must(t, m, api.X{Op: api.XHost}, all); o != want { // rax need not be a host's number
		t.Errorf("XHost: %+v, not %+v", o, want)
	}
}

// changed tells an instruction with one field after the other changed to every number, or, of the wide fields, to some.
func changed(x api.X, f func(x api.X)) {
	eachByte(func(v int8) {
		for i := range 6 {
			y := x
			*[]*int8{&y.Op, &y.W, &y.Dst, &y.Src, &y.Base, &y.Cc}[i] = v
			f(y)
		}
	})
	for _, v := range []int{-1, 1, 31, 32, 63, 64, -128, -129, 127, 128, math.MaxInt32, math.MaxInt32 + 1, math.MinInt32, math.MinInt32 - 1, math.MaxInt, math.MinInt} {
		for i := range 2 {
			y := x
			*[]*int{&y.Disp, &y.Imm}[i] = v
			f(y)
		}
	}
}

func TestWhatIsNotValid(t *testing.T) {
	m := machine(5, api.Flags{}) // conditions would fault, and divisions
	for _, r := range rows {
		for _, w := range r.at() {
			changed(api.X{Op: r.op, W: w, Cc: numbers(r, "Cc", []int8{api.CcA})[0]}, func(x api.X) {
				if encode.May(x) {
					hold(t, m, x, 5)
					return
				}
				if o, e := Do(m, x, 5); o != (api.Machine{}) || e != api.ErrArg {
					t.Errorf("%+v is not valid: %+v, %v", x, o, e)
				}
				if at, n, ok := Address(m, x); at != 0 || n != 0 || ok {
					t.Errorf("%+v is not valid: at %#x, %d bytes, %t", x, at, n, ok)
				}
				if v := Stored(m, x); v != 0 {
					t.Errorf("%+v is not valid: stores %#x", x, v)
				}
			})
		}
	}
}

func TestNotValidByHand(t *testing.T) {
	for _, x := range []api.X{
		{}, // XMov without a width
		{Op: -1, W: 64},
		{Op: 32, W: 64},
		{Op: 127, W: 64},
		{Op: -128, W: -128},
		{W: 64, Dst: 16},
		{W: 64, Src: -1},
		{W: 64, Imm: 1}, // a field that it does not name
		{Op: api.XRet, W: 8},
		{Op: api.XShl, W: 32, Imm: 32},
		{Op: api.XJmp, W: 8, Imm: 128},
		{Op: api.XJcc, W: 8, Cc: 0},
		{Op: api.XCmov, W: 64, Cc: 16},
		{Op: api.XLoad, W: 24},
		{Op: api.XStore, W: 64, Base: 16},
		{Op: api.XStore, W: 64, Disp: 1 << 31},
	} {
		if o, e := Do(api.Machine{At: 7}, x, 1); o != (api.Machine{}) || e != api.ErrArg {
			t.Errorf("%+v: %+v, %v", x, o, e)
		}
	}
}

func TestAddressByHand(t *testing.T) {
	m := with(map[int8]uint64{api.Rax: 5, api.Rsp: api.StackTop, api.R12: all})
	for _, c := range []struct {
		x    api.X
		at   uint64
		size int
		ok   bool
	}{
		{api.X{Op: api.XStore, W: 32, Base: api.Rax, Disp: -8}, all - 2, 4, true},
		{api.X{Op: api.XStore, W: 8, Base: api.Rsp, Disp: 16}, api.StackTop + 16, 1, true},
		{api.X{Op: api.XLoad, W: 16, Base: api.R12, Disp: 3}, 2, 2, true},
		{api.X{Op: api.XLoad, W: 64, Base: api.Rax, Disp: math.MaxInt32}, 1<<31 + 4, 8, true},
		{api.X{Op: api.XLoad, W: 8, Base: api.Rcx, Disp: math.MinInt32}, from31, 1, true},
		{api.X{Op: api.XRet}, api.StackTop, 8, true},
		{api.X{Op: api.XHost}, 0, 0, false},
		{api.X{Op: api.XMov, W: 64, Src: api.R12}, 0, 0, false},
		{api.X{Op: api.XJmp, W: 8, Imm: 4}, 0, 0, false},
		{api.X{Op: api.XLoad, W: 0, Base: api.Rax}, 0, 0, false},
		{api.X{Op: api.XRet, Base: api.Rax, Disp: 8}, 0, 0, false},
	} {
		if at, n, ok := Address(m, c.x); at != c.at || n != c.size || ok != c.ok {
			t.Errorf("%+v: %#x, %d, %t, not %#x, %d, %t", c.x, at, n, ok, c.at, c.size, c.ok)
		}
	}
}

func TestAddressAndStoredOfAllInstructions(t *testing.T) {
	n := 0
	eachX(func(x api.X) {
		n++
		m := machine(n, api.Flags{})
		at, size, ok := Address(m, x)
		if wantAt, wantSize, want := plainAddress(m, x); at != wantAt || size != wantSize || ok != want {
			t.Errorf("%+v, %+v: %#x, %d, %t, not %#x, %d, %t", m, x, at, size, ok, wantAt, wantSize, want)
		}
		if v := Stored(m, x); v != plainStored(m, x) {
			t.Errorf("%+v, %+v stores %#x, not %#x", m, x, v, plainStored(m, x))
		}
	})
}

func TestStoredByHand(t *testing.T) {
	m := with(map[int8]uint64{api.R9: 0x89ABCDEF01234567, api.Rax: all})
	for w, want := range map[int8]uint64{8: 0x67, 16: 0x4567, 32: 0x01234567, 64: 0x89ABCDEF01234567, 0: 0, 7: 0, -8: 0, 127: 0} {
		if v := Stored(m, api.X{Op: api.XStore, W: w, Src: api.R9}); v != want {
			t.Errorf("width %d: %#x, not %#x", w, v, want)
		}
	}
	if v := Stored(m, api.X{Op: api.XMov, W: 64, Src: api.R9}); v != 0 {
		t.Errorf("XMov stores %#x", v)
	}
}

func TestHostCalls(t *testing.T) {
	m := with(map[int8]uint64{api.Rdi: 11, api.Rsi: 22, api.Rdx: 33, api.R10: 44, api.R8: 55, api.Rcx: 66, api.R9: 77})
	args := []uint64{11, 22, 33, 44, 55}
	for num := range uint64(300) {
		m.R[api.Rax] = num
		n, ok := Num(m)
		if is := num < 16; ok != is || is && n != int(num) || !is && n != 0 {
			t.Errorf("Num with rax %d: %d, %t", num, n, ok)
		}
		want := args[:0]
		if num < 16 {
			want = args[:num%6]
		}
		if got := Args(m); !slices.Equal(got, want) || len(got) != instr.Args(int(num)) {
			t.Errorf("Args with rax %d: %d, not %d", num, got, want)
		}
	}
	for _, num := range []uint64{1 << 8, 1 << 16, 1<<32 + 5, 1<<31 + 5, 1 << 63, 1<<63 + 5, all} {
		m.R[api.Rax] = num
		if n, ok := Num(m); n != 0 || ok || len(Args(m)) != 0 {
			t.Errorf("rax %#x: %d, %t, %d", num, n, ok, Args(m))
		}
	}
}

func TestArgsAreNewMemory(t *testing.T) {
	m := with(map[int8]uint64{api.Rax: 5, api.Rdi: 11})
	first, second := Args(m), Args(m)
	first[0] = 99
	if second[0] != 11 || Args(m)[0] != 11 || m.R[api.Rdi] != 11 {
		t.Error("two results of Args share memory")
	}
}

// P15.2

func TestConditionsOfAllNumbers(t *testing.T) {
	eachByte(func(cc int8) {
		var to, back int8
		var toOk, backOk bool
		for _, p := range sourceConditions {
			if p.source == cc {
				to, toOk = p.target, true
			}
			if p.target == cc && p.source != api.Set {
				back, backOk = p.source, true
			}
		}
		for range 20 { // whatever the order in which a map is gone through
			if c, ok := ToCc(cc); c != to || ok != toOk {
				t.Errorf("ToCc(%d) = %d, %t, not %d, %t", cc, c, ok, to, toOk)
			}
			if c, ok := Cc(cc); c != back || ok != backOk {
				t.Errorf("Cc(%d) = %d, %t, not %d, %t", cc, c, ok, back, backOk)
			}
		}
	})
}

func TestCcUndoesToCc(t *testing.T) {
	for cc := api.Eq; cc < api.Set; cc++ {
		target, _ := ToCc(cc)
		if back, ok := Cc(target); back != cc || !ok {
			t.Errorf("Cc(ToCc(%d)) = %d, %t", cc, back, ok)
		}
	}
}

// jumps tells whether XJcc goes on elsewhere.
func jumps(t *testing.T, m api.Machine, cc int8) bool {
	t.Helper()
	o := must(t, m, api.X{Op: api.XJcc, W: 8, Cc: cc, Imm: 50}, 0)
	return o.At == m.At+52
}

func TestTargetConditionsHoldWhereTheSourcesDo(t *testing.T) {
	for _, w := range []int8{32, 64} {
		for _, a := range words {
			for _, b := range words {
				m := with(map[int8]uint64{api.Rdx: a, api.R11: b})
				compared := must(t, m, api.X{Op: api.XCmp, W: w, Dst: api.Rdx, Src: api.R11}, 0)
				tested := must(t, m, api.X{Op: api.XTest, W: w, Dst: api.Rdx, Src: api.R11}, 0)
				for source := api.Eq; source <= api.Set; source++ {
					after := compared
					if source == api.Set {
						after = tested
					}
					target, ok := ToCc(source)
					want, e := bits.Holds(source, w, a, b)
					if got := jumps(t, after, target); !ok || got != want || e != api.OK {
						t.Errorf("width %d, %#x and %#x: %d holds: %t, its target's %d: %t", w, a, b, source, want, target, got)
					}
				}
			}
		}
	}
}

// P15.3

func TestConditionsAfterCompares(t *testing.T) {
	for _, w := range []int8{32, 64} {
		for _, a := range words {
			for _, imm := range imms {
				m := must(t, with(map[int8]uint64{api.R15: a}), api.X{Op: api.XCmpI, W: w, Dst: api.R15, Imm: imm}, 0)
				for cc := range conditions {
					source, ok := Cc(cc)
					want, e := bits.Holds(source, w, a, uint64(imm))
					if got := jumps(t, m, cc); !ok || e != api.OK || got != want {
						t.Errorf("width %d, %#x and %d: %d is %t, not %t", w, a, imm, cc, got, want)
					}
				}
			}
		}
	}
}

func TestResultsAreThoseOfBits(t *testing.T) {
	operations := map[int8]int8{
		api.XAdd: api.Add, api.XOr: api.Or, api.XAnd: api.And, api.XSub: api.Sub, api.XXor: api.Xor, api.XMul: api.Mul,
		api.XNeg: api.Neg, api.XShlC: api.Lsh, api.XShrC: api.Rsh, api.XSarC: api.Arsh, api.XMov: api.Mov,
	}
	for op, source := range operations {
		for _, w := range []int8{32, 64} {
			for _, a := range words {
				for _, b := range words {
					x := api.X{Op: op, W: w, Dst: api.Rbp, Src: api.Rcx}
					if op == api.XNeg || op >= api.XShlC && op <= api.XSarC {
						x.Src = 0
					}
					o := must(t, with(map[int8]uint64{api.Rbp: a, api.Rcx: b}), x, 0)
					if want, e := bits.Do(source, w, a, b); o.R[api.Rbp] != want || e != api.OK {
						t.Errorf("%+v of %#x and %#x: %#x, not %#x", x, a, b, o.R[api.Rbp], want)
					}
				}
			}
		}
	}
}

func TestOnlySomeTouchMemoryOrTheHost(t *testing.T) {
	m := machine(1, api.Flags{Known: true})
	for i := range m.R {
		m.R[i] = all
	}
	m.R[api.Rdx] = 0
	eachX(func(x api.X) {
		_, _, ok := Address(m, x)
		if is := x.Op == api.XLoad || x.Op == api.XStore || x.Op == api.XRet; ok != is {
			t.Errorf("%+v accesses memory: %t", x, ok)
		}
		if stored := Stored(m, x); x.Op != api.XStore && stored != 0 {
			t.Errorf("%+v stores %#x", x, stored)
		}
		one, e := Do(m, x, 5)
		other, f := Do(m, x, 6)
		takes := x.Op == api.XLoad || x.Op == api.XRet || x.Op == api.XHost
		if e != f || (one != other) != takes {
			t.Errorf("%+v takes what is loaded: %t", x, one != other)
		}
	})
}

func TestRegistersThatAreNotWrittenStay(t *testing.T) {
	n := 0
	eachX(func(x api.X) {
		n++
		m := machine(n, api.Flags{Known: true, C: n%2 == 0})
		o, e := Do(m, x, words[n%len(words)])
		for r := range m.R {
			if e == api.OK && encode.Writes(x)>>r&1 == 0 && o.R[r] != m.R[r] {
				t.Errorf("%+v changes register %d", x, r)
			}
		}
	})
}
