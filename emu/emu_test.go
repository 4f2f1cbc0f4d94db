package emu

import (
	"bytes"
	"math"
	"slices"
	"testing"

	"lathe/api"
	"lathe/encode"
	"lathe/exec"
	"lathe/instr"
	"lathe/trace"
)

// The target's instructions, written short.
var (
	ret  = api.X{Op: api.XRet}
	host = api.X{Op: api.XHost}
)

func movI(dst int8, n int) api.X { return api.X{Op: api.XMovI, W: 64, Dst: dst, Imm: n} }

func addI(dst int8, n int) api.X { return api.X{Op: api.XAddI, W: 64, Dst: dst, Imm: n} }

func mov(dst, src int8) api.X { return api.X{Op: api.XMov, W: 64, Dst: dst, Src: src} }

func cmp(dst, src int8) api.X { return api.X{Op: api.XCmp, W: 64, Dst: dst, Src: src} }

func jump(n int) api.X { return api.X{Op: api.XJmp, W: 32, Imm: n} }

func load(w, dst, base int8, disp int) api.X {
	return api.X{Op: api.XLoad, W: w, Dst: dst, Base: base, Disp: disp}
}

func store(w, src, base int8, disp int) api.X {
	return api.X{Op: api.XStore, W: w, Src: src, Base: base, Disp: disp}
}

// word tells instructions that make dst any number. The sign of the lower half reaches into the upper one, which undoes that beforehand.
func word(dst int8, v uint64) []api.X {
	lower := int32(v)
	upper := int32(v>>32) ^ lower>>31
	return []api.X{movI(dst, int(upper)), {Op: api.XShl, W: 64, Dst: dst, Imm: 32}, {Op: api.XXorI, W: 64, Dst: dst, Imm: int(lower)}}
}

// made tells the bytes of instructions.
func made(l ...api.X) []byte {
	var code []byte
	for _, x := range l {
		b, e := encode.Bytes(x)
		if e != api.OK {
			panic("an instruction that is not valid")
		}
		code = append(code, b...)
	}
	return code
}

// numbered tells n bytes that are not alike.
func numbered(n int) []byte {
	b := make([]byte, n)
	for i := range b {
		b[i] = byte(i*7 + 1)
	}
	return b
}

func mustRun(t *testing.T, g given) api.Outcome {
	t.Helper()
	o, e := Run(g.code, g.context, g.answers, g.fuel)
	if e != api.OK {
		t.Fatalf("Run of %v: %v", g, e)
	}
	return o
}

// holds compares an outcome with another one in every field.
func holds(t *testing.T, g given, want api.Outcome) {
	t.Helper()
	if o := mustRun(t, g); !trace.Same(o, want) {
		t.Errorf("% x, fuel %d: %v, not %v", g.code, g.fuel, o, want)
	}
}

// returns holds that instructions, which have no context, return a number, all of them executed.
func returns(t *testing.T, r0 uint64, l ...api.X) {
	t.Helper()
	holds(t, given{code: made(l...), fuel: 100}, api.Outcome{Kind: api.EndReturn, R0: r0, Left: 100 - len(l)})
}

// faults holds that code without a context faults at its step number n.
func faults(t *testing.T, n int, code []byte) {
	t.Helper()
	holds(t, given{code: code, fuel: 100}, api.Outcome{Kind: api.EndFault, Left: 100 - n})
	if got := places(given{code: code, fuel: 100}); len(got) != n {
		t.Errorf("% x: %v, not %d steps", code, got, n)
	}
}

// wrong are all ways in which Run's arguments may be wrong.
func wrong() []given {
	good, long := made(ret), make([]byte, api.MaxCode+1)
	return []given{
		{good, nil, nil, -1},
		{good, nil, nil, math.MinInt},
		{good, nil, nil, 640065},
		{good, nil, []uint64{1}, math.MaxInt},
		{good, numbered(257), nil, 1},
		{good, numbered(100000), []uint64{1}, 0},
		{long, nil, nil, 1},
		{long, numbered(257), nil, 0},
		{long, numbered(257), nil, -1},
		{make([]byte, 1<<20), nil, nil, 640064},
		{nil, nil, nil, -1},
		{nil, numbered(257), nil, 640065},
	}
}

// P16.1

func TestRunErrors(t *testing.T) {
	for i, g := range wrong() {
		if o, e := Run(g.code, g.context, g.answers, g.fuel); e != api.ErrArg || !trace.Same(o, api.Outcome{}) {
			t.Errorf("%d: Run = %v, %v", i, o, e)
		}
	}
}

func TestRunAtItsLimits(t *testing.T) {
	circle := made(api.X{Op: api.XJmp, W: 8, Imm: -2})
	for _, size := range []int{2, 3, 16383, 16384} {
		code := append(slices.Clone(circle), make([]byte, size-2)...)
		for _, n := range []int{0, 1, 255, 256} {
			for _, fuel := range []int{0, 1, 100} {
				holds(t, given{code, numbered(n), nil, fuel}, api.Outcome{Context: numbered(n)})
			}
		}
		for _, fuel := range []int{640063, 640064} {
			holds(t, given{code, nil, nil, fuel}, api.Outcome{})
		}
	}
	if most := trace.Fuel(api.MaxFuel); most != 640064 {
		t.Error("trace gives target code", most)
	}
}

func TestStart(t *testing.T) {
	want := api.Machine{At: 0x100000}
	want.R[4] = 0x400100
	if m := Start(); m != want {
		t.Errorf("%+v", m)
	}
	m := Start()
	m.R[3], m.At = 1, 2
	if Start() != want {
		t.Error("what a call returned counts for the next one")
	}
}

func TestExamples(t *testing.T) {
	holds(t, given{code: []byte{0xB8, 5, 0, 0, 0, 0xC3}, fuel: 9}, api.Outcome{Kind: api.EndReturn, R0: 5, Left: 7})
	holds(t, given{fuel: 9}, api.Outcome{Kind: api.EndFault, Left: 8})
	holds(t, given{code: []byte{}, context: []byte{1}, fuel: 1}, api.Outcome{Kind: api.EndFault, Context: []byte{1}})
}

func TestAtFirst(t *testing.T) {
	for r := range int8(16) {
		want := uint64(0)
		if r == api.Rsp {
			want = 0x400100
		}
		returns(t, want, mov(api.Rax, r), ret)
	}
	for _, cc := range []int8{2, 3, 4, 5, 6, 7, 12, 13, 14, 15} { // the flags are not known
		faults(t, 2, made(movI(api.Rax, 1), api.X{Op: api.XJcc, W: 8, Cc: cc}, ret))
		faults(t, 2, made(movI(api.Rax, 1), api.X{Op: api.XJcc, W: 32, Cc: cc}, ret))
		faults(t, 2, made(movI(api.Rax, 1), api.X{Op: api.XCmov, W: 64, Cc: cc}, ret))
	}
	for disp := -256; disp <= 0; disp += 8 {
		returns(t, 0, movI(api.Rax, 1), load(64, api.Rax, api.Rsp, disp), ret)
	}
	for at := 0x300000; at < 0x300040; at += 8 {
		returns(t, 0, movI(api.Rbx, at), load(64, api.Rax, api.Rbx, 0), ret)
	}
}

func TestReading(t *testing.T) {
	for _, code := range [][]byte{
		{0x00},
		{0x90},
		{0x48},
		{0x66},
		{0xB8, 5, 0, 0},
		{0x48, 0xC3},                   // a REX byte that is not needed
		{0x40, 0x89, 0xD8, 0xC3},       // likewise
		{0x8B, 0xC3, 0xC3},             // another encoding of a move
		{0xEB},                         // cut off
		{0x0F},                         // cut off
		{0x0F, 0x0B},                   // none of the target's
		{0x72, 0x00},                   // the flags are not known
		{0x48, 0x8B, 0x04, 0x24, 0xC3}, // a load without the 4 bytes of its Disp
	} {
		faults(t, 1, code)
		faults(t, 2, append([]byte{0x48, 0x89, 0xD8}, code...)) // behind one that can be read
	}
	faults(t, 2, made(movI(api.Rax, 5))) // it runs off the end
	faults(t, 3, made(movI(api.Rax, 5), movI(api.Rbx, 5)))
	faults(t, 2, append(made(movI(api.Rax, 5)), 0xB8, 5, 0, 0)) // what is cut off is no instruction
	returns(t, 5, movI(api.Rax, 5), ret)
	// jumps into an instruction, whose Imm is a return
	holds(t, given{code: append(made(jump(1)), 0xB8, 0xC3, 0, 0, 0), fuel: 9}, api.Outcome{Kind: api.EndReturn, Left: 7})
}

func TestJumpsToPlacesOutsideOfTheCode(t *testing.T) {
	for _, c := range []struct{ imm, at int }{
		{-5, 0}, {0, 5}, {-6, -1}, {-7, -1}, {math.MinInt32, -1}, {1, 6}, {2, 7}, {16379, 16384}, {16378, 16383}, {16380, -1}, {16381, -1}, {math.MaxInt32, -1}, {-0x100005, -1}, {-0x100006, -1}, {0xFFFFB, -1},
	} {
		g := given{code: made(jump(c.imm)), fuel: 2}
		got := places(g)
		if len(got) != 2 || got[0].at != 0 || got[1].at != c.at || got[1].m.At != 0x100005+uint64(c.imm) {
			t.Errorf("jump %d: %v", c.imm, got)
		}
		if c.imm != -5 {
			faults(t, 2, g.code)
		}
	}
}

func TestRunsOffCodeOfAllLengths(t *testing.T) {
	for _, n := range []int{0, 1, 2, 100, 8191, 8192} {
		code := slices.Repeat([]byte{0x89, 0xD8}, n)
		holds(t, given{code: code, fuel: 9999}, api.Outcome{Kind: api.EndFault, Left: 9999 - n - 1})
		p := Places(code, nil, nil, 9999)
		if len(p) != n+1 || p[0] != 0 || p[n] != 2*n {
			t.Error(n, p)
		}
	}
}

// mapped are the regions of a run.
func mapped(g given) []struct{ from, size int } {
	return []struct{ from, size int }{{0x100000, len(g.code)}, {0x200000, len(g.context)}, {0x300000, 64}, {0x400000, 0x108}}
}

// edges are the addresses around the ends of all regions, each with how many bytes from there on are in one region.
func edges(g given) map[int]int {
	l := map[int]int{0: 0, -1: 0, 0x180000: 0, math.MinInt32: 0, math.MaxInt32: 0}
	for _, r := range mapped(g) {
		for i := -9; i <= 9; i++ {
			for _, at := range []int{r.from + i, r.from + r.size + i} {
				if at >= r.from && at < r.from+r.size {
					l[at] = r.from + r.size - at
				} else if _, ok := l[at]; !ok {
					l[at] = 0
				}
			}
		}
	}
	return l
}

func TestLoads(t *testing.T) {
	for _, w := range []int8{8, 16, 32, 64} {
		for _, n := range []int{0, 1, 7, 8, 200, 256} {
			g := given{code: made(movI(api.Rbx, 0), load(w, api.Rax, api.Rbx, 0), ret), context: numbered(n), fuel: 9}
			for at, there := range edges(g) {
				g.code = made(movI(api.Rbx, at), load(w, api.Rax, api.Rbx, 0), ret)
				want := api.Outcome{Kind: api.EndFault, Context: g.context, Left: 7}
				if there >= int(w/8) {
					want.Kind, want.Left = api.EndReturn, 6
					for i := range int(w / 8) {
						b := byte(0)
						switch at >> 20 {
						case 1:
							b = g.code[at-0x100000+i]
						case 2:
							b = g.context[at-0x200000+i]
						}
						want.R0 += uint64(b) << (8 * i)
					}
				}
				holds(t, g, want)
			}
		}
	}
}

func TestStores(t *testing.T) {
	const v = -0x12345678 // FFFF FFFF EDCB A988
	for _, w := range []int8{8, 16, 32, 64} {
		for _, n := range []int{0, 1, 7, 8, 200, 256} {
			g := given{code: made(movI(api.R9, v), movI(api.Rbx, 0), store(w, api.R9, api.Rbx, 0), load(w, api.Rax, api.Rbx, 0), ret), context: numbered(n), fuel: 9}
			for at, there := range edges(g) {
				g.code = made(movI(api.R9, v), movI(api.Rbx, at), store(w, api.R9, api.Rbx, 0), load(w, api.Rax, api.Rbx, 0), movI(api.Rsp, 0x400080), ret)
				want := api.Outcome{Kind: api.EndFault, Context: numbered(n), Left: 6}
				if there >= int(w/8) && at>>20 != 1 {
					want.Kind, want.Left = api.EndReturn, 3
					bytes := []byte{0x88, 0xA9, 0xCB, 0xED, 0xFF, 0xFF, 0xFF, 0xFF}[:w/8]
					for i, b := range bytes {
						want.R0 += uint64(b) << (8 * i)
					}
					if at>>20 == 2 {
						copy(want.Context[at-0x200000:], bytes)
					}
				}
				holds(t, g, want)
			}
		}
	}
}

func TestAddressesWrapRound(t *testing.T) {
	context := numbered(9)
	for _, c := range []struct {
		base uint64
		disp int
		ok   bool
	}{
		{math.MaxUint64, 0x200001, true},
		{1<<64 - 0x7FDFFFFF, math.MaxInt32, true},
		{0x280000000, math.MinInt32, false},
		{0x80200000, math.MinInt32, true},
		{0x200008, -8, true},
		{0x1FFFFF, 1, true},
		{0x1FFFFF, 0, false},
		{0, -1, false},
		{math.MaxUint64, 1, false},
		{1 << 63, 0x200000, false},
		{1<<32 + 0x200000, 0, false},
	} {
		for _, x := range []api.X{load(64, api.Rax, api.Rbx, c.disp), store(64, api.Rax, api.Rbx, c.disp)} {
			g := given{code: made(append(word(api.Rbx, c.base), x, ret)...), context: context, fuel: 9}
			o := mustRun(t, g)
			at := c.base + uint64(c.disp)
			if ok := at == 0x200000; ok != c.ok {
				t.Fatalf("%#x + %#x = %#x", c.base, c.disp, at)
			}
			if c.ok && (o.Kind != api.EndReturn || o.Left != 4) || !c.ok && (o.Kind != api.EndFault || o.Left != 5) {
				t.Errorf("%#x + %#x: %v", c.base, c.disp, o)
			}
		}
	}
}

func TestReturns(t *testing.T) {
	zeros := make([]byte, 100)
	g := given{code: made(movI(api.Rsp, 0), movI(api.Rax, 7), ret), context: zeros, fuel: 9}
	for at, there := range edges(g) {
		g.code = made(movI(api.Rsp, at), movI(api.Rax, 7), ret)
		switch {
		case there < 8:
			holds(t, g, api.Outcome{Kind: api.EndFault, Context: zeros, Left: 6})
		case at>>20 == 1: // the code's own bytes are where it goes on
			holds(t, g, api.Outcome{Kind: api.EndFault, Context: zeros, Left: 5})
		default:
			holds(t, g, api.Outcome{Kind: api.EndReturn, R0: 7, Context: zeros, Left: 6})
		}
	}
	faults(t, 5, made(append(word(api.Rsp, 1<<32+0x400100), movI(api.Rax, 7), ret)...))
	returns(t, 0, ret)
	returns(t, 0x400100, mov(api.Rax, api.Rsp), ret)
}

func TestReturnsToOtherPlaces(t *testing.T) {
	push := func(n int) []api.X {
		return []api.X{addI(api.Rsp, -8), movI(api.R9, n), store(64, api.R9, api.Rsp, 0)}
	}
	length := len(made(push(0)...))
	// to what stands behind, which tells rsp, then to nowhere
	l := append(push(0x100000+length+1), ret, mov(api.Rax, api.Rsp), ret)
	holds(t, given{code: made(l...), fuel: 9}, api.Outcome{Kind: api.EndReturn, R0: 0x400100, Left: 3})
	// to 0, which ends the run
	holds(t, given{code: made(append(push(0), ret, ret)...), fuel: 9}, api.Outcome{Kind: api.EndReturn, Left: 5})
	// to the beginning, for ever
	holds(t, given{code: made(append(push(0x100000), ret)...), fuel: 99}, api.Outcome{})
	for _, n := range []int{1, -1, 0xFFFFF, 0x200000, 0x100000 + length + 1, 0x104000, 0x104001, math.MinInt32} {
		g := given{code: made(append(push(n), ret)...), fuel: 9}
		holds(t, g, api.Outcome{Kind: api.EndFault, Left: 4})
		at := -1
		if n >= 0x100000 && n <= 0x104000 {
			at = n - 0x100000
		}
		got := places(g)
		if len(got) != 5 || got[4].at != at || got[4].m.At != uint64(n) || got[4].m.R[api.Rsp] != 0x400100 {
			t.Errorf("return to %#x: %v", n, got)
		}
	}
}

func TestFaultsOfTheMachine(t *testing.T) {
	div := func(w, dst int8) api.X { return api.X{Op: api.XDiv, W: w, Dst: dst} }
	faults(t, 3, made(movI(api.Rax, 7), movI(api.Rcx, 0), div(64, api.Rcx), ret))
	faults(t, 4, made(movI(api.Rax, 7), movI(api.Rcx, 2), movI(api.Rdx, 1), div(64, api.Rcx), ret))
	faults(t, 2, made(movI(api.Rdx, 7), div(32, api.Rdx), ret))
	returns(t, 3, movI(api.Rax, 7), movI(api.Rcx, 2), div(64, api.Rcx), ret)
	returns(t, 1, movI(api.Rax, 7), movI(api.Rcx, 2), div(32, api.Rcx), mov(api.Rax, api.Rdx), ret)
	jcc := api.X{Op: api.XJcc, W: 8, Cc: api.CcE, Imm: 7}
	faults(t, 3, made(cmp(api.Rax, api.Rcx), api.X{Op: api.XMul, W: 64}, jcc, ret)) // not known any more
	holds(t, given{code: made(cmp(api.Rax, api.Rcx), jcc, movI(api.Rax, 9), ret), fuel: 9}, api.Outcome{Kind: api.EndReturn, Left: 6})
	holds(t, given{code: made(cmp(api.Rax, api.Rsp), jcc, movI(api.Rax, 9), ret), fuel: 9}, api.Outcome{Kind: api.EndReturn, R0: 9, Left: 5})
}

// arguments sets the registers of a host call's arguments, and its number.
func arguments(num int) []api.X {
	return []api.X{movI(api.Rdi, 11), movI(api.Rsi, -12), movI(api.Rdx, 13), movI(api.R10, 14), movI(api.R8, 15), movI(api.Rax, num)}
}

func TestHostCallsOfAllNumbers(t *testing.T) {
	all := []uint64{11, 1<<64 - 12, 13, 14, 15}
	for num, args := range []int{0, 1, 2, 3, 4, 5, 0, 1, 2, 3, 4, 5, 0, 1, 2, 3} {
		g := given{made(append(arguments(num), host, ret)...), []byte{3}, []uint64{math.MaxUint64, 4}, 9}
		event := api.Event{Num: num, Args: all[:args], Answer: math.MaxUint64}
		holds(t, g, api.Outcome{Kind: api.EndReturn, R0: math.MaxUint64, Context: []byte{3}, Trace: []api.Event{event}, Left: 1})
		g.answers = nil
		holds(t, g, api.Outcome{Kind: api.EndRefused, Context: []byte{3}, Left: 2})
	}
	for _, num := range []uint64{16, 17, 255, 256, 1 << 31, 1 << 32, 1<<32 + 3, 1 << 63, math.MaxUint64} {
		for _, answers := range [][]uint64{nil, {5}} { // ahead of the refusal
			g := given{code: made(append(word(api.Rax, num), host, ret)...), answers: answers, fuel: 9}
			holds(t, g, api.Outcome{Kind: api.EndFault, Left: 5})
		}
	}
}

func TestHostCallsTakeAnswersInOrder(t *testing.T) {
	code := made(movI(api.Rdi, 7), movI(api.Rax, 1), host, mov(api.Rbx, api.Rax), movI(api.Rax, 6), host, api.X{Op: api.XAdd, W: 64, Dst: api.Rax, Src: api.Rbx}, ret)
	first, second := api.Event{Num: 1, Args: []uint64{7}, Answer: 30}, api.Event{Num: 6, Answer: 4}
	for _, c := range []struct {
		answers []uint64
		fuel    int
		want    api.Outcome
	}{
		{[]uint64{30, 4, 9}, 10, api.Outcome{Kind: api.EndReturn, R0: 34, Trace: []api.Event{first, second}, Left: 2}},
		{[]uint64{30, 4}, 8, api.Outcome{Kind: api.EndReturn, R0: 34, Trace: []api.Event{first, second}}},
		{[]uint64{30, 4}, 7, api.Outcome{Trace: []api.Event{first, second}}},
		{[]uint64{30, 4}, 6, api.Outcome{Trace: []api.Event{first, second}}},
		{[]uint64{30, 4}, 5, api.Outcome{Trace: []api.Event{first}}},
		{[]uint64{30, 4}, 3, api.Outcome{Trace: []api.Event{first}}},
		{[]uint64{30, 4}, 2, api.Outcome{}},
		{[]uint64{30}, 10, api.Outcome{Kind: api.EndRefused, Trace: []api.Event{first}, Left: 4}},
		{[]uint64{30}, 6, api.Outcome{Kind: api.EndRefused, Trace: []api.Event{first}}},
		{[]uint64{30}, 5, api.Outcome{Trace: []api.Event{first}}},
		{nil, 10, api.Outcome{Kind: api.EndRefused, Left: 7}},
		{[]uint64{}, 3, api.Outcome{Kind: api.EndRefused}},
		{[]uint64{}, 2, api.Outcome{}},
	} {
		holds(t, given{code: code, answers: c.answers, fuel: c.fuel}, c.want)
	}
}

func TestManyHostCalls(t *testing.T) {
	answers := make([]uint64, 1000)
	for i := range answers {
		answers[i] = uint64(i % 16)
	}
	g := given{code: made(host, api.X{Op: api.XJmp, W: 8, Imm: -4}), answers: answers, fuel: 640064}
	o := mustRun(t, g)
	if o.Kind != api.EndRefused || o.Left != 640064-2001 || len(o.Trace) != 1000 {
		t.Fatal(o.Kind, o.Left, len(o.Trace))
	}
	for i, x := range o.Trace { // each number is the answer before
		if x.Answer != uint64(i%16) || i > 0 && x.Num != (i-1)%16 || len(x.Args) != instr.Args(x.Num) {
			t.Fatal(i, x)
		}
	}
}

func TestTheOutcomesR0AndContext(t *testing.T) {
	set := []api.X{movI(api.Rbx, 0x200000), movI(api.Rax, 77), store(8, api.Rax, api.Rbx, 1)}
	want := numbered(8)
	want[1] = 77
	for _, c := range []struct {
		l    []api.X
		kind int8
		r0   uint64
		left int
	}{
		{[]api.X{ret}, api.EndReturn, 77, 26},
		{[]api.X{jump(-5)}, api.EndFuel, 0, 0},
		{[]api.X{movI(api.Rax, 9), host}, api.EndRefused, 0, 25},
		{[]api.X{load(64, api.Rax, api.Rbx, 1), ret}, api.EndFault, 0, 26},
		{nil, api.EndFault, 0, 26},
	} {
		g := given{made(append(slices.Clone(set), c.l...)...), numbered(8), nil, 30}
		holds(t, g, api.Outcome{Kind: c.kind, R0: c.r0, Context: want, Left: c.left})
	}
}

func TestFuelIsCounted(t *testing.T) {
	l := []api.X{movI(api.Rax, 1), movI(api.Rcx, 2), movI(api.Rdx, 3), ret}
	for fuel := range 10 {
		want := api.Outcome{}
		if fuel >= 4 {
			want = api.Outcome{Kind: api.EndReturn, R0: 1, Left: fuel - 4}
		}
		holds(t, given{code: made(l...), fuel: fuel}, want)
		if fuel < 4 {
			want = api.Outcome{}
		} else {
			want = api.Outcome{Kind: api.EndFault, Left: fuel - 4}
		}
		holds(t, given{code: made(l[:3]...), fuel: fuel}, want)
	}
	holds(t, given{}, api.Outcome{}) // no fuel, ahead of the instruction that is not there
	holds(t, given{code: made(host)}, api.Outcome{})
	for n := range 5 { // each step may take an answer
		g := given{code: made(slices.Repeat([]api.X{host}, 9)...), answers: make([]uint64, 9), fuel: n}
		holds(t, g, api.Outcome{Trace: make([]api.Event, n)})
	}
}

func TestRunAgainstTheDocument(t *testing.T) {
	kinds, begun := map[int8]int{}, map[int8]int{}
	for i, g := range runs(20000) {
		want, steps := walk(g)
		o, e := Run(g.code, g.context, g.answers, g.fuel)
		if e != api.OK || !trace.Same(o, want) {
			t.Fatalf("%d: %v: %v, %v, not %v", i, g, e, o, want)
		}
		kinds[o.Kind]++
		for _, s := range steps {
			if s.at >= 0 && s.at < len(g.code) {
				x, _, _ := encode.Read(g.code[s.at:])
				begun[x.Op]++
			}
		}
	}
	for _, kind := range []int8{api.EndFuel, api.EndReturn, api.EndRefused, api.EndFault} {
		if kinds[kind] < 1000 {
			t.Error("too few runs of a kind:", kinds)
		}
	}
	for op := api.XMov; op <= api.XHost; op++ {
		if begun[op] < 1000 {
			t.Error("too few instructions of a kind:", op, begun)
		}
	}
}

func TestBytesAgainstTheDocument(t *testing.T) {
	s := stream(7)
	for i := range 20000 {
		g := given{code: make([]byte, s.below(20)), context: numbered(s.below(9)), answers: []uint64{1, 2}, fuel: 30}
		for i := range g.code {
			g.code[i] = pick[byte](&s, 0x48, 0x89, 0x0F, 0x05, 0xC3, 0xEB, 0x01, 0xC0, 0x31, byte(s.below(256)), byte(s.below(256)))
		}
		want, steps := walk(g)
		if o := mustRun(t, g); !trace.Same(o, want) || !slices.Equal(places(g), steps) {
			t.Fatalf("%d: % x: %v, not %v", i, g.code, o, want)
		}
	}
}

// P16.2

func TestEachAgainstTheDocument(t *testing.T) {
	for i, g := range runs(10000) {
		_, want := walk(g)
		if got := places(g); !slices.Equal(got, want) {
			t.Fatalf("%d: %v: %v, not %v", i, g, got, want)
		}
	}
}

func TestEachByHand(t *testing.T) {
	g := given{code: made(movI(api.Rdi, 7), addI(api.Rax, 1), host, cmp(api.Rax, api.Rdi), ret), answers: []uint64{30}, fuel: 9}
	first := Start()
	second := first
	second.R[api.Rdi], second.At = 7, 0x100007
	third := second
	third.R[api.Rax], third.At, third.F = 1, 0x10000E, api.Flags{Known: true}
	fourth := third
	fourth.R[api.Rax], fourth.At = 30, 0x100010
	fifth := fourth
	fifth.At, fifth.F = 0x100013, api.Flags{Known: true}
	want := []place{{0, first}, {7, second}, {14, third}, {16, fourth}, {19, fifth}}
	if got := places(g); !slices.Equal(got, want) {
		t.Errorf("%v, not %v", got, want)
	}
	for fuel := range 6 { // without fuel, no step is begun
		g.fuel = fuel
		if got := places(g); !slices.Equal(got, want[:fuel]) {
			t.Errorf("fuel %d: %v", fuel, got)
		}
	}
	g.fuel, g.answers = 9, nil
	if got := places(g); !slices.Equal(got, want[:3]) { // the call that is refused is the last
		t.Error(got)
	}
	g.code, g.answers = g.code[:19], []uint64{30}
	if got := places(g); !slices.Equal(got, want) { // a step is begun even where the code has ended
		t.Error(got)
	}
}

func TestEachTellsStepsThatFault(t *testing.T) {
	for _, l := range [][]api.X{
		{ret},
		{host},
		{movI(api.Rax, 16), host},
		{load(64, api.Rax, api.Rsp, 1), ret},
		{store(64, api.Rax, api.Rsp, 1), ret},
		{load(8, api.Rax, api.Rbx, 0), ret},
		{api.X{Op: api.XJcc, W: 8, Cc: api.CcE}, ret},
		{api.X{Op: api.XCmov, W: 64, Cc: api.CcE}, ret},
		{api.X{Op: api.XDiv, W: 64, Dst: api.Rbx}, ret},
		{movI(api.Rsp, 0x400101), ret},
	} {
		begun := len(l)
		if begun == 2 && l[1] == ret && l[0].Op != api.XMovI {
			begun = 1
		}
		g := given{code: made(l...), fuel: 9}
		got := places(g)
		if len(got) != begun || got[begun-1].at != len(made(l[:begun-1]...)) {
			t.Errorf("%v: %v", l, got)
		}
		if o := mustRun(t, g); o.Left != 9-begun {
			t.Errorf("%v: %v", l, o)
		}
	}
}

func TestEachAndPlacesOfWhatRunRefuses(t *testing.T) {
	for i, g := range wrong() {
		each := Each(g.code, g.context, g.answers, g.fuel)
		if each == nil {
			t.Errorf("%d: no iterator", i)
			continue
		}
		for at := range each {
			t.Errorf("%d: Each yields %d", i, at)
		}
		if p := Places(g.code, g.context, g.answers, g.fuel); len(p) != 0 {
			t.Errorf("%d: Places = %v", i, p)
		}
	}
}

func TestPlaces(t *testing.T) {
	outside := 0
	for i, g := range runs(10000) {
		_, steps := walk(g)
		var want []int
		for _, s := range steps {
			if !slices.Contains(want, s.at) {
				want = append(want, s.at)
			}
		}
		slices.Sort(want)
		if p := Places(g.code, g.context, g.answers, g.fuel); !slices.Equal(p, want) {
			t.Fatalf("%d: Places of %v = %v, not %v", i, g, p, want)
		}
		if len(want) > 0 && want[0] < 0 {
			outside++
		}
	}
	if outside < 100 {
		t.Error("too few runs that leave the code:", outside)
	}
	loop := made(addI(api.Rcx, 1), api.X{Op: api.XCmpI, W: 64, Dst: api.Rcx, Imm: 10}, api.X{Op: api.XJcc, W: 8, Cc: api.CcNe, Imm: -16}, ret)
	if p := Places(loop, nil, nil, 99); !slices.Equal(p, []int{0, 7, 14, 16}) {
		t.Error(p)
	}
	if p := Places(loop, nil, nil, 0); len(p) != 0 {
		t.Error(p)
	}
	if p := Places(nil, nil, nil, 1); !slices.Equal(p, []int{0}) {
		t.Error(p)
	}
	back := made(jump(5), jump(-11), jump(-10)) // over the second one, which leads ahead of the code
	if p := Places(back, nil, nil, 9); !slices.Equal(p, []int{-1, 0, 5, 10}) {
		t.Error(p)
	}
}

func TestEachIsLeftEarlyAndUsedAgain(t *testing.T) {
	for _, g := range runs(200) {
		_, want := walk(g)
		each := Each(g.code, g.context, g.answers, g.fuel)
		for n := range len(want) + 2 {
			var got []place
			for at, m := range each {
				if len(got) == n {
					break
				}
				got = append(got, place{at, m})
			}
			if !slices.Equal(got, want[:min(n, len(want))]) {
				t.Fatalf("left after %d: %v, not %v", n, got, want)
			}
		}
	}
}

func TestEachWithinEach(t *testing.T) {
	l := []api.X{movI(api.Rbx, 0x200000), load(8, api.R9, api.Rbx, 0), addI(api.R9, 1), store(8, api.R9, api.Rbx, 0), store(64, api.R9, api.Rsp, -8), movI(api.Rax, 0), host, api.X{Op: api.XCmpI, W: 64, Dst: api.R9, Imm: 9}}
	back := -len(made(l...)) - 2
	g := given{made(append(l, api.X{Op: api.XJcc, W: 8, Cc: api.CcB, Imm: back}, ret)...), []byte{3}, []uint64{1, 2, 3, 4}, 90}
	_, want := walk(g)
	if len(want) < 30 {
		t.Fatal("too few steps:", want)
	}
	each := Each(g.code, g.context, g.answers, g.fuel)
	var outer []place
	for at, m := range each {
		outer = append(outer, place{at, m})
		var inner []place
		for at, m := range each {
			inner = append(inner, place{at, m})
		}
		if !slices.Equal(inner, want) {
			t.Fatalf("within: %v, not %v", inner, want)
		}
	}
	if !slices.Equal(outer, want) {
		t.Errorf("around: %v, not %v", outer, want)
	}
}

func TestEachYieldsWhatThereWas(t *testing.T) {
	l := []api.X{movI(api.Rbx, 0x200000), load(16, api.R9, api.Rbx, 0), host, mov(api.R8, api.Rax), movI(api.Rax, 0), host, ret}
	g := given{made(l...), []byte{3, 1}, []uint64{8, 9}, 9}
	_, want := walk(given{slices.Clone(g.code), slices.Clone(g.context), slices.Clone(g.answers), g.fuel})
	each := Each(g.code, g.context, g.answers, g.fuel)
	var got []place
	for at, m := range each {
		clear(g.code) // while it goes on, and so ahead of the second use
		clear(g.context)
		clear(g.answers)
		got = append(got, place{at, m})
	}
	var again []place
	for at, m := range each {
		again = append(again, place{at, m})
	}
	if !slices.Equal(got, want) || !slices.Equal(again, want) {
		t.Errorf("%v, then %v, not %v", got, again, want)
	}
}

// P16.3

func TestMoreFuelChangesNothingThatEnded(t *testing.T) {
	for i, g := range runs(1500) {
		most := min(g.fuel, 60) + 5
		var all []api.Outcome
		for fuel := range most {
			g.fuel = fuel
			all = append(all, mustRun(t, g))
		}
		for fuel, less := range all {
			if less.Kind != api.EndFuel {
				for extra, more := range all[fuel:] {
					more.Left -= extra
					if !trace.Same(less, more) {
						t.Fatalf("%d: fuel %d, then %d more: %v, %v", i, fuel, extra, less, more)
					}
				}
				break
			}
			next, last := all[min(fuel+1, most-1)], all[most-1]
			if less.Left != 0 || !trace.Becomes(less, next) || !trace.Becomes(less, last) {
				t.Fatalf("%d: fuel %d: %v, %v, %v", i, fuel, less, next, last)
			}
		}
	}
}

func TestMuchFuel(t *testing.T) {
	for i, g := range runs(1000) {
		less := mustRun(t, g)
		extra := 20000 - g.fuel
		g.fuel = 20000
		more := mustRun(t, g)
		if less.Kind == api.EndFuel {
			if !trace.Becomes(less, more) {
				t.Fatalf("%d: %v, %v", i, less, more)
			}
			continue
		}
		if more.Left -= extra; !trace.Same(less, more) {
			t.Fatalf("%d: %v, %v", i, less, more)
		}
	}
}

func TestCodeNeverChanges(t *testing.T) {
	steps := 0
	for i, g := range runs(3000) {
		l := places(g)
		for n := 1; n < len(l); n++ { // each step is that of the bytes that were given
			m := l[n-1].m
			x, _, e := encode.Read(g.code[l[n-1].at:])
			if e != api.OK {
				t.Fatalf("%d: a step goes on from %d: %v", i, l[n-1].at, e)
			}
			if x.Op == api.XLoad || x.Op == api.XRet || x.Op == api.XHost { // what they load is not in the machine
				continue
			}
			if want, e := exec.Do(m, x, 0); e != api.OK || l[n].m != want {
				t.Fatalf("%d: %+v, %+v: %v, not %v, %v", i, m, x, l[n].m, want, e)
			}
			steps++
		}
	}
	if steps < 10000 {
		t.Error("too few steps:", steps)
	}
	for at := range 30 { // a store into it is a fault, wherever it is, ahead of what it would change
		for _, w := range []int8{8, 16, 32, 64} {
			code := append(made(movI(api.Rbx, 0x100000+at), movI(api.R9, 0xC3), store(w, api.R9, api.Rbx, 0)), make([]byte, 30)...)
			faults(t, 3, code)
		}
	}
}

func TestAfterAFaultNothingIsDone(t *testing.T) {
	event := api.Event{Num: 6, Answer: 50}
	do := []api.X{movI(api.Rbx, 0x200000), movI(api.Rax, 6), host, store(16, api.Rax, api.Rbx, 2)}
	behind := []api.X{movI(api.Rbx, 0x200000), store(64, api.Rsp, api.Rbx, 0), movI(api.Rax, 0), host, ret}
	context := []byte{1, 2, 3, 4, 5, 6, 7, 8}
	for _, x := range []api.X{
		load(8, api.Rax, api.Rbx, 8),
		load(64, api.Rax, api.Rbx, -1),
		store(8, api.Rax, api.Rbx, 8),
		store(32, api.Rbx, api.Rbx, 5), // no byte of it
		store(64, api.Rsp, api.Rbx, -1),
		store(64, api.Rsp, api.Rsp, 8),
		host, // rax is no number any more
		{Op: api.XJcc, W: 8, Cc: api.CcE},
		{Op: api.XCmov, W: 32, Cc: api.CcE},
		{Op: api.XDiv, W: 64, Dst: api.R9},
	} {
		l := slices.Concat(do, []api.X{x}, behind)
		g := given{made(l...), context, []uint64{50, 51, 52}, 30}
		holds(t, g, api.Outcome{Kind: api.EndFault, Context: []byte{1, 2, 50, 0, 5, 6, 7, 8}, Trace: []api.Event{event}, Left: 25})
		if got := places(g); len(got) != 5 || got[4].m.R[api.Rax] != 50 {
			t.Errorf("%v: %v", x, got)
		}
	}
}

// R3, R4

func TestNothingIsModified(t *testing.T) {
	l := []api.X{movI(api.Rbx, 0x200000), movI(api.Rdi, 9), store(64, api.Rdi, api.Rbx, 0), movI(api.Rax, 1), host, movI(api.Rax, 6), host, ret}
	code := append(made(l...), 1, 2, 3)
	context := append(numbered(8), 55, 55)
	answers := []uint64{1, 2, 3, 4}
	g := given{code[:len(code)-3], context[:8], answers[:2], 9}
	codeWas := slices.Clone(code)
	want, _ := walk(g)
	for range 2 { // and so a second call answers the same
		o := mustRun(t, g)
		if !trace.Same(o, want) {
			t.Errorf("%v, not %v", o, want)
		}
		Places(g.code, g.context, g.answers, g.fuel)
		places(g)
		for _, x := range o.Trace { // nor is an argument part of the answer
			clear(x.Args[:cap(x.Args)])
		}
		clear(o.Context[:cap(o.Context)])
	}
	if !bytes.Equal(code, codeWas) || !bytes.Equal(context, append(numbered(8), 55, 55)) || !slices.Equal(answers, []uint64{1, 2, 3, 4}) {
		t.Error("an argument is modified:", code, context, answers)
	}
}

func TestListsOfOneOutcomeShareNothing(t *testing.T) {
	l := slices.Concat(arguments(2), []api.X{host}, arguments(3), []api.X{host, ret})
	o := mustRun(t, given{made(l...), numbered(8), []uint64{1, 2}, 30})
	args := o.Trace[0].Args[:cap(o.Trace[0].Args)]
	for i := range args {
		args[i] = 99
	}
	if !slices.Equal(o.Trace[1].Args, []uint64{11, 1<<64 - 12, 13}) || !bytes.Equal(o.Context, numbered(8)) {
		t.Error(o)
	}
}
