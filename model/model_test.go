package model

import (
	"bytes"
	"math"
	"slices"
	"testing"

	"lathe/api"
	"lathe/instr"
	"lathe/trace"
)

func prog(context int, l ...api.Instr) api.Prog { return api.Prog{Context: context, L: l} }

func mustRun(t *testing.T, context []byte, answers []uint64, fuel int, l ...api.Instr) api.Outcome {
	t.Helper()
	o, e := Run(prog(len(context), l...), context, answers, fuel)
	if e != api.OK {
		t.Fatalf("Run of %v: %v", l, e)
	}
	return o
}

// returns holds that a program without a context returns a number.
func returns(t *testing.T, r0 uint64, l ...api.Instr) {
	t.Helper()
	if o := mustRun(t, nil, nil, 100, l...); o.Kind != api.EndReturn || o.R0 != r0 {
		t.Errorf("%v: kind %d, R0 %#x, not %#x", l, o.Kind, o.R0, r0)
	}
}

// ends holds that a program without a context ends in a way other than EndReturn.
func ends(t *testing.T, kind int8, l ...api.Instr) {
	t.Helper()
	if o := mustRun(t, nil, nil, 100, l...); o.Kind != kind || o.R0 != 0 {
		t.Errorf("%v: kind %d, R0 %#x, not kind %d", l, o.Kind, o.R0, kind)
	}
}

// numbered tells n bytes that are not alike.
func numbered(n int) []byte {
	b := make([]byte, n)
	for i := range b {
		b[i] = byte(i*7 + 1)
	}
	return b
}

// wrong are all ways in which Run's arguments may be wrong, and what it answers.
func wrong() []struct {
	given
	e api.Errno
} {
	good := prog(2, movi(0, 5), exit)
	context := []byte{1, 2}
	long := prog(2, slices.Repeat([]api.Instr{exit}, 65)...)
	return []struct {
		given
		e api.Errno
	}{
		{given{prog(-1, exit), nil, nil, 1}, api.ErrArg},
		{given{prog(257, exit), numbered(257), nil, 1}, api.ErrArg},
		{given{prog(math.MinInt, exit), nil, nil, 1}, api.ErrArg},
		{given{prog(2), context, nil, 1}, api.ErrLong},
		{given{api.Prog{}, nil, nil, 0}, api.ErrLong},
		{given{long, context, nil, 1}, api.ErrLong},
		{given{prog(2, api.Instr{Kind: 7}, exit), context, nil, 1}, api.ErrOp},
		{given{prog(2, api.Instr{Kind: -1}, exit), context, nil, 1}, api.ErrOp},
		{given{prog(2, imm(13, 64, 0, 0), exit), context, nil, 1}, api.ErrOp},
		{given{prog(2, movi(10, 0), exit), context, nil, 1}, api.ErrOp},
		{given{prog(2, movi(11, 0), exit), context, nil, 1}, api.ErrOp},
		{given{prog(2, mov(0, -1), exit), context, nil, 1}, api.ErrOp},
		{given{prog(2, load(3, 0, 1, 0), exit), context, nil, 1}, api.ErrOp},
		{given{prog(2, call(16), exit), context, nil, 1}, api.ErrOp},
		{given{prog(2, exit, goTo(0)), context, nil, 1}, api.ErrJump},
		{given{prog(2, jumpImm(api.Eq, 1, 0, -2), exit), context, nil, 1}, api.ErrJump},
		{given{prog(2, exit, movi(0, 0)), context, nil, 1}, api.ErrEnd},
		{given{prog(2, exit, movi(0, 0)), nil, nil, -1}, api.ErrEnd}, // ahead of ErrArg for the context and the fuel
		{given{long, nil, nil, math.MaxInt}, api.ErrLong},
		{given{good, nil, nil, 1}, api.ErrArg},
		{given{good, []byte{}, nil, 1}, api.ErrArg},
		{given{good, numbered(1), nil, 1}, api.ErrArg},
		{given{good, numbered(3), nil, 1}, api.ErrArg},
		{given{good, numbered(300), nil, 1}, api.ErrArg},
		{given{prog(0, exit), numbered(1), nil, 1}, api.ErrArg},
		{given{good, context, nil, -1}, api.ErrArg},
		{given{good, context, []uint64{1}, math.MinInt}, api.ErrArg},
		{given{good, context, nil, 10001}, api.ErrArg},
		{given{good, context, nil, math.MaxInt}, api.ErrArg},
	}
}

// P6.1

func TestRunErrors(t *testing.T) {
	for i, c := range wrong() {
		o, e := Run(c.p, c.context, c.answers, c.fuel)
		if e != c.e || !trace.Same(o, api.Outcome{}) {
			t.Errorf("%d: Run = %v, %v, not %v", i, o, e, c.e)
		}
		if _, of := instr.Check(c.p); of != api.OK && of != e {
			t.Errorf("%d: Check tells %v, but Run %v", i, of, e)
		}
	}
}

func TestRunAtItsLimits(t *testing.T) {
	for _, n := range []int{0, 1, 255, 256} {
		for _, fuel := range []int{0, 1, 9999, 10000} {
			o, e := Run(prog(n, goTo(-1)), numbered(n), nil, fuel)
			if e != api.OK || !trace.Same(o, api.Outcome{Context: numbered(n)}) {
				t.Errorf("%d bytes, fuel %d: %v, %v", n, fuel, o, e)
			}
		}
	}
	l := append(slices.Repeat([]api.Instr{imm(api.Add, 64, 1, 1)}, 62), mov(0, 1), exit)
	returns(t, 0x200000+62, l...)
}

func TestAtFirst(t *testing.T) {
	for r := range int8(11) {
		switch r {
		case 1:
			returns(t, 0x200000, mov(0, r), exit)
		case 10:
			returns(t, 0x300040, mov(0, r), exit)
		default:
			ends(t, api.EndFault, mov(6, r), movi(0, 0), exit)
		}
	}
	for off := -64; off < 0; off += 8 {
		returns(t, 0, load(8, 0, 10, off), exit)
	}
	ends(t, api.EndFault, exit)
}

// everything sets all registers that can be set, but for skip.
func everything(skip int8) []api.Instr {
	var l []api.Instr
	for r := range int8(10) {
		if r != skip && r != 1 {
			l = append(l, movi(r, int(r)))
		}
	}
	return l
}

func TestReadsOfRegistersThatAreNotSet(t *testing.T) {
	for _, c := range []struct {
		x     api.Instr
		reads []int8
	}{
		{imm(api.Add, 64, 7, 1), []int8{7}},
		{imm(api.Add, 32, 7, 1), []int8{7}},
		{imm(api.Neg, 64, 7, 0), []int8{7}},
		{imm(api.Mov, 64, 7, 1), nil},
		{imm(api.Mov, 32, 7, 1), nil},
		{reg(api.Mov, 64, 7, 8), []int8{8}},
		{reg(api.Mov, 32, 7, 7), []int8{7}},
		{reg(api.Xor, 64, 7, 7), []int8{7}},
		{reg(api.Arsh, 32, 7, 8), []int8{7, 8}},
		{load(1, 7, 10, -1), nil},
		{load(8, 7, 10, -8), nil},
		{store(1, 10, 7, -1), []int8{7}},
		{store(8, 10, 0, -8), []int8{0}},
		{jumpImm(api.Eq, 7, 1, 0), []int8{7}},
		{jumpReg(api.Set, 7, 8, 0), []int8{7, 8}},
		{goTo(0), nil},
		{call(0), nil},
		{call(6), nil},
		{call(2), []int8{2}}, // and R1, which is always set here
		{call(3), []int8{2, 3}},
		{call(4), []int8{2, 3, 4}},
		{call(5), []int8{2, 3, 4, 5}},
		{call(11), []int8{2, 3, 4, 5}},
		{call(15), []int8{2, 3}},
	} {
		for r := range int8(10) {
			if r == 1 {
				continue
			}
			l := append(everything(r), c.x, movi(0, 77), exit)
			o := mustRun(t, nil, []uint64{9}, 100, l...)
			if want := slices.Contains(c.reads, r); (o.Kind == api.EndFault) != want || o.Kind != api.EndFault && (o.Kind != api.EndReturn || o.R0 != 77) {
				t.Errorf("%v without R%d: kind %d", c.x, r, o.Kind)
			}
			if o.Kind == api.EndFault && (o.Left != 100-9 || len(o.Trace) != 0) { // eight that set, and the one that faults
				t.Errorf("%v without R%d: %v", c.x, r, o)
			}
		}
	}
	for _, base := range []int8{7, 0} { // the base of an access, whose address is not looked at
		ends(t, api.EndFault, load(1, 0, base, 0), exit)
		ends(t, api.EndFault, movi(3, 1), store(1, base, 3, 0), exit)
	}
}

func TestAlu(t *testing.T) {
	values := []uint64{0, 1, 5, 31, 32, 33, 63, 64, 0x7FFFFFFF, 0x80000000, 0xFFFFFFFF, 1 << 32, 1<<32 + 5, 1<<63 - 1, 1 << 63, 1<<63 + 1<<31, math.MaxUint64 - 1, math.MaxUint64}
	for op := api.Add; op <= api.Arsh; op++ {
		for _, width := range []int8{32, 64} {
			for _, a := range values {
				for _, b := range values {
					if op != api.Neg {
						l := slices.Concat(word(0, a), word(2, b), []api.Instr{reg(op, width, 0, 2), exit})
						returns(t, computed(op, width, a, b), l...)
					}
					n := int(int32(b))
					if op == api.Neg {
						n = 0
					}
					l := append(word(0, a), imm(op, width, 0, n), exit)
					returns(t, computed(op, width, a, uint64(int64(n))), l...)
				}
			}
		}
	}
}

func TestAluByHand(t *testing.T) {
	returns(t, 5, movi(0, 5), exit)
	returns(t, math.MaxUint64, movi(0, -1), exit)
	returns(t, 0xFFFFFFFF, imm(api.Mov, 32, 0, -1), exit)
	returns(t, 0x0000000080000000, imm(api.Mov, 32, 0, math.MinInt32), exit)
	returns(t, 0xFFFFFFFF80000000, imm(api.Mov, 64, 0, math.MinInt32), exit)
	returns(t, 0, movi(0, 7), movi(2, 0), reg(api.Div, 64, 0, 2), exit)
	returns(t, 7, movi(0, 7), movi(2, 0), reg(api.Mod, 64, 0, 2), exit)
	returns(t, 0, movi(0, -1), imm(api.Add, 32, 0, 1), exit)
	returns(t, 49, movi(0, 7), reg(api.Mul, 64, 0, 0), exit)
	returns(t, 0x300000, mov(0, 10), imm(api.Sub, 64, 0, 64), exit)
	returns(t, 3, movi(3, 3), mov(0, 3), movi(3, 4), exit) // a copy, not the register itself
}

func TestLoadsOfTheContext(t *testing.T) {
	for _, n := range []int{0, 1, 2, 3, 7, 8, 9, 16, 255, 256} {
		context := numbered(n)
		for _, size := range []int{1, 2, 4, 8} {
			for _, off := range []int{-32768, -9, -8, -1, 0, 1, 2, 3, 4, 7, 8, 9, n - 9, n - 8, n - 7, n - 5, n - 4, n - 3, n - 2, n - 1, n, n + 1, 256, 32767} {
				o := mustRun(t, context, nil, 9, load(int8(size), 0, 1, off), exit)
				want, kind := uint64(0), api.EndFault
				if off >= 0 && off+size <= n {
					kind = api.EndReturn
					for i := size - 1; i >= 0; i-- {
						want = want<<8 + uint64(context[off+i])
					}
				}
				if o.Kind != kind || o.R0 != want || !bytes.Equal(o.Context, context) {
					t.Errorf("%d bytes at %d of %d: kind %d, %#x, not kind %d, %#x", size, off, n, o.Kind, o.R0, kind, want)
				}
			}
		}
	}
}

func TestStoresToTheContext(t *testing.T) {
	for _, n := range []int{0, 1, 2, 3, 7, 8, 9, 16, 255, 256} {
		for _, size := range []int{1, 2, 4, 8} {
			for _, off := range []int{-32768, -9, -8, -1, 0, 1, 2, 3, 4, 7, 8, 9, n - 9, n - 8, n - 7, n - 5, n - 4, n - 3, n - 2, n - 1, n, n + 1, 256, 32767} {
				l := append(word(2, 0xF1E2D3C4B5A69788), store(int8(size), 1, 2, off), movi(0, 3), exit)
				o := mustRun(t, numbered(n), nil, 20, l...)
				want, kind := numbered(n), api.EndFault
				if off >= 0 && off+size <= n {
					kind = api.EndReturn
					copy(want[off:], []byte{0x88, 0x97, 0xA6, 0xB5, 0xC4, 0xD3, 0xE2, 0xF1}[:size])
				}
				if o.Kind != kind || !bytes.Equal(o.Context, want) {
					t.Errorf("%d bytes at %d of %d: kind %d, %x, not kind %d, %x", size, off, n, o.Kind, o.Context, kind, want)
				}
			}
		}
	}
}

func TestAccessesOfTheFrame(t *testing.T) {
	for _, size := range []int{1, 2, 4, 8} {
		for off := -80; off <= 16; off++ {
			l := append(word(2, 0xF1E2D3C4B5A69788), store(int8(size), 10, 2, off), load(int8(size), 0, 10, off), exit)
			o := mustRun(t, numbered(256), nil, 20, l...)
			want, kind := uint64(0xF1E2D3C4B5A69788)<<(64-8*size)>>(64-8*size), api.EndReturn
			if off < -64 || off+size > 0 {
				want, kind = 0, api.EndFault
			}
			if o.Kind != kind || o.R0 != want || !bytes.Equal(o.Context, numbered(256)) {
				t.Errorf("%d bytes at %d: kind %d, %#x, not kind %d, %#x", size, off, o.Kind, o.R0, kind, want)
			}
			o = mustRun(t, nil, nil, 20, load(int8(size), 0, 10, off), exit)
			if o.Kind != kind || o.R0 != 0 {
				t.Errorf("load of %d bytes at %d: kind %d, %#x", size, off, o.Kind, o.R0)
			}
		}
	}
	for off := range 8 { // bytes of one store, one by one
		returns(t, uint64(8-off), append(word(2, 0x0102030405060708), store(8, 10, 2, -16), load(1, 0, 10, off-16), exit)...)
	}
}

func TestNoCodeAndNoStack(t *testing.T) {
	for _, at := range []uint64{0, 0x100000, 0x100001, 0x1FFFFF, 0x200010, 0x2FFFFF, 0x300040, 0x400000, 0x400100, 0x400107, 1 << 32, 1<<32 + 0x200000, 1 << 63, math.MaxUint64} {
		for _, size := range []int8{1, 2, 4, 8} {
			o := mustRun(t, numbered(16), nil, 20, append(word(2, at), load(size, 0, 2, 0), exit)...)
			if o.Kind != api.EndFault || o.Left != 20-4 {
				t.Errorf("load of %d bytes at %#x: %v", size, at, o)
			}
			o = mustRun(t, numbered(16), nil, 20, append(word(2, at), store(size, 2, 1, 0), movi(0, 1), exit)...)
			if o.Kind != api.EndFault || o.Left != 20-4 || !bytes.Equal(o.Context, numbered(16)) {
				t.Errorf("store of %d bytes at %#x: %v", size, at, o)
			}
		}
	}
}

func TestAddressesHaveASum(t *testing.T) {
	context := numbered(256)
	for _, c := range []struct {
		base uint64
		off  int
		kind int8
	}{
		{0x200000 + 32768, -32768, api.EndReturn},
		{0x200000 + 32768, -32767, api.EndReturn},
		{0x200000 - 32767, 32767, api.EndReturn},
		{0x200000 - 32767, 32766, api.EndFault},
		{0x200000 + 256, -1, api.EndReturn},
		{0x200000 + 256, 0, api.EndFault},
		{1<<32 + 0x200000, 0, api.EndFault}, // the upper half of the base counts
		{math.MaxUint64, 1, api.EndFault},
		{math.MaxUint64, 32767, api.EndFault},
		{0, -1, api.EndFault},
		{0, -32768, api.EndFault},
		{0x300000 + 64 + 32767, -32768, api.EndReturn},
	} {
		o := mustRun(t, context, nil, 20, append(word(2, c.base), load(1, 0, 2, c.off), exit)...)
		if o.Kind != c.kind {
			t.Errorf("%#x + %d: kind %d, not %d", c.base, c.off, o.Kind, c.kind)
		}
		o = mustRun(t, context, nil, 20, append(word(2, c.base), store(1, 2, 2, c.off), movi(0, 1), exit)...)
		if o.Kind != c.kind {
			t.Errorf("store at %#x + %d: kind %d, not %d", c.base, c.off, o.Kind, c.kind)
		}
	}
	// a load whose base is its Dst, a store whose base is its Src
	returns(t, 0, mov(2, 10), load(8, 2, 2, -8), mov(0, 2), exit)
	returns(t, 0x300040, store(8, 10, 10, -8), load(8, 0, 10, -8), exit)
}

func TestAFaultLeavesTheRest(t *testing.T) {
	o := mustRun(t, numbered(8), nil, 50, movi(3, 0x0102), store(2, 1, 3, 6), movi(0, 9), store(2, 1, 3, 7), exit)
	want := []byte{1, 8, 15, 22, 29, 36, 2, 1}
	if o.Kind != api.EndFault || o.R0 != 0 || !bytes.Equal(o.Context, want) || o.Left != 46 || len(o.Trace) != 0 {
		t.Error(o)
	}
}

func TestJumps(t *testing.T) {
	values := []uint64{0, 1, 2, 0x7FFFFFFF, 0x80000000, 0xFFFFFFFF, 1 << 32, 1<<32 + 1, 1<<63 - 1, 1 << 63, 1<<63 + 1, math.MaxUint64 - 1, math.MaxUint64}
	for cc := api.Eq; cc <= api.Set; cc++ {
		for _, a := range values {
			for _, b := range values {
				l := slices.Concat(word(2, a), word(3, b), []api.Instr{movi(0, 1), jumpReg(cc, 2, 3, 1), movi(0, 0), exit})
				want := uint64(0)
				if condition(cc, a, b) {
					want = 1
				}
				returns(t, want, l...)
				n := int(int32(b))
				l = slices.Concat(word(2, a), []api.Instr{movi(0, 1), jumpImm(cc, 2, n, 1), movi(0, 0), exit})
				want = 0
				if condition(cc, a, uint64(int64(n))) {
					want = 1
				}
				returns(t, want, l...)
			}
		}
	}
}

func TestWhereItGoesOn(t *testing.T) {
	returns(t, 1, movi(0, 1), goTo(0), exit)
	returns(t, 1, movi(0, 1), goTo(1), movi(0, 2), exit)
	returns(t, 3, goTo(2), movi(0, 3), exit, goTo(-3)) // forwards, then back
	returns(t, 0x300040, jumpReg(api.Ne, 1, 10, 1), goTo(-1), mov(0, 10), exit)
	ends(t, api.EndFuel, jumpImm(api.Ne, 1, 0, -1), exit) // to itself
	ends(t, api.EndFuel, goTo(-1))
	// ten numbers are added up
	returns(t, 55, movi(0, 0), movi(2, 10), reg(api.Add, 64, 0, 2), imm(api.Sub, 64, 2, 1), jumpImm(api.Ne, 2, 0, -3), exit)
	returns(t, 12, movi(0, 0), imm(api.Add, 64, 0, 3), jumpImm(api.Lt, 0, 10, -2), exit)
}

func TestCallsOfAllNumbers(t *testing.T) {
	for num, args := range []int{0, 1, 2, 3, 4, 5, 0, 1, 2, 3, 4, 5, 0, 1, 2, 3} {
		o := mustRun(t, nil, []uint64{math.MaxUint64, 4}, 100, append(everything(1), movi(1, 1), call(num), exit)...)
		want := api.Event{Num: num, Args: []uint64{1, 2, 3, 4, 5}[:args], Answer: math.MaxUint64}
		if !trace.Same(o, api.Outcome{Kind: api.EndReturn, R0: math.MaxUint64, Trace: []api.Event{want}, Left: 100 - 12}) {
			t.Errorf("call %d: %v", num, o)
		}
		for r := range int8(11) {
			l := append(everything(1), movi(1, 1), call(num), mov(0, r), exit)
			o := mustRun(t, nil, []uint64{0}, 100, l...)
			switch {
			case r >= 1 && r <= 5:
				if o.Kind != api.EndFault || o.Left != 100-12 {
					t.Errorf("R%d after call %d: %v", r, num, o)
				}
			case o.Kind != api.EndReturn || o.R0 != map[int8]uint64{0: 0, 6: 6, 7: 7, 8: 8, 9: 9, 10: 0x300040}[r]:
				t.Errorf("R%d after call %d: %v", r, num, o)
			}
		}
	}
}

func TestCallsTakeAnswersInOrder(t *testing.T) {
	l := []api.Instr{movi(2, 7), call(2), mov(6, 0), call(0), reg(api.Add, 64, 0, 6), exit}
	first := api.Event{Num: 2, Args: []uint64{0x200000, 7}, Answer: 30}
	second := api.Event{Answer: 4}
	for i, c := range []struct {
		answers []uint64
		fuel    int
		want    api.Outcome
	}{
		{[]uint64{30, 4, 9}, 9, api.Outcome{Kind: api.EndReturn, R0: 34, Trace: []api.Event{first, second}, Left: 3}},
		{[]uint64{30, 4}, 6, api.Outcome{Kind: api.EndReturn, R0: 34, Trace: []api.Event{first, second}}},
		{[]uint64{30, 4}, 5, api.Outcome{Trace: []api.Event{first, second}}},
		{[]uint64{30, 4}, 4, api.Outcome{Trace: []api.Event{first, second}}},
		{[]uint64{30, 4}, 3, api.Outcome{Trace: []api.Event{first}}},
		{[]uint64{30}, 9, api.Outcome{Kind: api.EndRefused, Trace: []api.Event{first}, Left: 5}},
		{[]uint64{30}, 4, api.Outcome{Kind: api.EndRefused, Trace: []api.Event{first}}},
		{[]uint64{30}, 3, api.Outcome{Trace: []api.Event{first}}},
		{[]uint64{30}, 2, api.Outcome{Trace: []api.Event{first}}},
		{nil, 9, api.Outcome{Kind: api.EndRefused, Left: 7}},
		{[]uint64{}, 1, api.Outcome{}},
		{[]uint64{30}, 0, api.Outcome{}},
	} {
		if o := mustRun(t, nil, c.answers, c.fuel, l...); !trace.Same(o, c.want) {
			t.Errorf("%d: %v, not %v", i, o, c.want)
		}
	}
}

func TestACallThatReadsWhatIsNotSet(t *testing.T) {
	for _, answers := range [][]uint64{nil, {30}} { // ahead of the refusal
		if o := mustRun(t, nil, answers, 9, call(3), exit); !trace.Same(o, api.Outcome{Kind: api.EndFault, Left: 8}) {
			t.Error(o)
		}
	}
	if o := mustRun(t, nil, nil, 9, movi(2, 1), movi(3, 1), call(3), exit); !trace.Same(o, api.Outcome{Kind: api.EndRefused, Left: 6}) {
		t.Error(o)
	}
	l := []api.Instr{call(1), call(1), exit} // the first one takes R1 away
	if o := mustRun(t, nil, []uint64{5, 6}, 9, l...); o.Kind != api.EndFault || len(o.Trace) != 1 || o.Left != 7 {
		t.Error(o)
	}
}

func TestManyCalls(t *testing.T) {
	answers := make([]uint64, 10001)
	for i := range answers {
		answers[i] = uint64(i) * 3
	}
	l := []api.Instr{call(0), goTo(-2)}
	o := mustRun(t, nil, answers, 10000, l...)
	if o.Kind != api.EndFuel || o.Left != 0 || len(o.Trace) != 5000 || o.Trace[4999].Answer != 4999*3 {
		t.Error(o.Kind, o.Left, len(o.Trace))
	}
	l = append(slices.Repeat([]api.Instr{call(0)}, 63), exit)
	for n := range 66 {
		o := mustRun(t, nil, answers[:n], 64, l...)
		if n < 63 && (o.Kind != api.EndRefused || len(o.Trace) != n || o.Left != 63-n) || n >= 63 && (o.Kind != api.EndReturn || o.R0 != 62*3) {
			t.Error(n, o.Kind, o.R0, len(o.Trace), o.Left)
		}
	}
}

func TestTheOutcomesR0(t *testing.T) {
	context := numbered(8)
	set := []api.Instr{movi(0, 77), store(1, 1, 0, 0)}
	for _, c := range []struct {
		l    []api.Instr
		kind int8
		r0   uint64
	}{
		{[]api.Instr{exit}, api.EndReturn, 77},
		{[]api.Instr{goTo(-1)}, api.EndFuel, 0},
		{[]api.Instr{call(0), exit}, api.EndRefused, 0},
		{[]api.Instr{load(8, 0, 1, 1), exit}, api.EndFault, 0},
		{[]api.Instr{mov(0, 9), exit}, api.EndFault, 0},
	} {
		o := mustRun(t, context, nil, 30, append(slices.Clone(set), c.l...)...)
		if o.Kind != c.kind || o.R0 != c.r0 || !bytes.Equal(o.Context, append([]byte{77}, context[1:]...)) {
			t.Errorf("%v: %v", c.l, o)
		}
	}
}

func TestFuelIsCounted(t *testing.T) {
	l := []api.Instr{movi(0, 1), movi(2, 2), movi(3, 3), exit}
	for fuel := range 10 {
		o := mustRun(t, nil, nil, fuel, l...)
		if fuel < 4 && !trace.Same(o, api.Outcome{}) || fuel >= 4 && !trace.Same(o, api.Outcome{Kind: api.EndReturn, R0: 1, Left: fuel - 4}) {
			t.Errorf("fuel %d: %v", fuel, o)
		}
	}
	store := []api.Instr{store(1, 1, 10, 0), goTo(-1)}
	if o := mustRun(t, []byte{7}, nil, 0, store...); o.Kind != api.EndFuel || o.Context[0] != 7 {
		t.Error("something is done without fuel:", o)
	}
	if o := mustRun(t, nil, nil, 0, exit); o.Kind != api.EndFuel { // no fuel, ahead of the register that is not set
		t.Error(o)
	}
	if o := mustRun(t, nil, nil, 1, exit); !trace.Same(o, api.Outcome{Kind: api.EndFault}) {
		t.Error(o)
	}
}

func TestRunAgainstTheDocument(t *testing.T) {
	kinds := map[int8]int{}
	executed := map[int8]int{}
	for i, g := range runs(30000) {
		want, steps := walk(g.p, g.context, g.answers, g.fuel)
		o, e := Run(g.p, g.context, g.answers, g.fuel)
		if e != api.OK || text(o) != text(want) {
			t.Fatalf("%d: %v: %v, %s, not %s", i, g, e, text(o), text(want))
		}
		kinds[o.Kind]++
		for _, x := range steps {
			executed[g.p.L[x.at].Kind]++
		}
	}
	for _, n := range []int{kinds[api.EndFuel], kinds[api.EndReturn], kinds[api.EndRefused], kinds[api.EndFault]} {
		if n < 1000 {
			t.Error("too few runs of a kind:", kinds)
		}
	}
	for kind := api.InAlu; kind <= api.InExit; kind++ {
		if executed[kind] < 1000 {
			t.Error("too few instructions of a kind:", executed)
		}
	}
}

// P6.2

func TestEachAgainstTheDocument(t *testing.T) {
	for i, g := range runs(10000) {
		_, want := walk(g.p, g.context, g.answers, g.fuel)
		if got := places(g); !slices.Equal(got, want) {
			t.Fatalf("%d: %v: %v, not %v", i, g, got, want)
		}
	}
}

func TestEachByHand(t *testing.T) {
	l := []api.Instr{movi(2, 7), store(2, 10, 2, -2), call(2), load(1, 6, 10, -2), exit}
	g := given{prog(0, l...), nil, []uint64{30}, 9}
	first := api.Snap{Set: 1<<1 | 1<<10}
	first.Regs[1], first.Regs[10] = 0x200000, 0x300040
	second := first
	second.Regs[2], second.Set = 7, 1<<1|1<<2|1<<10
	third := second
	third.Frame[62] = 7
	fourth := third
	fourth.Regs[0], fourth.Regs[1], fourth.Regs[2], fourth.Set = 30, 0, 0, 1<<0|1<<10
	fifth := fourth
	fifth.Regs[6], fifth.Set = 7, 1<<0|1<<6|1<<10
	want := []place{{0, first}, {1, second}, {2, third}, {3, fourth}, {4, fifth}}
	if got := places(g); !slices.Equal(got, want) {
		t.Errorf("%v, not %v", got, want)
	}
	for fuel := range 6 { // without fuel, nothing is executed
		g.fuel = fuel
		if got := places(g); !slices.Equal(got, want[:fuel]) {
			t.Errorf("fuel %d: %v", fuel, got)
		}
	}
	g.fuel, g.answers = 9, nil
	if got := places(g); !slices.Equal(got, want[:3]) { // the call that is refused is the last
		t.Error(got)
	}
}

func TestEachTellsInstructionsThatFault(t *testing.T) {
	for _, l := range [][]api.Instr{
		{movi(2, 1), exit},
		{movi(2, 1), load(8, 0, 1, 0), exit},
		{movi(2, 1), store(8, 1, 2, 0), exit},
		{movi(2, 1), mov(0, 3), exit},
		{movi(2, 1), call(3), exit},
		{movi(2, 1), call(0), exit},
	} {
		g := given{prog(0, l...), nil, nil, 9}
		got := places(g)
		if len(got) != 2 || got[1].at != 1 || got[1].s.Regs[2] != 1 {
			t.Errorf("%v: %v", l, got)
		}
		want := make([]int, len(l))
		want[0], want[1] = 1, 1
		if v := Visits(g.p, nil, nil, 9); !slices.Equal(v, want) {
			t.Errorf("Visits of %v = %v", l, v)
		}
	}
}

func TestEachAndVisitsOfWhatRunRefuses(t *testing.T) {
	for i, c := range wrong() {
		each := Each(c.p, c.context, c.answers, c.fuel)
		if each == nil {
			t.Errorf("%d: no iterator", i)
			continue
		}
		for at := range each {
			t.Errorf("%d: Each yields %d", i, at)
		}
		if v := Visits(c.p, c.context, c.answers, c.fuel); len(v) != 0 {
			t.Errorf("%d: Visits = %v", i, v)
		}
	}
}

func TestVisits(t *testing.T) {
	for i, g := range runs(10000) {
		want := make([]int, len(g.p.L))
		_, steps := walk(g.p, g.context, g.answers, g.fuel)
		for _, x := range steps {
			want[x.at]++
		}
		if v := Visits(g.p, g.context, g.answers, g.fuel); !slices.Equal(v, want) {
			t.Fatalf("%d: Visits of %v = %v, not %v", i, g, v, want)
		}
	}
	loop := prog(0, movi(0, 0), movi(2, 10), reg(api.Add, 64, 0, 2), imm(api.Sub, 64, 2, 1), jumpImm(api.Ne, 2, 0, -3), exit, exit)
	if v := Visits(loop, nil, nil, 10000); !slices.Equal(v, []int{1, 1, 10, 10, 10, 1, 0}) {
		t.Error(v)
	}
	if v := Visits(loop, nil, nil, 0); !slices.Equal(v, make([]int, 7)) { // a list, though nothing is executed
		t.Error(v)
	}
	if v := Visits(prog(0, goTo(-1)), nil, nil, 10000); !slices.Equal(v, []int{10000}) {
		t.Error(v)
	}
}

func TestEachIsLeftEarlyAndUsedAgain(t *testing.T) {
	for _, g := range runs(300) {
		_, want := walk(g.p, g.context, g.answers, g.fuel)
		each := Each(g.p, g.context, g.answers, g.fuel)
		for n := range len(want) + 2 {
			var got []place
			for at, s := range each {
				if len(got) == n {
					break
				}
				got = append(got, place{at, s})
			}
			if !slices.Equal(got, want[:min(n, len(want))]) {
				t.Fatalf("left after %d: %v, not %v", n, got, want)
			}
		}
	}
}

func TestEachWithinEach(t *testing.T) {
	l := []api.Instr{load(1, 2, 1, 0), imm(api.Add, 64, 2, 1), store(1, 1, 2, 0), call(0), movi(1, 0x200000), jumpImm(api.Lt, 2, 9, -6), exit}
	g := given{prog(1, append([]api.Instr{store(8, 10, 1, -8)}, l...)...), []byte{3}, []uint64{1, 2, 3, 4}, 90}
	_, want := walk(g.p, g.context, g.answers, g.fuel)
	each := Each(g.p, g.context, g.answers, g.fuel)
	var outer []place
	for at, s := range each {
		outer = append(outer, place{at, s})
		var inner []place
		for at, s := range each {
			inner = append(inner, place{at, s})
		}
		if !slices.Equal(inner, want) {
			t.Fatalf("within: %v, not %v", inner, want)
		}
	}
	if !slices.Equal(outer, want) {
		t.Errorf("around: %v, not %v", outer, want)
	}
}

func TestEachYieldsWhatThereWas(t *testing.T) {
	l := []api.Instr{load(2, 0, 1, 0), mov(6, 0), call(0), reg(api.Add, 64, 0, 6), call(0), exit}
	g := given{prog(2, l...), []byte{3, 1}, []uint64{8, 9}, 9}
	_, want := walk(g.p, slices.Clone(g.context), slices.Clone(g.answers), g.fuel)
	each := Each(g.p, g.context, g.answers, g.fuel)
	overwrite := func() {
		g.p.L[0], g.p.L[5] = exit, goTo(-7)
		clear(g.context)
		clear(g.answers)
	}
	var got []place
	for at, s := range each {
		overwrite() // while it goes on, and so ahead of the second use
		got = append(got, place{at, s})
	}
	var again []place
	for at, s := range each {
		again = append(again, place{at, s})
	}
	if !slices.Equal(got, want) || !slices.Equal(again, want) {
		t.Errorf("%v, then %v, not %v", got, again, want)
	}
}

// P6.3

func TestMoreFuelChangesNothingThatEnded(t *testing.T) {
	for i, g := range runs(1500) {
		most := min(g.fuel, 60) + 5
		var all []api.Outcome
		for fuel := range most {
			o, e := Run(g.p, g.context, g.answers, fuel)
			if e != api.OK {
				t.Fatal(e)
			}
			all = append(all, o)
		}
		for fuel, less := range all {
			more := all[min(fuel+1, most-1)]
			if less.Kind != api.EndFuel {
				for extra, more := range all[fuel:] {
					more.Left -= extra
					if !trace.Same(less, more) {
						t.Fatalf("%d: fuel %d, then %d more: %v, %v", i, fuel, extra, less, more)
					}
				}
				break
			}
			if less.Left != 0 || !trace.Becomes(less, more) || !trace.Becomes(less, all[most-1]) {
				t.Fatalf("%d: fuel %d: %v, %v, %v", i, fuel, less, more, all[most-1])
			}
		}
	}
}

func TestMuchFuel(t *testing.T) {
	for i, g := range runs(2000) {
		less, _ := Run(g.p, g.context, g.answers, g.fuel)
		more, e := Run(g.p, g.context, g.answers, api.MaxFuel)
		if less.Kind == api.EndFuel {
			if e != api.OK || !trace.Becomes(less, more) {
				t.Fatalf("%d: %v, %v", i, less, more)
			}
			continue
		}
		more.Left -= api.MaxFuel - g.fuel
		if e != api.OK || !trace.Same(less, more) {
			t.Fatalf("%d: %v, %v", i, less, more)
		}
	}
}

func TestAnswersThatWereNotTaken(t *testing.T) {
	taken := 0
	for i, g := range runs(10000) {
		o, _ := Run(g.p, g.context, g.answers, g.fuel)
		if o.Kind == api.EndRefused {
			continue
		}
		n := len(o.Trace)
		taken += n
		for _, others := range [][]uint64{nil, {math.MaxUint64}, {7, 7, 7, 7, 7}} {
			answers := slices.Concat(g.answers[:n], others)
			p, e := Run(g.p, g.context, answers, g.fuel)
			if e != api.OK || !trace.Same(o, p) {
				t.Fatalf("%d: %v with %v, %v with %v", i, o, g.answers, p, answers)
			}
			if !slices.Equal(Visits(g.p, g.context, answers, g.fuel), Visits(g.p, g.context, g.answers, g.fuel)) {
				t.Fatalf("%d: Visits with %v and with %v", i, g.answers, answers)
			}
		}
	}
	if taken < 1000 {
		t.Error("too few answers were taken:", taken)
	}
}

// R3, R4

func TestNothingIsModified(t *testing.T) {
	l := []api.Instr{movi(2, 9), store(8, 1, 2, 0), call(2), mov(6, 0), call(0), exit, movi(9, 9)}
	context := append(numbered(8), 55, 55)
	answers := []uint64{1, 2, 3, 4}
	p := prog(8, l[:6]...)
	want, _ := walk(p, context[:8], answers[:2], 9)
	for range 2 { // and so a second call answers the same
		o, e := Run(p, context[:8], answers[:2], 9)
		if e != api.OK || text(o) != text(want) {
			t.Errorf("%v: %s, not %s", e, text(o), text(want))
		}
		Visits(p, context[:8], answers[:2], 9)
		for range Each(p, context[:8], answers[:2], 9) {
		}
		for _, x := range o.Trace { // nor is an argument part of the answer
			clear(x.Args[:cap(x.Args)])
		}
		clear(o.Context[:cap(o.Context)])
	}
	if !slices.Equal(context, append(numbered(8), 55, 55)) || !slices.Equal(answers, []uint64{1, 2, 3, 4}) || l[6] != movi(9, 9) || l[0] != movi(2, 9) {
		t.Error("an argument is modified:", context, answers, l)
	}
}

func TestListsOfOneOutcomeShareNothing(t *testing.T) {
	l := []api.Instr{movi(2, 9), movi(6, 0), call(2), movi(1, 4), movi(2, 5), call(2), exit}
	o := mustRun(t, nil, []uint64{1, 2}, 9, l...)
	args := o.Trace[0].Args[:cap(o.Trace[0].Args)]
	for i := range args {
		args[i] = 99
	}
	if !slices.Equal(o.Trace[1].Args, []uint64{4, 5}) {
		t.Error(o)
	}
}
