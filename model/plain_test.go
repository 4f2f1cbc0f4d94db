package model

import (
	"strconv"
	"strings"

	"lathe/api"
	"lathe/sample"
)

// The instructions, written short.
var (
	imm, reg, movi, mov          = sample.Imm, sample.Reg, sample.Movi, sample.Mov
	load, store                  = sample.Load, sample.Store
	jumpImm, jumpReg, goTo, call = sample.JumpImm, sample.JumpReg, sample.Goto, sample.Call
	exit                         = sample.Exit
	needs                        = sample.Needs
)

// word tells instructions that make dst any number. The sign of the lower half reaches into the upper one, which undoes that beforehand.
func word(dst int8, v uint64) []api.Instr {
	lower := int32(v)
	upper := int32(v>>32) ^ lower>>31
	return []api.Instr{movi(dst, int(upper)), imm(api.Lsh, 64, dst, 32), imm(api.Xor, 64, dst, int(lower))}
}

// plain is a run by the document's words, told without the layers below: the registers that are set are in one map, the bytes that are mapped in another.
type plain struct {
	regs    map[int8]uint64
	bytes   map[uint64]byte
	at      int
	fuel    int
	answers []uint64
	trace   []api.Event
}

// place is what Each yields.
type place struct {
	at int
	s  api.Snap
}

func newPlain(context []byte, answers []uint64, fuel int) *plain {
	w := &plain{regs: map[int8]uint64{1: 0x200000, 10: 0x300040}, bytes: map[uint64]byte{}, fuel: fuel, answers: answers}
	for i, b := range context {
		w.bytes[0x200000+uint64(i)] = b
	}
	for i := range uint64(64) {
		w.bytes[0x300000+i] = 0
	}
	return w
}

func (w *plain) snap() api.Snap {
	var s api.Snap
	for r, v := range w.regs {
		s.Regs[r] = v
		s.Set += []int{1, 2, 4, 8, 16, 32, 64, 128, 256, 512, 1024}[r]
	}
	for i := range s.Frame {
		s.Frame[i] = w.bytes[0x300000+uint64(i)]
	}
	return s
}

// walk tells a valid run's outcome and what Each yields of it.
func walk(p api.Prog, context []byte, answers []uint64, fuel int) (api.Outcome, []place) {
	w := newPlain(context, answers, fuel)
	var places []place
	kind, ended := api.EndFuel, false
	for !ended && w.fuel > 0 {
		places = append(places, place{w.at, w.snap()})
		w.fuel--
		kind, ended = w.step(p.L[w.at])
	}
	o := api.Outcome{Kind: kind, Trace: w.trace, Left: w.fuel}
	if kind == api.EndReturn {
		o.R0 = w.regs[0]
	}
	for i := range context {
		o.Context = append(o.Context, w.bytes[0x200000+uint64(i)])
	}
	return o, places
}

// step executes one instruction, and tells how it ends the run if it does.
func (w *plain) step(x api.Instr) (int8, bool) {
	for _, r := range needs(x) {
		if _, set := w.regs[r]; !set {
			return api.EndFault, true
		}
	}
	second := uint64(int64(x.Imm))
	if x.ByReg {
		second = w.regs[x.Src]
	}
	next := w.at + 1
	switch x.Kind {
	case api.InAlu:
		w.regs[x.Dst] = computed(x.Op, x.Width, w.regs[x.Dst], second)
	case api.InLoad:
		v, ok := w.get(w.regs[x.Src]+uint64(int64(x.Off)), int(x.Size))
		if !ok {
			return api.EndFault, true
		}
		w.regs[x.Dst] = v
	case api.InStore:
		if !w.put(w.regs[x.Dst]+uint64(int64(x.Off)), int(x.Size), w.regs[x.Src]) {
			return api.EndFault, true
		}
	case api.InJump:
		if condition(x.Op, w.regs[x.Dst], second) {
			next += x.Off
		}
	case api.InGoto:
		next += x.Off
	case api.InCall:
		if len(w.answers) == 0 {
			return api.EndRefused, true
		}
		w.host(x.Imm)
	case api.InExit:
		return api.EndReturn, true
	}
	w.at = next
	return api.EndFuel, false
}

func (w *plain) host(num int) {
	e := api.Event{Num: num, Answer: w.answers[0]}
	w.answers = w.answers[1:]
	for i := range []int{0, 1, 2, 3, 4, 5, 0, 1, 2, 3, 4, 5, 0, 1, 2, 3}[num] {
		e.Args = append(e.Args, w.regs[int8(1+i)])
	}
	w.trace = append(w.trace, e)
	for _, r := range []int8{1, 2, 3, 4, 5} {
		delete(w.regs, r)
	}
	w.regs[0] = e.Answer
}

// get needs no regions: no two of them touch.
func (w *plain) get(at uint64, n int) (uint64, bool) {
	v := uint64(0)
	for i := n - 1; i >= 0; i-- {
		b, mapped := w.bytes[at+uint64(i)]
		if !mapped {
			return 0, false
		}
		v = v*256 + uint64(b)
	}
	return v, true
}

func (w *plain) put(at uint64, n int, v uint64) bool {
	if _, ok := w.get(at, n); !ok {
		return false
	}
	for i := range uint64(n) {
		w.bytes[at+i] = byte(v)
		v /= 256
	}
	return true
}

// computed tells what an operation makes of two numbers.
func computed(op, width int8, a, b uint64) uint64 {
	if width == 32 {
		return uint64(computed32(op, uint32(a), uint32(b)))
	}
	switch {
	case op == api.Div && b == 0:
		return 0
	case op == api.Mod && b == 0:
		return a
	}
	switch op {
	case api.Add:
		return a + b
	case api.Sub:
		return a - b
	case api.Mul:
		return a * b
	case api.Div:
		return a / b
	case api.Or:
		return a | b
	case api.And:
		return a & b
	case api.Lsh:
		return a << (b % 64)
	case api.Rsh:
		return a >> (b % 64)
	case api.Neg:
		return -a
	case api.Mod:
		return a % b
	case api.Xor:
		return a ^ b
	case api.Arsh:
		return uint64(int64(a) >> (b % 64))
	}
	return b
}

func computed32(op int8, a, b uint32) uint32 {
	switch op {
	case api.Lsh:
		return a << (b % 32)
	case api.Rsh:
		return a >> (b % 32)
	case api.Arsh:
		return uint32(int32(a) >> (b % 32))
	}
	return uint32(computed(op, 64, uint64(a), uint64(b))) // the others' lowest bits are those of the lowest bits
}

func condition(cc int8, a, b uint64) bool {
	s, u := int64(a), int64(b)
	return []bool{a == b, a != b, a > b, a >= b, a < b, a <= b, s > u, s >= u, s < u, s <= u, a&b != 0}[cc]
}

// text tells an outcome whole.
func text(o api.Outcome) string {
	words := []string{strconv.Itoa(int(o.Kind)), strconv.FormatUint(o.R0, 16), strconv.Itoa(o.Left), "context"}
	for _, b := range o.Context {
		words = append(words, strconv.Itoa(int(b)))
	}
	for _, x := range o.Trace {
		words = append(words, "call", strconv.Itoa(x.Num), strconv.FormatUint(x.Answer, 16))
		for _, v := range x.Args {
			words = append(words, strconv.FormatUint(v, 16))
		}
	}
	return strings.Join(words, " ")
}

// stream tells numbers, the same ones each time.
type stream uint64

func (s *stream) below(n int) int {
	*s = *s*6364136223846793005 + 1442695040888963407
	return int(uint64(*s) >> 33 % uint64(n))
}

func pick[T any](s *stream, l ...T) T { return l[s.below(len(l))] }

// number tells a number for Imm, most often a small one.
func (s *stream) number() int {
	return pick(s, s.below(8), s.below(8), -1, -s.below(70), 31, 63, 64, 1<<31-1, -1<<31, int(int32(s.below(1<<31)*2+1)))
}

// register tells most often one that is set: calls leave it as it is.
func (s *stream) register() int8 {
	return pick[int8](s, 0, 0, 0, 6, 6, 7, 7, 8, 8, 9, int8(s.below(10)))
}

// place tells the base of an access and its offset, most often of one that is allowed.
func (s *stream) place() (int8, int) {
	switch s.below(12) {
	case 0:
		return s.register(), s.number() % 100
	case 1, 2, 3:
		return 1, s.below(12)
	}
	return 10, -s.below(70)
}

// instruction tells a valid one for the place i of n.
func (s *stream) instruction(i, n int) api.Instr {
	dst, src := s.register(), pick(s, s.register(), 10)
	target := s.below(n) - i - 1
	switch s.below(16) {
	case 0, 1, 2:
		op := pick(s, api.Add, api.Sub, api.Mul, api.Div, api.Or, api.And, api.Lsh, api.Rsh, api.Mod, api.Xor, api.Mov, api.Arsh)
		return imm(op, pick[int8](s, 32, 64), dst, s.number())
	case 3, 4:
		op := pick(s, api.Add, api.Sub, api.Mul, api.Div, api.Or, api.And, api.Lsh, api.Rsh, api.Mod, api.Xor, api.Mov, api.Arsh)
		return reg(op, pick[int8](s, 32, 64), dst, src)
	case 5:
		return imm(api.Neg, pick[int8](s, 32, 64), dst, 0)
	case 6:
		base, off := s.place()
		return load(pick[int8](s, 1, 2, 4, 8), dst, base, off)
	case 7, 8:
		base, off := s.place()
		return store(pick[int8](s, 1, 2, 4, 8), base, src, off)
	case 9, 10:
		return jumpImm(int8(s.below(11)), dst, s.number(), target)
	case 11:
		return jumpReg(int8(s.below(11)), dst, src, target)
	case 12:
		return call(pick(s, 0, 0, 6, 6, 12, 1, 2, s.below(16)))
	}
	return pick(s, exit, goTo(target), movi(int8(s.below(10)), s.number()), mov(dst, 10))
}

// given is what Run, Each and Visits take.
type given struct {
	p       api.Prog
	context []byte
	answers []uint64
	fuel    int
}

// any tells a run of a valid program.
func (s *stream) any() given {
	g := given{fuel: pick(s, s.below(30), 60, 60, 200), p: api.Prog{Context: pick(s, 0, 1, 11, 20, 256)}}
	for i := range g.p.Context {
		g.context = append(g.context, byte(i*37+200))
	}
	for range pick(s, 0, 1, 4, 30, 30) {
		g.answers = append(g.answers, uint64(s.number()))
	}
	n := 1 + s.below(18)
	for r := range int8(10) {
		if s.below(20) > 0 && r != 1 {
			g.p.L = append(g.p.L, movi(r, s.number()))
		}
	}
	n += len(g.p.L)
	for i := len(g.p.L); i < n-1; i++ {
		g.p.L = append(g.p.L, s.instruction(i, n))
	}
	g.p.L = append(g.p.L, pick(s, exit, exit, goTo(s.below(n)-n)))
	return g
}

// runs tells many runs of valid programs.
func runs(n int) []given {
	s := stream(1)
	var l []given
	for range n {
		l = append(l, s.any())
	}
	return l
}

func places(g given) []place {
	var l []place
	for at, s := range Each(g.p, g.context, g.answers, g.fuel) {
		l = append(l, place{at, s})
	}
	return l
}
