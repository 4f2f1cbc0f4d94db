package emu

import (
	"lathe/api"
	"lathe/encode"
	"lathe/exec"
)

// plain is a run by the document's words. Instructions are read and executed by the layers below, but all that they need is told here: the bytes that are mapped are in one map.
type plain struct {
	m       api.Machine
	code    []byte
	bytes   map[uint64]byte
	fuel    int
	answers []uint64
	trace   []api.Event
}

// place is what Each yields.
type place struct {
	at int
	m  api.Machine
}

func newPlain(g given) *plain {
	w := &plain{code: g.code, bytes: map[uint64]byte{}, fuel: g.fuel, answers: g.answers}
	w.m.R[4], w.m.At = 0x400100, 0x100000
	for i, b := range g.code {
		w.bytes[0x100000+uint64(i)] = b
	}
	for i, b := range g.context {
		w.bytes[0x200000+uint64(i)] = b
	}
	for i := range uint64(64) {
		w.bytes[0x300000+i] = 0
	}
	for i := range uint64(0x108) {
		w.bytes[0x400000+i] = 0
	}
	return w
}

// walk tells a valid run's outcome and what Each yields of it.
func walk(g given) (api.Outcome, []place) {
	w := newPlain(g)
	var places []place
	kind, ended := api.EndFuel, false
	for !ended && w.fuel > 0 {
		at := -1
		if w.m.At >= 0x100000 && w.m.At <= 0x100000+16384 {
			at = int(w.m.At) - 0x100000
		}
		places = append(places, place{at, w.m})
		w.fuel--
		kind, ended = w.step()
	}
	o := api.Outcome{Kind: kind, Trace: w.trace, Left: w.fuel}
	if kind == api.EndReturn {
		o.R0 = w.m.R[0]
	}
	for i := range g.context {
		o.Context = append(o.Context, w.bytes[0x200000+uint64(i)])
	}
	return o, places
}

// step takes one step, and tells how it ends the run if it does.
func (w *plain) step() (int8, bool) {
	x, ok := w.instruction()
	if !ok {
		return api.EndFault, true
	}
	var loaded uint64
	switch x.Op {
	case api.XLoad:
		loaded, ok = w.get(w.m.R[x.Base]+uint64(int64(x.Disp)), int(x.W)/8)
	case api.XRet:
		loaded, ok = w.get(w.m.R[4], 8)
	case api.XStore:
		ok = w.put(w.m.R[x.Base]+uint64(int64(x.Disp)), int(x.W)/8, w.m.R[x.Src])
	case api.XHost:
		if ok = w.m.R[0] < 16; ok && len(w.answers) == 0 {
			return api.EndRefused, true
		} else if ok {
			loaded = w.host(int(w.m.R[0]))
		}
	}
	if !ok {
		return api.EndFault, true
	}
	m, e := exec.Do(w.m, x, loaded)
	if e != api.OK {
		return api.EndFault, true
	}
	w.m = m
	if x.Op == api.XRet && loaded == 0 {
		return api.EndReturn, true
	}
	return api.EndFuel, false
}

func (w *plain) instruction() (api.X, bool) {
	if w.m.At < 0x100000 || w.m.At >= 0x100000+uint64(len(w.code)) {
		return api.X{}, false
	}
	x, _, e := encode.Read(w.code[w.m.At-0x100000:])
	return x, e == api.OK
}

func (w *plain) host(num int) uint64 {
	e := api.Event{Num: num, Answer: w.answers[0]}
	w.answers = w.answers[1:]
	for i := range []int{0, 1, 2, 3, 4, 5, 0, 1, 2, 3, 4, 5, 0, 1, 2, 3}[num] {
		e.Args = append(e.Args, w.m.R[[]int{7, 6, 2, 10, 8}[i]])
	}
	w.trace = append(w.trace, e)
	return e.Answer
}

// get needs no regions: no two of them touch.
func (w *plain) get(at uint64, n int) (uint64, bool) {
	v := uint64(0)
	for i := n - 1; i >= 0; i-- {
		b, mapped := w.bytes[at+uint64(i)]
		if !mapped {
			return 0, false
		}
		v = v*256 + uint64(b)
	}
	return v, true
}

func (w *plain) put(at uint64, n int, v uint64) bool {
	if _, ok := w.get(at, n); !ok || at >= 0x100000 && at < 0x100000+uint64(len(w.code)) {
		return false
	}
	for i := range uint64(n) {
		w.bytes[at+i] = byte(v)
		v /= 256
	}
	return true
}

// given is what Run, Each and Places take.
type given struct {
	code    []byte
	context []byte
	answers []uint64
	fuel    int
}

// stream tells numbers, the same ones each time.
type stream uint64

func (s *stream) below(n int) int {
	*s = *s*6364136223846793005 + 1442695040888963407
	return int(uint64(*s) >> 33 % uint64(n))
}

func pick[T any](s *stream, l ...T) T { return l[s.below(len(l))] }

// number tells a number for Imm, most often a small one.
func (s *stream) number() int {
	return pick(s, s.below(8), s.below(16), -1, -s.below(70), 63, 1<<31-1, -1<<31, int(int32(s.below(1<<31)*2+1)))
}

// register tells most often one that is no base of accesses.
func (s *stream) register() int8 {
	return pick(s, api.Rcx, api.Rdx, api.Rsi, api.Rdi, api.R8, api.R9, api.R10, api.R11, api.R13, api.R14, api.R15, api.R9, api.Rdi, api.Rcx, api.R8, int8(s.below(16)))
}

// access tells the base of an access and its offset, most often of one that is allowed.
func (s *stream) access() (int8, int) {
	switch s.below(24) {
	case 0:
		return s.register(), s.number()
	case 1:
		return api.R12, s.below(40)
	case 2, 3, 4, 5, 6, 7:
		return api.Rbx, s.below(14)
	case 8, 9, 10, 11:
		return api.Rbp, s.below(64) - 1
	}
	return api.Rsp, s.below(80) - 80
}

// item is an instruction; leads tells that its Imm will be such that it leads to another one.
type item struct {
	x     api.X
	leads bool
}

// computing tells a valid instruction that nothing happens besides.
func (s *stream) computing() api.X {
	w, dst, src := pick[int8](s, 32, 64), s.register(), s.register()
	switch s.below(8) {
	case 0, 1:
		return api.X{Op: pick(s, api.XMov, api.XAdd, api.XOr, api.XAnd, api.XSub, api.XXor, api.XCmp, api.XTest, api.XMul), W: w, Dst: dst, Src: src}
	case 2, 3:
		return api.X{Op: pick(s, api.XMovI, api.XAddI, api.XOrI, api.XAndI, api.XSubI, api.XXorI, api.XCmpI, api.XTestI), W: w, Dst: dst, Imm: s.number()}
	case 4:
		return api.X{Op: pick(s, api.XShl, api.XShr, api.XSar), W: w, Dst: dst, Imm: s.below(32)}
	case 5:
		return api.X{Op: pick(s, api.XShlC, api.XShrC, api.XSarC, api.XNeg, api.XNeg), W: w, Dst: dst}
	case 6:
		return api.X{Op: api.XCmov, W: w, Dst: dst, Src: src, Cc: s.condition()}
	}
	return cmp(dst, src)
}

func (s *stream) condition() int8 {
	return pick(s, api.CcB, api.CcAe, api.CcE, api.CcNe, api.CcBe, api.CcA, api.CcL, api.CcGe, api.CcLe, api.CcG)
}

// items tells an instruction or a few that belong together.
func (s *stream) items() []item {
	base, disp := s.access()
	w := pick[int8](s, 8, 16, 32, 64)
	switch s.below(24) {
	case 0, 1, 2:
		return []item{{x: load(w, s.register(), base, disp)}}
	case 3, 4, 5:
		return []item{{x: store(w, s.register(), base, disp)}}
	case 6, 7:
		return []item{{x: cmp(s.register(), s.register())}, {api.X{Op: api.XJcc, W: pick[int8](s, 8, 32), Cc: s.condition()}, true}}
	case 8:
		return []item{{api.X{Op: api.XJmp, W: pick[int8](s, 8, 32)}, true}}
	case 9: // a return to an instruction
		return []item{{movI(api.R9, 0), true}, {x: api.X{Op: api.XSubI, W: 64, Dst: api.Rsp, Imm: 8}}, {x: store(64, api.R9, api.Rsp, 0)}, {x: ret}}
	case 10, 11, 12:
		return []item{{x: movI(api.Rax, pick(s, s.below(16), s.below(16), s.number()))}, {x: host}}
	case 13: // a division that most often does not fault
		return []item{{x: movI(api.Rdx, s.below(10)/9)}, {x: api.X{Op: api.XDiv, W: pick[int8](s, 32, 64), Dst: s.register()}}}
	case 14:
		return []item{{x: pick(s, ret, host, jump(s.number()), api.X{Op: api.XJcc, W: 8, Cc: s.condition(), Imm: s.number() % 100})}}
	}
	return []item{{x: s.computing()}}
}

// code tells the bytes of a program, most often of valid instructions that lead to each other.
func (s *stream) code() []byte {
	l := []item{{x: movI(api.Rbx, 0x200000)}, {x: movI(api.Rbp, 0x300000)}, {x: movI(api.R12, 0x100000)}, {x: cmp(api.Rax, api.Rsp)}}
	for range s.below(6) {
		l = append(l, item{x: movI(s.register(), s.number())})
	}
	for range s.below(22) {
		l = append(l, s.items()...)
	}
	if s.below(8) > 0 {
		l = append(l, item{x: ret})
	}
	code := s.linked(l)
	if s.below(6) == 0 {
		code[s.below(len(code))] ^= byte(1 << s.below(8))
	}
	return code
}

// linked tells the bytes of instructions. Those that lead to others lead to any of them.
func (s *stream) linked(l []item) []byte {
	at := []int{0}
	for i, x := range l {
		at = append(at, at[i]+encode.Len(x.x))
	}
	var code []byte
	for i, x := range l {
		to := at[s.below(len(at))]
		switch {
		case x.leads && x.x.Op == api.XMovI:
			x.x.Imm = 0x100000 + to
		case x.leads && x.x.W == 8:
			x.x.Imm = int(int8(to - at[i+1]))
		case x.leads:
			x.x.Imm = to - at[i+1]
		}
		b, _ := encode.Bytes(x.x)
		code = append(code, b...)
	}
	return code
}

// any tells a run, most often of a program that goes some way.
func (s *stream) any() given {
	g := given{code: s.code(), fuel: pick(s, s.below(40), 80, 80, 300)}
	for i := range pick(s, 0, 1, 11, 20, 20, 256) {
		g.context = append(g.context, byte(i*37+200))
	}
	for range pick(s, 0, 1, 4, 40, 40) {
		g.answers = append(g.answers, uint64(s.number()))
	}
	return g
}

// runs tells many runs.
func runs(n int) []given {
	s := stream(1)
	var l []given
	for range n {
		l = append(l, s.any())
	}
	return l
}

// places tells all that Each yields.
func places(g given) []place {
	var l []place
	for at, m := range Each(g.code, g.context, g.answers, g.fuel) {
		l = append(l, place{at, m})
	}
	return l
}
