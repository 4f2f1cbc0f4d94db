package verify

import (
	"math"

	"lathe/api"
	"lathe/bits"
	"lathe/instr"
	"lathe/sample"
	"lathe/state"
	"lathe/value"
)

// The instructions, written short.
var (
	imm, reg, movi, mov          = sample.Imm, sample.Reg, sample.Movi, sample.Mov
	load, store                  = sample.Load, sample.Store
	jumpImm, jumpReg, goTo, call = sample.JumpImm, sample.JumpReg, sample.Goto, sample.Call
	exit                         = sample.Exit
	needs                        = sample.Needs
)

func prog(context int, l ...api.Instr) api.Prog { return api.Prog{Context: context, L: l} }

// The types, written short.

const far = 1 << 20

var (
	full    = api.Scalar{R: api.Range{UMax: math.MaxUint64, SMin: math.MinInt64, SMax: math.MaxInt64}, K: api.Known{Mask: math.MaxUint64}}
	unknown = scalarOf(full)
)

func context(lo, hi int) api.Type { return api.Type{Kind: api.TyContext, Lo: lo, Hi: hi} }
func frame(lo, hi int) api.Type   { return api.Type{Kind: api.TyFrame, Lo: lo, Hi: hi} }
func one(v int) api.Type          { return scalarOf(value.One(uint64(v))) }

func scalarOf(s api.Scalar) api.Type { return api.Type{Kind: api.TyScalar, S: s} }

// upTo tells the scalar whose two kinds of bounds say the same if they can, and whose bits say nothing.
func upTo(lo, hi int) api.Type {
	r := api.Range{UMin: uint64(lo), UMax: uint64(hi), SMin: int64(lo), SMax: int64(hi)}
	if lo < 0 && hi >= 0 {
		r.UMin, r.UMax = 0, math.MaxUint64
	}
	return scalarOf(api.Scalar{R: r, K: full.K})
}

// valid are types of all kinds that are set.
var valid = []api.Type{
	unknown, one(0), one(1), one(5), one(-1), one(-8), one(math.MinInt64), one(math.MaxInt64), one(api.ContextAt), one(far), one(far + 1), one(-far), one(-far - 1),
	upTo(0, 8), upTo(3, 9), upTo(-8, -1), upTo(-4, 4), upTo(-far, far), upTo(-far, far+1), upTo(-far-1, far), upTo(-far-1, 0), upTo(0, far+1), upTo(0, math.MaxInt64), upTo(math.MinInt64, 0), upTo(math.MinInt64, -far),
	scalarOf(value.Bytes(1)), scalarOf(value.Bytes(4)),
	scalarOf(api.Scalar{R: full.R, K: api.Known{Val: 1, Mask: 6}}),         // 1, 3, 5 or 7
	scalarOf(api.Scalar{R: api.Range{UMin: 5, UMax: 5, SMin: 6, SMax: 6}}), // valid, though it contains nothing
	context(0, 0), context(0, 4), context(2, 8), context(-2, 3), context(256, 256), context(-far, far), context(-far, -far), context(far, far), context(-far, 0), context(0, far),
	frame(0, 0), frame(0, 4), frame(8, 8), frame(8, 16), frame(-2, 3), frame(64, 64), frame(-far, far), frame(far, far), frame(-far, -far), frame(1-far, far-1),
}

// invalid are types that no valid state has.
var invalid = []api.Type{
	{Kind: 4}, {Kind: -1}, {Lo: 1}, {S: full}, {Kind: api.TyScalar, S: full, Hi: 1}, {Kind: api.TyScalar, S: api.Scalar{R: full.R, K: api.Known{Val: 1, Mask: 1}}},
	context(1, 0), context(-far-1, 0), frame(0, far+1), frame(math.MinInt, math.MaxInt), {Kind: api.TyFrame, S: full}, {Kind: api.TyContext, S: value.One(1), Hi: 2},
}

// stateOf tells the first state with some registers' types changed.
func stateOf(regs map[int8]api.Type) api.State {
	s := state.First()
	for r, t := range regs {
		s.Regs[r] = t
	}
	return s
}

// mixed tells a state all of whose types are set, another one for each n.
func mixed(n int) (s api.State) {
	for i := range s.Regs {
		s.Regs[i] = valid[(7*i+n)%len(valid)]
	}
	for i := range s.Slots {
		s.Slots[i] = valid[(11*i+3*n+5)%len(valid)]
	}
	return s
}

// The document's words one after the other; what they take from layers 1, 3, 9 and 10 by name is called there.

// makes tells the registers that a valid instruction writes.
func makes(x api.Instr) []int8 {
	switch x.Kind {
	case api.InAlu, api.InLoad:
		return []int8{x.Dst}
	case api.InCall:
		return []int8{0, 1, 2, 3, 4, 5}
	}
	return nil
}

func set(l []int8) (mask int) {
	for _, r := range l {
		mask |= []int{1, 2, 4, 8, 16, 32, 64, 128, 256, 512, 1024}[r]
	}
	return mask
}

func plainWithin(p api.Prog, t api.Type, off, size int) bool {
	if t.Kind != api.TyContext && t.Kind != api.TyFrame || size != 1 && size != 2 && size != 4 && size != 8 || t.Lo > t.Hi {
		return false
	}
	for _, n := range []int{off, t.Lo, t.Hi} {
		if n < -1048576 || n > 1048576 {
			return false
		}
	}
	room := 64
	if t.Kind == api.TyContext {
		room = p.Context
	}
	return !(t.Lo+off < 0) && !(t.Hi+off+size > room)
}

// plainStep tells the sides of an instruction of a valid program from a valid state.
func plainStep(p api.Prog, i int, s api.State) ([]api.Side, api.Errno) {
	x := p.L[i]
	for _, r := range needs(x) {
		if s.Regs[r].Kind == api.TyUnset {
			return nil, api.ErrUnset
		}
	}
	b := one(x.Imm)
	if x.ByReg {
		b = s.Regs[x.Src]
	}
	switch x.Kind {
	case api.InAlu:
		s.Regs[x.Dst] = plainAlu(x, s.Regs[x.Dst], b)
	case api.InLoad:
		t := s.Regs[x.Src]
		if !plainWithin(p, t, x.Off, int(x.Size)) {
			return nil, api.ErrMem
		}
		s.Regs[x.Dst] = scalarOf(value.Bytes(int(x.Size)))
		if t.Kind == api.TyFrame {
			s.Regs[x.Dst], _ = state.Load(s, t.Lo+x.Off, t.Hi+x.Off, int(x.Size))
		}
	case api.InStore:
		t := s.Regs[x.Dst]
		if !plainWithin(p, t, x.Off, int(x.Size)) {
			return nil, api.ErrMem
		}
		if t.Kind == api.TyFrame {
			s, _ = state.Store(s, t.Lo+x.Off, t.Hi+x.Off, int(x.Size), s.Regs[x.Src])
		}
	case api.InJump:
		return plainJump(i, x, s, b), api.OK
	case api.InGoto:
		return []api.Side{{To: i + 1 + x.Off, S: s}}, api.OK
	case api.InCall:
		s.Regs[0] = unknown
		for _, r := range []int8{1, 2, 3, 4, 5} {
			s.Regs[r] = api.Type{}
		}
	case api.InExit:
		return nil, api.OK
	}
	return []api.Side{{To: i + 1, S: s}}, api.OK
}

func plainAlu(x api.Instr, dst, b api.Type) api.Type {
	a := dst
	if x.Op == api.Mov {
		a = b
	}
	pointerA, pointerB := a.Kind != api.TyScalar, b.Kind != api.TyScalar
	if x.Op == api.Mov && x.Width == 64 {
		return b
	}
	if !pointerA && !pointerB {
		return scalarOf(value.Do(x.Op, x.Width, a.S, b.S))
	}
	if x.Width == 64 && pointerA != pointerB {
		if x.Op == api.Add && pointerA {
			return plainMoved(a, b, b.S.R.SMin, b.S.R.SMax, 1)
		}
		if x.Op == api.Add {
			return plainMoved(b, a, a.S.R.SMin, a.S.R.SMax, 1)
		}
		if x.Op == api.Sub && pointerA {
			return plainMoved(a, b, b.S.R.SMax, b.S.R.SMin, -1)
		}
	}
	if x.Width == 32 {
		return scalarOf(value.Bytes(4))
	}
	return unknown
}

// plainMoved adds sign times first to Lo, and sign times second to Hi, in numbers that don't wrap round: they are small when they count.
func plainMoved(t, by api.Type, first, second int64, sign int) api.Type {
	if by.S.R.SMin < -1048576 || by.S.R.SMax > 1048576 || by.S.R.SMin > 1048576 || by.S.R.SMax < -1048576 {
		return unknown
	}
	t.Lo += sign * int(first)
	t.Hi += sign * int(second)
	if t.Lo < -1048576 || t.Lo > 1048576 || t.Hi < -1048576 || t.Hi > 1048576 {
		return unknown
	}
	return t
}

func plainJump(i int, x api.Instr, s api.State, b api.Type) (l []api.Side) {
	a := s.Regs[x.Dst]
	next, target := api.Side{To: i + 1, S: s}, api.Side{To: i + 1 + x.Off, S: s}
	if a.Kind != api.TyScalar || b.Kind != api.TyScalar {
		return []api.Side{next, target}
	}
	opposite := map[int8]int8{api.Eq: api.Ne, api.Ne: api.Eq, api.Gt: api.Le, api.Le: api.Gt, api.Ge: api.Lt, api.Lt: api.Ge, api.Sgt: api.Sle, api.Sle: api.Sgt, api.Sge: api.Slt, api.Slt: api.Sge}
	if not, ok := opposite[x.Op]; ok {
		left, some := value.Given(not, a.S, b.S)
		next.S.Regs[x.Dst] = scalarOf(left)
		if some {
			l = append(l, next)
		}
	} else {
		l = append(l, next)
	}
	left, some := value.Given(x.Op, a.S, b.S)
	target.S.Regs[x.Dst] = scalarOf(left)
	if some {
		l = append(l, target)
	}
	return l
}

// verified is what verifying a program comes to, with what Run does not tell.
type verified struct {
	states map[int]api.State
	at     int
	e      api.Errno
	visits int
	grown  map[int]int
}

// plainRun verifies a valid program.
func plainRun(p api.Prog) verified {
	v := verified{states: map[int]api.State{0: state.First()}, grown: map[int]int{}}
	pending := map[int]bool{0: true}
	for len(pending) > 0 {
		if v.visits == 2000 {
			v.e = api.ErrSpend // at is still the last one's
			return v
		}
		v.visits++
		i := 0
		for !pending[i] {
			i++
		}
		delete(pending, i)
		v.at = i
		l, e := plainStep(p, i, v.states[i])
		if e != api.OK {
			v.e = e
			return v
		}
		for _, side := range l {
			had, ok := v.states[side.To]
			if !ok {
				v.states[side.To] = side.S
				pending[side.To] = true
				continue
			}
			s, _ := state.Join(had, side.S)
			if v.grown[side.To] > 8 {
				s, _ = state.Widen(had, side.S)
			}
			if s != had {
				v.states[side.To] = s
				pending[side.To] = true
				v.grown[side.To]++
			}
		}
	}
	v.at = 0
	return v
}

// stream tells numbers, the same ones each time.
type stream uint64

func (s *stream) below(n int) int {
	*s = *s*6364136223846793005 + 1442695040888963407
	return int(uint64(*s) >> 33 % uint64(n))
}

func pick[T any](s *stream, l ...T) T { return l[s.below(len(l))] }

// number tells a number for Imm, most often a small one.
func (s *stream) number() int {
	return pick(s, s.below(8), s.below(8), s.below(40), -s.below(12), -s.below(70), 31, 63, 64, -1, 1<<31-1, -1<<31, int(int32(s.below(1<<31)*2+1)))
}

func (s *stream) size() int8 { return pick[int8](s, 1, 2, 4, 8) }

func (s *stream) op() int8 {
	return pick(s, api.Add, api.Add, api.Sub, api.Sub, api.Mul, api.Div, api.Or, api.And, api.And, api.Lsh, api.Rsh, api.Mod, api.Xor, api.Mov, api.Arsh)
}

// instruction tells a valid one for the place i of n.
func (s *stream) instruction(i, n int) api.Instr {
	dst, src := int8(s.below(10)), int8(s.below(11))
	target := s.below(n) - i - 1
	switch s.below(20) {
	case 0, 1, 2:
		return imm(s.op(), pick[int8](s, 32, 64, 64), dst, s.number())
	case 3, 4, 5:
		return reg(s.op(), pick[int8](s, 32, 64, 64), dst, src)
	case 6:
		return pick(s, imm(api.Neg, pick[int8](s, 32, 64), dst, 0), imm(api.And, 64, dst, 7))
	case 7, 8:
		return load(s.size(), dst, src, s.number()%70)
	case 9, 10:
		return store(s.size(), src, dst, s.number()%70)
	case 11:
		return pick(s, store(8, 10, dst, -8-8*s.below(8)), load(8, dst, 10, -8-8*s.below(8)))
	case 12, 13:
		return jumpImm(int8(s.below(11)), dst, s.number(), target)
	case 14, 15:
		return jumpReg(int8(s.below(11)), dst, src, target)
	case 16:
		return call(pick(s, 0, 0, 6, 1, 2, s.below(16)))
	}
	return pick(s, exit, goTo(target), movi(dst, s.number()), mov(dst, pick[int8](s, 1, 10, 10)), imm(api.Add, 64, dst, s.number()))
}

// setting tells instructions that set some registers: to numbers, to what is in the context, to pointers, and most often not where it need not be.
func (s *stream) setting(context int) (l []api.Instr) {
	for r := range int8(10) {
		switch s.below(8) {
		case 0:
			l = append(l, mov(r, pick[int8](s, 1, 10)))
			if r == 1 {
				continue
			}
			l[len(l)-1].Src = 10
			l = append(l, imm(api.Add, 64, r, -s.below(64)))
		case 1, 2:
			if size := s.size(); r != 1 && int(size) <= context {
				l = append(l, load(size, r, 1, s.below(context-int(size)+1)))
			}
		case 3:
			if r > 5 {
				l = append(l, mov(r, 1))
			}
		case 4, 5, 6:
			if r != 1 {
				l = append(l, movi(r, s.number()))
			}
		}
	}
	return l
}

// any tells a valid program. Most of its instructions are not rejected with the state in which they would follow the one before.
func (s *stream) any() api.Prog {
	p := prog(pick(s, 0, 1, 8, 20, 256))
	p.L = s.setting(p.Context)
	at := state.First()
	n := len(p.L) + 2 + s.below(16)
	for i := range n - 1 {
		var next []api.Side
		for range 12 {
			if i >= len(p.L) {
				p.L = append(p.L, s.instruction(i, n))
			}
			l, e := plainStep(p, i, at)
			if next = l; e == api.OK {
				break
			}
			p.L = p.L[:i]
		}
		if i >= len(p.L) {
			p.L = append(p.L, goTo(0))
		}
		if len(next) > 0 {
			at = next[0].S
		}
	}
	p.L = append(p.L, pick(s, exit, exit, goTo(s.below(n)-n)))
	return p
}

// programs tells many valid programs.
func programs(n int) (l []api.Prog) {
	s := stream(1)
	for len(l) < n {
		p := s.any()
		if _, e := instr.Check(p); e == api.OK {
			l = append(l, p)
		}
	}
	return l
}

// word tells any number, often one at which something turns.
func (s *stream) word() uint64 {
	return pick(s, uint64(s.number()), uint64(s.below(1<<31))<<33|uint64(s.below(1<<31)), bits.Get([]byte{byte(s.below(256)), byte(s.below(256))}), 1<<63, math.MaxUint64, api.ContextAt, api.FrameEnd)
}
