package state

import (
	"math"

	"lathe/api"
	"lathe/value"
)

// The document's words one after the other; what they take from layer 9 by name is called there.

func plainType(t api.Type) bool {
	noS, noOffsets := t.S == api.Scalar{}, t.Lo == 0 && t.Hi == 0
	switch t.Kind {
	case api.TyUnset:
		return noS && noOffsets
	case api.TyScalar:
		return value.May(t.S) && noOffsets
	case api.TyContext, api.TyFrame:
		near := min(t.Lo, t.Hi) >= -1048576 && max(t.Lo, t.Hi) <= 1048576
		return t.Lo <= t.Hi && near && noS
	}
	return false
}

// types tells all types of a state: first the registers', then the slots'.
func types(s api.State) []api.Type {
	return append(append([]api.Type{}, s.Regs[:]...), s.Slots[:]...)
}

// places is how many types a state has.
const places = api.Regs + api.Slots

// stateOf makes a state of its types, told in the order of types.
func stateOf(l []api.Type) (s api.State) {
	copy(s.Regs[:], l)
	copy(s.Slots[:], l[api.Regs:])
	return s
}

// put tells s with the type t at one of its places.
func put(s api.State, place int, t api.Type) api.State {
	l := types(s)
	l[place] = t
	return stateOf(l)
}

func plainMay(s api.State) bool {
	for i, t := range types(s) {
		if !plainType(t) || i >= api.Regs && t.Kind == api.TyUnset {
			return false
		}
	}
	return true
}

func plainHolds(t api.Type, v uint64) bool {
	if !plainType(t) {
		return false
	}
	region := uint64(api.FrameAt)
	switch t.Kind {
	case api.TyUnset:
		return true
	case api.TyScalar:
		return value.Has(t.S, v)
	case api.TyContext:
		region = api.ContextAt
	}
	// Counted up from the least address, so that nothing is asked of signs.
	least := region + uint64(t.Lo)
	return v-least <= uint64(t.Hi-t.Lo)
}

func plainHas(s api.State, x api.Snap) bool {
	if !plainMay(s) {
		return false
	}
	for i, t := range s.Regs {
		if !plainHolds(t, x.Regs[i]) || t.Kind != api.TyUnset && x.Set&(1<<i) == 0 {
			return false
		}
	}
	for i, t := range s.Slots {
		v := uint64(0)
		for k := 7; k >= 0; k-- {
			v = v*256 + uint64(x.Frame[8*i+k])
		}
		if !plainHolds(t, v) {
			return false
		}
	}
	return true
}

func plainJoin(a, b api.Type) api.Type {
	if a.Kind == api.TyUnset || b.Kind == api.TyUnset {
		return api.Type{}
	}
	if a.Kind == api.TyScalar && b.Kind == api.TyScalar {
		return api.Type{Kind: api.TyScalar, S: value.Join(a.S, b.S)}
	}
	if a.Kind != b.Kind {
		return unknown
	}
	if b.Lo < a.Lo {
		a.Lo = b.Lo
	}
	if b.Hi > a.Hi {
		a.Hi = b.Hi
	}
	return a
}

func plainWiden(a, b api.Type) api.Type {
	if a.Kind == api.TyUnset || b.Kind == api.TyUnset {
		return api.Type{}
	}
	if a.Kind == api.TyScalar && b.Kind == api.TyScalar {
		return api.Type{Kind: api.TyScalar, S: value.Widen(a.S, b.S)}
	}
	if a.Kind != b.Kind {
		return unknown
	}
	if !(b.Lo >= a.Lo) {
		a.Lo = -1048576
	}
	if !(b.Hi <= a.Hi) {
		a.Hi = 1048576
	}
	return a
}

func plainIn(a, b api.Type) bool {
	pointers := a.Kind == api.TyContext || a.Kind == api.TyFrame
	return b.Kind == api.TyUnset ||
		a.Kind == api.TyScalar && b.Kind == api.TyScalar && value.In(a.S, b.S) ||
		pointers && a.Kind == b.Kind && a.Lo >= b.Lo && a.Hi <= b.Hi ||
		a.Kind != api.TyUnset && b == unknown
}

func plainAccess(lo, hi, size int) bool {
	return (size == 1 || size == 2 || size == 4 || size == 8) && 0 <= lo && lo <= hi && hi <= 64-size
}

func plainWhole(lo, hi, size int) bool {
	return size == 8 && lo == hi && lo%8 == 0
}

func plainLoad(s api.State, lo, hi, size int) api.Type {
	if plainWhole(lo, hi, size) {
		return s.Slots[lo/8]
	}
	return api.Type{Kind: api.TyScalar, S: value.Bytes(size)}
}

// plainStore goes over the bytes one by one: each one takes the type away from the slot that it is in.
func plainStore(s api.State, lo, hi, size int, t api.Type) api.State {
	if plainWhole(lo, hi, size) {
		s.Slots[lo/8] = t
		return s
	}
	for at := lo; at <= hi+size-1; at++ {
		s.Slots[at/8] = unknown
	}
	return s
}

var (
	full    = api.Scalar{R: api.Range{UMax: math.MaxUint64, SMin: math.MinInt64, SMax: math.MaxInt64}, K: api.Known{Mask: math.MaxUint64}}
	unknown = api.Type{Kind: api.TyScalar, S: full}
)

func context(lo, hi int) api.Type { return api.Type{Kind: api.TyContext, Lo: lo, Hi: hi} }
func frame(lo, hi int) api.Type   { return api.Type{Kind: api.TyFrame, Lo: lo, Hi: hi} }
func one(v uint64) api.Type       { return scalarOf(value.One(v)) }

func scalarOf(s api.Scalar) api.Type { return api.Type{Kind: api.TyScalar, S: s} }

// upTo tells the scalar whose two kinds of bounds say the same, and whose bits say nothing.
func upTo(lo, hi int64) api.Type {
	return scalarOf(api.Scalar{R: api.Range{UMin: uint64(lo), UMax: uint64(hi), SMin: lo, SMax: hi}, K: full.K})
}

const far = api.Far

// valid are types of all kinds; no two are equal.
var valid = []api.Type{
	{}, unknown,
	one(0), one(1), one(5), one(1 << 63), one(math.MaxUint64), one(api.ContextAt), one(api.FrameEnd),
	upTo(0, 8), upTo(3, 9), upTo(5, 5), upTo(-8, -1), scalarOf(value.Bytes(1)), scalarOf(value.Bytes(4)),
	scalarOf(api.Scalar{R: full.R, K: api.Known{Val: 1, Mask: 6}}),            // 1, 3, 5 or 7
	scalarOf(api.Scalar{R: api.Range{UMin: 5, UMax: 5, SMin: 6, SMax: 6}}),    // valid, though it contains nothing
	scalarOf(api.Scalar{R: full.R, K: api.Known{Mask: math.MaxUint64 - 255}}), // its low byte is 0
	context(0, 0), context(0, 4), context(2, 8), context(-2, 3), context(256, 256), context(-far, far), context(-far, -far), context(far, far),
	frame(0, 0), frame(0, 4), frame(2, 8), frame(1, 3), frame(-2, 3), frame(64, 64), frame(-far, far), frame(-far, -far), frame(far, far), frame(-far, 0), frame(0, far),
}

// invalid are types that differ from valid ones in one thing each.
var invalid = []api.Type{
	{Lo: 1, Hi: 1}, {Lo: 1}, {Hi: 1}, {Lo: -1}, {S: full}, {S: value.One(1)}, {S: api.Scalar{K: api.Known{Mask: 1}}},
	{Kind: api.TyScalar, S: full, Lo: 1}, {Kind: api.TyScalar, S: full, Hi: 1}, {Kind: api.TyScalar, S: value.One(5), Lo: -1, Hi: 1}, {Kind: api.TyScalar, Lo: 4, Hi: 4},
	{Kind: api.TyScalar, S: api.Scalar{R: full.R, K: api.Known{Val: 1, Mask: 1}}}, {Kind: api.TyScalar, S: api.Scalar{R: api.Range{UMin: 1}, K: full.K}}, {Kind: api.TyScalar, S: api.Scalar{R: api.Range{SMin: 1}, K: full.K}},
	context(1, 0), context(-far-1, 0), context(0, far+1), context(far+1, far+1), context(-far-1, -far-1), context(math.MinInt, math.MaxInt), context(math.MaxInt, math.MinInt), context(math.MinInt, 0), context(0, math.MaxInt), context(far, -far),
	frame(4, 2), frame(-far-1, 0), frame(0, far+1), frame(far+1, far+1), frame(-far-1, -far-1), frame(math.MinInt, math.MinInt), frame(math.MaxInt, math.MaxInt), frame(0, 1<<32), frame(-1<<32, 0),
	{Kind: api.TyContext, S: full}, {Kind: api.TyContext, S: value.One(1), Lo: 1, Hi: 2}, {Kind: api.TyFrame, S: api.Scalar{R: api.Range{SMax: 1}}}, {Kind: api.TyFrame, S: api.Scalar{R: api.Range{UMax: 1}}}, {Kind: api.TyFrame, S: api.Scalar{K: api.Known{Val: 1}}},
	{Kind: 4}, {Kind: -1}, {Kind: 127}, {Kind: -128}, {Kind: 4, S: full}, {Kind: -1, Lo: 0, Hi: 8}, {Kind: 5, Lo: 1, Hi: 1},
}

// words are numbers at which types of the list above turn, and some that hardly any of them contains.
func words() []uint64 {
	l := []uint64{0, 1, 2, 3, 5, 7, 8, 9, 255, 256, 1<<32 - 1, 1 << 32, 1<<63 - 1, 1 << 63, 1<<63 + api.FrameAt, 1<<63 + api.ContextAt, 1<<32 + api.FrameAt, math.MaxUint64 - 7, math.MaxUint64}
	for _, region := range []uint64{api.ContextAt, api.FrameAt} {
		for _, t := range valid {
			for _, offset := range []int{t.Lo - 1, t.Lo, t.Lo + 1, t.Hi - 1, t.Hi, t.Hi + 1} {
				l = append(l, region+uint64(offset))
			}
		}
	}
	return l
}

// mixed tells a valid state of types from all over the list, another one for each n.
func mixed(n int) api.State {
	l := make([]api.Type, places)
	for i := range l {
		l[i] = valid[(5*i+n)%len(valid)]
		if i >= api.Regs && l[i].Kind == api.TyUnset {
			l[i] = unknown
		}
	}
	return stateOf(l)
}
