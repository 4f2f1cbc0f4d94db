package bounds

import (
	"math"
	"math/big"

	"lathe/api"
)

// plain is a range of unbounded numbers, whose bounds may also be none that a word can be: uMin, uMax, sMin, sMax.
type plain [4]*big.Int

const (
	uMin = iota
	uMax
	sMin
	sMax
)

// big64 tells a word as a number without a sign.
func big64(v uint64) *big.Int { return new(big.Int).SetUint64(v) }

// two tells 2^n.
func two(n uint) *big.Int { return new(big.Int).Lsh(big.NewInt(1), n) }

func plus(a, b *big.Int) *big.Int { return new(big.Int).Add(a, b) }

func minus(a, b *big.Int) *big.Int { return new(big.Int).Sub(a, b) }

func add(a *big.Int, n int64) *big.Int { return plus(a, big.NewInt(n)) }

func lesser(a, b *big.Int) *big.Int {
	if a.Cmp(b) < 0 {
		return a
	}
	return b
}

func greater(a, b *big.Int) *big.Int {
	if a.Cmp(b) > 0 {
		return a
	}
	return b
}

func plainOf(r api.Range) plain {
	return plain{big64(r.UMin), big64(r.UMax), big.NewInt(r.SMin), big.NewInt(r.SMax)}
}

func plainAll() plain {
	return plain{big.NewInt(0), add(two(64), -1), new(big.Int).Neg(two(63)), add(two(63), -1)}
}

// word tells what a plain range is as a range of words. It is asked of ranges that were narrowed, or came from words.
func (r plain) word() api.Range {
	for i, v := range r {
		if i < sMin && !v.IsUint64() || i >= sMin && !v.IsInt64() {
			panic("a bound is no word: " + v.String())
		}
	}
	return api.Range{UMin: r[uMin].Uint64(), UMax: r[uMax].Uint64(), SMin: r[sMin].Int64(), SMax: r[sMax].Int64()}
}

func (r plain) valid() bool {
	return r[uMin].Cmp(r[uMax]) <= 0 && r[sMin].Cmp(r[sMax]) <= 0
}

// asSigned tells what int64 makes of a number without a sign.
func asSigned(v *big.Int) *big.Int {
	if v.Cmp(two(63)) >= 0 {
		return minus(v, two(64))
	}
	return v
}

// asUnsigned tells what uint64 makes of a number with a sign.
func asUnsigned(v *big.Int) *big.Int {
	if v.Sign() < 0 {
		return plus(v, two(64))
	}
	return v
}

func (r plain) contains(v uint64) bool {
	n := big64(v)
	s := asSigned(n)
	return r.valid() && r[uMin].Cmp(n) <= 0 && n.Cmp(r[uMax]) <= 0 && r[sMin].Cmp(s) <= 0 && s.Cmp(r[sMax]) <= 0
}

// single tells the one number, or nil.
func (r plain) single() *big.Int {
	if r[uMin].Cmp(r[uMax]) != 0 || !r.contains(r[uMin].Uint64()) {
		return nil
	}
	return r[uMin]
}

// stepOne is steps 1 and 3 of narrowing.
func (r plain) stepOne() plain {
	if (r[uMin].Cmp(two(63)) < 0) == (r[uMax].Cmp(two(63)) < 0) {
		r[sMin] = greater(r[sMin], asSigned(r[uMin]))
		r[sMax] = lesser(r[sMax], asSigned(r[uMax]))
	}
	return r
}

func (r plain) stepTwo() plain {
	if (r[sMin].Sign() < 0) == (r[sMax].Sign() < 0) {
		r[uMin] = greater(r[uMin], asUnsigned(r[sMin]))
		r[uMax] = lesser(r[uMax], asUnsigned(r[sMax]))
	}
	return r
}

func (r plain) narrow() (plain, bool) {
	if !r.valid() {
		return plainAll(), false
	}
	for _, step := range []func(plain) plain{plain.stepOne, plain.stepTwo, plain.stepOne} {
		if r = step(r); !r.valid() {
			return plainAll(), false
		}
	}
	return r, true
}

func plainJoin(a, b plain) plain {
	if !a.valid() || !b.valid() {
		return plainAll()
	}
	return plain{lesser(a[0], b[0]), greater(a[1], b[1]), lesser(a[2], b[2]), greater(a[3], b[3])}
}

func plainMeet(a, b plain) (plain, bool) {
	if !a.valid() || !b.valid() {
		return plainAll(), false
	}
	return plain{greater(a[0], b[0]), lesser(a[1], b[1]), greater(a[2], b[2]), lesser(a[3], b[3])}.narrow()
}

func plainIn(a, b plain) bool {
	return a.valid() && b.valid() &&
		a[0].Cmp(b[0]) >= 0 && a[1].Cmp(b[1]) <= 0 && a[2].Cmp(b[2]) >= 0 && a[3].Cmp(b[3]) <= 0
}

func plainDo(op int8, a, b plain) plain {
	if !a.valid() || !b.valid() {
		return plainAll()
	}
	r := plainAll()
	unsigned := func(lo, hi *big.Int) { r[uMin], r[uMax] = lo, hi }
	nought := big.NewInt(0)
	switch op {
	case api.Mov:
		r = b
	case api.Add:
		if plus(a[uMax], b[uMax]).Cmp(two(64)) < 0 {
			unsigned(plus(a[uMin], b[uMin]), plus(a[uMax], b[uMax]))
		}
		if lo, hi := plus(a[sMin], b[sMin]), plus(a[sMax], b[sMax]); lo.IsInt64() && hi.IsInt64() {
			r[sMin], r[sMax] = lo, hi
		}
	case api.Sub:
		if a[uMin].Cmp(b[uMax]) >= 0 {
			unsigned(minus(a[uMin], b[uMax]), minus(a[uMax], b[uMin]))
		}
		if lo, hi := minus(a[sMin], b[sMax]), minus(a[sMax], b[sMin]); lo.IsInt64() && hi.IsInt64() {
			r[sMin], r[sMax] = lo, hi
		}
	case api.And:
		unsigned(nought, lesser(a[uMax], b[uMax]))
	case api.Or:
		unsigned(greater(a[uMin], b[uMin]), plainOnes(a, b))
	case api.Xor:
		unsigned(nought, plainOnes(a, b))
	case api.Div:
		unsigned(nought, a[uMax])
		if b[uMin].Sign() > 0 {
			unsigned(new(big.Int).Quo(a[uMin], b[uMax]), new(big.Int).Quo(a[uMax], b[uMin]))
		}
	case api.Mod:
		unsigned(nought, a[uMax])
		if b[uMin].Sign() > 0 {
			unsigned(nought, lesser(a[uMax], add(b[uMax], -1)))
		}
	case api.Rsh, api.Lsh:
		if b.single() != nil {
			if lo, hi := plainShift(op, a, b); hi.Cmp(two(64)) < 0 {
				unsigned(lo, hi)
			}
		}
	}
	r, _ = r.narrow()
	return r
}

func plainShift(op int8, a, b plain) (lo, hi *big.Int) {
	n := uint(b.single().Uint64() % 64)
	if op == api.Rsh {
		return new(big.Int).Rsh(a[uMin], n), new(big.Int).Rsh(a[uMax], n)
	}
	return new(big.Int).Lsh(a[uMin], n), new(big.Int).Lsh(a[uMax], n)
}

// plainOnes tries one k after another.
func plainOnes(a, b plain) *big.Int {
	for k := uint(0); ; k++ {
		if n := add(two(k), -1); n.Cmp(a[uMax]) >= 0 && n.Cmp(b[uMax]) >= 0 {
			return n
		}
	}
}

func plainLow(r plain) plain {
	if r.valid() && r[uMax].Cmp(two(32)) < 0 {
		return r
	}
	return plain{big.NewInt(0), add(two(32), -1), big.NewInt(0), add(two(32), -1)}
}

func plainGiven(cc int8, a, b plain) (plain, bool) {
	if !a.valid() || !b.valid() || cc < 0 || cc > 10 {
		return plainAll(), false
	}
	r := a
	switch cc {
	case api.Eq:
		return plainMeet(a, b)
	case api.Ne:
		if v := b.single(); v != nil && (!r.leave(uMin, v) || !r.leave(sMin, asSigned(v))) {
			return plainAll(), false
		}
	case api.Gt:
		r[uMin] = greater(a[uMin], add(b[uMin], 1))
	case api.Ge:
		r[uMin] = greater(a[uMin], b[uMin])
	case api.Lt:
		r[uMax] = lesser(a[uMax], add(b[uMax], -1))
	case api.Le:
		r[uMax] = lesser(a[uMax], b[uMax])
	case api.Sgt:
		r[sMin] = greater(a[sMin], add(b[sMin], 1))
	case api.Sge:
		r[sMin] = greater(a[sMin], b[sMin])
	case api.Slt:
		r[sMax] = lesser(a[sMax], add(b[sMax], -1))
	case api.Sle:
		r[sMax] = lesser(a[sMax], b[sMax])
	}
	return r.narrow()
}

// leave leaves v out of the bounds from the one at i on, and tells whether anything else is between them.
func (r *plain) leave(i int, v *big.Int) bool {
	lo, hi := r[i].Cmp(v) == 0, r[i+1].Cmp(v) == 0
	if lo && hi {
		return false
	}
	if lo {
		r[i] = add(v, 1)
	} else if hi {
		r[i+1] = add(v, -1)
	}
	return true
}

// stream is a row of numbers that is the same each time.
type stream uint64

func (s *stream) next() uint64 {
	*s = *s*6364136223846793005 + 1442695040888963407
	v := uint64(*s)
	return (v ^ v>>29) * 0xBF58476D1CE4E5B9 >> 7 * 0x9E3779B97F4A7C15
}

func (s *stream) below(n int) int { return int(s.next() >> 33 % uint64(n)) }

// edges are the words at which signs, halves and carries turn.
var edges = []uint64{
	0, 1, 2, 3, 4, 5, 7, 8, 9, 15, 16, 31, 32, 63, 64, 65, 67, 100, 1000,
	1<<31 - 1, 1 << 31, 1<<32 - 2, 1<<32 - 1, 1 << 32, 1<<32 + 1, 1 << 40, 1<<62 - 1, 1 << 62, 1<<62 + 1,
	1<<63 - 2, 1<<63 - 1, 1 << 63, 1<<63 + 1, 1<<63 + 9, 3 << 62, 1<<64 - 1<<32, 1<<64 - 65,
	math.MaxUint64 - 9, math.MaxUint64 - 2, math.MaxUint64 - 1, math.MaxUint64,
}

// word tells a word at an edge, near one, or anywhere.
func (s *stream) word() uint64 {
	switch v := edges[s.below(len(edges))]; s.below(8) {
	case 0:
		return s.next()
	case 1:
		return s.next() >> s.below(64)
	case 2:
		return v + uint64(s.below(20)) - 10
	default:
		return v
	}
}

// rangeAround tells a range of one of several forms; a few are not valid, and some contain nothing.
func (s *stream) rangeAround() api.Range {
	a, b := s.word(), s.word()
	if s.below(4) == 0 {
		b = a + uint64(s.below(5))
	}
	c, d := int64(s.word()), int64(s.word())
	switch s.below(8) {
	case 0: // as it comes
		return api.Range{UMin: a, UMax: b, SMin: c, SMax: d}
	case 1:
		return One(a)
	case 2: // the signed bounds say nothing
		return api.Range{UMin: min(a, b), UMax: max(a, b), SMin: math.MinInt64, SMax: math.MaxInt64}
	case 3: // the unsigned bounds say nothing
		return api.Range{UMax: math.MaxUint64, SMin: min(c, d), SMax: max(c, d)}
	case 4: // single, though the signed bounds are not
		return api.Range{UMin: a, UMax: a, SMin: min(int64(a), c), SMax: max(int64(a), d)}
	case 5: // both say the same
		return api.Range{UMin: min(a, b), UMax: max(a, b), SMin: min(int64(a), int64(b)), SMax: max(int64(a), int64(b))}
	}
	return api.Range{UMin: min(a, b), UMax: max(a, b), SMin: min(c, d), SMax: max(c, d)}
}

// pairs tells many pairs of ranges, the second one sometimes close to the first one.
func pairs(n int) [][2]api.Range {
	s := stream(7)
	l := make([][2]api.Range, n)
	for i := range l {
		a, b := s.rangeAround(), s.rangeAround()
		switch s.below(6) {
		case 0:
			b = One(a.UMin)
		case 1:
			b = One(uint64(a.SMax))
		case 2:
			b.UMin, b.SMax = a.UMin, a.SMax
		}
		l[i] = [2]api.Range{a, b}
	}
	return l
}

// samples tells some of the numbers that a range contains.
func samples(r api.Range) []uint64 {
	s := stream(r.UMin + r.UMax + uint64(r.SMin) + uint64(r.SMax))
	l := []uint64{r.UMin, r.UMin + 1, r.UMax - 1, r.UMax, uint64(r.SMin), uint64(r.SMin) + 1, uint64(r.SMax) - 1, uint64(r.SMax)}
	l = append(l, edges...)
	for range 4 {
		l = append(l, r.UMin+s.next()>>s.below(64), r.UMax-s.next()>>s.below(64), uint64(r.SMin)+s.next()>>s.below(64))
	}
	within := l[:0]
	for _, v := range l {
		if plainOf(r).contains(v) {
			within = append(within, v)
		}
	}
	return within
}
