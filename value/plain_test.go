package value

import (
	"math"

	"lathe/api"
	"lathe/bounds"
	"lathe/known"
)

// The document's words one after the other; what they take from layers 7 and 8 by name is called there, but narrowing is done here, bit by bit.

func plainMay(s api.Scalar) bool {
	for i := range 64 {
		if s.K.Val>>i&1 == 1 && s.K.Mask>>i&1 == 1 {
			return false
		}
	}
	return s.R.UMin <= s.R.UMax && s.R.SMin <= s.R.SMax
}

func plainHas(s api.Scalar, v uint64) bool {
	for i := range 64 {
		if s.K.Mask>>i&1 == 0 && s.K.Val>>i&1 != v>>i&1 {
			return false
		}
	}
	return plainMay(s) && s.R.UMin <= v && v <= s.R.UMax && s.R.SMin <= int64(v) && int64(v) <= s.R.SMax
}

func plainNarrow(s api.Scalar) (api.Scalar, bool) {
	may := plainMay(s)
	for range 2 {
		may = may && plainNarrowRange(&s.R, s.K) && plainNarrowBits(&s.K, s.R)
	}
	if !may {
		return full, false
	}
	return s, true
}

// plainNarrowRange meets a range with the numbers from the one with no bit of the mask to the one with all of them.
func plainNarrowRange(r *api.Range, k api.Known) bool {
	var least, greatest uint64
	for i := range 64 {
		least += k.Val >> i & 1 << i
		greatest += (k.Val>>i&1 + k.Mask>>i&1) << i
	}
	r.UMin, r.UMax = max(r.UMin, least), min(r.UMax, greatest)
	for _, step := range []func(*api.Range){signedByUnsigned, unsignedBySigned, signedByUnsigned} {
		if step(r); r.UMin > r.UMax || r.SMin > r.SMax {
			return false
		}
	}
	return true
}

func signedByUnsigned(r *api.Range) {
	if r.UMin > r.UMax || r.UMin < half && r.UMax >= half {
		return
	}
	r.SMin, r.SMax = max(r.SMin, int64(r.UMin)), min(r.SMax, int64(r.UMax))
}

func unsignedBySigned(r *api.Range) {
	if r.SMin < 0 && r.SMax >= 0 {
		return
	}
	r.UMin, r.UMax = max(r.UMin, uint64(r.SMin)), min(r.UMax, uint64(r.SMax))
}

// plainNarrowBits takes over the bits ahead of the first one in which both bounds differ.
func plainNarrowBits(k *api.Known, r api.Range) bool {
	for i := 63; i >= 0 && r.UMin>>i&1 == r.UMax>>i&1; i-- {
		bit := r.UMin >> i & 1
		if k.Mask>>i&1 == 0 && k.Val>>i&1 != bit {
			return false
		}
		k.Mask &^= 1 << i
		k.Val |= bit << i
	}
	return true
}

func plainBytes(n int) api.Scalar {
	s := full
	for i := 8 * min(max(n, 1), 8); i < 64; i++ {
		s.R.UMax -= 1 << i
		s.K.Mask -= 1 << i
	}
	s, _ = plainNarrow(s)
	return s
}

func plainSingle(s api.Scalar) (uint64, bool) {
	if !plainMay(s) {
		return 0, false
	}
	return bounds.Single(s.R)
}

func plainJoin(a, b api.Scalar) api.Scalar {
	if !plainMay(a) || !plainMay(b) {
		return full
	}
	s, _ := plainNarrow(api.Scalar{R: bounds.Join(a.R, b.R), K: known.Join(a.K, b.K)})
	return s
}

func plainIn(a, b api.Scalar) bool {
	return bounds.In(a.R, b.R) && known.In(a.K, b.K)
}

func plainWiden(a, b api.Scalar) api.Scalar {
	if !plainMay(a) || !plainMay(b) {
		return full
	}
	r := a.R
	if b.R.UMin < r.UMin {
		r.UMin = 0
	}
	if b.R.UMax > r.UMax {
		r.UMax = most
	}
	if b.R.SMin < r.SMin {
		r.SMin = sLow
	}
	if b.R.SMax > r.SMax {
		r.SMax = sTop
	}
	s, _ := plainNarrow(api.Scalar{R: r, K: known.Join(a.K, b.K)})
	return s
}

func plainDo(op, w int8, a, b api.Scalar) api.Scalar {
	if !plainMay(a) || !plainMay(b) || op < 0 || op > 12 || w != 32 && w != 64 {
		return full
	}
	if w == 64 {
		s, _ := plainNarrow(api.Scalar{R: bounds.Do(op, a.R, b.R), K: known.Do(op, 64, a.K, b.K)})
		return s
	}
	a, _ = plainNarrow(api.Scalar{R: bounds.Low(a.R), K: known.Cut(a.K, 32)})
	b, _ = plainNarrow(api.Scalar{R: bounds.Low(b.R), K: known.Cut(b.K, 32)})
	r := plainLowRange(op, a, b)
	if r.UMax >= 1<<32 {
		r = api.Range{UMax: low32, SMax: int64(low32)}
	}
	s, ok := plainNarrow(api.Scalar{R: r, K: known.Do(op, 32, a.K, b.K)})
	if !ok {
		return plainBytes(4)
	}
	return s
}

func plainLowRange(op int8, a, b api.Scalar) api.Range {
	n, single := plainSingle(b)
	shift := op == api.Lsh || op == api.Rsh
	switch {
	case op == api.Neg, op == api.Arsh, shift && !single:
		return api.Range{UMax: low32, SMax: int64(low32)}
	case shift:
		return bounds.Do(op, a.R, bounds.One(n%32))
	}
	return bounds.Do(op, a.R, b.R)
}

func plainGiven(cc int8, a, b api.Scalar) (api.Scalar, bool) {
	if !plainMay(a) || !plainMay(b) {
		return full, false
	}
	s, may := a, true
	if s.R, may = bounds.Given(cc, a.R, b.R); !may {
		return full, false
	}
	if cc == api.Eq {
		if s.K, may = known.Meet(a.K, b.K); !may {
			return full, false
		}
	}
	return plainNarrow(s)
}

// stream is a row of numbers that is the same each time.
type stream uint64

func (s *stream) next() uint64 {
	*s = *s*6364136223846793005 + 1442695040888963407
	v := uint64(*s)
	return (v ^ v>>29) * 0xBF58476D1CE4E5B9 >> 7 * 0x9E3779B97F4A7C15
}

func (s *stream) below(n int) int { return int(s.next() >> 33 % uint64(n)) }

// edges are the words at which widths, signs, counts and carries turn.
var edges = []uint64{
	0, 1, 2, 3, 4, 5, 7, 8, 9, 15, 16, 31, 32, 33, 63, 64, 65, 0x7F, 0x80, 0xFF, 0x100, 0xFFFF, 0x10000,
	1<<31 - 1, 1 << 31, 1<<31 + 1, 1<<32 - 2, 1<<32 - 1, 1 << 32, 1<<32 + 1, 1<<32 + 33, 1 << 40, 1<<62 - 1, 1 << 62,
	1<<63 - 1, 1 << 63, 1<<63 + 1, 3 << 62, 1<<64 - 1<<31, 1<<64 - 1<<32, 0x5555555555555555, 0xAAAAAAAAAAAAAAAA,
	math.MaxUint64 - 9, math.MaxUint64 - 1, math.MaxUint64,
}

// word tells a word at an edge, near one, or anywhere.
func (s *stream) word() uint64 {
	switch v := edges[s.below(len(edges))]; s.below(6) {
	case 0:
		return s.next()
	case 1:
		return s.next() >> s.below(64)
	case 2:
		return v + uint64(s.below(20)) - 10
	default:
		return v
	}
}

// small tells a word of few bits, most of the time.
func (s *stream) small() uint64 {
	if s.below(8) == 0 {
		return s.word()
	}
	return uint64(s.below(40))
}

// sparse tells a word with at most n bits that are 1.
func (s *stream) sparse(n int) (v uint64) {
	near := s.below(64)
	for range s.below(n + 1) {
		v |= 1 << ((near + s.below(6)*s.below(12)) % 64)
	}
	return v
}

// numbers tells one to five numbers, some of them close to each other.
func (s *stream) numbers() []uint64 {
	l := []uint64{s.word()}
	for range s.below(5) {
		switch s.below(4) {
		case 0:
			l = append(l, s.word())
		case 1:
			l = append(l, l[0]^s.sparse(3))
		default:
			l = append(l, l[0]+s.small())
		}
	}
	return l
}

// holding tells a scalar that contains all of the numbers, and more or less beside them.
func (s *stream) holding(l []uint64) api.Scalar {
	x := api.Scalar{R: bounds.One(l[0]), K: known.One(l[0])}
	for _, v := range append(l, l[s.below(len(l))]) {
		x.R, x.K = bounds.Join(x.R, bounds.One(v)), known.Join(x.K, known.One(v))
	}
	switch s.below(5) {
	case 0: // the bits say nothing
		x.K = known.All()
	case 1: // the range says nothing
		x.R = bounds.All()
	case 2: // one kind of bounds says nothing
		x.R.SMin, x.R.SMax = sLow, sTop
	case 3:
		x.R.UMin, x.R.UMax = 0, most
	}
	if s.below(2) == 0 {
		x.K.Mask |= s.sparse(4)
		x.K.Val &^= x.K.Mask
	}
	if s.below(2) == 0 {
		v := s.word()
		x.R = bounds.Join(x.R, bounds.One(v))
	}
	return x
}

// anyhow tells a scalar of one of several forms: a few are not valid, and many are empty.
func (s *stream) anyhow() api.Scalar {
	word := s.word
	if s.below(2) == 0 {
		word = s.small
	}
	a, b, c, d := word(), word(), int64(word()), int64(word())
	x := api.Scalar{R: api.Range{UMin: min(a, b), UMax: max(a, b), SMin: min(c, d), SMax: max(c, d)}, K: api.Known{Mask: word()}}
	x.K.Val = word() &^ x.K.Mask
	switch s.below(8) {
	case 0: // as it comes
		return api.Scalar{R: api.Range{UMin: a, UMax: b, SMin: c, SMax: d}, K: api.Known{Val: word(), Mask: word()}}
	case 1:
		x.R.SMin, x.R.SMax = sLow, sTop
	case 2:
		x.R.SMin, x.R.SMax = min(int64(a), int64(b)), max(int64(a), int64(b))
	case 3:
		x.R = bounds.One(a)
	default:
		return s.holding(s.numbers())
	}
	return x
}

// near tells a second scalar, sometimes one that has something to do with the first one.
func (s *stream) near(a api.Scalar) api.Scalar {
	b := s.anyhow()
	switch s.below(6) {
	case 0:
		return One(a.R.UMin)
	case 1:
		return One(uint64(a.R.SMax))
	case 2:
		b.R = a.R
	case 3:
		b.K = a.K
	case 4:
		b.R.UMax, b.R.SMin = a.R.UMax, a.R.SMin
	}
	return b
}
