package known

import (
	"math"
	"math/big"

	"lathe/api"
)

// plain is known bits one by one, the lowest first: '0', '1', '?' if it is not known, '!' if it is not valid.
type plain [64]byte

func plainOf(k api.Known) (p plain) {
	for i := range p {
		p[i] = "01?!"[k.Val>>i&1+2*(k.Mask>>i&1)]
	}
	return p
}

func plainAll() (p plain) {
	for i := range p {
		p[i] = '?'
	}
	return p
}

// word tells what plain bits are as known bits. It is asked of what is valid.
func (p plain) word() (k api.Known) {
	for i, c := range p {
		switch c {
		case '1':
			k.Val |= 1 << i
		case '?':
			k.Mask |= 1 << i
		case '0':
		default:
			panic("a bit that is none")
		}
	}
	return k
}

func (p plain) valid() bool {
	for _, c := range p {
		if c == '!' {
			return false
		}
	}
	return true
}

// knows tells whether all of the lowest n bits are known.
func (p plain) knows(n int) bool {
	for _, c := range p[:n] {
		if c == '?' {
			return false
		}
	}
	return true
}

// number tells the bits of Val, or of Mask, without a sign.
func (p plain) number(of byte) *big.Int {
	n := new(big.Int)
	for i, c := range p {
		if c == of {
			n.SetBit(n, i, 1)
		}
	}
	return n
}

func (p plain) contains(v uint64) bool {
	q := plainOf(api.Known{Val: v})
	for i, c := range p {
		if c != '?' && c != q[i] {
			return false
		}
	}
	return true
}

// eachBit makes bits of those of a and b in one place.
func eachBit(a, b plain, f func(x, y byte) byte) (p plain) {
	for i := range p {
		p[i] = f(a[i], b[i])
	}
	return p
}

func plainJoin(a, b plain) plain {
	if !a.valid() || !b.valid() {
		return plainAll()
	}
	return eachBit(a, b, func(x, y byte) byte {
		if x == y {
			return x
		}
		return '?'
	})
}

func plainMeet(a, b plain) (plain, bool) {
	if !a.valid() || !b.valid() {
		return plainAll(), false
	}
	p := eachBit(a, b, func(x, y byte) byte {
		switch {
		case x == '?' || x == y:
			return y
		case y == '?':
			return x
		}
		return '!'
	})
	if !p.valid() {
		return plainAll(), false
	}
	return p, true
}

func plainIn(a, b plain) bool {
	for i, c := range b {
		if c != '?' && a[i] != c {
			return false
		}
	}
	return a.valid() && b.valid()
}

func plainCut(p plain, w int8) plain {
	if !p.valid() {
		return plainAll()
	}
	if w == 8 || w == 16 || w == 32 || w == 64 {
		for i := int(w); i < len(p); i++ {
			p[i] = '0'
		}
	}
	return p
}

func plainCommon(lo, hi uint64) plain {
	p := plainAll()
	if lo > hi {
		return p
	}
	for i := 63; i >= 0 && lo>>i == hi>>i; i-- {
		p[i] = "01"[lo>>i&1]
	}
	return p
}

func plainDo(op, w int8, a, b plain) plain {
	if !a.valid() || !b.valid() || op < 0 || op > 12 || w != 32 && w != 64 {
		return plainAll()
	}
	a, b = plainCut(a, w), plainCut(b, w)
	if a.knows(64) && b.knows(64) {
		return plainCut(plainSingle(op, w, a, b), w)
	}
	return plainCut(plainUnsure(op, w, a, b), w)
}

// plainSingle works an operation out with unbounded numbers.
func plainSingle(op, w int8, a, b plain) plain {
	x, y := a.number('1'), b.number('1')
	switch op {
	case api.Mul:
		return bitsOf(new(big.Int).Mul(x, y))
	case api.Div:
		if y.Sign() == 0 {
			return bitsOf(new(big.Int))
		}
		return bitsOf(new(big.Int).Quo(x, y))
	case api.Mod:
		if y.Sign() == 0 {
			return a
		}
		return bitsOf(new(big.Int).Rem(x, y))
	}
	return plainUnsure(op, w, a, b) // the others' words hold where all is known, too
}

// bitsOf tells a number modulo 2^64.
func bitsOf(n *big.Int) (p plain) {
	n = new(big.Int).And(n, new(big.Int).SetUint64(math.MaxUint64)) // as if a negative number had copies of its sign
	for i := range p {
		p[i] = "01"[n.Bit(i)]
	}
	return p
}

func plainUnsure(op, w int8, a, b plain) plain {
	has := func(c byte) func(x, y byte) bool {
		return func(x, y byte) bool { return x == c || y == c }
	}
	switch op {
	case api.Mov:
		return b
	case api.And:
		return eachBit(a, b, oneOf(has('0'), '0'))
	case api.Or:
		return eachBit(a, b, oneOf(has('1'), '1'))
	case api.Xor:
		return eachBit(a, b, func(x, y byte) byte {
			if x == '?' || y == '?' {
				return '?'
			}
			return "01"[x^y]
		})
	case api.Add:
		return plainAdd(a, b)
	case api.Sub:
		return plainSub(a, b)
	case api.Neg:
		return plainSub(bitsOf(new(big.Int)), a)
	case api.Lsh, api.Rsh, api.Arsh:
		if count := map[int8]int{32: 5, 64: 6}[w]; b.knows(count) {
			return plainShift(op, w, a, int(b.number('1').Uint64()%(1<<count)))
		}
	}
	return plainAll()
}

// oneOf tells c where the rule says that it is so; otherwise both bits are alike, or something is not known.
func oneOf(rule func(x, y byte) bool, c byte) func(x, y byte) byte {
	return func(x, y byte) byte {
		switch {
		case rule(x, y):
			return c
		case x == y:
			return x
		}
		return '?'
	}
}

func plainAdd(a, b plain) plain {
	sv := new(big.Int).Add(a.number('1'), b.number('1'))
	sigma := new(big.Int).Add(a.number('?'), b.number('?'))
	sigma.Add(sigma, sv)
	return unlike(bitsOf(sv), bitsOf(sv), bitsOf(sigma), a, b)
}

func plainSub(a, b plain) plain {
	dv := new(big.Int).Sub(a.number('1'), b.number('1'))
	above := new(big.Int).Add(dv, a.number('?'))
	below := new(big.Int).Sub(dv, b.number('?'))
	return unlike(bitsOf(dv), bitsOf(above), bitsOf(below), a, b)
}

// unlike tells p, but not where x and y differ, nor where a or b is not known.
func unlike(p, x, y, a, b plain) plain {
	for i := range p {
		if x[i] != y[i] || a[i] == '?' || b[i] == '?' {
			p[i] = '?'
		}
	}
	return p
}

// plainShift takes each bit from where it was; what comes from outside is 0 or the sign.
func plainShift(op, w int8, a plain, by int) (p plain) {
	for i := range p {
		from, outside := i+by, byte('0')
		if op == api.Lsh {
			from = i - by
		} else if op == api.Arsh {
			outside = a[w-1]
		}
		p[i] = outside
		if from >= 0 && from < int(w) {
			p[i] = a[from]
		}
	}
	return p
}

// stream is a row of numbers that is the same each time.
type stream uint64

func (s *stream) next() uint64 {
	*s = *s*6364136223846793005 + 1442695040888963407
	v := uint64(*s)
	return (v ^ v>>29) * 0xBF58476D1CE4E5B9 >> 7 * 0x9E3779B97F4A7C15
}

func (s *stream) below(n int) int { return int(s.next() >> 33 % uint64(n)) }

// edges are the words at which widths, signs, counts and carries turn.
var edges = []uint64{
	0, 1, 2, 3, 4, 5, 7, 8, 15, 16, 31, 32, 33, 63, 64, 65, 0x7F, 0x80, 0xFF, 0x100, 0x7FFF, 0x8000, 0xFFFF, 0x10000,
	1<<31 - 1, 1 << 31, 1<<31 + 1, 1<<32 - 2, 1<<32 - 1, 1 << 32, 1<<32 + 1, 1 << 40, 1<<62 - 1, 1 << 62,
	1<<63 - 1, 1 << 63, 1<<63 + 1, 3 << 62, 1<<64 - 1<<32, 0x5555555555555555, 0xAAAAAAAAAAAAAAAA, 0x0123456789ABCDEF,
	math.MaxUint64 - 1, math.MaxUint64,
}

// word tells a word at an edge, near one, or anywhere.
func (s *stream) word() uint64 {
	switch v := edges[s.below(len(edges))]; s.below(6) {
	case 0:
		return s.next()
	case 1:
		return s.next() >> s.below(64)
	case 2:
		return v + uint64(s.below(20)) - 10
	default:
		return v
	}
}

// sparse tells a word with at most n bits that are 1.
func (s *stream) sparse(n int) (v uint64) {
	near := s.below(64)
	for range s.below(n + 1) {
		v |= 1 << ((near + s.below(6)*s.below(12)) % 64)
	}
	return v
}

// bitsAnyhow tells known bits of one of several forms; one in nine or so is not valid.
func (s *stream) bitsAnyhow() api.Known {
	v, mask := s.word(), s.word()
	switch s.below(9) {
	case 0: // as it comes
		return api.Known{Val: v, Mask: mask}
	case 1:
		return api.Known{Val: v}
	case 2:
		return api.Known{Mask: mask}
	case 3:
		return api.Known{Mask: math.MaxUint64}
	case 4, 5:
		mask = s.sparse(4)
	}
	return api.Known{Val: v &^ mask, Mask: mask}
}

// bitsOfFew tells known bits of which few are not known.
func (s *stream) bitsOfFew(n int) api.Known {
	v, mask := s.word(), s.sparse(n)
	return api.Known{Val: v &^ mask, Mask: mask}
}

// members tells all numbers that k contains.
func members(k api.Known) []uint64 {
	l := []uint64{k.Val}
	for part := k.Mask; part != 0; part = (part - 1) & k.Mask {
		l = append(l, k.Val|part)
	}
	return l
}
