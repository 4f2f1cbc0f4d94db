package value

import (
	"math"
	"testing"

	"lathe/api"
	"lathe/bits"
)

const (
	half  = uint64(1 << 63) // the least number whose sign, if it has one, is negative
	most  = uint64(math.MaxUint64)
	low32 = uint64(1<<32 - 1)
	sLow  = int64(math.MinInt64)
	sTop  = int64(math.MaxInt64)
)

var (
	full    = the(0, most, sLow, sTop, 0, most)
	nothing = api.Known{Mask: most}
)

// the tells a scalar by its bounds and its bits.
func the(uLo, uHi uint64, sLo, sHi int64, val, mask uint64) api.Scalar {
	return api.Scalar{R: api.Range{UMin: uLo, UMax: uHi, SMin: sLo, SMax: sHi}, K: api.Known{Val: val, Mask: mask}}
}

// from tells a scalar whose two kinds of bounds say the same.
func from(lo, hi, val, mask uint64) api.Scalar { return the(lo, hi, int64(lo), int64(hi), val, mask) }

// of tells a scalar of known bits whose range says nothing.
func of(val, mask uint64) api.Scalar { return the(0, most, sLow, sTop, val, mask) }

// wrong are scalars that are not valid, in one half or in both.
var wrong = []api.Scalar{
	of(1, 1), of(3, 6), of(most, half), from(5, 5, 5, 1),
	from(1, 0, 0, 1), the(0, most, 1, 0, 0, most), the(5, 4, 4, 5, 4, 1), the(half, half-1, 0, 9, 0, most), the(9, 3, 0, 0, 1, 1),
}

// Scalars that contain no number, though they are valid: crossed is empty, and hollow's narrowing does not see it.
var (
	crossed = from(5, 5, 6, 0)
	hollow  = from(4, 8, 1, 10) // 1, 3, 9 or 11
)

// eachByte calls f with every int8.
func eachByte(f func(v int8)) {
	for v := math.MinInt8; v <= math.MaxInt8; v++ {
		f(int8(v))
	}
}

// P9.1

func TestMayByHand(t *testing.T) {
	for _, s := range wrong {
		if May(s) {
			t.Errorf("May(%v)", s)
		}
	}
	for _, s := range []api.Scalar{full, {}, crossed, hollow, from(1, 5, 0, 7), the(0, most, 5, 5, 6, 1), of(half, half-1)} {
		if !May(s) {
			t.Errorf("not May(%v)", s)
		}
	}
}

func TestAllAndOne(t *testing.T) {
	if All() != full {
		t.Errorf("All() = %v", All())
	}
	for v, s := range map[uint64]int64{0: 0, 1: 1, half - 1: sTop, half: sLow, half + 1: sLow + 1, most: -1} {
		if One(v) != the(v, v, s, s, v, 0) {
			t.Errorf("One(%d) = %v", v, One(v))
		}
	}
	for _, v := range edges {
		for _, w := range edges {
			if Has(One(v), w) != (v == w) || !Has(All(), w) {
				t.Errorf("Has(One(%d), %d) = %t, Has(All(), %d) = %t", v, w, Has(One(v), w), w, Has(All(), w))
			}
		}
	}
}

func TestBytesByHand(t *testing.T) {
	for n, greatest := range map[int]uint64{
		math.MinInt: 255, -1: 255, 0: 255, 1: 255, 2: 65535, 3: 1<<24 - 1, 4: low32, 5: 1<<40 - 1, 6: 1<<48 - 1, 7: 1<<56 - 1,
	} {
		if got := Bytes(n); got != from(0, greatest, 0, greatest) {
			t.Errorf("Bytes(%d) = %v", n, got)
		}
	}
	for _, n := range []int{8, 9, 64, 1 << 32, math.MaxInt} {
		if got := Bytes(n); got != full {
			t.Errorf("Bytes(%d) = %v", n, got)
		}
	}
}

func TestHasByHand(t *testing.T) {
	for _, c := range []struct {
		s   api.Scalar
		v   uint64
		has bool
	}{
		{from(4, 6, 4, 2), 4, true}, {from(4, 6, 4, 2), 5, false}, {from(4, 6, 4, 2), 6, true}, {from(4, 6, 4, 2), 7, false},
		{from(4, 9, 0, 12), 8, true}, {from(4, 9, 0, 12), 4, true}, {from(4, 9, 0, 12), 0, false}, {from(4, 9, 0, 12), 12, false}, {from(4, 9, 0, 12), 5, false},
		{the(0, most, -3, -1, 0, most), most, true}, {the(0, most, -3, -1, 0, most), 1, false}, {the(0, most, -3, -1, 1, most-1), most - 1, false},
		{of(half, 1), half, true}, {of(half, 1), half + 1, true}, {of(half, 1), 1, false},
		{crossed, 5, false}, {crossed, 6, false}, {hollow, 4, false}, {hollow, 5, false}, {hollow, 8, false}, {hollow, 9, false}, {hollow, 3, false},
	} {
		if Has(c.s, c.v) != c.has {
			t.Errorf("Has(%v, %d) = %t", c.s, c.v, !c.has)
		}
	}
	for _, s := range wrong {
		for _, v := range append([]uint64{s.K.Val, s.R.UMin, s.R.UMax, s.K.Val &^ s.K.Mask}, edges...) {
			if Has(s, v) {
				t.Errorf("Has(%v, %d), which is not valid", s, v)
			}
		}
	}
}

func TestSingleByHand(t *testing.T) {
	for _, v := range edges {
		for _, s := range []api.Scalar{One(v), {R: One(v).R, K: nothing}, the(v, v, sLow, sTop, v, 0)} {
			if n, ok := Single(s); n != v || !ok {
				t.Errorf("Single(%v) = %d, %t", s, n, ok)
			}
		}
	}
	if n, ok := Single(crossed); n != 5 || !ok { // the range alone counts
		t.Errorf("Single of 5 to 5 with other bits = %d, %t", n, ok)
	}
	for _, s := range append([]api.Scalar{full, from(4, 5, 4, 1), from(4, 5, 5, 0), of(5, 0), the(5, 5, 6, 9, 5, 0), hollow}, wrong...) {
		if n, ok := Single(s); n != 0 || ok {
			t.Errorf("Single(%v) = %d, %t", s, n, ok)
		}
	}
}

func TestNarrowByHand(t *testing.T) {
	for _, c := range []struct{ s, want api.Scalar }{
		{full, full},
		{One(7), One(7)},
		{from(8, 11, 0, most), from(8, 11, 8, 3)},
		{from(7, 8, 0, most), from(7, 8, 0, 15)},
		{of(8, 7), from(8, 15, 8, 7)},
		{of(5, 0), One(5)},
		{of(half, 1), from(half, half+1, half, 1)},
		{of(0, half), the(0, half, sLow, sTop, 0, half)},
		{from(5, 5, 0, most), One(5)},
		{the(5, 5, sLow, sTop, 4, 1), One(5)},
		{from(5, 9, 0, 12), from(5, 9, 0, 12)},                                           // only 8, but neither half shows it
		{from(1, 9, 1, 18), from(1, 3, 1, 2)},                                            // the range takes away a bit, the bits take away of the range
		{from(1, 5, 0, 20), from(1, 4, 0, 4)},                                            // likewise, from 0, 4, 16 and 20
		{from(17, 56, 4, 211), from(17, 23, 20, 3)},                                      // a third time would make it 20 to 23
		{the(0, most, -9, -1, 0, most), the(most-8, most, -9, -1, most-15, 15)},          // the signed bounds come first
		{the(0, most, -9, 9, 0, 6), from(0, 6, 0, 6)},                                    // the bits say that it is not negative
		{the(0, most, -9, 9, most-6, 6), the(most-6, most, -7, -1, most-6, 6)},           // and here that it is
		{the(0, half, sLow, -1, 0, most), One(half)},                                     // one number is left of the range
		{the(0, 1<<32, sLow, sTop, 0, low32), from(0, low32, 0, low32)},                  // the bits cut
		{from(1<<32-2, 1<<32-1, 0, most), from(1<<32-2, 1<<32-1, 1<<32-2, 1)},            // up to the last one of 32 bits
		{from(1<<32-1, 1<<32, 0, most), from(1<<32-1, 1<<32, 0, 1<<33-1)},                // and one further
		{the(half-1, half, sLow, sTop, 0, most), the(half-1, half, sLow, sTop, 0, most)}, // nothing in common
		{hollow, hollow},
	} {
		if got, ok := Narrow(c.s); got != c.want || !ok {
			t.Errorf("Narrow(%v) = %v, %t, not %v", c.s, got, ok, c.want)
		}
	}
}

func TestNarrowToNothing(t *testing.T) {
	for _, s := range append([]api.Scalar{
		crossed,
		from(1, 2, 0, 0),                    // the bits are below the range
		from(1, 2, 3, 0),                    // and above it
		from(4, 7, 1, 10),                   // bit 2 is 1 in one, 0 in the other
		from(2, 9, 0, 17),                   // the second time: what is left of the bits is below the range
		the(0, 5, -9, -1, 0, most),          // the range alone is empty
		the(0, most, 0, 9, half, half-1),    // another sign
		the(0, most, -9, -1, 0, half-1),     // another sign
		the(half, most, sLow, sTop, 0, 255), // the bits are in the other half
	}, wrong...) {
		if got, ok := Narrow(s); got != full || ok {
			t.Errorf("Narrow(%v) = %v, %t", s, got, ok)
		}
	}
}

// P9.2

func TestJoinByHand(t *testing.T) {
	for _, c := range []struct{ a, b, want api.Scalar }{
		{One(4), One(6), from(4, 6, 4, 2)},
		{One(6), One(4), from(4, 6, 4, 2)},
		{One(8), One(11), from(8, 11, 8, 3)},
		{One(1), One(2), from(1, 2, 0, 3)},
		{One(7), One(7), One(7)},
		{One(most), One(0), the(0, most, -1, 0, 0, most)},
		{One(most), One(most - 1), the(most-1, most, -2, -1, most-1, 1)},
		{One(5), full, full},
		{from(8, 11, 0, most), One(9), from(8, 11, 8, 3)},           // the bits come from the range
		{from(0, 20, 0, 16), One(0), from(0, 16, 0, 16)},            // the range from the bits
		{from(4, 6, 4, 2), from(12, 14, 12, 2), from(4, 14, 4, 10)}, // 5 to 13 are in the range, yet not those that are odd
		{the(0, 9, sLow, sTop, 0, most), of(2, 4), full},            // a and b themselves are not narrowed
		{hollow, One(4), from(4, 8, 0, 15)},
		{crossed, One(6), One(6)},
		{crossed, crossed, full}, // empty
	} {
		if got := Join(c.a, c.b); got != c.want {
			t.Errorf("Join(%v, %v) = %v, not %v", c.a, c.b, got, c.want)
		}
	}
}

func TestInByHand(t *testing.T) {
	for _, c := range []struct {
		a, b api.Scalar
		in   bool
	}{
		{from(4, 6, 4, 2), from(0, 9, 0, 15), true},
		{from(4, 6, 4, 2), from(4, 6, 4, 2), true},
		{from(4, 6, 4, 2), from(4, 6, 0, 7), true},
		{from(4, 6, 0, 7), from(4, 6, 4, 2), false}, // the bits are not
		{from(4, 7, 4, 3), from(4, 6, 4, 3), false}, // the range is not
		{from(4, 7, 4, 2), from(4, 6, 4, 2), false}, // also where the numbers are the same
		{the(4, 6, 3, 6, 4, 2), from(4, 6, 4, 2), false},
		{from(0, 9, 0, 15), from(4, 6, 4, 2), false},
		{One(5), full, true}, {full, full, true}, {full, One(5), false}, {One(4), One(5), false},
		{crossed, from(5, 6, 6, 1), true}, {crossed, One(5), false}, {crossed, One(6), false}, {hollow, hollow, true},
	} {
		if In(c.a, c.b) != c.in {
			t.Errorf("In(%v, %v) = %t", c.a, c.b, !c.in)
		}
	}
}

func TestWidenByHand(t *testing.T) {
	signs := func(lo, hi int64) api.Scalar { return the(0, most, lo, hi, 0, most) }
	words := func(lo, hi uint64) api.Scalar { return the(lo, hi, sLow, sTop, 0, most) }
	for _, c := range []struct{ a, b, want api.Scalar }{
		{One(4), One(6), from(4, 6, 4, 2)}, // what the bits still tell
		{One(6), One(4), from(4, 6, 4, 2)},
		{One(4), One(4), One(4)},
		{from(0, 5, 0, most), from(0, 6, 0, most), from(0, half-1, 0, half-1)}, // the lower bounds stay
		{from(0, 5, 0, 7), from(0, 6, 0, 7), from(0, 7, 0, 7)},
		{from(2, 9, 0, 15), from(3, 5, 0, 7), from(2, 9, 0, 15)}, // nothing is further out
		{from(2, 9, 0, 15), from(2, 9, 0, 15), from(2, 9, 0, 15)},
		{from(3, 5, 0, 7), from(2, 9, 0, 15), from(0, 15, 0, 15)},
		{from(5, 9, 0, most), from(4, 9, 0, most), from(0, 9, 0, 15)}, // the upper bounds stay
		{from(5, 9, 0, most), from(9, 9, 0, most), from(5, 9, 0, 15)},
		{signs(-3, 3), signs(-4, 3), signs(sLow, 3)},
		{signs(-3, 3), signs(-3, 4), signs(-3, sTop)},
		{signs(-3, 3), signs(-4, 4), full},
		{signs(-3, 3), signs(-2, 2), signs(-3, 3)},
		{words(1, half), words(0, half), words(0, half)},
		{words(2, half), words(1, half), words(0, half)},
		{words(1, half), words(1, half+1), words(1, most)},
		{words(1, half), words(0, most), full},
		{words(1, half), words(2, half-1), words(1, half)},
		{One(5), full, full},
		{full, One(5), full},
		{the(0, 9, sLow, sTop, 0, most), of(2, 4), full}, // a and b themselves are not narrowed
		{crossed, One(6), from(6, 6, 6, 0)},
		{crossed, crossed, full}, // empty
	} {
		if got := Widen(c.a, c.b); got != c.want {
			t.Errorf("Widen(%v, %v) = %v, not %v", c.a, c.b, got, c.want)
		}
	}
}

// P9.2 to P9.4

func TestScalarsThatAreNotValid(t *testing.T) {
	for _, s := range wrong {
		for _, good := range []api.Scalar{full, One(0), One(5), from(4, 6, 4, 2), s} {
			for _, p := range [][2]api.Scalar{{s, good}, {good, s}} {
				if Join(p[0], p[1]) != full || Widen(p[0], p[1]) != full || In(p[0], p[1]) {
					t.Errorf("%v: Join %v, Widen %v, In %t", p, Join(p[0], p[1]), Widen(p[0], p[1]), In(p[0], p[1]))
				}
				eachByte(func(op int8) {
					for _, w := range []int8{32, 64} { // Neg and Mov, too, where one of both does not matter
						if got := Do(op, w, p[0], p[1]); got != full {
							t.Errorf("Do(%d, %d, %v) = %v", op, w, p, got)
						}
					}
					if got, ok := Given(op, p[0], p[1]); got != full || ok {
						t.Errorf("Given(%d, %v) = %v, %t", op, p, got, ok)
					}
				})
			}
		}
	}
}

// P9.3

func TestDoOfTheWiderWidthByHand(t *testing.T) {
	for _, c := range []struct {
		op         int8
		a, b, want api.Scalar
	}{
		{api.And, full, One(7), from(0, 7, 0, 7)},
		{api.And, One(7), full, from(0, 7, 0, 7)},
		{api.Add, One(2), One(3), One(5)},
		{api.Add, from(1, 5, 0, 7), from(2, 3, 2, 1), from(3, 8, 0, 15)},
		{api.Add, from(4, 6, 4, 2), One(1), from(5, 7, 5, 2)},
		{api.Add, One(most), One(1), One(0)},
		{api.Add, full, One(1), full},
		{api.Sub, One(0), One(1), One(most)},
		{api.Sub, from(4, 6, 4, 2), One(4), from(0, 2, 0, 2)},
		{api.Mul, One(5), One(3), One(15)},
		{api.Mul, from(1, 2, 0, 3), One(3), full},
		{api.Div, full, One(2), from(0, half-1, 0, half-1)},
		{api.Div, One(7), One(0), One(0)},
		{api.Div, from(8, 64, 0, 127), One(8), from(1, 8, 0, 15)},
		{api.Mod, full, One(10), from(0, 9, 0, 15)},
		{api.Mod, One(7), One(0), One(7)},
		{api.Or, from(4, 6, 4, 2), One(1), from(5, 7, 5, 2)},
		{api.Xor, from(4, 6, 4, 2), One(4), from(0, 2, 0, 2)},
		{api.Lsh, from(4, 6, 4, 2), One(60), from(1<<62, 3<<61, 1<<62, 1<<61)},
		{api.Lsh, One(1), One(63), One(half)},
		{api.Lsh, One(1), One(64), One(1)},
		{api.Lsh, One(3), One(63), One(half)},
		{api.Lsh, from(1, 3, 0, 3), One(33), from(1<<33, 3<<33, 0, 3<<33)},
		{api.Rsh, full, One(60), from(0, 15, 0, 15)},
		{api.Rsh, full, from(0, 1, 0, 1), full},
		{api.Arsh, the(half, most, sLow, -1, half, half-1), One(63), One(most)},
		{api.Neg, One(1), full, One(most)},
		{api.Neg, from(1, 2, 0, 3), One(0), full},
		{api.Mov, full, from(4, 6, 4, 2), from(4, 6, 4, 2)},
		{api.Mov, full, from(8, 11, 0, most), from(8, 11, 8, 3)}, // narrowed
		{api.Mov, full, One(1<<32 + 9), One(1<<32 + 9)},
		{api.Mov, crossed, One(1), One(1)},
		{api.Mov, One(1), crossed, full},          // empty
		{api.Add, crossed, One(0), full},          // empty
		{api.Add, from(7, 9, 2, 9), One(4), full}, // empty: 11 to 13, of 6, 7, 14 and 15
	} {
		if got := Do(c.op, 64, c.a, c.b); got != c.want {
			t.Errorf("Do(%d, 64, %v, %v) = %v, not %v", c.op, c.a, c.b, got, c.want)
		}
	}
}

func TestDoOfTheLesserWidthByHand(t *testing.T) {
	whole := from(0, low32, 0, low32)
	upTo3, to48 := from(1, 3, 0, 3), from(16, 48, 0, 48)
	for _, c := range []struct {
		op         int8
		a, b, want api.Scalar
	}{
		{api.Add, One(low32), One(1), One(0)},
		{api.Add, from(3, low32-1, 0, low32), One(1), from(4, low32, 0, low32)}, // up to the last number
		{api.Add, from(3, low32-1, 0, low32), One(2), whole},                    // and one further
		{api.Add, from(4, 6, 4, 2), One(1<<32 + 1), from(5, 7, 5, 2)},
		{api.Add, full, One(1), whole},
		{api.Sub, One(2), One(3), One(low32)},
		{api.Sub, from(0, 5, 0, 7), One(1), whole},
		{api.Sub, from(5, 9, 0, 15), One(2), from(3, 7, 0, 7)},
		{api.Mul, from(1, 2, 0, 3), One(3), whole},
		{api.Mul, One(1 << 31), One(2), One(0)},
		{api.Div, full, One(2), from(0, 1<<31-1, 0, 1<<31-1)},
		{api.Div, One(7), One(1 << 32), One(0)}, // a divisor that is 0 once it is cut
		{api.Div, full, One(1<<32 + 2), from(0, 1<<31-1, 0, 1<<31-1)},
		{api.Mod, One(1<<32 + 5), One(3), One(2)},
		{api.Mod, full, One(1 << 32), whole},
		{api.Mod, full, One(10), from(0, 9, 0, 15)},
		{api.And, full, One(most), whole},
		{api.And, full, One(7), from(0, 7, 0, 7)},
		{api.Or, One(1 << 40), One(5), One(5)},
		{api.Or, full, One(1 << 31), from(1<<31, low32, 1<<31, 1<<31-1)},
		{api.Xor, One(most), One(low32), One(0)},
		{api.Mov, full, One(1<<32 + 9), One(9)},
		{api.Mov, One(1), full, whole},
		{api.Mov, full, the(3, 5, sLow, sTop, 0, most), from(3, 5, 0, 7)},
		{api.Mov, full, from(3, 1<<32, 0, most), whole},
		{api.Lsh, One(1), One(33), One(2)},
		{api.Lsh, upTo3, One(4), to48},
		{api.Lsh, upTo3, One(36), to48},
		{api.Lsh, upTo3, One(1<<32 + 36), to48},
		{api.Lsh, upTo3, One(31), from(0, 1<<31, 0, 1<<31)}, // beyond 2^32: the bits tell the range
		{api.Lsh, upTo3, One(32), upTo3},
		{api.Lsh, upTo3, from(4, 5, 4, 1), whole},
		{api.Lsh, upTo3, from(0, 32, 0, 32), from(0, 3, 0, 3)}, // not single, yet the bits are shifted
		{api.Rsh, full, One(28), from(0, 15, 0, 15)},
		{api.Rsh, to48, One(36), upTo3},
		{api.Rsh, to48, from(4, 5, 4, 1), whole},
		{api.Rsh, to48, from(0, 32, 0, 32), from(0, 48, 0, 48)},
		{api.Rsh, One(1 << 36), One(4), One(0)}, // cut ahead of it
		{api.Arsh, One(1 << 31), One(4), One(0xF8000000)},
		{api.Arsh, from(8, 15, 8, 7), One(1), from(4, 7, 4, 3)},
		{api.Arsh, from(9, 14, 8, 7), One(1), from(4, 7, 4, 3)},
		{api.Neg, One(1), full, One(low32)},
		{api.Neg, upTo3, full, whole},
		{api.Neg, from(2, 3, 2, 1), full, from(low32-3, low32, low32-3, 3)},
		{api.Add, from(7, 9, 2, 9), One(4), whole}, // empty: 11 to 13, of 6, 7, 14 and 15
	} {
		if got := Do(c.op, 32, c.a, c.b); got != c.want {
			t.Errorf("Do(%d, 32, %v, %v) = %v, not %v", c.op, c.a, c.b, got, c.want)
		}
	}
}

func TestDoOfEmptyLowScalars(t *testing.T) {
	whole := from(0, low32, 0, low32)
	for _, c := range []struct {
		op         int8
		a, b, want api.Scalar
	}{
		{api.Mov, One(1), crossed, whole}, // b is the full scalar then
		{api.Mov, crossed, One(1), One(1)},
		{api.And, crossed, One(7), from(0, 7, 0, 7)},
		{api.Div, crossed, One(2), whole}, // a full one, which is not cut
		{api.Lsh, One(3), crossed, whole},
		{api.Rsh, One(64), crossed, whole},
		{api.Mov, One(1), the(0, 9, -5, -1, 0, most), whole},
		{api.Mov, full, from(5, 5, 1<<32|5, 0), One(5)}, // empty only as long as it is not cut
		{api.Mov, full, from(1<<32, 1<<32, 7, 0), One(7)},
	} {
		if got := Do(c.op, 32, c.a, c.b); got != c.want {
			t.Errorf("Do(%d, 32, %v, %v) = %v, not %v", c.op, c.a, c.b, got, c.want)
		}
	}
}

func TestDoWithWhatIsNone(t *testing.T) {
	eachByte(func(op int8) {
		eachByte(func(w int8) {
			may := op >= 0 && op <= 12 && (w == 32 || w == 64)
			for _, p := range [][2]api.Scalar{{One(6), One(3)}, {from(4, 6, 4, 2), One(1)}} {
				got := Do(op, w, p[0], p[1])
				if !may && got != full || may && p[0] == One(6) && got == full {
					t.Errorf("Do(%d, %d, %v) = %v", op, w, p, got)
				}
			}
		})
	})
}

// P9.4

func TestGivenByHand(t *testing.T) {
	to9, even := from(0, 9, 0, 15), from(4, 6, 4, 2)
	around := the(0, most, -5, 5, 0, most)
	for _, c := range []struct {
		cc         int8
		a, b, want api.Scalar
	}{
		{api.Lt, to9, One(4), from(0, 3, 0, 3)},
		{api.Le, to9, One(4), from(0, 4, 0, 7)},
		{api.Gt, to9, One(4), from(5, 9, 0, 15)},
		{api.Ge, to9, One(8), from(8, 9, 8, 1)},
		{api.Eq, to9, from(8, 20, 0, 31), from(8, 9, 8, 1)},
		{api.Eq, even, of(2, most-2), One(6)}, // the bits of both
		{api.Eq, of(2, most-2), even, One(6)},
		{api.Eq, full, One(7), One(7)},
		{api.Ne, even, One(4), from(5, 6, 4, 2)},
		{api.Ne, One(4), One(5), One(4)},
		{api.Ne, even, even, even},
		{api.Lt, even, One(7), even}, // the bits of a alone, though they are not those of b
		{api.Lt, One(0), full, One(0)},
		{api.Slt, full, One(0), the(half, most, sLow, -1, half, half-1)},
		{api.Sge, full, One(0), from(0, half-1, 0, half-1)},
		{api.Sgt, around, One(0), from(1, 5, 0, 7)},
		{api.Sle, around, One(most), the(most-4, most, -5, -1, most-7, 7)},
		{api.Set, full, One(8), full},
		{api.Set, full, One(0), full},
		{api.Set, even, One(1), even},
		{api.Set, from(8, 11, 0, most), One(8), from(8, 11, 8, 3)}, // narrowed
		{api.Le, hollow, One(9), hollow},
		{api.Ge, One(5), crossed, One(5)},
	} {
		if got, ok := Given(c.cc, c.a, c.b); got != c.want || !ok {
			t.Errorf("Given(%d, %v, %v) = %v, %t, not %v", c.cc, c.a, c.b, got, ok, c.want)
		}
	}
}

func TestGivenThatCannotHold(t *testing.T) {
	even := from(4, 6, 4, 2)
	for _, c := range []struct {
		cc   int8
		a, b api.Scalar
	}{
		{api.Eq, One(4), One(5)},
		{api.Eq, even, One(5)},              // the bits don't meet
		{api.Eq, even, from(4, 6, 5, 2)},    // nor here, where the ranges do
		{api.Eq, even, from(5, 5, 0, most)}, // only the result is empty
		{api.Ne, One(4), One(4)},
		{api.Lt, full, One(0)},
		{api.Gt, full, One(most)},
		{api.Slt, full, One(half)},
		{api.Gt, from(0, 15, 0, 8), One(8)}, // 0 or 8: only the result is empty
		{api.Lt, from(2, 9, 0, 9), One(8)},  // 8 or 9: empty the second time
		{api.Gt, crossed, One(1)},
		{api.Set, crossed, One(1)},
	} {
		if got, ok := Given(c.cc, c.a, c.b); got != full || ok {
			t.Errorf("Given(%d, %v, %v) = %v, %t", c.cc, c.a, c.b, got, ok)
		}
	}
}

func TestGivenWithWhatIsNone(t *testing.T) {
	eachByte(func(cc int8) {
		may := cc >= 0 && cc <= 10
		if got, ok := Given(cc, full, One(6)); ok != may || !may && got != full {
			t.Errorf("Given(%d, All, 6) = %v, %t", cc, got, ok)
		}
	})
}

// P9.1 to P9.4, by the document's words

func TestAgainstPlainOne(t *testing.T) {
	s := stream(3)
	empty, kept := 0, 0
	for range 60000 {
		x, v := s.anyhow(), s.word()
		if s.below(3) == 0 {
			v = x.K.Val | v&x.K.Mask
		}
		if May(x) != plainMay(x) || Has(x, v) != plainHas(x, v) {
			t.Fatalf("May(%v) = %t, Has of %d = %t", x, May(x), v, Has(x, v))
		}
		want, may := plainNarrow(x)
		if got, ok := Narrow(x); got != want || ok != may {
			t.Fatalf("Narrow(%v) = %v, %t, not %v, %t", x, got, ok, want, may)
		}
		if may {
			kept++
		} else if May(x) {
			empty++
		}
		n, single := plainSingle(x)
		if got, ok := Single(x); got != n || ok != single {
			t.Fatalf("Single(%v) = %d, %t, not %d, %t", x, got, ok, n, single)
		}
	}
	if empty < 2000 || kept < 2000 {
		t.Errorf("%d scalars were empty, %d were not", empty, kept)
	}
	for n := -9; n < 80; n++ {
		if Bytes(n) != plainBytes(n) {
			t.Errorf("Bytes(%d) = %v, not %v", n, Bytes(n), plainBytes(n))
		}
	}
}

func TestAgainstPlainTwo(t *testing.T) {
	s := stream(5)
	for range 60000 {
		a := s.anyhow()
		b := s.near(a)
		if got, want := Join(a, b), plainJoin(a, b); got != want {
			t.Fatalf("Join(%v, %v) = %v, not %v", a, b, got, want)
		}
		if got, want := Widen(a, b), plainWiden(a, b); got != want {
			t.Fatalf("Widen(%v, %v) = %v, not %v", a, b, got, want)
		}
		join := Join(a, b)
		if In(a, b) != plainIn(a, b) || In(a, join) != plainIn(a, join) || In(join, a) != plainIn(join, a) {
			t.Fatalf("In(%v, %v) = %t, of both joined %t, %t", a, b, In(a, b), In(a, join), In(join, a))
		}
		for cc := api.Eq - 1; cc <= api.Set+1; cc++ {
			want, may := plainGiven(cc, a, b)
			if got, ok := Given(cc, a, b); got != want || ok != may {
				t.Fatalf("Given(%d, %v, %v) = %v, %t, not %v, %t", cc, a, b, got, ok, want, may)
			}
		}
	}
}

func TestAgainstPlainDo(t *testing.T) {
	s := stream(7)
	for range 12000 {
		a := s.anyhow()
		b := s.near(a)
		for op := api.Add - 1; op <= api.Arsh+1; op++ {
			for _, w := range []int8{0, 16, 32, 64, -32} {
				if got, want := Do(op, w, a, b), plainDo(op, w, a, b); got != want {
					t.Fatalf("Do(%d, %d, %v, %v) = %v, not %v", op, w, a, b, got, want)
				}
			}
		}
	}
}

// P9.5

func TestNarrowKeepsItsNumbers(t *testing.T) {
	s := stream(11)
	for range 20000 {
		l := s.numbers()
		x := s.holding(l)
		n, ok := Narrow(x)
		for _, v := range l {
			if !Has(x, v) || !ok || !Has(n, v) {
				t.Fatalf("Narrow(%v) = %v, %t, is without %d", x, n, ok, v)
			}
		}
		if !In(n, x) {
			t.Fatalf("Narrow(%v) = %v is not within", x, n)
		}
	}
}

func TestJoinAndWidenKeepTheirNumbers(t *testing.T) {
	s := stream(13)
	for range 20000 {
		l, m := s.numbers(), s.numbers()
		a, b := s.holding(l), s.holding(m)
		join, wide := Join(a, b), Widen(a, b)
		for _, v := range append(l, m...) {
			if !Has(join, v) || !Has(wide, v) {
				t.Fatalf("%v and %v: Join %v, Widen %v are without %d", a, b, join, wide, v)
			}
		}
		if !In(join, wide) {
			t.Fatalf("Widen(%v, %v) = %v is not around Join's %v", a, b, wide, join)
		}
	}
}

func TestDoKeepsItsResults(t *testing.T) {
	s := stream(17)
	for range 4000 {
		l, m := s.numbers(), s.numbers()
		if s.below(2) == 0 {
			m = []uint64{s.small()}
		}
		a, b := s.holding(l), s.holding(m)
		for op := api.Add; op <= api.Arsh; op++ {
			for _, w := range []int8{32, 64} {
				got := Do(op, w, a, b)
				eachPair(l, m, func(x, y uint64) {
					if v, e := bits.Do(op, w, x, y); e != api.OK || !Has(got, v) {
						t.Fatalf("Do(%d, %d, %v, %v) = %v is without %d, of %d and %d: %v", op, w, a, b, got, v, x, y, e)
					}
				})
				if w == 32 && !In(got, Bytes(4)) {
					t.Fatalf("Do(%d, 32, %v, %v) = %v is not cut", op, a, b, got)
				}
			}
		}
	}
}

func TestGivenKeepsItsNumbers(t *testing.T) {
	s := stream(19)
	for range 8000 {
		l, m := s.numbers(), s.numbers()
		if s.below(2) == 0 {
			m = append(s.numbers()[:1], l[s.below(len(l))])
		}
		a, b := s.holding(l), s.holding(m)
		for cc := api.Eq; cc <= api.Set; cc++ {
			got, ok := Given(cc, a, b)
			eachPair(l, m, func(x, y uint64) {
				if holds, e := bits.Holds(cc, 64, x, y); e != api.OK || holds && (!ok || !Has(got, x)) {
					t.Fatalf("Given(%d, %v, %v) = %v, %t, is without %d, for %d: %v", cc, a, b, got, ok, x, y, e)
				}
			})
			if ok && !In(got, a) {
				t.Fatalf("Given(%d, %v, %v) = %v is not within", cc, a, b, got)
			}
		}
	}
}

func eachPair(l, m []uint64, f func(x, y uint64)) {
	for _, x := range l {
		for _, y := range m {
			f(x, y)
		}
	}
}
