package bounds

import (
	"math"
	"testing"

	"lathe/api"
	"lathe/bits"
)

const (
	half = uint64(1 << 63) // the least number whose sign, if it has one, is negative
	most = uint64(math.MaxUint64)
	sLow = int64(math.MinInt64)
	sTop = int64(math.MaxInt64)
)

var full = api.Range{UMin: 0, UMax: most, SMin: sLow, SMax: sTop}

// the tells a range by its four bounds.
func the(uLo, uHi uint64, sLo, sHi int64) api.Range {
	return api.Range{UMin: uLo, UMax: uHi, SMin: sLo, SMax: sHi}
}

// from tells a range whose two kinds of bounds say the same.
func from(lo, hi uint64) api.Range { return the(lo, hi, int64(lo), int64(hi)) }

// wrong are ranges that are not valid.
var wrong = []api.Range{
	the(1, 0, 0, 0), the(0, 0, 1, 0), the(3, 2, 5, 4), the(most, 0, sLow, sTop), the(0, most, sTop, sLow),
	the(0, 9, 0, -1), the(half, half-1, 0, 9), {UMin: 3}, {SMin: 1}, {SMax: -1}, the(5, 4, 4, 5),
}

// hollow is valid and not empty, though it contains no number.
var hollow = the(half-1, half, -5, 5)

// eachByte calls f with every int8.
func eachByte(f func(v int8)) {
	for v := math.MinInt8; v <= math.MaxInt8; v++ {
		f(int8(v))
	}
}

// P7.1

func TestMay(t *testing.T) {
	for _, r := range wrong {
		if May(r) {
			t.Errorf("May(%v)", r)
		}
	}
	for _, r := range []api.Range{full, {}, from(1, 5), the(7, 7, -9, -9), the(0, most, 5, 5), the(most, most, sTop, sTop), hollow} {
		if !May(r) {
			t.Errorf("not May(%v)", r)
		}
	}
}

func TestAllAndOne(t *testing.T) {
	if All() != full {
		t.Errorf("All() = %v", All())
	}
	for v, s := range map[uint64]int64{0: 0, 1: 1, half - 1: sTop, half: sLow, half + 1: sLow + 1, most: -1} {
		if One(v) != the(v, v, s, s) {
			t.Errorf("One(%d) = %v", v, One(v))
		}
	}
	for _, v := range edges {
		for _, w := range edges {
			if Has(One(v), w) != (v == w) || !Has(All(), w) {
				t.Errorf("Has(One(%d), %d) = %t", v, w, Has(One(v), w))
			}
		}
	}
}

func TestHasByHand(t *testing.T) {
	for _, c := range []struct {
		r   api.Range
		v   uint64
		has bool
	}{
		{from(1, 3), 0, false}, {from(1, 3), 1, true}, {from(1, 3), 3, true}, {from(1, 3), 4, false},
		{the(0, most, -3, -1), most, true}, {the(0, most, -3, -1), most - 2, true}, {the(0, most, -3, -1), most - 3, false}, {the(0, most, -3, -1), 0, false},
		{the(0, most, -1, 1), half, false}, {the(half, most, sLow, sTop), half - 1, false}, {the(half, most, sLow, sTop), half, true},
		{the(0, 9, 5, 20), 4, false}, {the(0, 9, 5, 20), 5, true}, {the(0, 9, 5, 20), 9, true}, {the(0, 9, 5, 20), 10, false},
		{the(0, 9, -5, 20), 0, true}, {the(0, 9, -5, 20), most, false},
		{hollow, half, false}, {hollow, half - 1, false}, {hollow, 0, false},
	} {
		if Has(c.r, c.v) != c.has {
			t.Errorf("Has(%v, %d) = %t", c.r, c.v, !c.has)
		}
	}
	for _, r := range wrong {
		for _, v := range edges {
			if Has(r, v) {
				t.Errorf("Has(%v, %d), which is not valid", r, v)
			}
		}
	}
}

func TestNarrowByHand(t *testing.T) {
	for _, c := range []struct {
		r, want api.Range
		ok      bool
	}{
		{full, full, true},
		{from(3, 5), from(3, 5), true},
		{the(3, 5, sLow, sTop), from(3, 5), true},                                    // step 1
		{the(0, half-1, sLow, sTop), from(0, half-1), true},                          // up to the last number of the lower half
		{the(half, most, sLow, sTop), the(half, most, sLow, -1), true},               // and from the first one of the upper half
		{the(half+2, most-2, -9, sTop), the(most-8, most-2, -9, -3), true},           // steps 1 and 2
		{the(0, half, sLow, sTop), the(0, half, sLow, sTop), true},                   // in both halves: nothing
		{the(0, most, 0, 9), from(0, 9), true},                                       // step 2
		{the(0, most, -9, -1), the(most-8, most, -9, -1), true},                      // step 2
		{the(0, most, -1, 0), the(0, most, -1, 0), true},                             // of both signs: nothing
		{the(5, half+7, 0, 9), from(5, 9), true},                                     // steps 2 and 3
		{the(7, most-2, -9, -1), the(most-8, most-2, -9, -3), true},                  // steps 2 and 3
		{the(0, 5, -9, 100), from(0, 5), true},                                       // steps 1 and 2
		{the(3, 5, 5, 9), from(5, 5), true},                                          // one number is left
		{the(3, 5, 6, 9), full, false},                                               // empty after step 1
		{the(3, 5, -9, -1), full, false},                                             // empty after step 1
		{the(half, most, 0, 5), full, false},                                         // empty after step 1
		{the(half-1, most, 0, 5), full, false},                                       // empty after step 2
		{the(0, half, sLow+1, -1), full, false},                                      // empty after step 2
		{the(half-1, half, sLow, sTop), the(half-1, half, sLow, sTop), true},         // nothing applies
		{hollow, hollow, true},                                                       // contains nothing, yet no step says so
		{the(half-1, most, 5, sTop), the(half-1, half-1, sTop, sTop), true},          // one number is left after step 2
		{the(most, most, sLow, sTop), the(most, most, -1, -1), true},                 // a single one
		{the(half+4, most, sLow, sLow+9), the(half+4, half+9, sLow+4, sLow+9), true}, // the sign is the offset's
		{the(10, 1<<32-1, 20, 1<<32), from(20, 1<<32-1), true},                       // one bound from each kind
		{the(0, 0, 0, sTop), from(0, 0), true},                                       // the least number
		{the(1, most, 0, 0), full, false},                                            // only its one number is left out
		{the(1, half, 0, sTop), from(1, half-1), true},                               // steps 2 and 3
		{the(0, half-1, sLow, -1), full, false},                                      // empty after step 1
		{the(half, most, -1, sTop), the(most, most, -1, -1), true},                   // steps 1 and 2
		{the(half, most-1, -1, sTop), full, false},                                   // empty after step 1
		{the(150, 160, 100, 200), from(150, 160), true},                              // step 1
		{the(1, most, -1, 0), the(1, most, -1, 0), true},                             // no step takes the 0 out
		{the(half, most, -1, 0), the(most, most, -1, -1), true},                      // steps 1 and 2
		{the(0, half, -1, 0), the(0, half, -1, 0), true},                             // nothing applies
		{the(0, 1<<32-1, sLow, sTop), from(0, 1<<32-1), true},                        // step 1
		{the(1<<31, 1<<32-1, -1<<31, 1<<31-1), full, false},                          // empty after step 1
		{the(1<<31-1, 1<<32-1, -1<<31, 1<<31-1), from(1<<31-1, 1<<31-1), true},       // steps 1 and 2
	} {
		if got, ok := Narrow(c.r); got != c.want || ok != c.ok {
			t.Errorf("Narrow(%v) = %v, %t, not %v, %t", c.r, got, ok, c.want, c.ok)
		}
	}
	for _, r := range wrong {
		if got, ok := Narrow(r); got != full || ok {
			t.Errorf("Narrow(%v) = %v, %t", r, got, ok)
		}
	}
}

func TestSingleByHand(t *testing.T) {
	for _, v := range edges {
		s := int64(v)
		for _, r := range []api.Range{One(v), the(v, v, sLow, sTop), the(v, v, s, sTop), the(v, v, sLow, s)} {
			if n, ok := Single(r); n != v || !ok {
				t.Errorf("Single(%v) = %d, %t", r, n, ok)
			}
		}
	}
	for _, r := range append([]api.Range{
		full, from(1, 2), hollow,
		the(5, 5, 6, 9), the(5, 5, -9, 4), the(most, most, 0, sTop), // it does not contain its number
		the(0, most, 5, 5), the(4, 5, 5, 5), // the signed bounds alone do not make it single
		the(5, 5, 9, 1),
	}, wrong...) {
		if n, ok := Single(r); n != 0 || ok {
			t.Errorf("Single(%v) = %d, %t", r, n, ok)
		}
	}
}

// P7.2

func TestJoinMeetAndInByHand(t *testing.T) {
	for _, c := range []struct {
		a, b, join, meet api.Range
		ok, in           bool
	}{
		{from(1, 2), from(8, 9), from(1, 9), full, false, false},
		{from(1, 5), from(4, 9), from(1, 9), from(4, 5), true, false},
		{from(1, 2), from(0, 2), from(0, 2), from(1, 2), true, true},
		{from(1, 2), from(1, 3), from(1, 3), from(1, 2), true, true},
		{from(1, 2), from(1, 2), from(1, 2), from(1, 2), true, true},
		{from(1, 5), from(5, 9), from(1, 9), from(5, 5), true, false},
		{One(most), One(1), the(1, most, -1, 1), full, false, false},
		{the(0, 9, sLow, sTop), the(0, most, 4, 20), the(0, most, sLow, sTop), from(4, 9), true, false}, // neither is narrowed by Join
		{the(0, 3, 2, 9), the(1, 2, 0, 7), the(0, 3, 0, 9), from(2, 2), true, false},
		{the(0, most, -9, 3), the(0, most, -2, 9), the(0, most, -9, 9), the(0, most, -2, 3), true, false},
		{the(0, most, -9, -3), the(0, 5, sLow, sTop), full, full, false, false}, // empty once it is narrowed
		{the(5, most, -9, 9), the(0, half+7, 0, sTop), the(0, most, -9, sTop), from(5, 9), true, false},
		{from(2, 3), the(2, 3, 3, 3), from(2, 3), from(3, 3), true, false},
		{the(2, 3, 3, 3), from(2, 3), from(2, 3), from(3, 3), true, true},
		{hollow, hollow, hollow, hollow, true, true},
		{from(0, 0), full, full, from(0, 0), true, true},
		{full, full, full, full, true, true},
	} {
		if got := Join(c.a, c.b); got != c.join {
			t.Errorf("Join(%v, %v) = %v", c.a, c.b, got)
		}
		if got, ok := Meet(c.a, c.b); got != c.meet || ok != c.ok {
			t.Errorf("Meet(%v, %v) = %v, %t", c.a, c.b, got, ok)
		}
		if In(c.a, c.b) != c.in {
			t.Errorf("In(%v, %v) = %t", c.a, c.b, !c.in)
		}
	}
}

// P7.2 to P7.4

func TestRangesThatAreNotValid(t *testing.T) {
	for _, r := range wrong {
		for _, good := range []api.Range{full, from(2, 4), One(5), r} {
			for _, p := range [][2]api.Range{{r, good}, {good, r}} {
				meet, ok := Meet(p[0], p[1])
				if Join(p[0], p[1]) != full || meet != full || ok || In(p[0], p[1]) {
					t.Errorf("%v: Join %v, Meet %v, %t, In %t", p, Join(p[0], p[1]), meet, ok, In(p[0], p[1]))
				}
				eachByte(func(op int8) {
					if got := Do(op, p[0], p[1]); got != full {
						t.Errorf("Do(%d, %v) = %v", op, p, got)
					}
					if got, ok := Given(op, p[0], p[1]); got != full || ok {
						t.Errorf("Given(%d, %v) = %v, %t", op, p, got, ok)
					}
				})
			}
		}
		if got := Low(r); got != from(0, 1<<32-1) {
			t.Errorf("Low(%v) = %v", r, got)
		}
	}
}

// P7.3

func TestDoByHand(t *testing.T) {
	for _, c := range []struct {
		op         int8
		a, b, want api.Range
	}{
		{api.Mov, full, from(2, 3), from(2, 3)},
		{api.Mov, One(1), the(2, 3, sLow, sTop), from(2, 3)}, // narrowed
		{api.Mov, One(1), the(2, 3, 4, 5), full},             // empty
		{api.Add, from(1, 5), from(2, 3), from(3, 8)},
		{api.Add, from(1, half-1), from(1, 1), the(2, half, sLow, sTop)}, // the signed sum does not fit
		{api.Add, from(0, half-2), from(1, 1), from(1, half-1)},
		{api.Add, One(most), One(1), One(0)},                                       // the unsigned sum does not fit
		{api.Add, the(most-5, most-1, -6, -2), One(1), the(most-4, most, -5, -1)},  // both fit
		{api.Add, the(most-5, most, -6, -1), One(1), the(0, most, -5, 0)},          // the upper unsigned sum does not fit
		{api.Add, the(0, most, -6, 9), the(0, most, -4, 5), the(0, most, -10, 14)}, // only the signed ones fit
		{api.Add, One(half), One(most), full},                                      // neither sum fits
		{api.Add, the(0, most, sLow, 0), the(0, most, 0, sTop), full},              // sums that just fit
		{api.Add, the(0, most, sLow, 0), the(0, most, -1, 0), full},                // the lower one does not
		{api.Add, the(0, most, 0, sTop), the(0, most, 0, 1), full},                 // the upper one does not
		{api.Add, the(0, most, 1, sTop), the(0, most, -1, 0), from(0, half-1)},     // it does
		{api.Sub, from(5, 9), from(2, 3), from(2, 7)},
		{api.Sub, from(5, 9), from(2, 5), from(0, 7)},
		{api.Sub, from(5, 9), from(2, 6), the(0, most, -1, 7)},
		{api.Sub, from(0, 9), from(2, 3), the(0, most, -3, 7)},
		{api.Sub, One(0), One(1), One(most)},
		{api.Sub, One(half), One(1), One(half - 1)},                         // the signed difference does not fit
		{api.Sub, One(half - 1), One(most), the(0, most, sLow, sTop)},       // neither does
		{api.Sub, the(0, most, -1, 0), One(half), the(0, most, sLow, sTop)}, // the upper one does not fit
		{api.Sub, the(0, most, sLow, sTop), One(0), full},
		{api.Sub, the(0, most, sLow, 9), from(0, 1), full},                    // the lower one does not fit
		{api.Sub, the(0, most, sLow+1, 9), from(0, 1), the(0, most, sLow, 9)}, // it does
		{api.And, full, from(7, 7), from(0, 7)},
		{api.And, from(4, 9), from(2, 6), from(0, 6)},
		{api.And, full, full, full},
		{api.And, One(most), the(half, most, sLow, -1), full}, // 0 to most: nothing to narrow
		{api.Or, from(4, 8), from(1, 3), from(4, 15)},
		{api.Or, from(1, 3), from(4, 8), from(4, 15)},
		{api.Or, One(0), One(0), One(0)},
		{api.Or, One(1), One(0), One(1)},
		{api.Or, from(3, 7), from(2, 7), from(3, 7)},
		{api.Or, from(3, 7), from(2, 8), from(3, 15)},
		{api.Or, from(0, half-1), One(5), from(5, half-1)},
		{api.Or, One(half), One(5), the(half, most, sLow, -1)},
		{api.Xor, from(4, 8), from(1, 3), from(0, 15)},
		{api.Xor, One(0), One(0), One(0)},
		{api.Xor, One(7), One(7), from(0, 7)},
		{api.Xor, One(half - 1), One(1), from(0, half-1)},
		{api.Xor, One(half), One(1), full},
		{api.Div, from(10, 20), from(2, 5), from(2, 10)},
		{api.Div, from(10, 20), from(0, 5), from(0, 20)},
		{api.Div, from(10, 20), One(0), from(0, 20)},
		{api.Div, from(10, 20), One(7), from(1, 2)},
		{api.Div, One(most), One(1), One(most)},
		{api.Div, full, One(2), from(0, half-1)},
		{api.Div, from(10, 20), the(1, most, sLow, sTop), from(0, 20)},
		{api.Mod, from(10, 20), from(2, 5), from(0, 4)},
		{api.Mod, from(1, 3), from(2, 5), from(0, 3)},
		{api.Mod, from(1, 3), from(0, 5), from(0, 3)},
		{api.Mod, from(10, 20), from(0, 5), from(0, 20)},
		{api.Mod, from(10, 20), One(1), One(0)},
		{api.Mod, full, full, full},
		{api.Mod, full, One(most), the(0, most-1, sLow, sTop)},
		{api.Rsh, from(8, 64), One(3), from(1, 8)},
		{api.Rsh, from(8, 64), One(67), from(1, 8)},
		{api.Rsh, from(8, 64), One(64), from(8, 64)},
		{api.Rsh, from(8, 64), One(most), One(0)},
		{api.Rsh, from(8, 64), the(67, 67, sLow, sTop), from(1, 8)}, // single, though its signed bounds are not
		{api.Rsh, from(8, 64), the(3, 3, 4, 9), full},               // not single: it contains nothing
		{api.Rsh, from(8, 64), from(3, 4), full},
		{api.Rsh, full, One(1), from(0, half-1)},
		{api.Rsh, full, One(0), full},
		{api.Lsh, from(1, 3), One(4), from(16, 48)},
		{api.Lsh, from(1, 3), One(68), from(16, 48)},
		{api.Lsh, from(1, 3), One(62), the(1<<62, 3<<62, sLow, sTop)},
		{api.Lsh, from(1, 3), One(63), full}, // 3 is shifted out
		{api.Lsh, from(0, 1), One(63), the(0, half, sLow, sTop)},
		{api.Lsh, One(1), One(63), One(half)},
		{api.Lsh, from(1, 1<<62), One(4), full},
		{api.Lsh, from(1, 3), from(4, 5), full},
		{api.Lsh, One(0), One(63), One(0)},
		{api.Lsh, One(half), One(0), One(half)},
		{api.Mul, One(2), One(3), full},
		{api.Neg, One(2), One(3), full},
		{api.Arsh, One(2), One(3), full},
	} {
		if got := Do(c.op, c.a, c.b); got != c.want {
			t.Errorf("Do(%d, %v, %v) = %v, not %v", c.op, c.a, c.b, got, c.want)
		}
	}
}

func TestDoWithWhatIsNone(t *testing.T) {
	eachByte(func(op int8) {
		got := Do(op, from(2, 3), One(1))
		none := op < 0 || op > api.Arsh || op == api.Mul || op == api.Neg || op == api.Arsh
		if (got == full) != none {
			t.Errorf("Do(%d, 2 to 3, 1) = %v", op, got)
		}
	})
}

// P7.4

func TestLowByHand(t *testing.T) {
	low := from(0, 1<<32-1)
	for _, c := range []struct{ r, want api.Range }{
		{full, low},
		{from(3, 5), from(3, 5)},
		{low, low},
		{from(5, 1<<32), low},
		{from(1<<32, 1<<32), low},
		{One(most), low},
		{the(3, 5, sLow, sTop), the(3, 5, sLow, sTop)}, // itself, not narrowed
		{the(3, 5, 6, 7), the(3, 5, 6, 7)},             // itself, though it is empty
		{the(0, most, 3, 5), low},
		{the(0, 1<<32-1, -7, 9), the(0, 1<<32-1, -7, 9)},
	} {
		if got := Low(c.r); got != c.want {
			t.Errorf("Low(%v) = %v", c.r, got)
		}
	}
}

func TestGivenByHand(t *testing.T) {
	for _, c := range []struct {
		cc         int8
		a, b, want api.Range
		ok         bool
	}{
		{api.Eq, from(0, 9), from(4, 20), from(4, 9), true},
		{api.Eq, from(0, 3), from(4, 20), full, false},
		{api.Ne, from(4, 9), One(4), from(5, 9), true},
		{api.Ne, from(4, 9), One(9), from(4, 8), true},
		{api.Ne, from(4, 9), One(5), from(4, 9), true},
		{api.Ne, from(4, 5), One(4), from(5, 5), true},
		{api.Ne, One(4), One(4), full, false},
		{api.Ne, One(most), One(most), full, false},
		{api.Ne, One(half - 1), One(half - 1), full, false},
		{api.Ne, the(4, 9, 4, 4), One(4), full, false}, // both signed bounds alone
		{api.Ne, the(4, 4, 3, 9), One(4), full, false}, // both unsigned bounds alone
		{api.Ne, One(4), One(5), from(4, 4), true},
		{api.Ne, from(4, 9), from(4, 5), from(4, 9), true},              // not single
		{api.Ne, from(4, 9), the(4, 4, 5, 9), from(4, 9), true},         // not single: it contains nothing
		{api.Ne, from(4, 9), the(4, 4, sLow, sTop), from(5, 9), true},   // single
		{api.Ne, full, One(0), the(1, most, sLow, sTop), true},          // no signed bound
		{api.Ne, full, One(most), the(0, most-1, sLow, sTop), true},     // no signed bound
		{api.Ne, full, One(half), the(0, most, sLow+1, sTop), true},     // the lower signed bound
		{api.Ne, full, One(half - 1), the(0, most, sLow, sTop-1), true}, // the upper signed bound
		{api.Ne, the(0, most, -1, 7), One(most), from(0, 7), true},      // narrowed after that
		{api.Gt, from(0, 9), One(4), from(5, 9), true},
		{api.Gt, from(0, 9), from(4, 99), from(5, 9), true},
		{api.Gt, from(0, 9), from(8, 99), from(9, 9), true},
		{api.Gt, from(0, 9), from(9, 99), full, false},
		{api.Gt, from(7, 9), from(0, 99), from(7, 9), true},
		{api.Gt, from(0, 3), One(4), full, false},
		{api.Gt, full, One(most), full, false},
		{api.Gt, full, One(most - 1), the(most, most, -1, -1), true},
		{api.Ge, from(0, 9), One(4), from(4, 9), true},
		{api.Ge, from(0, 9), from(9, 99), from(9, 9), true},
		{api.Ge, from(0, 9), from(10, 99), full, false},
		{api.Ge, full, One(most), One(most), true},
		{api.Lt, from(0, 9), One(4), from(0, 3), true},
		{api.Lt, from(5, 9), from(0, 6), from(5, 5), true},
		{api.Lt, from(5, 9), from(0, 5), full, false},
		{api.Lt, from(5, 9), from(0, 99), from(5, 9), true},
		{api.Lt, full, One(0), full, false},
		{api.Lt, full, One(1), One(0), true},
		{api.Le, from(0, 9), One(4), from(0, 4), true},
		{api.Le, from(5, 9), from(0, 5), from(5, 5), true},
		{api.Le, from(5, 9), from(0, 4), full, false},
		{api.Le, full, One(0), One(0), true},
		{api.Sgt, full, One(most), from(0, half-1), true},
		{api.Sgt, full, One(half - 1), full, false},
		{api.Sgt, full, One(half - 2), One(half - 1), true},
		{api.Sgt, from(0, 9), from(4, 99), from(5, 9), true},
		{api.Sgt, from(0, 9), One(9), full, false},
		{api.Sge, full, One(0), from(0, half-1), true},
		{api.Sge, full, One(half - 1), One(half - 1), true},
		{api.Sge, from(0, 9), from(10, 99), full, false},
		{api.Slt, full, One(0), the(half, most, sLow, -1), true},
		{api.Slt, full, One(half), full, false},
		{api.Slt, full, One(half + 1), One(half), true},
		{api.Slt, from(0, 9), One(0), full, false},
		{api.Sle, full, One(most), the(half, most, sLow, -1), true},
		{api.Sle, full, One(half), One(half), true},
		{api.Sle, from(0, 9), One(most), full, false},
		{api.Set, from(1, 2), full, from(1, 2), true},
		{api.Set, the(1, 2, sLow, sTop), full, from(1, 2), true}, // narrowed
		{api.Set, the(1, 2, 3, 4), full, full, false},            // empty
		{api.Set, One(0), full, One(0), true},                    // the bounds of a, whatever they are
		{api.Set, full, One(0), full, true},
		{api.Eq, hollow, full, hollow, true},
		{api.Gt, the(1, 2, 3, 4), One(0), full, false},
	} {
		if got, ok := Given(c.cc, c.a, c.b); got != c.want || ok != c.ok {
			t.Errorf("Given(%d, %v, %v) = %v, %t, not %v, %t", c.cc, c.a, c.b, got, ok, c.want, c.ok)
		}
	}
}

func TestGivenWithWhatIsNone(t *testing.T) {
	eachByte(func(cc int8) {
		is := cc >= api.Eq && cc <= api.Set
		if got, ok := Given(cc, full, full); ok != is || !ok && got != full {
			t.Errorf("Given(%d, all, all) = %v, %t", cc, got, ok)
		}
	})
}

// P7.1 to P7.4, by the document's words with unbounded numbers

func TestAgainstPlainOne(t *testing.T) {
	s := stream(3)
	for range 100000 {
		r := s.rangeAround()
		p := plainOf(r)
		if May(r) != p.valid() {
			t.Fatalf("May(%v) = %t", r, May(r))
		}
		want, may := p.narrow()
		if got, ok := Narrow(r); got != want.word() || ok != may {
			t.Fatalf("Narrow(%v) = %v, %t, not %v, %t", r, got, ok, want, may)
		}
		v, single := Single(r)
		if n := p.single(); single != (n != nil) || single && v != n.Uint64() || !single && v != 0 {
			t.Fatalf("Single(%v) = %d, %t", r, v, single)
		}
		if got := Low(r); got != plainLow(p).word() {
			t.Fatalf("Low(%v) = %v", r, got)
		}
		for _, v := range []uint64{s.word(), r.UMin, r.UMin - 1, r.UMax, r.UMax + 1, uint64(r.SMin), uint64(r.SMin) - 1, uint64(r.SMax), uint64(r.SMax) + 1} {
			if Has(r, v) != p.contains(v) {
				t.Fatalf("Has(%v, %d) = %t", r, v, Has(r, v))
			}
		}
	}
}

func TestAgainstPlainTwo(t *testing.T) {
	for _, p := range pairs(30000) {
		a, b := plainOf(p[0]), plainOf(p[1])
		if got := Join(p[0], p[1]); got != plainJoin(a, b).word() {
			t.Fatalf("Join(%v) = %v", p, got)
		}
		want, may := plainMeet(a, b)
		if got, ok := Meet(p[0], p[1]); got != want.word() || ok != may {
			t.Fatalf("Meet(%v) = %v, %t, not %v, %t", p, got, ok, want, may)
		}
		if In(p[0], p[1]) != plainIn(a, b) {
			t.Fatalf("In(%v) = %t", p, In(p[0], p[1]))
		}
		for op := int8(-1); op <= 13; op++ {
			if got, want := Do(op, p[0], p[1]), plainDo(op, a, b).word(); got != want {
				t.Fatalf("Do(%d, %v) = %v, not %v", op, p, got, want)
			}
		}
		for cc := int8(-1); cc <= 11; cc++ {
			want, may := plainGiven(cc, a, b)
			if got, ok := Given(cc, p[0], p[1]); got != want.word() || ok != may {
				t.Fatalf("Given(%d, %v) = %v, %t, not %v, %t", cc, p, got, ok, want, may)
			}
		}
	}
}

// P7.5

func TestNarrowAndLowKeepNumbers(t *testing.T) {
	s := stream(11)
	for range 20000 {
		r := s.rangeAround()
		narrowed, ok := Narrow(r)
		for _, v := range samples(r) {
			if !ok || !Has(narrowed, v) {
				t.Fatalf("Narrow(%v) = %v, %t, without %d", r, narrowed, ok, v)
			}
			if low := bits.Cut(v, 32); !Has(Low(r), low) {
				t.Fatalf("Low(%v) = %v, without %d", r, Low(r), low)
			}
		}
		for _, v := range samples(narrowed) {
			if ok && !Has(r, v) {
				t.Fatalf("Narrow(%v) = %v, with %d", r, narrowed, v)
			}
		}
	}
}

func TestJoinAndMeetContain(t *testing.T) {
	for _, p := range pairs(20000) {
		a, b := p[0], p[1]
		join := Join(a, b)
		meet, ok := Meet(a, b)
		for _, v := range append(samples(a), samples(b)...) {
			if May(a) && May(b) && !Has(join, v) {
				t.Fatalf("Join(%v) = %v, without %d", p, join, v)
			}
			if inBoth := Has(a, v) && Has(b, v); (ok && Has(meet, v)) != inBoth {
				t.Fatalf("Meet(%v) = %v, %t, but for %d", p, meet, ok, v)
			}
		}
		for _, v := range samples(meet) {
			if ok && !(Has(a, v) && Has(b, v)) {
				t.Fatalf("Meet(%v) = %v, with %d", p, meet, v)
			}
		}
	}
}

func TestInIsContainment(t *testing.T) {
	for _, p := range pairs(20000) {
		if !In(p[0], p[1]) {
			continue
		}
		for _, v := range samples(p[0]) {
			if !Has(p[1], v) {
				t.Fatalf("In(%v), but for %d", p, v)
			}
		}
	}
}

func TestDoAndGivenContain(t *testing.T) {
	for _, p := range pairs(1500) {
		var results [api.Arsh + 1]api.Range
		for op := range results {
			results[op] = Do(int8(op), p[0], p[1])
		}
		var given [api.Set + 1]api.Range
		var may [api.Set + 1]bool
		for cc := range given {
			given[cc], may[cc] = Given(int8(cc), p[0], p[1])
		}
		for _, v := range samples(p[0]) {
			for _, w := range samples(p[1]) {
				for op, r := range results {
					if n, e := bits.Do(int8(op), 64, v, w); e != api.OK || !Has(r, n) {
						t.Fatalf("Do(%d, %v) = %v, without %d, of %d and %d", op, p, r, n, v, w)
					}
				}
				for cc, r := range given {
					if yes, e := bits.Holds(int8(cc), 64, v, w); e != api.OK || yes && (!may[cc] || !Has(r, v)) {
						t.Fatalf("Given(%d, %v) = %v, %t, without %d, with %d", cc, p, r, may[cc], v, w)
					}
				}
			}
		}
	}
}
