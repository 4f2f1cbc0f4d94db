package known

import (
	"math"
	"testing"

	"lathe/api"
	"lathe/bits"
)

const (
	most  = uint64(math.MaxUint64)
	half  = uint64(1 << 63) // the sign of the greater width
	low32 = uint64(1<<32 - 1)
)

var nothing = api.Known{Val: 0, Mask: most}

func k(val, mask uint64) api.Known { return api.Known{Val: val, Mask: mask} }

// wrong are known bits that are not valid.
var wrong = []api.Known{k(1, 1), k(1, most), k(most, 1), k(most, most), k(half, half), k(3, 6), k(1<<32, 3<<32), k(0xF0, 0x10)}

// eachByte calls f with every int8.
func eachByte(f func(v int8)) {
	for v := math.MinInt8; v <= math.MaxInt8; v++ {
		f(int8(v))
	}
}

// P8.1

func TestMayByHand(t *testing.T) {
	for _, x := range wrong {
		if May(x) {
			t.Errorf("May(%x)", x)
		}
	}
	for _, x := range []api.Known{{}, nothing, k(most, 0), k(8, 7), k(7, 8), k(half, half-1), k(half-1, half), k(1, most-1)} {
		if !May(x) {
			t.Errorf("not May(%x)", x)
		}
	}
}

func TestAllAndOne(t *testing.T) {
	if All() != nothing {
		t.Errorf("All() = %x", All())
	}
	for _, v := range edges {
		if One(v) != k(v, 0) {
			t.Errorf("One(%x) = %x", v, One(v))
		}
		for _, w := range edges {
			if Has(One(v), w) != (v == w) || !Has(All(), w) {
				t.Errorf("Has(One(%x), %x) = %t, Has(All(), %x) = %t", v, w, Has(One(v), w), w, Has(All(), w))
			}
		}
	}
}

func TestHasByHand(t *testing.T) {
	for _, c := range []struct {
		k   api.Known
		v   uint64
		has bool
	}{
		{k(8, 7), 7, false}, {k(8, 7), 8, true}, {k(8, 7), 13, true}, {k(8, 7), 15, true}, {k(8, 7), 16, false}, {k(8, 7), 24, false},
		{k(8, 7), half | 8, false}, {k(0, 5), 0, true}, {k(0, 5), 1, true}, {k(0, 5), 4, true}, {k(0, 5), 5, true}, {k(0, 5), 2, false},
		{k(0, half), half, true}, {k(0, half), 0, true}, {k(0, half), 1, false}, {k(half, 0), 0, false}, {k(1, most-1), 2, false}, {k(1, most-1), most, true},
	} {
		if Has(c.k, c.v) != c.has {
			t.Errorf("Has(%x, %x) = %t", c.k, c.v, !c.has)
		}
	}
	for _, x := range wrong {
		for _, v := range append([]uint64{x.Val, x.Mask, x.Val &^ x.Mask, x.Val | x.Mask}, edges...) {
			if Has(x, v) {
				t.Errorf("Has(%x, %x), which is not valid", x, v)
			}
		}
	}
}

func TestSingleByHand(t *testing.T) {
	for _, v := range edges {
		if n, ok := Single(k(v, 0)); n != v || !ok {
			t.Errorf("Single of just %x = %x, %t", v, n, ok)
		}
	}
	for _, x := range append([]api.Known{nothing, k(8, 1), k(8, 7), k(0, 1), k(0, half), k(1, half)}, wrong...) {
		if n, ok := Single(x); n != 0 || ok {
			t.Errorf("Single(%x) = %x, %t", x, n, ok)
		}
	}
}

func TestJoinMeetAndInByHand(t *testing.T) {
	for _, c := range []struct {
		a, b, join, meet api.Known
		ok, in           bool
	}{
		{k(8, 0), k(9, 0), k(8, 1), nothing, false, false},
		{k(8, 0), k(8, 0), k(8, 0), k(8, 0), true, true},
		{k(8, 7), k(8, 7), k(8, 7), k(8, 7), true, true},
		{k(8, 7), k(24, 0), k(8, 23), nothing, false, false},
		{k(8, 7), k(2, 12), k(0, 15), k(10, 4), true, false},
		{k(8, 7), k(16, 7), k(0, 31), nothing, false, false},
		{k(9, 2), k(8, 7), k(8, 7), k(9, 2), true, true},
		{k(8, 7), k(9, 2), k(8, 7), k(9, 2), true, false},
		{k(9, 0), k(0, 8), k(0, 9), nothing, false, false}, // a knows another value of a bit that b knows
		{k(0, 0), k(1, 8), k(0, 9), nothing, false, false},
		{k(0, 1), k(0, 2), k(0, 3), k(0, 0), true, false},
		{k(5, 2), nothing, nothing, k(5, 2), true, true},
		{nothing, nothing, nothing, nothing, true, true},
		{k(0, half), k(half, 0), k(0, half), k(half, 0), true, false},
		{k(most, 0), k(0, 0), nothing, nothing, false, false},
		{k(0x55, (most-255)|0xAA), k(0xAA, (most-255)|0x55), nothing, k(0xFF, most-255), true, false},
	} {
		if got := Join(c.a, c.b); got != c.join {
			t.Errorf("Join(%x, %x) = %x", c.a, c.b, got)
		}
		if got, ok := Meet(c.a, c.b); got != c.meet || ok != c.ok {
			t.Errorf("Meet(%x, %x) = %x, %t", c.a, c.b, got, ok)
		}
		if In(c.a, c.b) != c.in {
			t.Errorf("In(%x, %x) = %t", c.a, c.b, !c.in)
		}
	}
}

func TestCutByHand(t *testing.T) {
	x := k(0xF1F1F1F1F1F1F1F1, 0x0E0E0E0E0E0E0E0E)
	eachByte(func(w int8) {
		want := x
		switch w {
		case 8:
			want = k(0xF1, 0x0E)
		case 16:
			want = k(0xF1F1, 0x0E0E)
		case 32:
			want = k(0xF1F1F1F1, 0x0E0E0E0E)
		}
		if got := Cut(x, w); got != want {
			t.Errorf("Cut(%x, %d) = %x", x, w, got)
		}
		for _, y := range append([]api.Known{nothing}, wrong...) {
			want := nothing // of what is not valid, also if w is not a width
			if May(y) {
				want.Mask = bits.Cut(most, w)
			}
			if got := Cut(y, w); got != want {
				t.Errorf("Cut(%x, %d) = %x", y, w, got)
			}
		}
	})
}

func TestCommonByHand(t *testing.T) {
	for _, c := range []struct {
		lo, hi uint64
		want   api.Known
	}{
		{8, 11, k(8, 3)}, {8, 8, k(8, 0)}, {8, 9, k(8, 1)}, {8, 10, k(8, 3)}, {7, 8, k(0, 15)}, {9, 10, k(8, 3)},
		{0, 0, k(0, 0)}, {0, 1, k(0, 1)}, {0, half - 1, k(0, half-1)}, {0, half, nothing}, {0, most, nothing}, {half - 1, half, nothing},
		{half, most, k(half, half-1)}, {most, most, k(most, 0)}, {most - 1, most, k(most-1, 1)}, {1<<32 - 1, 1 << 32, k(0, 1<<33-1)},
		{1 << 40, 1<<40 + 255, k(1<<40, 255)}, {1<<40 + 5, 1<<40 + 255, k(1<<40, 255)},
		{1, 0, nothing}, {11, 8, nothing}, {most, 0, nothing}, {half, half - 1, nothing},
	} {
		if got := Common(c.lo, c.hi); got != c.want {
			t.Errorf("Common(%x, %x) = %x, not %x", c.lo, c.hi, got, c.want)
		}
	}
}

// P8.1 and P8.2

func TestBitsThatAreNotValid(t *testing.T) {
	for _, x := range wrong {
		for _, good := range []api.Known{nothing, k(8, 7), One(0), One(5), x} {
			for _, p := range [][2]api.Known{{x, good}, {good, x}} {
				meet, ok := Meet(p[0], p[1])
				if Join(p[0], p[1]) != nothing || meet != nothing || ok || In(p[0], p[1]) {
					t.Errorf("%x: Join %x, Meet %x, %t, In %t", p, Join(p[0], p[1]), meet, ok, In(p[0], p[1]))
				}
				for op := api.Add; op <= api.Arsh; op++ { // Neg and Mov, too, where one of both does not matter
					for _, w := range []int8{32, 64} {
						if got := Do(op, w, p[0], p[1]); got != nothing {
							t.Errorf("Do(%d, %d, %x) = %x", op, w, p, got)
						}
					}
				}
			}
		}
	}
}

// P8.2

func TestDoOfTheWiderWidthByHand(t *testing.T) {
	for _, c := range []struct {
		op         int8
		a, b, want api.Known
	}{
		{api.Mov, nothing, k(8, 7), k(8, 7)},
		{api.Mov, k(1, 0), k(half, 1), k(half, 1)},
		{api.Mov, nothing, One(9), One(9)},
		{api.Mov, One(9), nothing, nothing},
		{api.And, nothing, One(7), k(0, 7)},
		{api.And, One(7), nothing, k(0, 7)},
		{api.And, k(12, 1), k(10, 4), k(8, 4)},
		{api.And, nothing, nothing, nothing},
		{api.And, nothing, One(0), One(0)},
		{api.Or, nothing, One(7), k(7, most-7)},
		{api.Or, One(7), nothing, k(7, most-7)},
		{api.Or, k(12, 1), k(10, 4), k(14, 1)},
		{api.Or, nothing, One(most), One(most)},
		{api.Xor, k(12, 1), k(10, 4), k(2, 5)},
		{api.Xor, nothing, One(7), nothing},
		{api.Xor, k(0, half), One(most), k(half-1, half)},
		{api.Add, k(8, 1), k(1, 0), k(8, 3)},
		{api.Add, k(8, 2), k(1, 0), k(9, 2)},
		{api.Add, k(8, 1), k(16, 0), k(24, 1)},
		{api.Add, k(0, 1), k(0, 1), k(0, 3)},
		{api.Add, k(0, 1), k(7, 0), k(0, 15)},
		{api.Add, k(most-1, 1), k(1, 0), nothing}, // the carry goes through
		{api.Add, k(0, half), k(half, 0), k(0, half)},
		{api.Add, k(0, 3<<62), k(0, 3<<62), k(0, 3<<62)}, // what is carried out is lost
		{api.Add, nothing, One(0), nothing},
		{api.Sub, k(8, 1), k(0, 0), k(8, 1)},
		{api.Sub, k(8, 1), k(1, 0), k(0, 15)}, // 7 or 8
		{api.Sub, k(9, 2), k(1, 0), k(8, 2)},
		{api.Sub, k(9, 0), k(0, 1), k(8, 1)},
		{api.Sub, k(8, 0), k(0, 1), k(0, 15)},
		{api.Sub, k(0, 0), k(0, 1), nothing}, // 0 or all ones
		{api.Sub, k(0, 1), k(0, 1), nothing},
		{api.Sub, k(2, 1), k(0, 1), k(0, 3)},
		{api.Sub, k(half, 0), k(0, half), k(0, half)},
		{api.Neg, One(1), nothing, One(most)}, // b does not matter
		{api.Neg, One(0), nothing, One(0)},
		{api.Neg, k(0, 1), One(7), nothing},
		{api.Neg, k(2, 1), One(7), k(most-3, 3)}, // -2 or -3
		{api.Neg, k(2, 4), One(7), k(most-7|2, 4)},
		{api.Neg, k(0, half), One(7), k(0, half)},
		{api.Lsh, k(1, 2), One(4), k(16, 32)},
		{api.Lsh, k(1, 2), One(0), k(1, 2)},
		{api.Lsh, k(1, 2), One(62), k(1<<62, half)},
		{api.Lsh, k(1, 2), One(63), One(half)},
		{api.Lsh, k(1, 2), One(64), k(1, 2)},
		{api.Lsh, k(1, 2), One(most), One(half)},
		{api.Lsh, nothing, One(8), k(0, most-255)},
		{api.Lsh, k(1, 2), k(4, most-63), k(16, 32)}, // the lowest 6 bits alone count
		{api.Lsh, k(1, 2), k(4, 32), nothing},
		{api.Lsh, k(1, 0), k(4, 32), nothing},
		{api.Lsh, One(0), k(0, 1), nothing}, // no word on a that is just 0
		{api.Rsh, k(16, 32), One(4), k(1, 2)},
		{api.Rsh, k(16, 32), One(5), k(0, 1)},
		{api.Rsh, k(half, 1<<62), One(63), One(1)},
		{api.Rsh, k(0, half), One(1), k(0, 1<<62)},
		{api.Rsh, nothing, One(60), k(0, 15)},
		{api.Rsh, k(16, 32), k(4, most-63), k(1, 2)},
		{api.Rsh, k(16, 32), k(0, 1), nothing},
		{api.Arsh, k(0, half), One(1), k(0, 3<<62)},
		{api.Arsh, k(half, 16), One(4), k(0xF8<<56, 1)},
		{api.Arsh, k(1<<62, 16), One(4), k(1<<58, 1)},
		{api.Arsh, k(0, half), One(63), nothing},
		{api.Arsh, k(half, 1), One(127), One(most)},
		{api.Arsh, k(half, 1), k(63, 1<<6), One(most)},
		{api.Arsh, k(half, 1), k(31, 32), nothing},
		{api.Mul, k(0, 1), One(3), nothing},
		{api.Mul, nothing, One(0), nothing}, // no word on a factor that is just 0
		{api.Mul, One(5), One(3), One(15)},
		{api.Div, k(6, 1), One(3), nothing},
		{api.Div, nothing, One(0), nothing},
		{api.Div, One(7), One(0), One(0)},
		{api.Div, One(17), One(5), One(3)},
		{api.Mod, k(6, 1), One(4), nothing},
		{api.Mod, One(7), One(0), One(7)},
		{api.Mod, One(17), One(5), One(2)},
	} {
		if got := Do(c.op, 64, c.a, c.b); got != c.want {
			t.Errorf("Do(%d, 64, %x, %x) = %x, not %x", c.op, c.a, c.b, got, c.want)
		}
	}
}

func TestDoOfTheLesserWidthByHand(t *testing.T) {
	const top = uint64(1 << 31) // the sign
	low := k(0, low32)
	for _, c := range []struct {
		op         int8
		a, b, want api.Known
	}{
		{api.Mov, nothing, nothing, low},
		{api.Mov, nothing, k(5<<32|8, 1<<40|7), k(8, 7)},
		{api.And, nothing, One(most), low},
		{api.Or, nothing, One(7), k(7, low32-7)},
		{api.Or, One(0), k(half, 1), k(0, 1)},
		{api.Xor, k(1, half), One(3 << 40), One(1)},
		{api.Add, k(1<<32, 1<<33), k(1, 1<<40), One(1)}, // both are single once they are cut
		{api.Add, k(low32-1, 1), One(1), low},           // 2^32 - 1 or 0
		{api.Add, k(0, top), One(top), k(0, top)},
		{api.Add, k(8, 1<<32|1), One(1), k(8, 3)}, // what a does not know above its width does not matter
		{api.Sub, One(0), k(0, 1), low},
		{api.Sub, k(0, half|top), One(1), k(low32>>1, top)},
		{api.Neg, One(1), nothing, One(low32)},
		{api.Neg, k(1, 1<<32), nothing, One(low32)},
		{api.Neg, k(2, 1), One(0), k(low32-3, 3)},
		{api.Lsh, k(1, 2), One(30), k(1<<30, 1<<31)},
		{api.Lsh, k(1, 2), One(31), One(top)},
		{api.Lsh, k(1, 2), One(36), k(16, 32)},
		{api.Lsh, k(1, 2), k(4, most-31), k(16, 32)}, // the lowest 5 bits alone count
		{api.Lsh, k(1, 2), k(4, 16), low},
		{api.Rsh, k(1<<36, 1<<33), One(4), One(0)}, // cut ahead of it
		{api.Rsh, k(0, top), One(31), k(0, 1)},
		{api.Rsh, k(16, 32), k(4, 32), k(1, 2)},
		{api.Rsh, k(16, 32), k(4, 16), low},
		{api.Arsh, k(top, 1), One(1), One(3 << 30)},
		{api.Arsh, k(0, top), One(4), k(0, 0xF8<<24)},
		{api.Arsh, k(half, 16), One(4), k(0, 1)}, // the sign of the other width
		{api.Arsh, k(top, 16), k(4, 32), k(0xF8<<24, 1)},
		{api.Mul, k(0, 1), One(3), low},
		{api.Mul, k(5, 1<<32), k(3, 1<<63), One(15)},
		{api.Mul, k(1<<31, 1<<32), One(2), One(0)},
		{api.Div, k(7, 1<<32), One(1 << 32), One(0)}, // a divisor that is 0 once it is cut
		{api.Div, k(7, 1), One(2), nothing},          // not valid
		{api.Div, k(6, 1), One(2), low},
		{api.Mod, k(7, 1<<32), One(1 << 32), One(7)},
		{api.Mod, k(6, 1), One(2), low},
	} {
		if got := Do(c.op, 32, c.a, c.b); got != c.want {
			t.Errorf("Do(%d, 32, %x, %x) = %x, not %x", c.op, c.a, c.b, got, c.want)
		}
	}
}

func TestDoWithWhatIsNone(t *testing.T) {
	eachByte(func(op int8) {
		eachByte(func(w int8) {
			may := op >= 0 && op <= 12 && (w == 32 || w == 64)
			if got := Do(op, w, One(6), One(3)); (got != nothing) != may {
				t.Errorf("Do(%d, %d, 6, 3) = %x", op, w, got)
			}
			if got := Do(op, w, k(0, 5), k(8, 4)); !may && got != nothing {
				t.Errorf("Do(%d, %d) of what is not single = %x", op, w, got)
			}
		})
	})
}

// P8.1 and P8.2, by the document's words one bit after the other

func TestAgainstPlainOne(t *testing.T) {
	s := stream(3)
	for range 20000 {
		x, v := s.bitsAnyhow(), s.word()
		if s.below(3) == 0 {
			v = x.Val | v&x.Mask
		}
		p := plainOf(x)
		if May(x) != p.valid() || Has(x, v) != p.contains(v) {
			t.Fatalf("May(%x) = %t, Has of %x = %t", x, May(x), v, Has(x, v))
		}
		if n, ok := Single(x); ok != (p.valid() && p.knows(64)) || ok && n != x.Val || !ok && n != 0 {
			t.Fatalf("Single(%x) = %x, %t", x, n, ok)
		}
		for _, w := range []int8{0, 1, 7, 8, 16, 31, 32, 33, 64, -8, 127} {
			if got, want := Cut(x, w), plainCut(p, w).word(); got != want {
				t.Fatalf("Cut(%x, %d) = %x, not %x", x, w, got, want)
			}
		}
	}
}

func TestAgainstPlainTwo(t *testing.T) {
	s := stream(5)
	for range 40000 {
		a, b := s.bitsAnyhow(), s.bitsAnyhow()
		switch s.below(4) {
		case 0: // b knows less than a
			b = k(a.Val&b.Val&^b.Mask, a.Mask|b.Mask|(a.Val&^b.Val))
		case 1: // they know the same but for a few bits
			b = k(a.Val&^s.sparse(3), a.Mask)
		}
		p, q := plainOf(a), plainOf(b)
		if got, want := Join(a, b), plainJoin(p, q).word(); got != want {
			t.Fatalf("Join(%x, %x) = %x, not %x", a, b, got, want)
		}
		want, may := plainMeet(p, q)
		if got, ok := Meet(a, b); got != want.word() || ok != may {
			t.Fatalf("Meet(%x, %x) = %x, %t, not %x, %t", a, b, got, ok, want.word(), may)
		}
		if got := In(a, b); got != plainIn(p, q) {
			t.Fatalf("In(%x, %x) = %t", a, b, got)
		}
		if got, want := Common(a.Val, b.Val), plainCommon(a.Val, b.Val).word(); got != want {
			t.Fatalf("Common(%x, %x) = %x, not %x", a.Val, b.Val, got, want)
		}
	}
}

func TestAgainstPlainDo(t *testing.T) {
	s := stream(7)
	for range 4000 {
		a, b := s.bitsAnyhow(), s.bitsAnyhow()
		p, q := plainOf(a), plainOf(b)
		for op := api.Add - 1; op <= api.Arsh+1; op++ {
			for _, w := range []int8{16, 32, 64} {
				if got, want := Do(op, w, a, b), plainDo(op, w, p, q).word(); got != want {
					t.Fatalf("Do(%d, %d, %x, %x) = %x, not %x", op, w, a, b, got, want)
				}
			}
		}
	}
}

// P8.3

func TestJoinAndMeetKeepTheirNumbers(t *testing.T) {
	s := stream(11)
	for range 4000 {
		a, b := s.bitsOfFew(5), s.bitsOfFew(5)
		if s.below(2) == 0 {
			b.Val = a.Val &^ b.Mask
		}
		join := Join(a, b)
		meet, ok := Meet(a, b)
		for _, v := range append(members(a), members(b)...) {
			if !Has(join, v) {
				t.Fatalf("Join(%x, %x) = %x is without %x", a, b, join, v)
			}
			if both := Has(a, v) && Has(b, v); both != (ok && Has(meet, v)) {
				t.Fatalf("Meet(%x, %x) = %x, %t, on %x", a, b, meet, ok, v)
			}
		}
		if ok && !(In(meet, a) && In(meet, b)) || !ok && meet != nothing || !In(a, join) || !In(b, join) {
			t.Fatalf("%x and %x: Join %x, Meet %x", a, b, join, meet)
		}
	}
}

func TestCommonKeepsItsNumbers(t *testing.T) {
	for _, lo := range edges {
		all := One(lo)
		for n := range uint64(70) {
			if lo+n < lo {
				break
			}
			all = Join(all, One(lo+n))
			if got := Common(lo, lo+n); got != all {
				t.Errorf("Common(%x, %x) = %x, all numbers have in common %x", lo, lo+n, got, all)
			}
		}
	}
	s := stream(13)
	for range 20000 {
		lo, hi := s.word(), s.word()
		if lo > hi {
			lo, hi = hi, lo
		}
		v := lo
		if n := hi - lo; n < most {
			v += s.next() % (n + 1)
		}
		if c := Common(lo, hi); !Has(c, lo) || !Has(c, hi) || !Has(c, v) {
			t.Fatalf("Common(%x, %x) = %x is without %x, %x or %x", lo, hi, c, lo, hi, v)
		}
	}
}

// exact tells whether Do knows all that can be known of an operation's results.
func exact(op, w int8, b api.Known) bool {
	switch op {
	case api.Mul, api.Div, api.Mod:
		return false
	case api.Lsh, api.Rsh, api.Arsh:
		return b.Mask&uint64(w-1) == 0
	}
	return true
}

func TestDoKeepsItsResults(t *testing.T) {
	s := stream(17)
	for range 1500 {
		a, b := s.bitsOfFew(4), s.bitsOfFew(4)
		for op := api.Add; op <= api.Arsh; op++ {
			for _, w := range []int8{32, 64} {
				keepsResults(t, op, w, a, b)
			}
		}
	}
}

// keepsResults goes through all numbers of a and of b.
func keepsResults(t *testing.T, op, w int8, a, b api.Known) {
	t.Helper()
	got := Do(op, w, a, b)
	first, _ := bits.Do(op, w, a.Val, b.Val)
	all := One(first)
	for _, x := range members(a) {
		for _, y := range members(b) {
			v, e := bits.Do(op, w, x, y)
			if e != api.OK || !Has(got, v) {
				t.Fatalf("Do(%d, %d, %x, %x) = %x is without %x, of %x and %x: %v", op, w, a, b, got, v, x, y, e)
			}
			all = Join(all, One(v))
		}
	}
	if exact(op, w, b) && got != all {
		t.Fatalf("Do(%d, %d, %x, %x) = %x, all results have in common %x", op, w, a, b, got, all)
	}
	if !In(got, Cut(All(), w)) {
		t.Fatalf("Do(%d, %d, %x, %x) = %x is not cut", op, w, a, b, got)
	}
}

func TestDoKeepsResultsOfMany(t *testing.T) {
	s := stream(19)
	for range 20000 {
		a, b := s.bitsAnyhow(), s.bitsAnyhow()
		if !May(a) || !May(b) {
			continue
		}
		x, y := a.Val|s.next()&a.Mask, b.Val|s.next()&b.Mask
		for op := api.Add; op <= api.Arsh; op++ {
			for _, w := range []int8{32, 64} {
				v, _ := bits.Do(op, w, x, y)
				if got := Do(op, w, a, b); !Has(got, v) {
					t.Fatalf("Do(%d, %d, %x, %x) = %x is without %x, of %x and %x", op, w, a, b, got, v, x, y)
				}
			}
		}
	}
}
