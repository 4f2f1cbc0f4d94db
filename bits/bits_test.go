package bits

import (
	"bytes"
	"math"
	"math/big"
	"slices"
	"testing"

	"lathe/api"
)

// edges are the words at which widths, signs and carries turn.
var edges = []uint64{
	0, 1, 2, 3, 5, 7, 8, 31, 32, 33, 63, 64, 65, 0x7E, 0x7F, 0x80, 0x81, 0xFE, 0xFF, 0x100, 0x101,
	0x7FFF, 0x8000, 0x8001, 0xFFFF, 0x10000, 0x10001,
	0x7FFFFFFF, 0x80000000, 0x80000001, 0xDEADBEEF, 0xFFFFFFFE, 0xFFFFFFFF, 0x100000000, 0x100000001, 0x100000005, 0x180000000,
	0x0123456789ABCDEF, 0xFEDCBA9876543210, 0x5555555555555555, 0xAAAAAAAAAAAAAAAA,
	1<<63 - 1, 1 << 63, 1<<63 + 1, math.MaxUint64 - 1, math.MaxUint64,
}

// eachByte calls f with every int8.
func eachByte(f func(v int8)) {
	for v := math.MinInt8; v <= math.MaxInt8; v++ {
		f(int8(v))
	}
}

// eachPair calls f with both widths that compute and all pairs of edges.
func eachPair(f func(w int8, a, b uint64)) {
	for _, w := range []int8{32, 64} {
		for _, a := range edges {
			for _, b := range edges {
				f(w, a, b)
			}
		}
	}
}

// low tells v's lowest w bits one by one, without what is tested.
func low(v uint64, w int8) uint64 {
	var r uint64
	for i := range uint(w) {
		if v>>i%2 == 1 {
			r += 1 << i
		}
	}
	return r
}

// signed tells v's lowest w bits as a number with a sign.
func signed(v uint64, w int8) *big.Int {
	n := new(big.Int).SetUint64(low(v, w))
	if n.Bit(int(w)-1) == 1 {
		n.Sub(n, power(w))
	}
	return n
}

func unsigned(v uint64, w int8) *big.Int {
	return new(big.Int).SetUint64(low(v, w))
}

func power(w int8) *big.Int {
	return new(big.Int).Lsh(big.NewInt(1), uint(w))
}

// word tells n modulo 2^w.
func word(n *big.Int, w int8) uint64 {
	return new(big.Int).Mod(n, power(w)).Uint64() // Mod's result is never negative
}

// want works an operation out with unbounded numbers.
func want(op, w int8, a, b uint64) uint64 {
	x, y, r := unsigned(a, w), unsigned(b, w), new(big.Int)
	count := uint(low(b, w) % uint64(w))
	switch op {
	case api.Add:
		r.Add(x, y)
	case api.Sub:
		r.Sub(x, y)
	case api.Mul:
		r.Mul(x, y)
	case api.Div:
		if y.Sign() != 0 {
			r.Quo(x, y)
		}
	case api.Mod:
		r.Set(x)
		if y.Sign() != 0 {
			r.Rem(x, y)
		}
	case api.Or:
		r.Or(x, y)
	case api.And:
		r.And(x, y)
	case api.Xor:
		r.Xor(x, y)
	case api.Lsh:
		r.Lsh(x, count)
	case api.Rsh:
		r.Rsh(x, count)
	case api.Arsh:
		r.Rsh(signed(a, w), count) // rounds down, as copies of the sign do
	case api.Neg:
		r.Neg(x)
	case api.Mov:
		r.Set(y)
	}
	return word(r, w)
}

// wantHolds works a condition out with unbounded numbers.
func wantHolds(cc, w int8, a, b uint64) bool {
	order := unsigned(a, w).Cmp(unsigned(b, w))
	signedOrder := signed(a, w).Cmp(signed(b, w))
	switch cc {
	case api.Eq:
		return order == 0
	case api.Ne:
		return order != 0
	case api.Gt:
		return order > 0
	case api.Ge:
		return order >= 0
	case api.Lt:
		return order < 0
	case api.Le:
		return order <= 0
	case api.Sgt:
		return signedOrder > 0
	case api.Sge:
		return signedOrder >= 0
	case api.Slt:
		return signedOrder < 0
	case api.Sle:
		return signedOrder <= 0
	}
	return new(big.Int).And(unsigned(a, w), unsigned(b, w)).Sign() != 0
}

// must is Do where it may not fail.
func must(t *testing.T, op, w int8, a, b uint64) uint64 {
	t.Helper()
	v, e := Do(op, w, a, b)
	if e != api.OK {
		t.Fatalf("Do(%d, %d, %#x, %#x): %v", op, w, a, b, e)
	}
	return v
}

// P1.1

func TestWidthIsOneOfFour(t *testing.T) {
	eachByte(func(w int8) {
		if got := Width(w); got != slices.Contains([]int8{8, 16, 32, 64}, w) {
			t.Errorf("Width(%d) = %t", w, got)
		}
	})
}

func TestCutAndSignByHand(t *testing.T) {
	for _, c := range []struct {
		v         uint64
		w         int8
		cut, sign uint64
	}{
		{0x1FF, 8, 0xFF, math.MaxUint64},
		{0x17F, 8, 0x7F, 0x7F},
		{0x80, 8, 0x80, 0xFFFFFFFFFFFFFF80},
		{0x12348000, 16, 0x8000, 0xFFFFFFFFFFFF8000},
		{0x12347FFF, 16, 0x7FFF, 0x7FFF},
		{0xFFFFFFFF80000000, 32, 0x80000000, 0xFFFFFFFF80000000},
		{0xFFFFFFFF7FFFFFFF, 32, 0x7FFFFFFF, 0x7FFFFFFF},
		{1 << 63, 64, 1 << 63, 1 << 63},
		{0, 8, 0, 0},
	} {
		if got := Cut(c.v, c.w); got != c.cut {
			t.Errorf("Cut(%#x, %d) = %#x, not %#x", c.v, c.w, got, c.cut)
		}
		if got := Sign(c.v, c.w); got != c.sign {
			t.Errorf("Sign(%#x, %d) = %#x, not %#x", c.v, c.w, got, c.sign)
		}
	}
}

func TestCutAndSignOfAllWidths(t *testing.T) {
	for _, v := range edges {
		eachByte(func(w int8) {
			cut, sign := v, v
			if Width(w) {
				cut, sign = low(v, w), word(signed(v, w), 64)
			}
			if got := Cut(v, w); got != cut {
				t.Errorf("Cut(%#x, %d) = %#x, not %#x", v, w, got, cut)
			}
			if got := Sign(v, w); got != sign {
				t.Errorf("Sign(%#x, %d) = %#x, not %#x", v, w, got, sign)
			}
		})
	}
}

// P1.2

func TestDoByHand(t *testing.T) {
	for _, c := range []struct {
		op, w   int8
		a, b, v uint64
	}{
		{api.Add, 32, 0xFFFFFFFF, 2, 1},
		{api.Add, 64, math.MaxUint64, 2, 1},
		{api.Sub, 32, 3, 5, 0xFFFFFFFE},
		{api.Sub, 64, 3, 5, 0xFFFFFFFFFFFFFFFE},
		{api.Mul, 32, 0x80000001, 2, 2},
		{api.Mul, 64, 1<<63 + 1, 2, 2},
		{api.Div, 64, 5, 0, 0},
		{api.Div, 32, 5, 1 << 32, 0}, // a divisor that is 0 once it is cut
		{api.Div, 64, 17, 5, 3},
		{api.Div, 64, math.MaxUint64, 2, 1<<63 - 1}, // unsigned
		{api.Mod, 64, 5, 0, 5},
		{api.Mod, 32, 1<<32 + 5, 1 << 32, 5},
		{api.Mod, 64, 17, 5, 2},
		{api.Mod, 64, math.MaxUint64, 16, 15},
		{api.Or, 32, 0x1_0000_000C, 0xA, 0xE},
		{api.And, 64, 0xC, 0xA, 8},
		{api.Xor, 64, 0xC, 0xA, 6},
		{api.Lsh, 32, 1, 31, 0x80000000},
		{api.Lsh, 32, 1, 32, 1},
		{api.Lsh, 32, 1, 33, 2},
		{api.Lsh, 32, 3, 31, 0x80000000},
		{api.Lsh, 64, 1, 63, 1 << 63},
		{api.Lsh, 64, 1, 64, 1},
		{api.Lsh, 64, 1, math.MaxUint64, 1 << 63},
		{api.Rsh, 32, 0xF_8000_0000, 4, 0x08000000},
		{api.Rsh, 32, 8, 32, 8},
		{api.Rsh, 64, 1 << 63, 63, 1},
		{api.Rsh, 64, 8, 66, 2},
		{api.Arsh, 32, 0x80000000, 4, 0xF8000000},
		{api.Arsh, 32, 0x40000000, 4, 0x04000000},
		{api.Arsh, 32, 0x80000000, 36, 0xF8000000},
		{api.Arsh, 32, 0x80000000, 31, 0xFFFFFFFF},
		{api.Arsh, 64, 1 << 63, 63, math.MaxUint64},
		{api.Arsh, 64, 1 << 63, 64, 1 << 63},
		{api.Neg, 32, 1, 77, 0xFFFFFFFF},
		{api.Neg, 64, 1, 77, math.MaxUint64},
		{api.Neg, 64, 0, 77, 0},
		{api.Neg, 64, 1 << 63, 77, 1 << 63},
		{api.Mov, 32, 7, 0x1_0000_0003, 3},
		{api.Mov, 64, 7, 0x1_0000_0003, 0x1_0000_0003},
	} {
		if v := must(t, c.op, c.w, c.a, c.b); v != c.v {
			t.Errorf("Do(%d, %d, %#x, %#x) = %#x, not %#x", c.op, c.w, c.a, c.b, v, c.v)
		}
	}
}

func TestDoAtAllEdges(t *testing.T) {
	eachPair(func(w int8, a, b uint64) {
		for op := api.Add; op <= api.Arsh; op++ {
			if v, r := must(t, op, w, a, b), want(op, w, a, b); v != r {
				t.Errorf("Do(%d, %d, %#x, %#x) = %#x, not %#x", op, w, a, b, v, r)
			}
		}
	})
}

func TestDoWithWhatIsNone(t *testing.T) {
	eachByte(func(op int8) {
		eachByte(func(w int8) {
			v, e := Do(op, w, 6, 3)
			may := op >= 0 && op <= 12 && (w == 32 || w == 64)
			if may && e != api.OK || !may && (v != 0 || e != api.ErrArg) {
				t.Errorf("Do(%d, %d, 6, 3) = %d, %v", op, w, v, e)
			}
		})
	})
}

func TestHoldsByHand(t *testing.T) {
	const equal = 1<<api.Eq | 1<<api.Ge | 1<<api.Le | 1<<api.Sge | 1<<api.Sle
	const below = 1<<api.Ne | 1<<api.Lt | 1<<api.Le
	const above = 1<<api.Ne | 1<<api.Gt | 1<<api.Ge
	const signedBelow = 1<<api.Slt | 1<<api.Sle
	const signedAbove = 1<<api.Sgt | 1<<api.Sge
	const common = 1 << api.Set
	for _, c := range []struct {
		w     int8
		a, b  uint64
		holds int // bit by bit, by condition
	}{
		{64, 5, 5, equal | common},
		{64, 0, 0, equal},
		{64, 1, 2, below | signedBelow},
		{64, 1, math.MaxUint64, below | signedAbove | common},
		{32, 1, 0xFFFFFFFF, below | signedAbove | common},
		{64, 1, 0xFFFFFFFF, below | signedBelow | common},
		{32, 0x80000000, 1, above | signedBelow},
		{64, 0x80000000, 1, above | signedAbove},
		{32, 0x1_0000_0002, 2, equal | common},
		{32, 0x1_0000_0000, 0x1_0000_0000, equal}, // the common bit is cut off
	} {
		for cc := api.Eq; cc <= api.Set; cc++ {
			yes, e := Holds(cc, c.w, c.a, c.b)
			if e != api.OK || yes != (c.holds>>cc&1 == 1) {
				t.Errorf("Holds(%d, %d, %#x, %#x) = %t, %v", cc, c.w, c.a, c.b, yes, e)
			}
		}
	}
}

func TestHoldsAtAllEdges(t *testing.T) {
	eachPair(func(w int8, a, b uint64) {
		for cc := api.Eq; cc <= api.Set; cc++ {
			yes, e := Holds(cc, w, a, b)
			if e != api.OK || yes != wantHolds(cc, w, a, b) {
				t.Errorf("Holds(%d, %d, %#x, %#x) = %t, %v", cc, w, a, b, yes, e)
			}
		}
	})
}

func TestHoldsWithWhatIsNone(t *testing.T) {
	for _, pair := range [][2]uint64{{1, 1}, {1, 2}, {2, 1}} { // each condition holds for one of them
		eachByte(func(cc int8) {
			eachByte(func(w int8) {
				yes, e := Holds(cc, w, pair[0], pair[1])
				may := cc >= 0 && cc <= 10 && (w == 32 || w == 64)
				if may && e != api.OK || !may && (yes || e != api.ErrArg) {
					t.Errorf("Holds(%d, %d, %d, %d) = %t, %v", cc, w, pair[0], pair[1], yes, e)
				}
			})
		})
	}
}

func TestNotOfAllConditions(t *testing.T) {
	pairs := [][2]int8{{api.Eq, api.Ne}, {api.Gt, api.Le}, {api.Ge, api.Lt}, {api.Sgt, api.Sle}, {api.Sge, api.Slt}}
	opposite := map[int8]int8{}
	for _, p := range pairs {
		opposite[p[0]], opposite[p[1]] = p[1], p[0]
	}
	eachByte(func(cc int8) { // Set, and what is no condition, have none
		want, may := opposite[cc]
		if n, ok := Not(cc); n != want || ok != may {
			t.Errorf("Not(%d) = %d, %t, not %d, %t", cc, n, ok, want, may)
		}
	})
}

// P1.3

func TestGetTakesEightBytesAtMost(t *testing.T) {
	for _, c := range []struct {
		b []byte
		v uint64
	}{
		{nil, 0},
		{[]byte{}, 0},
		{[]byte{0xFF}, 0xFF},
		{[]byte{1, 2, 3}, 0x030201},
		{[]byte{0, 0, 0x80}, 0x800000},
		{[]byte{1, 2, 3, 4, 5, 6, 7}, 0x07060504030201},
		{[]byte{1, 2, 3, 4, 5, 6, 7, 0xF8}, 0xF807060504030201},
		{[]byte{1, 2, 3, 4, 5, 6, 7, 0xF8, 9}, 0xF807060504030201},
		{bytes.Repeat([]byte{0xFF}, 1000), math.MaxUint64},
	} {
		if v := Get(c.b); v != c.v {
			t.Errorf("Get(%d) = %#x, not %#x", c.b, v, c.v)
		}
	}
}

func TestPutGivesNoughtToEightBytes(t *testing.T) {
	const v = 0xF807060504030201
	all := []byte{1, 2, 3, 4, 5, 6, 7, 0xF8}
	for _, c := range []struct{ n, length int }{
		{math.MinInt, 0}, {-1, 0}, {0, 0}, {1, 1}, {2, 2}, {3, 3}, {4, 4}, {5, 5}, {6, 6}, {7, 7}, {8, 8}, {9, 8}, {math.MaxInt, 8},
	} {
		if b := Put(v, c.n); !bytes.Equal(b, all[:c.length]) {
			t.Errorf("Put(%#x, %d) = %d, not %d", uint64(v), c.n, b, all[:c.length])
		}
	}
	if b := Put(5, 4); !bytes.Equal(b, []byte{5, 0, 0, 0}) {
		t.Errorf("Put(5, 4) = %d", b)
	}
}

func TestGetLeavesItsBytesAlone(t *testing.T) {
	whole := []byte{1, 2, 3, 4, 5, 6, 7, 8, 9, 10}
	if v := Get(whole[:3]); v != 0x030201 {
		t.Errorf("Get reads behind the length: %#x", v)
	}
	if !bytes.Equal(whole, []byte{1, 2, 3, 4, 5, 6, 7, 8, 9, 10}) {
		t.Errorf("Get wrote to its argument: %d", whole)
	}
}

func TestPutGivesNewMemory(t *testing.T) {
	first, second := Put(0x0201, 8), Put(0x0201, 8)
	first[0] = 99
	if second[0] != 1 || Put(0x0201, 8)[0] != 1 {
		t.Error("two results of Put share memory")
	}
}

// P1.4

func TestSubUndoesAdd(t *testing.T) {
	eachPair(func(w int8, a, b uint64) {
		sum := must(t, api.Add, w, a, b)
		if v := must(t, api.Sub, w, sum, b); v != low(a, w) {
			t.Errorf("width %d: %#x + %#x - %#x = %#x", w, a, b, b, v)
		}
	})
}

func TestQuotientAndRemainderMakeTheNumber(t *testing.T) {
	eachPair(func(w int8, a, b uint64) {
		quotient, remainder := must(t, api.Div, w, a, b), must(t, api.Mod, w, a, b)
		product := must(t, api.Mul, w, quotient, b)
		if v := must(t, api.Add, w, product, remainder); v != low(a, w) {
			t.Errorf("width %d: %#x / %#x = %#x, rest %#x", w, a, b, quotient, remainder)
		}
		if low(b, w) != 0 && remainder >= low(b, w) {
			t.Errorf("width %d: %#x modulo %#x is %#x", w, a, b, remainder)
		}
	})
}

func TestOppositesHoldInTurn(t *testing.T) {
	eachPair(func(w int8, a, b uint64) {
		for cc := api.Eq; cc < api.Set; cc++ {
			n, ok := Not(cc)
			yes, e := Holds(cc, w, a, b)
			other, f := Holds(n, w, a, b)
			if !ok || e != api.OK || f != api.OK || yes == other {
				t.Errorf("width %d, %#x and %#x: %d is %t, its opposite %d is %t", w, a, b, cc, yes, n, other)
			}
		}
	})
}

func TestGetUndoesPut(t *testing.T) {
	for _, v := range edges {
		for n := -1; n <= 9; n++ {
			kept := v
			if n < 8 {
				kept = low(v, int8(8*max(n, 0)))
			}
			if got := Get(Put(v, n)); got != kept {
				t.Errorf("Get(Put(%#x, %d)) = %#x, not %#x", v, n, got, kept)
			}
		}
	}
}
