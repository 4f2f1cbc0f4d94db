package flags

import (
	"math"
	"math/big"
	"slices"
	"testing"

	"lathe/api"
	"lathe/bits"
)

// words are those at which signs and carries of both widths turn, and some with bits above the width 32.
func words() []uint64 {
	all := []uint64{0x0123456789ABCDEF, 0xFEDCBA9876543210, 0x5555555555555555, 0xAAAAAAAAAAAAAAAA, 0xDEADBEEF}
	for _, bit := range []uint{0, 1, 2, 7, 8, 15, 16, 30, 31, 32, 33, 40, 62, 63} {
		for off := range uint64(5) {
			all = append(all, 1<<bit+off-2, -(1<<bit)+off-2)
		}
	}
	slices.Sort(all)
	return slices.Compact(all)
}

// eachPair calls f with both widths and all pairs of words.
func eachPair(f func(w int8, a, b uint64)) {
	all := words()
	for _, w := range []int8{32, 64} {
		for _, a := range all {
			for _, b := range all {
				f(w, a, b)
			}
		}
	}
}

// eachByte calls f with every int8.
func eachByte(f func(v int8)) {
	for v := math.MinInt8; v <= math.MaxInt8; v++ {
		f(int8(v))
	}
}

// eachFlags calls f with all flags, whether a call returns them or not.
func eachFlags(f func(x api.Flags)) {
	for i := range 32 {
		f(api.Flags{Known: i&1 != 0, C: i&2 != 0, Z: i&4 != 0, S: i&8 != 0, O: i&16 != 0})
	}
}

// must tells flags that come without an error.
func must(t *testing.T, f api.Flags, e api.Errno) api.Flags {
	t.Helper()
	if e != api.OK || !f.Known {
		t.Fatalf("flags %v, %v", f, e)
	}
	return f
}

// P14.1

func TestFlagsByHand(t *testing.T) {
	for _, c := range []struct {
		w        int8
		a, b     uint64
		add, sub string
	}{
		{64, 5, 7, "", "CS"},
		{64, 7, 5, "", ""},
		{64, 0, 0, "Z", "Z"},
		{64, 5, 5, "", "Z"},
		{64, 0, 1, "", "CS"},
		{64, 1<<63 - 1, math.MaxUint64, "C", "CSO"}, // the greatest, and -1
		{64, 1<<63 - 1, 1, "SO", ""},
		{64, 1 << 63, 1, "S", "O"},
		{64, 1 << 63, 1 << 63, "CZO", "Z"},
		{64, 0, 1 << 63, "S", "CSO"}, // the least one is its own negation
		{64, math.MaxUint64, 1, "CZ", "S"},
		{64, math.MaxUint64, math.MaxUint64, "CS", "Z"},
		{64, 1<<32 - 1, 1, "", ""},
		{64, 1<<31 - 1, 1, "", ""},
		{32, 1<<32 - 1, 1, "CZ", "S"},
		{32, 1<<31 - 1, 1, "SO", ""},
		{32, 1<<31 - 1, 1<<32 - 1, "C", "CSO"},
		{32, 1 << 31, 1, "S", "O"},
		{32, 1 << 31, 1 << 31, "CZO", "Z"},
		{32, 0, 1 << 31, "S", "CSO"},
		{32, 1 << 32, 1 << 33, "Z", "Z"}, // cut, both are 0
		{32, 1<<32 + 5, 7, "", "CS"},
		{32, 7, 1<<32 + 5, "", ""},
		{32, 1 << 63, 1, "", "CS"},
	} {
		add, e := Add(c.w, c.a, c.b)
		if text(add) != c.add || e != api.OK {
			t.Errorf("Add(%d, %#x, %#x) = %q, %v, not %q", c.w, c.a, c.b, text(add), e, c.add)
		}
		sub, e := Sub(c.w, c.a, c.b)
		if text(sub) != c.sub || e != api.OK {
			t.Errorf("Sub(%d, %#x, %#x) = %q, %v, not %q", c.w, c.a, c.b, text(sub), e, c.sub)
		}
	}
}

func TestOfByHand(t *testing.T) {
	for _, c := range []struct {
		w    int8
		v    uint64
		want string
	}{
		{64, 0, "Z"},
		{64, 1, ""},
		{64, 1<<63 - 1, ""},
		{64, 1 << 63, "S"},
		{64, math.MaxUint64, "S"},
		{64, 1 << 31, ""},
		{64, 1 << 32, ""},
		{32, 0, "Z"},
		{32, 1<<31 - 1, ""},
		{32, 1 << 31, "S"},
		{32, 1<<32 - 1, "S"},
		{32, 1 << 32, "Z"},
		{32, 1<<63 + 1, ""},
	} {
		if f, e := Of(c.w, c.v); text(f) != c.want || e != api.OK {
			t.Errorf("Of(%d, %#x) = %q, %v, not %q", c.w, c.v, text(f), e, c.want)
		}
	}
}

func TestAddAndSubOfAllPairs(t *testing.T) {
	eachPair(func(w int8, a, b uint64) {
		add, e := Add(w, a, b)
		if want := plainAdd(w, a, b); text(add) != want || e != api.OK {
			t.Errorf("Add(%d, %#x, %#x) = %q, %v, not %q", w, a, b, text(add), e, want)
		}
		sub, e := Sub(w, a, b)
		if want := plainSub(w, a, b); text(sub) != want || e != api.OK {
			t.Errorf("Sub(%d, %#x, %#x) = %q, %v, not %q", w, a, b, text(sub), e, want)
		}
	})
}

func TestOfAllWords(t *testing.T) {
	for _, w := range []int8{32, 64} {
		for _, v := range words() {
			if f, e := Of(w, v); text(f) != plainOf(w, v) || e != api.OK {
				t.Errorf("Of(%d, %#x) = %q, %v, not %q", w, v, text(f), e, plainOf(w, v))
			}
		}
	}
}

func TestOverflowIsWhatNoSignedWordCanBe(t *testing.T) {
	eachPair(func(w int8, a, b uint64) {
		x, y := signed(a, w), signed(b, w)
		add, e := Add(w, a, b)
		if add = must(t, add, e); add.O != outside(new(big.Int).Add(x, y), w) {
			t.Errorf("Add(%d, %#x, %#x) has O %t", w, a, b, add.O)
		}
		sub, e := Sub(w, a, b)
		if sub = must(t, sub, e); sub.O != outside(new(big.Int).Sub(x, y), w) {
			t.Errorf("Sub(%d, %#x, %#x) has O %t", w, a, b, sub.O)
		}
	})
}

func TestWidthsThatAreNone(t *testing.T) {
	eachByte(func(w int8) {
		want := api.ErrArg
		if plainWidth(w) {
			want = api.OK
		}
		for _, v := range []uint64{0, 1, 1 << 31, 1 << 63, math.MaxUint64} {
			add, e := Add(w, v, 1)
			sub, f := Sub(w, v, 1)
			of, g := Of(w, v)
			for i, x := range []api.Flags{add, sub, of} {
				if x.Known != plainWidth(w) || !x.Known && x != (api.Flags{}) {
					t.Errorf("width %d, %#x, call %d: %v", w, v, i, x)
				}
			}
			if e != want || f != want || g != want {
				t.Errorf("width %d, %#x: %v, %v, %v, not %v", w, v, e, f, g, want)
			}
		}
	})
}

func TestNoneIsNotKnown(t *testing.T) {
	if f := None(); f != (api.Flags{}) {
		t.Errorf("None() = %v", f)
	}
}

// P14.2

func TestMayOfAllNumbers(t *testing.T) {
	eachByte(func(cc int8) {
		want := slices.Contains([]int8{2, 3, 4, 5, 6, 7, 12, 13, 14, 15}, cc)
		if May(cc) != want {
			t.Errorf("May(%d) = %t", cc, May(cc))
		}
	})
}

func TestNotOfAllNumbers(t *testing.T) {
	opposite := map[int8]int8{}
	for _, p := range plainOpposites {
		opposite[p[0]], opposite[p[1]] = p[1], p[0]
	}
	eachByte(func(cc int8) {
		want, may := opposite[cc]
		if n, ok := Not(cc); n != want || ok != may {
			t.Errorf("Not(%d) = %d, %t, not %d, %t", cc, n, ok, want, may)
		}
	})
}

func TestHoldsOfAllFlags(t *testing.T) {
	eachByte(func(cc int8) {
		eachFlags(func(f api.Flags) {
			where, may := plainConditions[cc]
			want, e := false, api.OK
			switch {
			case !may:
				e = api.ErrArg // also where the flags are not known
			case !f.Known:
				e = api.ErrFault // also where some are set that cannot be
			default:
				want = slices.Contains(where, text(f))
			}
			if got, g := Holds(cc, f); got != want || g != e {
				t.Errorf("Holds(%d, %v) = %t, %v, not %t, %v", cc, f, got, g, want, e)
			}
		})
	})
}

func TestHoldsByHand(t *testing.T) {
	for _, c := range []struct {
		cc   int8
		f    api.Flags
		want bool
		e    api.Errno
	}{
		{api.CcB, flagsOf("C"), true, api.OK},
		{api.CcB, flagsOf("ZSO"), false, api.OK},
		{api.CcAe, flagsOf(""), true, api.OK},
		{api.CcBe, flagsOf("Z"), true, api.OK},
		{api.CcA, flagsOf("SO"), true, api.OK},
		{api.CcA, flagsOf("Z"), false, api.OK},
		{api.CcL, flagsOf("O"), true, api.OK},
		{api.CcGe, flagsOf("SO"), true, api.OK},
		{api.CcLe, flagsOf("ZSO"), true, api.OK},
		{api.CcG, flagsOf("SO"), true, api.OK},
		{api.CcG, flagsOf("Z"), false, api.OK},
		{api.CcE, None(), false, api.ErrFault},
		{api.CcNe, None(), false, api.ErrFault},
		{api.CcB, api.Flags{C: true}, false, api.ErrFault},
		{0, flagsOf("O"), false, api.ErrArg}, // x86-64 has more conditions
		{8, flagsOf("S"), false, api.ErrArg},
		{11, None(), false, api.ErrArg},
		{16, flagsOf(""), false, api.ErrArg},
		{-1, flagsOf(""), false, api.ErrArg},
		{math.MinInt8, None(), false, api.ErrArg},
		{math.MaxInt8, None(), false, api.ErrArg},
	} {
		if got, e := Holds(c.cc, c.f); got != c.want || e != c.e {
			t.Errorf("Holds(%d, %q) = %t, %v, not %t, %v", c.cc, text(c.f), got, e, c.want, c.e)
		}
	}
}

// P14.3

func TestConditionsAfterSub(t *testing.T) {
	eachPair(func(w int8, a, b uint64) {
		f, e := Sub(w, a, b)
		f = must(t, f, e)
		for cc, source := range sourceConditions {
			want, e := bits.Holds(source, w, a, b)
			if got, g := Holds(cc, f); got != want || e != api.OK || g != api.OK {
				t.Errorf("width %d, %#x and %#x: %d is %t, %v, not %t, %v", w, a, b, cc, got, g, want, e)
			}
		}
	})
}

func TestConditionsAfterSubByHand(t *testing.T) {
	for _, c := range []struct {
		w     int8
		a, b  uint64
		holds []int8
	}{
		{64, 5, 7, []int8{api.CcB, api.CcNe, api.CcBe, api.CcL, api.CcLe}},
		{64, 1<<63 - 1, 1 << 63, []int8{api.CcB, api.CcNe, api.CcBe, api.CcGe, api.CcG}},
		{64, 1 << 63, 1, []int8{api.CcAe, api.CcNe, api.CcA, api.CcL, api.CcLe}}, // O is set
		{64, 7, 7, []int8{api.CcAe, api.CcE, api.CcBe, api.CcGe, api.CcLe}},
		{32, 1 << 31, 1, []int8{api.CcAe, api.CcNe, api.CcA, api.CcL, api.CcLe}},
		{64, 1 << 31, 1, []int8{api.CcAe, api.CcNe, api.CcA, api.CcGe, api.CcG}},
		{32, 1<<32 + 7, 7, []int8{api.CcAe, api.CcE, api.CcBe, api.CcGe, api.CcLe}},
	} {
		f, e := Sub(c.w, c.a, c.b)
		f = must(t, f, e)
		for cc := range plainConditions {
			if got, e := Holds(cc, f); got != slices.Contains(c.holds, cc) || e != api.OK {
				t.Errorf("width %d, %#x and %#x: %d is %t, %v", c.w, c.a, c.b, cc, got, e)
			}
		}
	}
}

func TestOppositesHoldInTurn(t *testing.T) {
	for cc := range plainConditions {
		eachFlags(func(f api.Flags) {
			n, ok := Not(cc)
			if back, _ := Not(n); !ok || back != cc {
				t.Errorf("Not(Not(%d)) = %d, %t", cc, back, ok)
			}
			got, e := Holds(cc, f)
			other, g := Holds(n, f)
			if f.Known && (got == other || e != api.OK || g != api.OK) {
				t.Errorf("%v: %d is %t, %v, its opposite %d is %t, %v", f, cc, got, e, n, other, g)
			}
		})
	}
}
