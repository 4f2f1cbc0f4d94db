package state

import (
	"math"
	"testing"

	"lathe/api"
	"lathe/bits"
	"lathe/value"
)

// at tells the first state with the type t at one of its places.
func at(place int, t api.Type) api.State { return put(First(), place, t) }

// mayStand tells whether a valid type may be at a place: no slot is unset.
func mayStand(place int, t api.Type) bool { return place < api.Regs || t.Kind != api.TyUnset }

// members are those of the numbers that a type contains.
func members(t api.Type, numbers []uint64) (l []uint64) {
	for _, v := range numbers {
		if plainHolds(t, v) {
			l = append(l, v)
		}
	}
	return l
}

// snapOf tells registers and a frame that a state contains, or false where one of its types contains nothing; other ones for each n.
func snapOf(s api.State, n int) (x api.Snap, ok bool) {
	numbers := words()
	for i, t := range types(s) {
		l := members(t, numbers)
		if len(l) == 0 {
			return api.Snap{}, false
		}
		v := l[(n+3*i)%len(l)]
		if i < api.Regs {
			x.Regs[i] = v
			if t.Kind != api.TyUnset {
				x.Set |= 1 << i
			}
			continue
		}
		copy(x.Frame[8*(i-api.Regs):], bits.Put(v, 8))
	}
	return x, true
}

// P10.1

func TestFirstByHand(t *testing.T) {
	s := First()
	for i, x := range s.Regs {
		want := api.Type{}
		switch i {
		case 1:
			want = context(0, 0)
		case 10:
			want = frame(64, 64)
		}
		if x != want {
			t.Errorf("R%d is %v", i, x)
		}
	}
	for i, x := range s.Slots {
		if x != one(0) {
			t.Errorf("slot %d is %v", i, x)
		}
	}
	if !May(s) || Scalar() != unknown || !Type(Scalar()) {
		t.Errorf("May(First()) = %t, Scalar() = %v", May(s), Scalar())
	}
}

func TestTypeByHand(t *testing.T) {
	for _, x := range valid {
		if !Type(x) {
			t.Errorf("not Type(%v)", x)
		}
	}
	for _, x := range invalid {
		if Type(x) {
			t.Errorf("Type(%v)", x)
		}
	}
	for kind := math.MinInt8; kind <= math.MaxInt8; kind++ {
		if x := (api.Type{Kind: int8(kind)}); Type(x) != (kind >= 0 && kind <= 3) {
			t.Errorf("Type(%v) = %t", x, Type(x))
		}
	}
}

func TestMayAtEachPlace(t *testing.T) {
	for place := range places {
		for _, x := range valid {
			if got := May(at(place, x)); got != mayStand(place, x) {
				t.Errorf("May of %v at %d = %t", x, place, got)
			}
		}
		for _, x := range invalid {
			if May(at(place, x)) {
				t.Errorf("May of %v at %d", x, place)
			}
		}
	}
	if May(api.State{}) {
		t.Error("May of a state whose slots are unset")
	}
	for n := range valid {
		if !May(mixed(n)) {
			t.Errorf("not May(%v)", mixed(n))
		}
	}
}

func TestHoldsByHand(t *testing.T) {
	const context0, frame0 = uint64(0x200000), uint64(0x300000)
	for _, c := range []struct {
		t    api.Type
		v    uint64
		want bool
	}{
		{api.Type{}, 0, true}, {api.Type{}, math.MaxUint64, true},
		{one(5), 5, true}, {one(5), 6, false}, {unknown, 1 << 63, true}, {upTo(-8, -1), math.MaxUint64 - 7, true}, {upTo(-8, -1), math.MaxUint64 - 8, false},
		{context(2, 4), context0 + 1, false}, {context(2, 4), context0 + 2, true}, {context(2, 4), context0 + 4, true}, {context(2, 4), context0 + 5, false}, {context(2, 4), frame0 + 3, false}, {context(2, 4), 3, false},
		{frame(-8, 4), frame0 - 9, false}, {frame(-8, 4), frame0 - 8, true}, {frame(-8, 4), frame0 + 4, true}, {frame(-8, 4), frame0 + 5, false}, {frame(-8, 4), context0, false}, {frame(64, 64), api.FrameEnd, true},
		{context(far, far), frame0, true}, {frame(-far, -far), context0, true}, // a region does not end where the other one begins
		{frame(0, 4), 1<<63 + frame0, false}, {frame(0, 4), 1<<32 + frame0, false}, {frame(-far, far), 0, false}, {context(-far, far), math.MaxUint64, false},
		{upTo(5, 5), 5, true}, {scalarOf(api.Scalar{R: api.Range{UMin: 5, UMax: 5, SMin: 6, SMax: 6}}), 5, false},
	} {
		if Holds(c.t, c.v) != c.want {
			t.Errorf("Holds(%v, %d) = %t", c.t, c.v, !c.want)
		}
	}
}

func TestHoldsAgainstPlain(t *testing.T) {
	numbers := words()
	for _, x := range append(append([]api.Type{}, valid...), invalid...) {
		for _, v := range numbers {
			if got := Holds(x, v); got != plainHolds(x, v) || got && !Type(x) {
				t.Errorf("Holds(%v, %d) = %t", x, v, got)
			}
		}
	}
}

func TestHasByHand(t *testing.T) {
	var x api.Snap
	x.Regs[1], x.Regs[10], x.Set = api.ContextAt, api.FrameEnd, 1<<1|1<<10
	if !Has(First(), x) {
		t.Error("the first state is without the registers and the frame of a beginning")
	}
	for _, set := range []int{0, 1 << 1, 1 << 10, ^(1 << 1), ^(1 << 10), 1<<2 | 1<<11, math.MinInt} {
		y := x
		if y.Set = set; Has(First(), y) {
			t.Errorf("R1 or R10 is not set: %b", set)
		}
	}
	for _, set := range []int{1<<1 | 1<<10 | 1, -1, math.MaxInt, 1<<11 - 1, 1<<40 | 1<<10 | 1<<1} {
		y := x
		if y.Set = set; !Has(First(), y) {
			t.Errorf("more is set than need be: %b", set)
		}
	}
	for i := range api.Frame {
		y := x
		if y.Frame[i] = 1; Has(First(), y) {
			t.Errorf("byte %d is not 0", i)
		}
	}
	bytes := First()
	bytes.Slots[2] = one(0x0807060504030201)
	for i := range 8 {
		x.Frame[16+i] = byte(i + 1)
	}
	if !Has(bytes, x) || Has(First(), x) {
		t.Error("a slot's lowest byte is its first one")
	}
	for _, w := range invalid {
		if y := (api.Snap{Set: -1}); Has(put(mixed(1), 3, w), y) || Has(put(mixed(1), places-1, w), y) {
			t.Errorf("Has with %v", w)
		}
	}
	unset := First()
	unset.Slots[7] = api.Type{}
	if Has(unset, api.Snap{Regs: x.Regs, Set: x.Set}) {
		t.Error("Has with a slot that is unset")
	}
}

func TestHasAgainstPlain(t *testing.T) {
	numbers, kept := words()[:40], 0
	for n := range valid {
		s := mixed(n)
		x, ok := snapOf(s, n)
		if Has(s, x) != ok {
			t.Fatalf("Has(%v, %v) = %t", s, x, !ok)
		}
		if ok {
			kept++
		}
		for place := range places {
			for _, v := range numbers {
				y := x
				if place < api.Regs {
					y.Regs[place] = v
				} else {
					copy(y.Frame[8*(place-api.Regs):], bits.Put(v, 8))
				}
				y.Set ^= 1 << (v % (2 * api.Regs))
				if Has(s, y) != plainHas(s, y) || Has(s, x) != plainHas(s, x) {
					t.Fatalf("Has(%v, %v) = %t", s, y, Has(s, y))
				}
			}
		}
	}
	if kept < 5 {
		t.Errorf("only %d states contain anything", kept)
	}
}

// P10.2

func TestJoinAndWidenByHand(t *testing.T) {
	for _, c := range []struct{ a, b, join, widen api.Type }{
		{api.Type{}, api.Type{}, api.Type{}, api.Type{}}, {api.Type{}, frame(0, 0), api.Type{}, api.Type{}}, {unknown, api.Type{}, api.Type{}, api.Type{}},
		{one(3), one(3), one(3), one(3)}, {one(0), unknown, unknown, unknown},
		{frame(0, 0), frame(8, 8), frame(0, 8), frame(0, far)}, {context(8, 8), context(0, 0), context(0, 8), context(-far, 8)},
		{context(0, 4), context(-1, 5), context(-1, 5), context(-far, far)}, {context(-1, 5), context(0, 4), context(-1, 5), context(-1, 5)},
		{frame(0, 4), frame(0, 4), frame(0, 4), frame(0, 4)}, {frame(-far, far), frame(1, 2), frame(-far, far), frame(-far, far)},
		{frame(0, 4), context(0, 4), unknown, unknown}, {context(0, 0), frame(0, 0), unknown, unknown}, {frame(0, 4), one(1), unknown, unknown}, {one(api.ContextAt), context(0, 0), unknown, unknown},
	} {
		for _, place := range []int{0, 10} {
			join, e := Join(at(place, c.a), at(place, c.b))
			if join != at(place, c.join) || e != api.OK {
				t.Errorf("Join(%v, %v) at R%d = %v, %v", c.a, c.b, place, join.Regs[place], e)
			}
			widen, e := Widen(at(place, c.a), at(place, c.b))
			if widen != at(place, c.widen) || e != api.OK {
				t.Errorf("Widen(%v, %v) at R%d = %v, %v", c.a, c.b, place, widen.Regs[place], e)
			}
		}
	}
}

func TestInByHand(t *testing.T) {
	for _, c := range []struct {
		a, b api.Type
		want bool
	}{
		{api.Type{}, api.Type{}, true}, {one(3), api.Type{}, true}, {frame(0, 4), api.Type{}, true}, {api.Type{}, unknown, false}, {api.Type{}, one(0), false}, {api.Type{}, frame(0, 0), false},
		{one(3), upTo(3, 9), true}, {upTo(3, 9), one(3), false}, {one(3), one(4), false}, {one(3), unknown, true}, {unknown, unknown, true}, {unknown, upTo(0, 8), false},
		{frame(1, 2), frame(1, 2), true}, {frame(1, 2), frame(0, 4), true}, {frame(0, 4), frame(0, 3), false}, {frame(0, 4), frame(1, 4), false}, {frame(1, 2), frame(3, 4), false}, {frame(1, 2), context(0, 4), false}, {context(1, 2), frame(0, 4), false},
		{frame(1, 2), unknown, true}, {context(-far, far), unknown, true}, {frame(1, 2), upTo(0, math.MaxInt64), false}, {unknown, frame(-far, far), false}, {one(api.FrameAt), frame(0, 0), false},
	} {
		if In(at(0, c.a), at(0, c.b)) != c.want {
			t.Errorf("In(%v, %v) = %t", c.a, c.b, !c.want)
		}
	}
}

func TestPairsAtEachPlace(t *testing.T) {
	for place := range places {
		for _, a := range valid {
			for _, b := range valid {
				if mayStand(place, a) && mayStand(place, b) {
					checkPair(t, place, a, b)
				}
			}
		}
	}
}

func checkPair(t *testing.T, place int, a, b api.Type) {
	t.Helper()
	join, e := Join(at(place, a), at(place, b))
	widen, f := Widen(at(place, a), at(place, b))
	if e != api.OK || f != api.OK || join != at(place, plainJoin(a, b)) || widen != at(place, plainWiden(a, b)) {
		t.Errorf("at %d, of %v and %v: Join %v, %v, Widen %v, %v", place, a, b, join, e, widen, f)
	}
	if !May(join) || !May(widen) {
		t.Errorf("at %d, of %v and %v: Join or Widen tells a state that is not valid", place, a, b)
	}
	if got := In(at(place, a), at(place, b)); got != plainIn(a, b) {
		t.Errorf("at %d: In(%v, %v) = %t", place, a, b, got)
	}
}

func TestMixedPairs(t *testing.T) {
	for n := range valid {
		for m := range valid {
			a, b := mixed(n), mixed(m)
			join, widen, in := types(a), types(a), true
			for i, x := range types(b) {
				in = in && plainIn(join[i], x)
				join[i], widen[i] = plainJoin(join[i], x), plainWiden(widen[i], x)
			}
			if got, e := Join(a, b); got != stateOf(join) || e != api.OK {
				t.Errorf("Join(%v, %v) = %v, %v", a, b, got, e)
			}
			if got, e := Widen(a, b); got != stateOf(widen) || e != api.OK {
				t.Errorf("Widen(%v, %v) = %v, %v", a, b, got, e)
			}
			if In(a, b) != in {
				t.Errorf("In(%v, %v) = %t", a, b, !in)
			}
		}
	}
}

func TestPairsThatAreNotValid(t *testing.T) {
	good := mixed(3)
	for place := range places {
		for _, x := range append([]api.Type{{}}, invalid...) {
			bad := put(good, place, x)
			if plainMay(bad) {
				continue
			}
			for _, c := range [][2]api.State{{bad, good}, {good, bad}, {bad, bad}} {
				join, e := Join(c[0], c[1])
				widen, f := Widen(c[0], c[1])
				if e != api.ErrArg || f != api.ErrArg || join != (api.State{}) || widen != (api.State{}) || In(c[0], c[1]) {
					t.Errorf("with %v at %d: Join %v, Widen %v, In %t", x, place, e, f, In(c[0], c[1]))
				}
			}
		}
	}
}

// P10.3

func TestLoadAndStoreByHand(t *testing.T) {
	s, e := Store(First(), 16, 16, 8, context(1, 2))
	want := First()
	if want.Slots[2] = context(1, 2); s != want || e != api.OK {
		t.Errorf("Store of a pointer = %v, %v", s, e)
	}
	for _, c := range []struct {
		lo, hi, size int
		want         api.Type
	}{
		{16, 16, 8, context(1, 2)}, {8, 8, 8, one(0)}, {56, 56, 8, one(0)}, {0, 0, 8, one(0)},
		{16, 16, 4, scalarOf(value.Bytes(4))}, {16, 16, 1, scalarOf(value.Bytes(1))}, {0, 62, 2, scalarOf(value.Bytes(2))},
		{17, 17, 8, unknown}, {20, 20, 8, unknown}, {16, 24, 8, unknown}, {16, 17, 8, unknown}, {0, 56, 8, unknown},
	} {
		if got, e := Load(s, c.lo, c.hi, c.size); got != c.want || e != api.OK {
			t.Errorf("Load of %d bytes at %d to %d = %v, %v", c.size, c.lo, c.hi, got, e)
		}
	}
	for _, c := range []struct{ lo, hi, size, first, last int }{
		{20, 20, 1, 2, 2}, {16, 16, 4, 2, 2}, {23, 23, 1, 2, 2}, {23, 23, 2, 2, 3}, {20, 20, 8, 2, 3}, {7, 16, 1, 0, 2}, {16, 24, 8, 2, 3}, {16, 17, 8, 2, 3},
		{56, 56, 4, 7, 7}, {63, 63, 1, 7, 7}, {0, 63, 1, 0, 7}, {0, 0, 1, 0, 0}, {8, 16, 8, 1, 2}, {8, 16, 1, 1, 2}, {0, 56, 8, 0, 7},
	} {
		want := s
		for n := c.first; n <= c.last; n++ {
			want.Slots[n] = unknown
		}
		if got, e := Store(s, c.lo, c.hi, c.size, one(7)); got != want || e != api.OK {
			t.Errorf("Store of %d bytes at %d to %d = %v, %v", c.size, c.lo, c.hi, got, e)
		}
	}
}

func TestEveryAccess(t *testing.T) {
	s, stored := mixed(4), frame(-2, 3)
	sizes := []int{math.MinInt, -8, -1, 0, 1, 2, 3, 4, 5, 6, 7, 8, 9, 16, 32, 64, 1<<32 + 8, math.MaxInt}
	offsets := []int{math.MinInt, math.MinInt + 8, -1 << 32, 1 << 32, math.MaxInt - 7, math.MaxInt}
	for i := -9; i <= 73; i++ {
		offsets = append(offsets, i)
	}
	for _, size := range sizes {
		for _, lo := range offsets {
			for _, hi := range offsets {
				checkAccess(t, s, lo, hi, size, stored)
			}
		}
	}
}

func checkAccess(t *testing.T, s api.State, lo, hi, size int, stored api.Type) {
	t.Helper()
	var load api.Type
	var store api.State
	want := api.ErrArg
	if plainAccess(lo, hi, size) {
		load, store, want = plainLoad(s, lo, hi, size), plainStore(s, lo, hi, size, stored), api.OK
	}
	if got, e := Load(s, lo, hi, size); got != load || e != want {
		t.Fatalf("Load of %d bytes at %d to %d = %v, %v", size, lo, hi, got, e)
	}
	if got, e := Store(s, lo, hi, size, stored); got != store || e != want {
		t.Fatalf("Store of %d bytes at %d to %d = %v, %v", size, lo, hi, got, e)
	}
}

func TestStoreOfEachType(t *testing.T) {
	for n := range api.Slots {
		for _, x := range valid[1:] {
			checkAccess(t, mixed(2), 8*n, 8*n, 8, x)
			checkAccess(t, mixed(2), 8*n, 8*n, 4, x)
		}
	}
	for _, x := range append([]api.Type{{}}, invalid...) {
		for _, size := range []int{1, 8} {
			if got, e := Store(First(), 0, 0, size, x); got != (api.State{}) || e != api.ErrArg {
				t.Errorf("Store of %v = %v, %v", x, got, e)
			}
		}
	}
}

func TestAccessesToWhatIsNotValid(t *testing.T) {
	for place := range places {
		for _, x := range append([]api.Type{{}}, invalid...) {
			bad := at(place, x)
			if plainMay(bad) {
				continue
			}
			for _, size := range []int{1, 8} {
				load, e := Load(bad, 0, 0, size)
				store, f := Store(bad, 0, 0, size, one(0))
				if e != api.ErrArg || f != api.ErrArg || load != (api.Type{}) || store != (api.State{}) {
					t.Errorf("with %v at %d: Load %v, %v, Store %v", x, place, load, e, f)
				}
			}
		}
	}
}

// P10.4

func TestJoinAndWidenContain(t *testing.T) {
	numbers, within := words(), 0
	for _, a := range valid {
		for _, b := range valid {
			join, _ := Join(at(0, a), at(0, b))
			widen, _ := Widen(at(0, a), at(0, b))
			in := In(at(0, a), at(0, b))
			if in {
				within++
			}
			for _, v := range numbers {
				some := Holds(a, v) || Holds(b, v)
				if some && (!Holds(join.Regs[0], v) || !Holds(widen.Regs[0], v)) {
					t.Errorf("%v and %v: Join %v, Widen %v are without %d", a, b, join.Regs[0], widen.Regs[0], v)
				}
				if in && Holds(a, v) && !Holds(b, v) {
					t.Errorf("In(%v, %v), but %d", a, b, v)
				}
			}
		}
	}
	if within < 100 {
		t.Errorf("only %d types are within others", within)
	}
}

func TestJoinAndWidenContainSnaps(t *testing.T) {
	held := 0
	for n := range valid {
		a := mixed(n)
		x, ok := snapOf(a, n)
		if !ok {
			continue
		}
		for m := range valid {
			b := mixed(m)
			for _, f := range []func(a, b api.State) (api.State, api.Errno){Join, Widen} {
				ab, e := f(a, b)
				ba, g := f(b, a)
				if e != api.OK || g != api.OK || !Has(ab, x) || !Has(ba, x) {
					t.Fatalf("%v and %v: %v or %v is without %v", a, b, ab, ba, x)
				}
				held++
			}
		}
	}
	if held < 100 {
		t.Errorf("only %d states contained anything", held)
	}
}

func TestInContainsNoMore(t *testing.T) {
	within := 0
	for n := range valid {
		a := mixed(n)
		x, ok := snapOf(a, n)
		for place := range places {
			for _, y := range valid {
				if b := put(a, place, y); In(a, b) && ok {
					if within++; !Has(b, x) {
						t.Fatalf("In(%v, %v), but %v", a, b, x)
					}
				}
			}
		}
	}
	if within < 100 {
		t.Errorf("only %d states were within others", within)
	}
}

// eachAccess calls f with every access that may be, and with the least, a middle and the greatest of its offsets.
func eachAccess(f func(lo, hi, size, offset int)) {
	for _, size := range []int{1, 2, 4, 8} {
		for lo := 0; lo <= api.Frame-size; lo++ {
			for hi := lo; hi <= api.Frame-size; hi++ {
				for _, offset := range []int{lo, (lo + hi) / 2, hi} {
					f(lo, hi, size, offset)
				}
			}
		}
	}
}

// filled tells a state, and registers and a frame that it contains: no byte of it is like the ones beside it.
func filled() (api.State, api.Snap) {
	s, x := First(), api.Snap{Set: 1<<1 | 1<<10}
	x.Regs[1], x.Regs[10] = api.ContextAt, api.FrameEnd
	for i := range x.Frame {
		x.Frame[i] = byte(37*i + 200)
	}
	for i := range s.Slots {
		s.Slots[i] = one(bits.Get(x.Frame[8*i:]))
	}
	s.Slots[3] = context(-2, 3)
	copy(x.Frame[24:], bits.Put(api.ContextAt-2, 8))
	s.Slots[5] = upTo(-8, -1)
	copy(x.Frame[40:], bits.Put(math.MaxUint64-2, 8))
	return s, x
}

func TestLoadContainsWhatIsLoaded(t *testing.T) {
	s, x := filled()
	if !Has(s, x) {
		t.Fatalf("Has(%v, %v) = false", s, x)
	}
	eachAccess(func(lo, hi, size, offset int) {
		v := bits.Get(x.Frame[offset : offset+size])
		if got, e := Load(s, lo, hi, size); e != api.OK || !Holds(got, v) || !Type(got) {
			t.Fatalf("Load of %d bytes at %d to %d = %v, %v, is without %d, from %d", size, lo, hi, got, e, v, offset)
		}
	})
}

func TestStoreContainsWhatIsStored(t *testing.T) {
	s, x := filled()
	for _, c := range []struct {
		t api.Type
		v uint64
	}{{one(0x1122334455667788), 0x1122334455667788}, {frame(-2, 3), api.FrameAt + 3}, {context(0, 4), api.ContextAt + 1}, {upTo(-8, -1), math.MaxUint64 - 7}} {
		eachAccess(func(lo, hi, size, offset int) {
			y := x
			copy(y.Frame[offset:], bits.Put(c.v, size))
			if got, e := Store(s, lo, hi, size, c.t); e != api.OK || !Has(got, y) {
				t.Fatalf("Store of %d bytes of %v at %d to %d = %v, %v, is without %d at %d", size, c.t, lo, hi, got, e, c.v, offset)
			}
		})
	}
}
