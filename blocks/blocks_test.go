package blocks

import (
	"math"
	"slices"
	"testing"

	"lathe/api"
	"lathe/instr"
)

var (
	mov   = api.Instr{Kind: api.InAlu, Op: api.Mov, Width: 64, Imm: 1}
	load  = api.Instr{Kind: api.InLoad, Size: 8, Dst: 2, Src: 1, Off: 1} // an offset that is no jump's
	store = api.Instr{Kind: api.InStore, Size: 8, Dst: 10, Src: 1, Off: -8}
	call  = api.Instr{Kind: api.InCall, Imm: 3}
	exit  = api.Instr{Kind: api.InExit}
)

func jump(off int) api.Instr { return api.Instr{Kind: api.InJump, Op: api.Eq, Dst: 1, Off: off} }

func goTo(off int) api.Instr { return api.Instr{Kind: api.InGoto, Off: off} }

func program(l ...api.Instr) api.Prog { return api.Prog{L: l} }

func block(from, to int, next ...int) api.Block { return api.Block{From: from, To: to, Next: next} }

// wide are numbers that no program has, and those at its edges.
var wide = []int{math.MinInt, -1 << 40, -1 << 32, -65, -1, 0, 1, 63, 64, 65, 1 << 32, 1 << 40, math.MaxInt}

func clone(l []api.Block) []api.Block {
	l = slices.Clone(l)
	for i := range l {
		l[i].Next = slices.Clone(l[i].Next)
	}
	return l
}

// same holds two lists against each other field by field.
func same(a, b []api.Block) bool {
	if len(a) != len(b) {
		return false
	}
	for i := range a {
		if a[i].From != b[i].From || a[i].To != b[i].To || len(a[i].Next) != len(b[i].Next) {
			return false
		}
		for k := range a[i].Next {
			if a[i].Next[k] != b[i].Next[k] {
				return false
			}
		}
	}
	return true
}

func leaves(x api.Instr) bool { return x.Kind == api.InJump || x.Kind == api.InGoto }

// begins tells by the document's words whether a block of the program begins at i.
func begins(l []api.Instr, i int) bool {
	if i == 0 || leaves(l[i-1]) || l[i-1].Kind == api.InExit {
		return true
	}
	for k, x := range l {
		if leaves(x) && k+1+x.Off == i {
			return true
		}
	}
	return false
}

// number tells the block of instruction i: as many as begin behind 0 and up to it.
func number(l []api.Instr, i int) int {
	n := 0
	for k := 1; k <= i; k++ {
		if begins(l, k) {
			n++
		}
	}
	return n
}

// expected tells a program's blocks, one instruction at a time.
func expected(l []api.Instr) []api.Block {
	var want []api.Block
	for i, x := range l {
		if begins(l, i) {
			want = append(want, block(i, i))
		}
		last := &want[len(want)-1]
		last.To++
		switch {
		case x.Kind == api.InJump:
			last.Next = []int{number(l, i+1+x.Off), number(l, i+1)}
		case x.Kind == api.InGoto:
			last.Next = []int{number(l, i+1+x.Off)}
		case x.Kind == api.InExit:
			last.Next = nil
		case begins(l, i+1):
			last.Next = []int{number(l, i+1)}
		}
	}
	return want
}

// eachProgram calls f with all valid programs of n instructions of a few kinds, with all jumps among them.
func eachProgram(n int, f func(l []api.Instr)) {
	var choose func(l []api.Instr)
	choose = func(l []api.Instr) {
		if len(l) == n {
			f(l)
			return
		}
		if len(l) < n-1 {
			choose(append(l, mov))
			choose(append(l, load))
			choose(append(l, call))
			for to := range n {
				choose(append(l, jump(to-len(l)-1)))
			}
		}
		for to := range n {
			choose(append(l, goTo(to-len(l)-1)))
		}
		choose(append(l, exit))
	}
	choose(nil)
}

// P4.1

func TestRunByHand(t *testing.T) {
	for i, c := range []struct {
		p    api.Prog
		want []api.Block
	}{
		{program(mov, jump(1), mov, exit), []api.Block{block(0, 2, 2, 1), block(2, 3, 2), block(3, 4)}}, // the document's
		{program(exit), []api.Block{block(0, 1)}},
		{program(mov, load, store, call, exit), []api.Block{block(0, 5)}}, // nothing in a row but its end ends it
		{program(goTo(-1)), []api.Block{block(0, 1, 0)}},
		{program(goTo(0), exit), []api.Block{block(0, 1, 1), block(1, 2)}},
		{program(jump(0), exit), []api.Block{block(0, 1, 1, 1), block(1, 2)}}, // both successors are the same one
		{program(jump(-1), exit), []api.Block{block(0, 1, 0, 1), block(1, 2)}},
		{program(mov, call, goTo(-2)), []api.Block{block(0, 1, 1), block(1, 3, 1)}},
		{program(call, jump(-2), exit), []api.Block{block(0, 2, 0, 1), block(2, 3)}},
		{program(exit, exit, exit), []api.Block{block(0, 1), block(1, 2), block(2, 3)}},
		{program(exit, mov, goTo(-3)), []api.Block{block(0, 1), block(1, 3, 0)}}, // nothing leads to the second one
		{program(goTo(2), mov, exit, goTo(-3)), []api.Block{block(0, 1, 2), block(1, 3), block(3, 4, 1)}},
		{program(jump(2), jump(2), exit, mov, exit), []api.Block{block(0, 1, 3, 1), block(1, 2, 4, 2), block(2, 3), block(3, 4, 4), block(4, 5)}},
	} {
		if l, e := Run(c.p); !same(l, c.want) || e != api.OK {
			t.Errorf("%d: Run = %v, %v, not %v", i, l, e, c.want)
		}
	}
}

func TestRunOfAllSmallPrograms(t *testing.T) {
	for n := 1; n <= 4; n++ {
		eachProgram(n, func(l []api.Instr) {
			if got, e := Run(program(l...)); !same(got, expected(l)) || e != api.OK {
				t.Fatalf("Run(%v) = %v, %v, not %v", l, got, e, expected(l))
			}
		})
	}
}

func TestRunOfTheLongestPrograms(t *testing.T) {
	const n = 64
	exits := slices.Repeat([]api.Instr{exit}, n)
	row := append(slices.Repeat([]api.Instr{mov}, n-1), exit)
	back := append(slices.Repeat([]api.Instr{mov}, n-1), goTo(-n))
	ahead := append([]api.Instr{jump(n - 2)}, row[1:]...)
	ladder := append(slices.Repeat([]api.Instr{jump(0)}, n-1), exit)
	for i, l := range [][]api.Instr{exits, row, back, ahead, ladder} {
		if got, e := Run(program(l...)); !same(got, expected(l)) || !May(got) || e != api.OK {
			t.Errorf("%d: Run = %v, %v", i, got, e)
		}
	}
	if l, e := Run(program(row...)); !same(l, []api.Block{block(0, n)}) {
		t.Error(l, e)
	}
	if l, e := Run(program(ladder...)); len(l) != n || l[n-2].Next[0] != n-1 || l[n-2].Next[1] != n-1 {
		t.Error(l, e)
	}
}

func TestRunAnswersTheErrorOfCheck(t *testing.T) {
	for i, c := range []struct {
		p api.Prog
		e api.Errno
	}{
		{api.Prog{}, api.ErrLong},
		{api.Prog{L: []api.Instr{}}, api.ErrLong},
		{program(slices.Repeat([]api.Instr{exit}, 65)...), api.ErrLong},
		{api.Prog{Context: -1, L: []api.Instr{exit}}, api.ErrArg},
		{api.Prog{Context: 257, L: []api.Instr{exit}}, api.ErrArg},
		{program(mov, api.Instr{Kind: 9}, exit), api.ErrOp},
		{program(mov, api.Instr{Kind: -1}), api.ErrOp},
		{program(mov, jump(math.MaxInt), exit), api.ErrOp},
		{program(mov, jump(1), exit), api.ErrJump},
		{program(mov, goTo(-3), exit), api.ErrJump},
		{program(mov), api.ErrEnd},
		{program(exit, jump(-1)), api.ErrEnd},
	} {
		if l, e := Run(c.p); l != nil || e != c.e {
			t.Errorf("%d: Run = %v, %v, not %v", i, l, e, c.e)
		}
		if _, e := instr.Check(c.p); e != c.e {
			t.Errorf("%d: Check = %v, not %v", i, e, c.e)
		}
	}
	if l, e := Run(api.Prog{Context: 256, L: []api.Instr{exit}}); len(l) != 1 || e != api.OK {
		t.Error(l, e)
	}
}

func TestOf(t *testing.T) {
	regular := []api.Block{block(0, 2, 1), block(2, 3), block(3, 64)}
	for i := -2; i < 70; i++ {
		want, ok := 0, i >= 0 && i < 64
		if ok && i >= 2 {
			want++
		}
		if ok && i >= 3 {
			want++
		}
		if n, in := Of(regular, i); n != want || in != ok {
			t.Errorf("Of(%d) = %d, %t, not %d, %t", i, n, in, want, ok)
		}
	}
	for k, c := range []struct {
		l  []api.Block
		i  int
		n  int
		ok bool
	}{
		{nil, 0, 0, false},
		{[]api.Block{}, 0, 0, false},
		{[]api.Block{block(1, 1), block(5, 3), block(0, 9), block(0, 9)}, 4, 2, true}, // the first of several
		{[]api.Block{block(1, 1)}, 1, 0, false},
		{[]api.Block{block(7, 9), block(2, 4)}, 3, 1, true},
		{[]api.Block{block(7, 9), block(2, 4)}, 5, 0, false},
		{[]api.Block{block(-9, -3)}, -4, 0, true},
		{[]api.Block{block(-9, -3)}, -3, 0, false},
		{[]api.Block{block(math.MinInt, math.MaxInt)}, math.MinInt, 0, true},
		{[]api.Block{block(math.MinInt, math.MaxInt)}, math.MaxInt - 1, 0, true},
		{[]api.Block{block(math.MinInt, math.MaxInt)}, math.MaxInt, 0, false},
		{[]api.Block{block(math.MaxInt, math.MinInt)}, 0, 0, false},
		{slices.Repeat([]api.Block{block(0, 1, math.MaxInt)}, 100000), 1, 0, false},
	} {
		if n, ok := Of(c.l, c.i); n != c.n || ok != c.ok {
			t.Errorf("%d: Of = %d, %t, not %d, %t", k, n, ok, c.n, c.ok)
		}
	}
}

func TestSame(t *testing.T) {
	base := []api.Block{block(0, 2, 2, 1), block(2, 3, 2), block(3, 4)}
	if !Same(base, clone(base)) || !Same(base, base) {
		t.Error("a copy is not the same")
	}
	for i, other := range [][]api.Block{
		nil,
		base[:2],
		append(clone(base), block(4, 5)),
		{block(1, 2, 2, 1), block(2, 3, 2), block(3, 4)},
		{block(0, 1, 2, 1), block(2, 3, 2), block(3, 4)},
		{block(0, 2, 1, 2), block(2, 3, 2), block(3, 4)}, // the jump's successor comes first
		{block(0, 2, 2), block(2, 3, 2), block(3, 4)},
		{block(0, 2, 2, 1, 1), block(2, 3, 2), block(3, 4)},
		{block(0, 2, 2, 1), block(2, 3, 1), block(3, 4)},
		{block(0, 2, 2, 1), block(2, 3, 2), block(3, 4, 0)},
		{block(0, 2, 2, 1), block(3, 4), block(2, 3, 2)},
	} {
		if Same(base, other) || Same(other, base) {
			t.Errorf("%d: %v is the same", i, other)
		}
	}
	none := []api.Block{{From: 0, To: 1, Next: []int{}}}
	if !Same(nil, nil) || !Same(nil, []api.Block{}) || !Same(none, []api.Block{block(0, 1)}) {
		t.Error("nil is not as good as empty")
	}
	wrong := []api.Block{block(math.MinInt, math.MaxInt, -1, math.MaxInt, 0)}
	if !Same(wrong, clone(wrong)) || Same(wrong, []api.Block{block(math.MinInt, math.MaxInt, -1, math.MaxInt, 1)}) {
		t.Error("lists of no form are held against each other as well")
	}
}

// P4.2

// outside are lists that have not the form, each for one cause.
func outside() [][]api.Block {
	all := [][]api.Block{
		{block(1, 2)},
		{block(-1, 1)},
		{block(0, 0)},
		{block(0, -1)},
		{block(0, math.MinInt)},
		{block(0, math.MaxInt)},
		{block(math.MinInt, math.MaxInt)},
		{block(0, 65)},
		{block(0, 64), block(64, 65)},
		{block(0, 1), block(2, 3)},
		{block(0, 2), block(1, 3)},
		{block(0, 1), block(1, 1)},
		{block(0, 1), block(1, 0)},
		{block(0, 1), block(1, 1), block(1, 2)},
		{block(1, 2), block(0, 1)},
		{block(0, 1, 1)},
		{block(0, 1, -1)},
		{block(0, 1, 0, 1)},
		{block(0, 1, 0), block(1, 2, 2)},
		{block(0, 1, 0, -1), block(1, 2)},
		{block(0, 1, math.MaxInt)},
		{block(0, 1, math.MinInt)},
		{block(0, 1, 0, 0, 0)},
		{block(0, 1), block(1, 2, 0, 1, 0)},
		{{From: 0, To: 1, Next: make([]int, 100000)}},
		make([]api.Block, 100000),
	}
	var long []api.Block
	for i := range 1000 {
		long = append(long, block(i, i+1, i))
	}
	return append(all, long[:65], long)
}

func TestMay(t *testing.T) {
	var longest []api.Block
	for i := range 64 {
		longest = append(longest, block(i, i+1, 63-i, i))
	}
	for i, l := range [][]api.Block{
		nil,
		{},
		{block(0, 1)},
		{block(0, 64)},
		{block(0, 63), block(63, 64)},
		{block(0, 1, 0, 0)},
		{block(0, 1, 1, 0), block(1, 9), block(9, 10, 2)},
		{{From: 0, To: 3, Next: []int{}}},
		longest,
	} {
		if !May(l) {
			t.Errorf("%d: %v may not be", i, l)
		}
	}
	for i, l := range outside() {
		if May(l) {
			t.Errorf("%d: a list that has not the form may be", i)
		}
	}
}

func TestMayAtTheEdgesOfEachNumber(t *testing.T) {
	for _, at := range wide {
		for _, to := range wide {
			for _, next := range wide {
				want := at == 1 && (to == 63 || to == 64) && (next == 0 || next == 1)
				if got := May([]api.Block{block(0, 1), block(at, to, 0, next)}); got != want {
					t.Errorf("May with %d to %d, Next %d: %t", at, to, next, got)
				}
			}
		}
	}
}

func TestWalksByHand(t *testing.T) {
	l := []api.Block{block(0, 1, 2, 1), block(1, 2, 4), block(2, 3, 0), block(3, 5, 3, 4), block(5, 6)}
	if r := Reach(l); !slices.Equal(r, []bool{true, true, true, false, true}) {
		t.Error(r)
	}
	for b, want := range [][]int{{2}, {0}, {0}, {3}, {1, 3}} {
		if got := Before(l, b); !slices.Equal(got, want) {
			t.Errorf("Before(%d) = %v, not %v", b, got, want)
		}
	}
	if got := Before([]api.Block{block(0, 1, 1, 1), block(1, 2, 1, 0)}, 1); !slices.Equal(got, []int{0, 1}) {
		t.Error("each once:", got)
	}
	if r := Reach([]api.Block{block(0, 1)}); !slices.Equal(r, []bool{true}) {
		t.Error("the first one itself:", r)
	}
	for _, b := range wide {
		if got := Before(l, b); len(got) != 0 && (b < 0 || b > 4) {
			t.Errorf("Before(%d) = %v", b, got)
		}
	}
}

func TestWalksOfListsWithoutForm(t *testing.T) {
	for i, l := range append(outside(), nil, []api.Block{}) {
		if r := Reach(l); len(r) != 0 {
			t.Errorf("%d: Reach = %v", i, r)
		}
		for _, b := range wide {
			if got := Before(l, b); len(got) != 0 {
				t.Errorf("%d: Before(%d) = %v", i, b, got)
			}
		}
	}
}

// eachGraph calls f with all lists of n blocks of one instruction each, with all successors.
func eachGraph(n int, f func(l []api.Block)) {
	var choose func(l []api.Block)
	choose = func(l []api.Block) {
		at := len(l)
		if at == n {
			f(l)
			return
		}
		choose(append(l, block(at, at+1)))
		for a := range n {
			choose(append(l, block(at, at+1, a)))
			for b := range n {
				choose(append(l, block(at, at+1, a, b)))
			}
		}
	}
	choose(nil)
}

// paths tells for each block whether there is a path to it, by adding edges until none is new.
func paths(l []api.Block) []bool {
	there := make([]bool, len(l))
	there[0] = true
	for range l {
		for i, b := range l {
			for _, n := range b.Next {
				there[n] = there[n] || there[i]
			}
		}
	}
	return there
}

func TestWalksOfAllSmallGraphs(t *testing.T) {
	for n := 1; n <= 4; n++ {
		eachGraph(n, func(l []api.Block) {
			if r := Reach(l); !slices.Equal(r, paths(l)) || !May(l) {
				t.Fatalf("Reach(%v) = %v", l, r)
			}
			for b := range n {
				var want []int
				for i := range l {
					if slices.Contains(l[i].Next, b) {
						want = append(want, i)
					}
				}
				if got := Before(l, b); !slices.Equal(got, want) {
					t.Fatalf("Before(%v, %d) = %v, not %v", l, b, got, want)
				}
			}
		})
	}
}

func TestReachOfTheLongestChain(t *testing.T) {
	var l []api.Block
	for i := range 64 {
		l = append(l, block(i, i+1, (i+63)%64)) // 0, 63, 62 and so on
	}
	if r := Reach(l); len(r) != 64 || slices.Contains(r, false) {
		t.Error(r)
	}
	l[32].Next = nil
	for i, there := range Reach(l) {
		if there != (i == 0 || i >= 32) {
			t.Error(i, there)
		}
	}
}

// P4.3

func TestConsequences(t *testing.T) {
	for n := 1; n <= 4; n++ {
		eachProgram(n, func(p []api.Instr) {
			l, e := Run(program(p...))
			if e != api.OK || !May(l) || l[len(l)-1].To != n {
				t.Fatalf("Run(%v) = %v, %v", p, l, e)
			}
			for i, x := range p {
				in := 0
				for _, b := range l {
					if b.From <= i && i < b.To {
						in++
					}
				}
				b, ok := Of(l, i)
				if in != 1 || !ok || i < l[b].From || i >= l[b].To {
					t.Fatalf("%v: instruction %d is in %d blocks of %v", p, i, in, l)
				}
				if !leaves(x) {
					continue
				}
				to, _ := Of(l, i+1+x.Off)
				if i != l[b].To-1 || l[to].From != i+1+x.Off || l[b].Next[0] != to {
					t.Fatalf("%v: the jump at %d in %v", p, i, l)
				}
			}
		})
	}
}

// The rules that hold everywhere

func TestArgumentsAreLeftAndAnswersAreNew(t *testing.T) {
	p := []api.Instr{jump(1), goTo(1), jump(-2), exit, load}[:4] // with one behind its end
	kept := slices.Clone(p[:5])
	first, _ := Run(program(p...))
	want := clone(first)
	for i := range first {
		_ = append(first[i].Next, 99) // nothing else stands behind a list
	}
	if !same(first, want) {
		t.Errorf("lists of one answer share memory: %v", first)
	}
	for i := range first {
		for k := range first[i].Next {
			first[i].Next[k] = 99
		}
		first[i].From = 99
	}
	if second, _ := Run(program(p...)); !same(second, want) {
		t.Errorf("Run again: %v, not %v", second, want)
	}
	if !slices.Equal(p[:5], kept) {
		t.Errorf("Run changed the program: %v", p[:5])
	}

	l := clone(append(want, block(77, 78, 5)))[:len(want)]
	reached, before := Reach(l), Before(l, 2)
	May(l)
	Of(l, 1)
	Same(l, want)
	clear(reached)
	clear(before)
	if !same(l, want) || !same(l[:len(want)+1], append(clone(want), block(77, 78, 5))) {
		t.Errorf("the list is changed: %v", l)
	}
	if r := Reach(l); !r[0] || slices.Equal(r, reached) {
		t.Errorf("Reach again: %v", r)
	}
}
