package trace

import (
	"math"
	"slices"
	"strconv"
	"strings"
	"testing"

	"lathe/api"
)

func event(num int, answer uint64, args ...uint64) api.Event {
	return api.Event{Num: num, Args: args, Answer: answer}
}

// wide are numbers that no run has, and those at its edges.
var wide = []int{math.MinInt, -1 << 32, -257, -256, -16, -1, 0, 1, 5, 6, 15, 16, 17, 256, 9999, 10000, 10001, 1 << 32, math.MaxInt}

// kinds are the kinds of outcomes, and numbers that are none.
var kinds = []int8{api.EndFuel, api.EndReturn, api.EndRefused, api.EndFault, 4, 127, -1, -128}

// text tells a trace so that one trace begins another one exactly if its text does.
func text(l []api.Event) string {
	var s strings.Builder
	for _, x := range l {
		s.WriteString(strconv.Itoa(x.Num) + "(")
		for _, arg := range x.Args {
			s.WriteString(strconv.FormatUint(arg, 10) + ",")
		}
		s.WriteString(")" + strconv.FormatUint(x.Answer, 10) + ";")
	}
	return s.String()
}

// words tells the contents of an outcome but for its kind and its fuel, with the trace apart.
func words(o api.Outcome) (end, trace string) {
	end = strconv.FormatUint(o.R0, 10) + ":"
	for _, b := range o.Context {
		end += strconv.Itoa(int(b)) + ","
	}
	return end, text(o.Trace)
}

// traces tells all traces of up to two events of a few, and some that differ from these in little.
func traces() [][]api.Event {
	some := []api.Event{
		event(0, 0),
		event(0, 1),
		event(1, 0, 0),
		event(1, 0, 1),
		event(2, 0, 0, 1),
		event(2, 0, 1, 0),
	}
	all := [][]api.Event{nil, {}}
	for _, x := range some {
		all = append(all, []api.Event{x})
		for _, y := range some {
			all = append(all, []api.Event{x, y})
		}
	}
	return append(all,
		[]api.Event{event(1, 0)}, // wrong ones: too few arguments, too many, no such number
		[]api.Event{event(1, 0, 0, 0)},
		[]api.Event{event(-1, 0)},
		[]api.Event{event(16, 0)},
		[]api.Event{event(math.MinInt, math.MaxUint64, math.MaxUint64)},
		[]api.Event{{Num: 0, Args: []uint64{}}},
		slices.Repeat(some[:1], 3),
		slices.Repeat(some[:1], 4))
}

// outcomes tells outcomes of all kinds that differ from each other in all ways.
func outcomes() []api.Outcome {
	var all []api.Outcome
	few := [][]api.Event{nil, {}, {event(1, 2, 3)}, {event(1, 2, 4)}, {event(1, 2, 3), event(6, 0)}}
	for _, kind := range kinds {
		for _, r0 := range []uint64{0, math.MaxUint64} {
			for _, context := range [][]byte{nil, {}, {0}, {255}, {0, 0}} {
				for _, left := range []int{0, -1} {
					for _, l := range few {
						all = append(all, api.Outcome{Kind: kind, R0: r0, Context: context, Trace: l, Left: left})
					}
				}
			}
		}
	}
	return all
}

// base is an outcome with all fields.
func base() api.Outcome {
	return api.Outcome{
		Kind:    api.EndReturn,
		R0:      5,
		Context: []byte{1, 2},
		Trace:   []api.Event{event(2, 9, 7, 8), event(0, 3)},
		Left:    4,
	}
}

// changed are outcomes that differ from base in one place each, in the context or the trace.
func changed() map[string]api.Outcome {
	all := map[string]api.Outcome{}
	change := func(name string, f func(o *api.Outcome)) {
		o := base()
		f(&o)
		all[name] = o
	}
	change("context's first byte", func(o *api.Outcome) { o.Context[0]++ })
	change("context's last byte", func(o *api.Outcome) { o.Context[1]++ })
	change("context shorter", func(o *api.Outcome) { o.Context = o.Context[:1] })
	change("context longer", func(o *api.Outcome) { o.Context = append(o.Context, 0) })
	change("no context", func(o *api.Outcome) { o.Context = nil })
	change("first event's number", func(o *api.Outcome) { o.Trace[0].Num = 8 })
	change("last event's number", func(o *api.Outcome) { o.Trace[1].Num = 6 })
	change("first argument", func(o *api.Outcome) { o.Trace[0].Args[0]++ })
	change("last argument", func(o *api.Outcome) { o.Trace[0].Args[1]++ })
	change("an argument's highest bit", func(o *api.Outcome) { o.Trace[0].Args[1] |= 1 << 63 })
	change("an argument fewer", func(o *api.Outcome) { o.Trace[0].Args = o.Trace[0].Args[:1] })
	change("an argument more", func(o *api.Outcome) { o.Trace[0].Args = append(o.Trace[0].Args, 0) })
	change("arguments of the last", func(o *api.Outcome) { o.Trace[1].Args = []uint64{0} })
	change("first answer", func(o *api.Outcome) { o.Trace[0].Answer++ })
	change("last answer", func(o *api.Outcome) { o.Trace[1].Answer++ })
	change("trace shorter", func(o *api.Outcome) { o.Trace = o.Trace[:1] })
	change("trace longer", func(o *api.Outcome) { o.Trace = append(o.Trace, event(0, 3)) })
	change("no trace", func(o *api.Outcome) { o.Trace = nil })
	change("order", func(o *api.Outcome) { slices.Reverse(o.Trace) })
	return all
}

// P5.1

func TestSameAndLikeSeeEachPlace(t *testing.T) {
	if !Same(base(), base()) || !Like(base(), base()) {
		t.Error("equal outcomes are told apart")
	}
	for name, o := range changed() {
		if Same(base(), o) || Same(o, base()) {
			t.Errorf("%s: Same", name)
		}
		if Like(base(), o) || Like(o, base()) {
			t.Errorf("%s: Like", name)
		}
	}
	o := base()
	o.Left++
	if Same(base(), o) || !Like(base(), o) {
		t.Error("Left counts for Same alone")
	}
	o = base()
	o.R0++
	if Same(base(), o) || Like(base(), o) {
		t.Error("R0 counts")
	}
	o = base()
	o.Kind = api.EndFault
	if Same(base(), o) || Like(base(), o) || Like(o, base()) {
		t.Error("Kind counts")
	}
}

func TestLikeByHand(t *testing.T) {
	returned := func(r0 uint64, left int, context ...byte) api.Outcome {
		return api.Outcome{Kind: api.EndReturn, R0: r0, Left: left, Context: context}
	}
	if !Like(returned(5, 3), returned(5, 9)) || Like(api.Outcome{Kind: api.EndRefused}, api.Outcome{Kind: api.EndFault}) {
		t.Error("the document's examples")
	}
	if Like(returned(5, 3), returned(6, 3)) || Like(returned(5, 3, 0), returned(5, 3)) || Like(returned(5, 3, 0), returned(5, 3, 1)) {
		t.Error("EndReturn: R0 and Context count")
	}
	for _, kind := range kinds {
		a := api.Outcome{Kind: kind, R0: 1, Context: []byte{1}, Left: 1}
		b := api.Outcome{Kind: kind, R0: 2, Context: []byte{2, 2}, Left: 2}
		if Like(a, b) != (kind != api.EndReturn) {
			t.Errorf("kind %d: R0 and Context count for EndReturn alone", kind)
		}
		b.Trace = []api.Event{event(0, 0)}
		if Like(a, b) || Like(b, a) {
			t.Errorf("kind %d: the trace counts", kind)
		}
	}
}

func TestOutcomesAgainstTheDocument(t *testing.T) {
	all := outcomes()
	for _, a := range all {
		endA, traceA := words(a)
		for _, b := range all {
			endB, traceB := words(b)
			like := a.Kind == b.Kind && traceA == traceB && (a.Kind != 1 || endA == endB)
			same := like && endA == endB && a.Left == b.Left
			becomes := a.Kind == 0 && strings.HasPrefix(traceB, traceA)
			if Same(a, b) != same || Like(a, b) != like || Becomes(a, b) != becomes {
				t.Fatalf("%v and %v: Same %t, Like %t, Becomes %t", a, b, Same(a, b), Like(a, b), Becomes(a, b))
			}
		}
	}
}

func TestBeginsByHand(t *testing.T) {
	x, y := event(1, 2, 3), event(0, 4)
	for i, c := range []struct {
		a, b []api.Event
		want bool
	}{
		{nil, nil, true},
		{nil, []api.Event{}, true},
		{[]api.Event{}, nil, true},
		{nil, []api.Event{x}, true},
		{[]api.Event{x}, nil, false},
		{[]api.Event{x}, []api.Event{x, y}, true},
		{[]api.Event{x, y}, []api.Event{x, y}, true},
		{[]api.Event{x, y}, []api.Event{x}, false},
		{[]api.Event{y}, []api.Event{x, y}, false}, // it is its end, not its beginning
		{[]api.Event{y, x}, []api.Event{x, y}, false},
		{[]api.Event{x, x}, []api.Event{x, y, x}, false},
		{[]api.Event{x, event(0, 5)}, []api.Event{x, y, x}, false},
		{[]api.Event{event(1, 2)}, []api.Event{x}, false}, // arguments are compared whole, not as a beginning
		{[]api.Event{x}, []api.Event{event(1, 2)}, false},
		{[]api.Event{event(1, 2, 3, 0)}, []api.Event{x}, false},
		{[]api.Event{x}, []api.Event{event(1, 2, 3, 0)}, false},
		{[]api.Event{{Num: 0, Args: []uint64{}, Answer: 4}}, []api.Event{y}, true},
	} {
		if got := Begins(c.a, c.b); got != c.want {
			t.Errorf("%d: Begins = %t", i, got)
		}
	}
}

func TestBeginsAgainstTexts(t *testing.T) {
	for _, a := range traces() {
		for _, b := range traces() {
			if got := Begins(a, b); got != strings.HasPrefix(text(b), text(a)) {
				t.Errorf("Begins(%v, %v) = %t", a, b, got)
			}
		}
	}
}

func TestBeginsOfLongTraces(t *testing.T) {
	const n = 100000
	long := slices.Repeat([]api.Event{event(3, 4, 5, 6, 7)}, n)
	other := slices.Clone(long)
	other[n-1] = event(3, 4, 5, 6, 8)
	if !Begins(long, long) || !Begins(long[:n-1], other) || Begins(long, other) || Begins(long, long[:n-1]) {
		t.Error("long traces")
	}
	args := make([]uint64, n)
	wide := []api.Event{event(3, 4, args...)}
	if !Begins(wide, wide) || Begins(wide, []api.Event{event(3, 4, args[1:]...)}) {
		t.Error("long arguments")
	}
}

func TestBecomesByHand(t *testing.T) {
	whole := base()
	for n := range len(whole.Trace) + 1 {
		for _, kind := range kinds {
			a := api.Outcome{Kind: kind, R0: 77, Context: []byte{9}, Trace: whole.Trace[:n], Left: -3}
			for _, end := range kinds {
				whole.Kind = end
				if got := Becomes(a, whole); got != (kind == api.EndFuel) {
					t.Errorf("kind %d, %d events, then kind %d: %t", kind, n, end, got)
				}
			}
		}
	}
	ended := api.Outcome{Kind: api.EndFuel, Trace: whole.Trace}
	if Becomes(ended, api.Outcome{Kind: api.EndReturn, Trace: whole.Trace[:1]}) || Becomes(ended, api.Outcome{}) {
		t.Error("what has happened can't be taken back")
	}
	if !Becomes(api.Outcome{}, api.Outcome{}) || !Becomes(ended, ended) {
		t.Error("a run may end for lack of fuel again")
	}
	for name, o := range changed() {
		if want := name == "trace longer" || strings.HasPrefix(name, "context") || name == "no context"; Becomes(ended, o) != want {
			t.Errorf("%s: Becomes is not %t", name, want)
		}
	}
}

// P5.2

func TestMay(t *testing.T) {
	args := []int{0, 1, 2, 3, 4, 5, 0, 1, 2, 3, 4, 5, 0, 1, 2, 3}
	for num, count := range args {
		for n := range 20 {
			for _, answer := range []uint64{0, 1, math.MaxUint64} {
				if got := May(event(num, answer, make([]uint64, n)...)); got != (n == count) {
					t.Errorf("May of %d with %d arguments: %t", num, n, got)
				}
			}
		}
	}
	if !May(api.Event{}) || !May(api.Event{Num: 6, Args: []uint64{}}) || !May(event(15, 0, 1<<63, math.MaxUint64, 0)) {
		t.Error("these may be")
	}
	if May(event(1, 0, make([]uint64, 257)...)) || May(event(0, 0, make([]uint64, 1<<16)...)) {
		t.Error("arguments are counted whole")
	}
}

func TestMayOfNumbersThatAreNone(t *testing.T) {
	for _, num := range wide {
		for n := range 7 {
			if got := May(event(num, 0, make([]uint64, n)...)); got && (num < 0 || num > 15) {
				t.Errorf("May of %d with %d arguments", num, n)
			}
		}
	}
}

func TestFuel(t *testing.T) {
	for _, c := range [][2]int{
		{0, 64},
		{1, 128},
		{2, 192},
		{64, 4160},
		{9999, 640000},
		{10000, 640064},
		{10001, 640064},
		{1 << 40, 640064},
		{1 << 58, 640064}, // 64 times this is 0
		{math.MaxInt, 640064},
		{-1, 64},
		{-2, 64},
		{-10000, 64},
		{math.MinInt, 64},
	} {
		if got := Fuel(c[0]); got != c[1] {
			t.Errorf("Fuel(%d) = %d, not %d", c[0], got, c[1])
		}
	}
	for steps := range 10001 {
		if got := Fuel(steps); got != 64*steps+64 {
			t.Fatalf("Fuel(%d) = %d", steps, got)
		}
	}
}

func TestCopyIsEqual(t *testing.T) {
	all := append(outcomes(), base(), api.Outcome{})
	for _, l := range traces() {
		all = append(all, api.Outcome{Kind: api.EndRefused, Trace: l})
	}
	for _, o := range all {
		p := Copy(o)
		endO, traceO := words(o)
		endP, traceP := words(p)
		if p.Kind != o.Kind || p.Left != o.Left || endP != endO || traceP != traceO || !Same(o, p) {
			t.Errorf("Copy(%v) = %v", o, p)
		}
	}
}

// overwrite changes all that an outcome has, what its lists hold behind their ends included.
func overwrite(o api.Outcome) {
	for i := range o.Context[:cap(o.Context)] {
		o.Context[:cap(o.Context)][i] = 99
	}
	for _, x := range o.Trace {
		for i := range x.Args[:cap(x.Args)] {
			x.Args[:cap(x.Args)][i] = 99
		}
	}
	for i := range o.Trace[:cap(o.Trace)] {
		o.Trace[:cap(o.Trace)][i] = event(99, 99, 99)
	}
}

// roomy is base with lists that have something behind their ends.
func roomy() api.Outcome {
	o := base()
	o.Context = append(o.Context, 55)[:2]
	o.Trace[0].Args = append(o.Trace[0].Args, 55)[:2]
	o.Trace[1].Args = []uint64{55}[:0]
	o.Trace = append(o.Trace, event(55, 55, 55))[:2]
	return o
}

func TestCopyIsNewMemory(t *testing.T) {
	o := roomy()
	overwrite(Copy(o))
	if !Same(o, base()) || o.Context[:3][2] != 55 || o.Trace[:3][2].Num != 55 || o.Trace[:3][2].Args[0] != 55 {
		t.Error("the copy's lists are the argument's:", o)
	}
	if o.Trace[0].Args[:3][2] != 55 || o.Trace[1].Args[:1][0] != 55 {
		t.Error("the copy's arguments are the argument's:", o)
	}
	p, q := Copy(o), Copy(o)
	overwrite(o)
	overwrite(q)
	if !Same(p, base()) {
		t.Error("a copy changes with the argument, or with another copy:", p)
	}
}

func TestCopySharesNothingWithinItself(t *testing.T) {
	args := []uint64{1, 2}
	o := api.Outcome{Trace: []api.Event{event(2, 0, args...), event(2, 0, args...), event(2, 0, args[:1]...)}}
	p := Copy(o)
	overwrite(api.Outcome{Trace: p.Trace[:1:1]})
	if !Begins(p.Trace[1:], o.Trace[1:]) || !Begins(o.Trace[1:], p.Trace[1:]) {
		t.Error("two events of a copy have the same arguments:", p)
	}
	if args[0] != 1 || args[1] != 2 {
		t.Error("the argument is changed:", args)
	}
}

// P5.3

func TestBeginsIsAPartialOrder(t *testing.T) {
	all := traces()
	for _, a := range all {
		if !Begins(a, a) {
			t.Errorf("not reflexive: %v", a)
		}
		for _, b := range all {
			if !Begins(a, b) {
				continue
			}
			if Begins(b, a) && text(a) != text(b) {
				t.Errorf("not antisymmetric: %v, %v", a, b)
			}
			for _, c := range all {
				if Begins(b, c) && !Begins(a, c) {
					t.Errorf("not transitive: %v, %v, %v", a, b, c)
				}
			}
		}
	}
}

func TestLikeIsSymmetricAndTransitive(t *testing.T) {
	all := outcomes()
	for _, a := range all {
		for _, b := range all {
			if Like(a, b) != Like(b, a) {
				t.Fatalf("not symmetric: %v, %v", a, b)
			}
			if !Like(a, b) {
				continue
			}
			for _, c := range all {
				if Like(b, c) && !Like(a, c) {
					t.Fatalf("not transitive: %v, %v, %v", a, b, c)
				}
			}
		}
	}
}

// R4

func TestNothingIsModified(t *testing.T) {
	o, p := roomy(), roomy()
	Same(o, p)
	Like(o, p)
	Begins(o.Trace, p.Trace[:1])
	Becomes(o, p)
	May(o.Trace[0])
	Copy(o)
	for _, x := range []api.Outcome{o, p} {
		behind := x.Trace[:3][2]
		if !Same(x, base()) || x.Context[:3][2] != 55 || behind.Num != 55 || behind.Args[0] != 55 {
			t.Error("an argument is modified:", x)
		}
		if x.Trace[0].Args[:3][2] != 55 || x.Trace[1].Args[:1][0] != 55 {
			t.Error("an argument's arguments are modified:", x)
		}
	}
}
