package verify

import (
	"lathe/api"
	"lathe/state"
)

// verifier is how far verifying a program has come.
type verifier struct {
	program api.Prog
	states  []*api.State // nil: the instruction has none
	grown   []int        // how often each state has
	pending bitmap
}

// start tells a verifier that has visited nothing yet.
func start(p api.Prog) *verifier {
	v := &verifier{program: p, states: make([]*api.State, len(p.L)), grown: make([]int, len(p.L))}
	v.reach(api.Side{To: 0, S: state.First()})
	return v
}

// visitAll visits instructions as long as one is pending. It tells the one that is rejected, and why.
func (v *verifier) visitAll() (int, api.Errno) {
	last := 0
	for range api.MaxVisits {
		i, ok := v.pending.lowest()
		if !ok {
			return 0, api.OK
		}
		v.pending.drop(i)
		if e := v.visit(i); e != api.OK {
			return i, e
		}
		last = i
	}
	if _, ok := v.pending.lowest(); ok {
		return last, api.ErrSpend
	}
	return 0, api.OK
}

func (v *verifier) visit(i int) api.Errno {
	sides, e := effect(v.program, i, *v.states[i])
	if e != api.OK {
		return e
	}
	for side := range sides {
		v.reach(side)
	}
	return api.OK
}

// reach adds to the state of an instruction that of a side, and asks for a visit if that is more than it had.
func (v *verifier) reach(side api.Side) {
	had := v.states[side.To]
	if had == nil {
		v.states[side.To] = &side.S
		v.pending.put(side.To)
		return
	}
	both := state.Join
	if v.grown[side.To] > api.Widen {
		both = state.Widen
	}
	s, _ := both(*had, side.S) // no error: all states here are valid
	if s == *had {
		return
	}
	*had = s
	v.grown[side.To]++
	v.pending.put(side.To)
}

func (v *verifier) report() api.Report {
	r := api.Report{Seen: make([]bool, len(v.states)), S: make([]api.State, len(v.states))}
	for i, s := range v.states {
		if s != nil {
			r.Seen[i], r.S[i] = true, *s
		}
	}
	return r
}

// partBits is how many numbers one element of a bitmap stands for.
const partBits = 32

// bitmap is a set of indices of instructions.
type bitmap [api.MaxProg / partBits]uint32

func (b *bitmap) put(i int) {
	b[i/partBits] |= 1 << (i % partBits)
}

func (b *bitmap) drop(i int) {
	b[i/partBits] &^= 1 << (i % partBits)
}

// lowest tells the least index that is in the set, or false if none is.
func (b *bitmap) lowest() (int, bool) {
	for n, part := range b {
		for i := n * partBits; part != 0; i++ {
			if part&1 == 1 {
				return i, true
			}
			part >>= 1
		}
	}
	return 0, false
}
