package bounds

import "lathe/api"

// number is what bounds are: without a sign or with one.
type number interface{ uint64 | int64 }

// pair is a lower and an upper bound of one kind.
type pair[N number] struct{ lo, hi N }

// unsigned tells the bounds without a sign.
func unsigned(r api.Range) pair[uint64] {
	return pair[uint64]{r.UMin, r.UMax}
}

// signed tells the bounds with a sign.
func signed(r api.Range) pair[int64] {
	return pair[int64]{r.SMin, r.SMax}
}

// both makes a range of its two kinds of bounds.
func both(u pair[uint64], s pair[int64]) api.Range {
	return api.Range{UMin: u.lo, UMax: u.hi, SMin: s.lo, SMax: s.hi}
}

func upTo(hi uint64) pair[uint64] {
	return pair[uint64]{0, hi}
}

// sameHalf tells the bounds of one kind that those of the other kind come to. That needs both of these in one half of the numbers, where the two orders agree; otherwise p is told, which says nothing new.
func sameHalf[N, M number](p pair[N], from pair[M]) pair[N] {
	if uint64(from.lo)>>(wide-1) != uint64(from.hi)>>(wide-1) {
		return p
	}
	return pair[N]{N(from.lo), N(from.hi)}
}

func (p pair[N]) may() bool {
	return p.lo <= p.hi
}

func (p pair[N]) has(v N) bool {
	return p.lo <= v && v <= p.hi
}

func (p pair[N]) in(q pair[N]) bool {
	return q.lo <= p.lo && p.hi <= q.hi
}

func (p pair[N]) join(q pair[N]) pair[N] {
	return pair[N]{min(p.lo, q.lo), max(p.hi, q.hi)}
}

func (p pair[N]) meet(q pair[N]) pair[N] {
	return pair[N]{max(p.lo, q.lo), min(p.hi, q.hi)}
}

// none tells bounds of p's kind that no number is in.
func (p pair[N]) none() pair[N] {
	return pair[N]{1, 0}
}

// plus tells the bounds of sums, or all if a sum may wrap round.
func (p pair[N]) plus(q, all pair[N]) pair[N] {
	if !sumFits(p.lo, q.lo) || !sumFits(p.hi, q.hi) {
		return all
	}
	return pair[N]{p.lo + q.lo, p.hi + q.hi}
}

// minus tells the bounds of differences, or all if a difference may wrap round.
func (p pair[N]) minus(q, all pair[N]) pair[N] {
	if !differenceFits(p.lo, q.hi) || !differenceFits(p.hi, q.lo) {
		return all
	}
	return pair[N]{p.lo - q.hi, p.hi - q.lo}
}

// without leaves v out where it is a bound.
func (p pair[N]) without(v N) pair[N] {
	switch {
	case p.lo == v && p.hi == v:
		return p.none()
	case p.lo == v:
		p.lo++
	case p.hi == v:
		p.hi--
	}
	return p
}

// above leaves the numbers that are greater than some number of q.
func (p pair[N]) above(q pair[N]) pair[N] {
	if p.hi <= q.lo {
		return p.none() // q.lo + 1 might wrap round
	}
	return p.atLeast(pair[N]{q.lo + 1, q.hi})
}

// atLeast leaves the numbers that some number of q is at most.
func (p pair[N]) atLeast(q pair[N]) pair[N] {
	return pair[N]{max(p.lo, q.lo), p.hi}
}

// below leaves the numbers that are less than some number of q.
func (p pair[N]) below(q pair[N]) pair[N] {
	if p.lo >= q.hi {
		return p.none() // q.hi - 1 might wrap round
	}
	return p.atMost(pair[N]{q.lo, q.hi - 1})
}

// atMost leaves the numbers that some number of q is at least.
func (p pair[N]) atMost(q pair[N]) pair[N] {
	return pair[N]{p.lo, min(p.hi, q.hi)}
}

// sumFits looks at half the sum, which always fits: a sum that wraps round has another one.
func sumFits[N number](a, b N) bool {
	return (a+b)>>1 == a>>1+b>>1+a&b&1
}

// differenceFits looks at half the difference in the same way. Without a sign that half may wrap round itself, but not to the half of what wraps round.
func differenceFits[N number](a, b N) bool {
	return (a-b)>>1 == a>>1-b>>1-^a&b&1
}
