package flags

import (
	"math/big"

	"lathe/api"
)

// What the chapter says, worked out with unbounded numbers, and with flags as texts of those that are set.

// text tells the letters of the flags that are set, "?" if they are not known, "!" if some are set all the same.
func text(f api.Flags) string {
	s := ""
	for i, set := range []bool{f.C, f.Z, f.S, f.O} {
		if set {
			s += "CZSO"[i : i+1]
		}
	}
	switch {
	case f.Known:
		return s
	case s == "":
		return "?"
	}
	return "!"
}

// flagsOf makes known flags of a text.
func flagsOf(s string) api.Flags {
	f := api.Flags{Known: true}
	for _, c := range s {
		switch c {
		case 'C':
			f.C = true
		case 'Z':
			f.Z = true
		case 'S':
			f.S = true
		case 'O':
			f.O = true
		default:
			panic("a flag that is none")
		}
	}
	return f
}

func plainWidth(w int8) bool { return w == 32 || w == 64 }

func power(w int8) *big.Int {
	return new(big.Int).Lsh(big.NewInt(1), uint(w))
}

// low tells n modulo 2^w, which is never negative.
func low(n *big.Int, w int8) *big.Int {
	return new(big.Int).Mod(n, power(w))
}

func word(v uint64, w int8) *big.Int {
	return low(new(big.Int).SetUint64(v), w)
}

// sign tells the highest bit of a word.
func sign(n *big.Int, w int8) bool {
	return n.Cmp(power(w-1)) >= 0
}

func plainText(w int8, result *big.Int, c, o bool) string {
	s := ""
	if c {
		s += "C"
	}
	if result.Sign() == 0 {
		s += "Z"
	}
	if sign(result, w) {
		s += "S"
	}
	if o {
		s += "O"
	}
	return s
}

func plainAdd(w int8, a, b uint64) string {
	x, y := word(a, w), word(b, w)
	sum := new(big.Int).Add(x, y)
	result := low(sum, w)
	o := sign(x, w) == sign(y, w) && sign(result, w) != sign(x, w)
	return plainText(w, result, sum.Cmp(power(w)) >= 0, o)
}

func plainSub(w int8, a, b uint64) string {
	x, y := word(a, w), word(b, w)
	result := low(new(big.Int).Sub(x, y), w)
	o := sign(x, w) != sign(y, w) && sign(result, w) != sign(x, w)
	return plainText(w, result, x.Cmp(y) < 0, o)
}

func plainOf(w int8, v uint64) string {
	return plainText(w, word(v, w), false, false)
}

// signed tells v's lowest w bits as a number with a sign.
func signed(v uint64, w int8) *big.Int {
	n := word(v, w)
	if sign(n, w) {
		n.Sub(n, power(w))
	}
	return n
}

// outside tells whether a number is none that a signed word can be.
func outside(n *big.Int, w int8) bool {
	half := power(w - 1)
	return n.Cmp(half) >= 0 || n.Cmp(new(big.Int).Neg(half)) < 0
}

// plainConditions are all conditions: for each, the texts of the flags for which it holds.
var plainConditions = map[int8][]string{
	api.CcB:  {"C", "CZ", "CS", "CZS", "CO", "CZO", "CSO", "CZSO"},
	api.CcAe: {"", "Z", "S", "ZS", "O", "ZO", "SO", "ZSO"},
	api.CcE:  {"Z", "CZ", "ZS", "CZS", "ZO", "CZO", "ZSO", "CZSO"},
	api.CcNe: {"", "C", "S", "CS", "O", "CO", "SO", "CSO"},
	api.CcBe: {"C", "Z", "CZ", "CS", "ZS", "CZS", "CO", "ZO", "CZO", "CSO", "ZSO", "CZSO"},
	api.CcA:  {"", "S", "O", "SO"},
	api.CcL:  {"S", "CS", "ZS", "CZS", "O", "CO", "ZO", "CZO"},
	api.CcGe: {"", "C", "Z", "CZ", "SO", "CSO", "ZSO", "CZSO"},
	api.CcLe: {"Z", "CZ", "S", "CS", "ZS", "CZS", "O", "CO", "ZO", "CZO", "ZSO", "CZSO"},
	api.CcG:  {"", "C", "SO", "CSO"},
}

// plainOpposites are the pairs that the chapter's words make opposites.
var plainOpposites = [][2]int8{
	{api.CcB, api.CcAe}, {api.CcE, api.CcNe}, {api.CcBe, api.CcA}, {api.CcL, api.CcGe}, {api.CcLe, api.CcG},
}

// sourceConditions are what the conditions say of a and b after a - b, as the source's conditions.
var sourceConditions = map[int8]int8{
	api.CcE: api.Eq, api.CcNe: api.Ne,
	api.CcB: api.Lt, api.CcAe: api.Ge, api.CcBe: api.Le, api.CcA: api.Gt,
	api.CcL: api.Slt, api.CcGe: api.Sge, api.CcLe: api.Sle, api.CcG: api.Sgt,
}
