package exec

import (
	"math/big"
	"slices"
	"strconv"
	"strings"

	"lathe/api"
	"lathe/encode"
)

// What the chapter says, worked out with unbounded numbers, and with operations as texts.

// row is what the chapter says of an operation.
type row struct {
	op     int8
	widths string // none: W is not named
	fields string // the other ones that it names
	second string // what it takes beside Dst: Src, Imm, rcx, or what is loaded
	result string // what Dst becomes; nothing: it stays
	flags  string // of which result the flags are, "?" if they are not known then; nothing: they stay
}

// rows are all operations. What they do beside Dst and the flags is in plainDo.
var rows = []row{
	{api.XMov, "32 64", "Dst Src", "Src", "=", ""},
	{api.XMovI, "32 64", "Dst Imm", "Imm", "=", ""},
	{api.XAdd, "32 64", "Dst Src", "Src", "+", "+"},
	{api.XOr, "32 64", "Dst Src", "Src", "|", "|"},
	{api.XAnd, "32 64", "Dst Src", "Src", "&", "&"},
	{api.XSub, "32 64", "Dst Src", "Src", "-", "-"},
	{api.XXor, "32 64", "Dst Src", "Src", "^", "^"},
	{api.XCmp, "32 64", "Dst Src", "Src", "", "-"},
	{api.XTest, "32 64", "Dst Src", "Src", "", "&"},
	{api.XAddI, "32 64", "Dst Imm", "Imm", "+", "+"},
	{api.XOrI, "32 64", "Dst Imm", "Imm", "|", "|"},
	{api.XAndI, "32 64", "Dst Imm", "Imm", "&", "&"},
	{api.XSubI, "32 64", "Dst Imm", "Imm", "-", "-"},
	{api.XXorI, "32 64", "Dst Imm", "Imm", "^", "^"},
	{api.XCmpI, "32 64", "Dst Imm", "Imm", "", "-"},
	{api.XTestI, "32 64", "Dst Imm", "Imm", "", "&"},
	{api.XMul, "32 64", "Dst Src", "Src", "*", "?"},
	{api.XShl, "32 64", "Dst Shift", "Imm", "<<", "?"},
	{api.XShr, "32 64", "Dst Shift", "Imm", ">>", "?"},
	{api.XSar, "32 64", "Dst Shift", "Imm", "s>>", "?"},
	{api.XShlC, "32 64", "Dst", "rcx", "<<", "?"},
	{api.XShrC, "32 64", "Dst", "rcx", ">>", "?"},
	{api.XSarC, "32 64", "Dst", "rcx", "s>>", "?"},
	{api.XNeg, "32 64", "Dst", "", "0-", "0-"},
	{api.XDiv, "32 64", "Dst", "", "", "?"},
	{api.XCmov, "32 64", "Dst Src Cc", "Src", "", ""},
	{api.XLoad, "8 16 32 64", "Dst Base Disp", "loaded", "=", ""},
	{api.XStore, "8 16 32 64", "Src Base Disp", "", "", ""},
	{api.XJmp, "8 32", "Jump", "", "", ""},
	{api.XJcc, "8 32", "Jump Cc", "", "", ""},
	{api.XRet, "", "", "", "", ""},
	{api.XHost, "", "", "", "", ""},
}

// at tells a row's widths.
func (r row) at() []int8 {
	if r.widths == "" {
		return []int8{0}
	}
	var l []int8
	for _, text := range strings.Fields(r.widths) {
		w, _ := strconv.Atoi(text)
		l = append(l, int8(w))
	}
	return l
}

// numbers tells what of some numbers a field may be, 0 if the row does not name it.
func numbers[T any](r row, field string, named []T) []T {
	if slices.Contains(strings.Fields(r.fields), field) {
		return named
	}
	return make([]T, 1)
}

// conditions are the target's ten, with those flags for which they hold.
var conditions = map[int8]func(f api.Flags) bool{
	api.CcB:  func(f api.Flags) bool { return f.C },
	api.CcAe: func(f api.Flags) bool { return !f.C },
	api.CcE:  func(f api.Flags) bool { return f.Z },
	api.CcNe: func(f api.Flags) bool { return !f.Z },
	api.CcBe: func(f api.Flags) bool { return f.C || f.Z },
	api.CcA:  func(f api.Flags) bool { return !(f.C || f.Z) },
	api.CcL:  func(f api.Flags) bool { return f.S != f.O },
	api.CcGe: func(f api.Flags) bool { return f.S == f.O },
	api.CcLe: func(f api.Flags) bool { return f.Z || f.S != f.O },
	api.CcG:  func(f api.Flags) bool { return !(f.Z || f.S != f.O) },
}

// sourceConditions are the pairs of P15.2; the last one goes one way only.
var sourceConditions = []struct{ source, target int8 }{
	{api.Eq, api.CcE}, {api.Ne, api.CcNe}, {api.Gt, api.CcA}, {api.Ge, api.CcAe}, {api.Lt, api.CcB}, {api.Le, api.CcBe},
	{api.Sgt, api.CcG}, {api.Sge, api.CcGe}, {api.Slt, api.CcL}, {api.Sle, api.CcLe}, {api.Set, api.CcNe},
}

func power(w int8) *big.Int {
	return new(big.Int).Lsh(big.NewInt(1), uint(w))
}

// low tells n modulo 2^w, which is never negative.
func low(n *big.Int, w int8) *big.Int {
	return new(big.Int).Mod(n, power(w))
}

func unsigned(v uint64, w int8) *big.Int {
	return low(new(big.Int).SetUint64(v), w)
}

func signed(v uint64, w int8) *big.Int {
	n := unsigned(v, w)
	if n.Cmp(power(w-1)) >= 0 {
		n.Sub(n, power(w))
	}
	return n
}

// plainCut tells v's lowest w bits.
func plainCut(v uint64, w int8) uint64 {
	return unsigned(v, w).Uint64()
}

// sum tells a number and an int, as addresses add up.
func sum(v uint64, n int) uint64 {
	return low(new(big.Int).Add(new(big.Int).SetUint64(v), big.NewInt(int64(n))), 64).Uint64()
}

// plainResult tells the result of an operation that Dst has.
func plainResult(op string, w int8, a, b uint64) uint64 {
	x, y, r := unsigned(a, w), unsigned(b, w), new(big.Int)
	count := uint(b % uint64(w))
	switch op {
	case "=":
		r.Set(y)
	case "+":
		r.Add(x, y)
	case "-":
		r.Sub(x, y)
	case "0-":
		r.Neg(x)
	case "*":
		r.Mul(x, y)
	case "&":
		r.And(x, y)
	case "|":
		r.Or(x, y)
	case "^":
		r.Xor(x, y)
	case "<<":
		r.Lsh(x, count)
	case ">>":
		r.Rsh(x, count)
	case "s>>":
		r.Rsh(signed(a, w), count) // rounds down, as copies of the sign do
	default:
		panic("an operation that is none")
	}
	return low(r, w).Uint64()
}

// plainFlags tells the flags after an operation.
func plainFlags(op string, w int8, a, b uint64) api.Flags {
	if op == "?" {
		return api.Flags{}
	}
	result := plainResult(op, w, a, b)
	if op == "0-" {
		op, a, b = "-", 0, a
	}
	f := api.Flags{Known: true, Z: result == 0, S: signed(result, w).Sign() < 0}
	exact := new(big.Int)
	switch op {
	case "+":
		f.C = exact.Add(unsigned(a, w), unsigned(b, w)).Cmp(power(w)) >= 0
		exact.Add(signed(a, w), signed(b, w))
	case "-":
		f.C = exact.Sub(unsigned(a, w), unsigned(b, w)).Sign() < 0
		exact.Sub(signed(a, w), signed(b, w))
	default:
		return f
	}
	f.O = exact.Cmp(signed(result, w)) != 0 // no signed word of the width is the sum or difference
	return f
}

// plainDo tells the machine after a valid instruction.
func plainDo(m api.Machine, x api.X, loaded uint64) (api.Machine, api.Errno) {
	r := rows[x.Op]
	m.At = sum(m.At, encode.Len(x))
	var a, b uint64
	if r.result != "" || r.flags != "" {
		a = m.R[x.Dst]
	}
	switch r.second {
	case "Src":
		b = m.R[x.Src]
	case "Imm":
		b = sum(0, x.Imm)
	case "rcx":
		b = m.R[1]
	case "loaded":
		b = loaded
	}
	if r.result != "" {
		m.R[x.Dst] = plainResult(r.result, x.W, a, b)
	}
	if (x.Op == api.XJcc || x.Op == api.XCmov) && !m.F.Known {
		return api.Machine{}, api.ErrFault
	}
	switch x.Op {
	case api.XDiv:
		number, rest, divisor := unsigned(m.R[0], x.W), unsigned(m.R[2], x.W), unsigned(a, x.W)
		if rest.Sign() != 0 || divisor.Sign() == 0 {
			return api.Machine{}, api.ErrFault
		}
		number.QuoRem(number, divisor, rest)
		m.R[0], m.R[2] = number.Uint64(), rest.Uint64()
	case api.XCmov:
		if conditions[x.Cc](m.F) {
			m.R[x.Dst] = b
		}
		m.R[x.Dst] = plainCut(m.R[x.Dst], x.W)
	case api.XJcc:
		if conditions[x.Cc](m.F) {
			m.At = sum(m.At, x.Imm)
		}
	case api.XJmp:
		m.At = sum(m.At, x.Imm)
	case api.XRet:
		m.At, m.R[4] = loaded, sum(m.R[4], 8)
	case api.XHost:
		m.R[0], m.R[1], m.R[11] = loaded, 0, 0
	}
	if r.flags != "" {
		m.F = plainFlags(r.flags, x.W, a, b)
	}
	return m, api.OK
}

// plainAddress tells the access of a valid instruction.
func plainAddress(m api.Machine, x api.X) (at uint64, size int, ok bool) {
	switch x.Op {
	case api.XLoad, api.XStore:
		return sum(m.R[x.Base], x.Disp), map[int8]int{8: 1, 16: 2, 32: 4, 64: 8}[x.W], true
	case api.XRet:
		return m.R[4], 8, true
	}
	return 0, 0, false
}

// plainStored tells what a valid instruction stores.
func plainStored(m api.Machine, x api.X) uint64 {
	if x.Op != api.XStore {
		return 0
	}
	return plainCut(m.R[x.Src], x.W)
}
