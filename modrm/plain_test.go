package modrm

import (
	"math/big"

	"lathe/api"
)

// What the chapter says, worked out with sums and texts of digits instead of bits.

func plainRegister(r int8) bool { return 0 <= r && r <= 15 }

func plainRex(wide bool, reg, rm int8) (byte, api.Errno) {
	if !plainRegister(reg) || !plainRegister(rm) {
		return 0, api.ErrArg
	}
	b := byte(0x40)
	if wide {
		b += 8
	}
	if reg > 7 {
		b += 4
	}
	if rm > 7 {
		b += 1
	}
	return b, api.OK
}

func plainNeeds(reg, rm int8) bool {
	return plainRegister(reg) && plainRegister(rm) && (reg > 7 || rm > 7)
}

func plainRegs(reg, rm int8) ([]byte, api.Errno) {
	if !plainRegister(reg) || !plainRegister(rm) {
		return nil, api.ErrArg
	}
	return []byte{0xC0 + 8*byte(reg%8) + byte(rm%8)}, api.OK
}

func plainMem(reg, base int8, disp int) ([]byte, api.Errno) {
	if !plainRegister(reg) || !plainRegister(base) || disp < -0x80000000 || disp > 0x7FFFFFFF {
		return nil, api.ErrArg
	}
	b := []byte{0x80 + 8*byte(reg%8) + byte(base%8)}
	if base == 4 || base == 12 {
		b = append(b, 0x24)
	}
	return append(b, plainBytes(disp, 4)...), api.OK
}

// plainBytes tells n bytes of v, lowest first, by dividing a number that is never negative.
func plainBytes(v, n int) []byte {
	x := new(big.Int).Mod(big.NewInt(int64(v)), power(8*n))
	var b []byte
	for range n {
		digit := new(big.Int)
		x.DivMod(x, big.NewInt(256), digit)
		b = append(b, byte(digit.Int64()))
	}
	return b
}

func plainNum(v, n int) ([]byte, api.Errno) {
	if n != 1 && n != 2 && n != 4 {
		return nil, api.ErrArg
	}
	end := power(8*n - 1)
	x := big.NewInt(int64(v))
	if x.Cmp(new(big.Int).Neg(end)) < 0 || x.Cmp(end) >= 0 {
		return nil, api.ErrArg
	}
	return plainBytes(v, n), api.OK
}

func plainSigned(b []byte) int {
	if len(b) > 8 {
		b = b[:8]
	}
	x := new(big.Int)
	for i, v := range b {
		x.Add(x, new(big.Int).Mul(big.NewInt(int64(v)), power(8*i)))
	}
	if len(b) > 0 && x.Cmp(power(8*len(b)-1)) >= 0 {
		x.Sub(x, power(8*len(b)))
	}
	return int(x.Int64())
}

func power(n int) *big.Int {
	return new(big.Int).Lsh(big.NewInt(1), uint(n))
}

// rexed is what ReadRex answers.
type rexed struct {
	wide    bool
	reg, rm int8
	ok      bool
}

// plainReadRex looks the byte up among all that Rex may answer.
func plainReadRex(b byte) rexed {
	for _, wide := range []bool{false, true} {
		for _, reg := range []int8{0, 8} {
			for _, rm := range []int8{0, 8} {
				if x, _ := plainRex(wide, reg, rm); x == b {
					return rexed{wide, reg, rm, true}
				}
			}
		}
	}
	return rexed{}
}

// operandRead is what Read answers.
type operandRead struct {
	reg, rm int8
	disp    int
	mem     bool
	n       int
	e       api.Errno
}

// plainRead looks the bytes up among all operands of low registers.
func plainRead(b []byte) operandRead {
	for reg := range int8(8) {
		for rm := range int8(8) {
			if x, _ := plainRegs(reg, rm); begins(b, x) {
				return operandRead{reg, rm, 0, false, 1, api.OK}
			}
			x, _ := plainMem(reg, rm, 0)
			if len(b) < len(x) {
				continue
			}
			disp := plainSigned(b[len(x)-4 : len(x)])
			if x, _ := plainMem(reg, rm, disp); begins(b, x) {
				return operandRead{reg, rm, disp, true, len(x), api.OK}
			}
		}
	}
	return operandRead{e: api.ErrCode}
}

func begins(b, with []byte) bool {
	return len(b) >= len(with) && string(b[:len(with)]) == string(with)
}
