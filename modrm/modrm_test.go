package modrm

import (
	"bytes"
	"math"
	"slices"
	"testing"

	"lathe/api"
)

// numbers are those at which the ranges of 1, 2, 4 and 8 bytes turn, and numbers whose bytes all differ.
func numbers() []int {
	all := []int{0x12345678, -0x12345678, 0x1234, -0x1234, 0x0123456789ABCDEF, math.MinInt, math.MinInt + 1, math.MaxInt, math.MaxInt - 1}
	for bit := range 63 {
		for off := -2; off <= 2; off++ {
			all = append(all, 1<<bit+off, -1<<bit+off)
		}
	}
	return all
}

// disps are numbers around the range of a disp.
var disps = []int{0, 1, -1, 16, 127, 128, -128, -129, 255, 256, 0x24, 0x24242424, 0x12345678, -0x12345678, math.MaxInt32, math.MaxInt32 + 1, math.MinInt32, math.MinInt32 - 1, 1 << 32, -1 << 32, 1<<32 + 5, math.MaxInt, math.MinInt}

// eachPair calls f with all pairs of int8.
func eachPair(f func(reg, rm int8)) {
	for reg := math.MinInt8; reg <= math.MaxInt8; reg++ {
		for rm := math.MinInt8; rm <= math.MaxInt8; rm++ {
			f(int8(reg), int8(rm))
		}
	}
}

// eachRegisters calls f with all pairs of registers.
func eachRegisters(f func(reg, rm int8)) {
	for reg := range int8(16) {
		for rm := range int8(16) {
			f(reg, rm)
		}
	}
}

func readRex(b byte) rexed {
	wide, reg, rm, ok := ReadRex(b)
	return rexed{wide, reg, rm, ok}
}

func read(b []byte) operandRead {
	reg, rm, disp, mem, n, e := Read(b)
	return operandRead{reg, rm, disp, mem, n, e}
}

// P12.1

func TestRexOfAllNumbers(t *testing.T) {
	eachPair(func(reg, rm int8) {
		for _, wide := range []bool{false, true} {
			got, e := Rex(wide, reg, rm)
			if want, f := plainRex(wide, reg, rm); got != want || e != f {
				t.Errorf("Rex(%t, %d, %d) = %x, %v, not %x, %v", wide, reg, rm, got, e, want, f)
			}
		}
	})
}

func TestRexByHand(t *testing.T) {
	for _, c := range []struct {
		wide    bool
		reg, rm int8
		want    byte
		e       api.Errno
	}{
		{true, 9, 3, 0x4C, api.OK},
		{false, 0, 0, 0x40, api.OK},
		{false, 7, 7, 0x40, api.OK},
		{false, 8, 7, 0x44, api.OK},
		{false, 7, 8, 0x41, api.OK},
		{true, 15, 15, 0x4D, api.OK},
		{true, 16, 0, 0, api.ErrArg},
		{true, 0, -1, 0, api.ErrArg},
	} {
		if got, e := Rex(c.wide, c.reg, c.rm); got != c.want || e != c.e {
			t.Errorf("Rex(%t, %d, %d) = %x, %v, not %x, %v", c.wide, c.reg, c.rm, got, e, c.want, c.e)
		}
	}
}

func TestNeedsOfAllNumbers(t *testing.T) {
	eachPair(func(reg, rm int8) {
		if got, want := Needs(reg, rm), plainNeeds(reg, rm); got != want {
			t.Errorf("Needs(%d, %d) = %t", reg, rm, got)
		}
	})
	if Needs(7, 7) || !Needs(8, 0) || !Needs(0, 15) || Needs(16, 9) || Needs(9, -8) {
		t.Error("Needs at its edges")
	}
}

func TestRegsOfAllNumbers(t *testing.T) {
	eachPair(func(reg, rm int8) {
		got, e := Regs(reg, rm)
		if want, f := plainRegs(reg, rm); !bytes.Equal(got, want) || e != f {
			t.Errorf("Regs(%d, %d) = %x, %v, not %x, %v", reg, rm, got, e, want, f)
		}
	})
	if b, e := Regs(9, 3); !bytes.Equal(b, []byte{0xCB}) || e != api.OK {
		t.Errorf("Regs(9, 3) = %x, %v", b, e)
	}
}

func TestMemOfAllNumbers(t *testing.T) {
	eachPair(func(reg, base int8) {
		for _, disp := range disps {
			got, e := Mem(reg, base, disp)
			if want, f := plainMem(reg, base, disp); !bytes.Equal(got, want) || e != f {
				t.Errorf("Mem(%d, %d, %d) = %x, %v, not %x, %v", reg, base, disp, got, e, want, f)
			}
		}
	})
}

func TestMemByHand(t *testing.T) {
	for _, c := range []struct {
		reg, base int8
		disp      int
		want      []byte
		e         api.Errno
	}{
		{1, 4, 16, []byte{0x8C, 0x24, 0x10, 0, 0, 0}, api.OK},
		{1, 12, -1, []byte{0x8C, 0x24, 0xFF, 0xFF, 0xFF, 0xFF}, api.OK},
		{4, 1, 16, []byte{0xA1, 0x10, 0, 0, 0}, api.OK},
		{0, 5, 0, []byte{0x85, 0, 0, 0, 0}, api.OK},
		{15, 13, math.MinInt32, []byte{0xBD, 0, 0, 0, 0x80}, api.OK},
		{0, 0, math.MaxInt32, []byte{0x80, 0xFF, 0xFF, 0xFF, 0x7F}, api.OK},
		{0, 0, math.MaxInt32 + 1, nil, api.ErrArg},
		{0, 0, math.MinInt32 - 1, nil, api.ErrArg},
		{-1, 0, 0, nil, api.ErrArg},
		{0, 16, 0, nil, api.ErrArg},
	} {
		if got, e := Mem(c.reg, c.base, c.disp); !bytes.Equal(got, c.want) || e != c.e {
			t.Errorf("Mem(%d, %d, %d) = %x, %v, not %x, %v", c.reg, c.base, c.disp, got, e, c.want, c.e)
		}
	}
}

func TestReadRexOfAllBytes(t *testing.T) {
	accepted := 0
	for b := range 256 {
		got, want := readRex(byte(b)), plainReadRex(byte(b))
		if got != want {
			t.Errorf("ReadRex(%x) = %v, not %v", b, got, want)
		}
		if got.ok {
			accepted++
		}
	}
	if accepted != 8 {
		t.Errorf("%d bytes are REX bytes, not 8", accepted)
	}
}

// P12.2

func TestReadOfAllFirstBytes(t *testing.T) {
	for first := range 256 {
		for _, second := range []byte{0, 1, 4, 0x20, 0x23, 0x24, 0x25, 0x26, 0x64, 0x80, 0xA4, 0xC4, 0xFF} {
			b := []byte{byte(first), second, 0x24, 0xFF, 1, 0x80, 0x24, 7}
			for n := range len(b) + 1 {
				if got, want := read(b[:n]), plainRead(b[:n]); got != want {
					t.Errorf("Read(%x) = %v, not %v", b[:n], got, want)
				}
			}
		}
	}
}

func TestReadByHand(t *testing.T) {
	for _, c := range []struct {
		b    []byte
		want operandRead
	}{
		{[]byte{0xCB}, operandRead{1, 3, 0, false, 1, api.OK}},
		{[]byte{0xC4, 0x24}, operandRead{0, 4, 0, false, 1, api.OK}},
		{[]byte{0xFF, 1, 2, 3, 4}, operandRead{7, 7, 0, false, 1, api.OK}},
		{[]byte{0x8C, 0x24, 0x10, 0, 0, 0}, operandRead{1, 4, 16, true, 6, api.OK}},
		{[]byte{0xBF, 0xFE, 0xFF, 0xFF, 0xFF, 9}, operandRead{7, 7, -2, true, 5, api.OK}},
		{[]byte{0x83, 0x24, 0, 0, 0}, operandRead{0, 3, 0x24, true, 5, api.OK}}, // the byte is disp's here
	} {
		if got := read(c.b); got != c.want {
			t.Errorf("Read(%x) = %v, not %v", c.b, got, c.want)
		}
	}
}

func TestReadOfOtherForms(t *testing.T) {
	none := operandRead{e: api.ErrCode}
	for _, b := range [][]byte{
		nil, {}, {0x80}, {0x84}, {0xBF, 0, 0, 0}, // cut off
		{0x84, 0x24}, {0x84, 0x24, 0, 0, 0}, {0x80, 0, 0, 0},
		{0x00}, {0x05, 0, 0, 0, 0}, {0x04, 0x24}, {0x40, 0}, {0x45, 0}, {0x44, 0x24, 0}, {0x7F, 0, 0, 0, 0}, // other kinds
		{0x84, 0, 0, 0, 0, 0}, {0x84, 0x20, 0, 0, 0, 0}, {0x84, 0x25, 0, 0, 0, 0}, {0x84, 0x64, 0, 0, 0, 0}, {0x84, 0x04, 0, 0, 0, 0}, // no byte 24
	} {
		if got := read(b); got != none {
			t.Errorf("Read(%x) = %v", b, got)
		}
	}
}

// P12.3

func TestNumOfAllNumbers(t *testing.T) {
	sizes := []int{math.MinInt, -4, -1, 0, 1, 2, 3, 4, 5, 6, 7, 8, 9, 16, 32, 64, 1<<32 + 1, math.MaxInt}
	for _, v := range numbers() {
		for _, n := range sizes {
			got, e := Num(v, n)
			if want, f := plainNum(v, n); !bytes.Equal(got, want) || e != f {
				t.Errorf("Num(%d, %d) = %x, %v, not %x, %v", v, n, got, e, want, f)
			}
		}
	}
}

func TestNumByHand(t *testing.T) {
	for _, c := range []struct {
		v, n int
		want []byte
		e    api.Errno
	}{
		{127, 1, []byte{127}, api.OK},
		{-128, 1, []byte{0x80}, api.OK},
		{128, 1, nil, api.ErrArg},
		{-129, 1, nil, api.ErrArg},
		{258, 2, []byte{2, 1}, api.OK},
		{-32768, 2, []byte{0, 0x80}, api.OK},
		{32768, 2, nil, api.ErrArg},
		{-2, 4, []byte{0xFE, 0xFF, 0xFF, 0xFF}, api.OK},
		{1 << 31, 4, nil, api.ErrArg},
		{0, 0, nil, api.ErrArg},
		{0, 3, nil, api.ErrArg},
		{0, 8, nil, api.ErrArg},
		{0, -1, nil, api.ErrArg},
	} {
		if got, e := Num(c.v, c.n); !bytes.Equal(got, c.want) || e != c.e {
			t.Errorf("Num(%d, %d) = %x, %v, not %x, %v", c.v, c.n, got, e, c.want, c.e)
		}
	}
}

func TestSignedOfRows(t *testing.T) {
	for _, last := range []byte{0, 1, 0x7F, 0x80, 0x81, 0xFE, 0xFF} {
		for _, other := range []byte{0, 1, 0x80, 0xFF} {
			for n := range 20 {
				b := bytes.Repeat([]byte{other}, n)
				for at := range b {
					b[at] = last
					if got, want := Signed(b), plainSigned(b); got != want {
						t.Errorf("Signed(%x) = %d, not %d", b, got, want)
					}
					b[at] = other
				}
			}
		}
	}
}

func TestSignedByHand(t *testing.T) {
	for _, c := range []struct {
		b    []byte
		want int
	}{
		{nil, 0},
		{[]byte{}, 0},
		{[]byte{0x7F}, 127},
		{[]byte{0x80}, -128},
		{[]byte{0x80, 0}, 128},
		{[]byte{0, 0, 0x80}, -1 << 23},
		{[]byte{1, 2, 3, 4, 5, 6, 7, 8}, 0x0807060504030201},
		{[]byte{0, 0, 0, 0, 0, 0, 0, 0x80}, math.MinInt},
		{[]byte{1, 0, 0, 0, 0, 0, 0, 0, 0xFF}, 1},
		{[]byte{0xFF, 0xFF, 0xFF, 0xFF, 0xFF, 0xFF, 0xFF, 0xFF, 1, 2, 3}, -1},
	} {
		if got := Signed(c.b); got != c.want {
			t.Errorf("Signed(%x) = %d, not %d", c.b, got, c.want)
		}
	}
	if got := Signed(make([]byte, 1<<20)); got != 0 {
		t.Errorf("Signed of many zeros = %d", got)
	}
}

// P12.4

func TestReadOfWhatIsEncoded(t *testing.T) {
	eachRegisters(func(reg, rm int8) {
		for _, behind := range [][]byte{nil, {0x24}, {0, 0, 0, 0, 0, 0, 0, 0, 0}, {0xC0, 0xFF}} {
			b, e := Regs(reg, rm)
			want := operandRead{reg % 8, rm % 8, 0, false, len(b), api.OK}
			if got := read(append(slices.Clip(b), behind...)); e != api.OK || got != want {
				t.Errorf("Read of Regs(%d, %d) = %v, not %v", reg, rm, got, want)
			}
			for _, disp := range disps {
				b, e := Mem(reg, rm, disp)
				want := operandRead{reg % 8, rm % 8, disp, true, len(b), api.OK}
				if got := read(append(slices.Clip(b), behind...)); e == api.OK && got != want {
					t.Errorf("Read of Mem(%d, %d, %d) = %v, not %v", reg, rm, disp, got, want)
				}
			}
		}
	})
}

func TestReadRexOfWhatIsEncoded(t *testing.T) {
	eachRegisters(func(reg, rm int8) {
		for _, wide := range []bool{false, true} {
			b, e := Rex(wide, reg, rm)
			want := rexed{wide, reg / 8 * 8, rm / 8 * 8, true}
			if got := readRex(b); e != api.OK || got != want {
				t.Errorf("ReadRex of Rex(%t, %d, %d) = %v, not %v", wide, reg, rm, got, want)
			}
			if Needs(reg, rm) != (readRex(b).reg+readRex(b).rm > 0) {
				t.Errorf("Needs(%d, %d) is not what the REX byte tells", reg, rm)
			}
		}
	})
}

func TestSignedOfNum(t *testing.T) {
	for _, v := range numbers() {
		for _, n := range []int{1, 2, 4} {
			if b, e := Num(v, n); e == api.OK && Signed(b) != v {
				t.Errorf("Signed of Num(%d, %d) = %d", v, n, Signed(b))
			}
		}
	}
}

// R4

func TestReadingChangesNothing(t *testing.T) {
	whole := []byte{0x84, 0x24, 1, 2, 3, 0x84, 9, 10, 11, 12, 13}
	for n := range len(whole) + 1 {
		b := slices.Clone(whole)
		Read(b[:n])
		Signed(b[:n])
		if !bytes.Equal(b, whole) {
			t.Errorf("reading %d bytes left %x", n, b)
		}
	}
}

func TestAnswersAreNewMemory(t *testing.T) {
	for _, answer := range []func() []byte{
		func() []byte { b, _ := Regs(9, 3); return b },
		func() []byte { b, _ := Mem(1, 4, 16); return b },
		func() []byte { b, _ := Mem(1, 3, 16); return b },
		func() []byte { b, _ := Num(258, 2); return b },
	} {
		first, want := answer(), answer()
		clear(first[:cap(first)])
		if got := answer(); !bytes.Equal(got, want) {
			t.Errorf("%x after an answer was written to, not %x", got, want)
		}
	}
}
