package encode

import (
	"bytes"
	"math"
	"math/rand"
	"slices"
	"testing"

	"lathe/api"
)

// numbers are those at which the ranges of Imm and Disp turn, and some whose bytes all differ.
var numbers = [...]int{
	0, 1, -1, 2, 5, 16, 30, 31, 32, 33, 62, 63, 64, 65, 126, 127, 128, 129, -2, -126, -127, -128, -129, 255, 256, -255, -256,
	0x24, 0x24242424, 0x12345678, -0x12345678, 0x66480F89,
	math.MaxInt32 - 1, math.MaxInt32, math.MaxInt32 + 1, math.MinInt32 + 1, math.MinInt32, math.MinInt32 - 1,
	math.MaxUint32, math.MaxUint32 + 1, math.MaxUint32 + 6, -math.MaxUint32 - 1, math.MaxInt, math.MinInt,
}

// eachValid calls f with all valid instructions, with some Disp and Imm each.
func eachValid(f func(x api.X)) {
	eachHead(func(x api.X) {
		for _, n := range numbers {
			for _, y := range []api.X{with(x, n, 0), with(x, 0, n), with(x, n, n)} {
				if plainMay(y) {
					f(y)
				}
			}
		}
	})
}

func with(x api.X, disp, imm int) api.X {
	x.Disp, x.Imm = disp, imm
	return x
}

// someValid are a few valid instructions of each row and width, with low and high registers.
func someValid() []api.X {
	var l []api.X
	n := 0
	eachHead(func(x api.X) {
		n++
		if n%37 != 0 && x.Dst+x.Src+x.Base != 0 {
			return
		}
		for _, v := range []int{0, 1, 31, 63, -1, 0x12345678} {
			for _, y := range []api.X{with(x, v, 0), with(x, 0, v)} {
				if plainMay(y) && !slices.Contains(l[max(0, len(l)-12):], y) {
					l = append(l, y)
				}
			}
		}
	})
	return l
}

// changes is how many ways changed knows.
const changes = 6*256 + 2*len(numbers)

// changed tells an instruction with one of its fields changed: the six small ones to all numbers, Disp and Imm to those above.
func changed(x api.X, way int) api.X {
	if way < 6*256 {
		field := [...]*int8{&x.Op, &x.W, &x.Dst, &x.Src, &x.Base, &x.Cc}[way/256]
		*field = int8(way % 256)
		return x
	}
	n := numbers[way/2%len(numbers)]
	if way%2 == 0 {
		return with(x, n, x.Imm)
	}
	return with(x, x.Disp, n)
}

// P13.1

func TestBytesByHand(t *testing.T) {
	for _, c := range []struct {
		x    api.X
		want []byte
	}{
		{api.X{Op: api.XMov, W: 64, Dst: api.Rax, Src: api.Rbx}, []byte{0x48, 0x89, 0xD8}},
		{api.X{Op: api.XLoad, W: 8, Dst: api.Rcx, Base: api.Rsp, Disp: 16}, []byte{0x0F, 0xB6, 0x8C, 0x24, 0x10, 0, 0, 0}},
		{api.X{Op: api.XRet}, []byte{0xC3}},
		{api.X{Op: api.XHost}, []byte{0x0F, 0x05}},
		{api.X{Op: api.XMov, W: 32}, []byte{0x89, 0xC0}},
		{api.X{Op: api.XMov, W: 64, Dst: api.R15, Src: api.R8}, []byte{0x4D, 0x89, 0xC7}},
		{api.X{Op: api.XMovI, W: 64, Dst: api.R12, Imm: -1}, []byte{0x49, 0xC7, 0xC4, 0xFF, 0xFF, 0xFF, 0xFF}},
		{api.X{Op: api.XMovI, W: 32, Dst: api.Rdi, Imm: 0x12345678}, []byte{0xBF, 0x78, 0x56, 0x34, 0x12}},
		{api.X{Op: api.XMovI, W: 32, Dst: api.R15, Imm: math.MinInt32}, []byte{0x41, 0xBF, 0, 0, 0, 0x80}},
		{api.X{Op: api.XMul, W: 32, Dst: api.R9, Src: api.Rdx}, []byte{0x44, 0x0F, 0xAF, 0xCA}},
		{api.X{Op: api.XTest, W: 32, Dst: api.Rdx, Src: api.R9}, []byte{0x44, 0x85, 0xCA}},
		{api.X{Op: api.XOrI, W: 32, Dst: api.Rcx, Imm: math.MaxInt32}, []byte{0x81, 0xC9, 0xFF, 0xFF, 0xFF, 0x7F}},
		{api.X{Op: api.XShr, W: 32, Dst: api.Rbp, Imm: 31}, []byte{0xC1, 0xED, 31}},
		{api.X{Op: api.XSarC, W: 64, Dst: api.R11}, []byte{0x49, 0xD3, 0xFB}},
		{api.X{Op: api.XNeg, W: 32, Dst: api.Rsp}, []byte{0xF7, 0xDC}},
		{api.X{Op: api.XCmov, W: 32, Dst: api.Rax, Src: api.Rcx, Cc: api.CcG}, []byte{0x0F, 0x4F, 0xC1}},
		{api.X{Op: api.XLoad, W: 16, Dst: api.R8, Base: api.Rax}, []byte{0x44, 0x0F, 0xB7, 0x80, 0, 0, 0, 0}},
		{api.X{Op: api.XLoad, W: 64, Dst: api.Rsp, Base: api.R12, Disp: -8}, []byte{0x49, 0x8B, 0xA4, 0x24, 0xF8, 0xFF, 0xFF, 0xFF}},
		{api.X{Op: api.XStore, W: 8, Src: api.Rax, Base: api.Rax}, []byte{0x40, 0x88, 0x80, 0, 0, 0, 0}},
		{api.X{Op: api.XStore, W: 8, Src: api.R8, Base: api.R9}, []byte{0x45, 0x88, 0x81, 0, 0, 0, 0}},
		{api.X{Op: api.XStore, W: 16, Src: api.Rax, Base: api.Rbx}, []byte{0x66, 0x89, 0x83, 0, 0, 0, 0}},
		{api.X{Op: api.XStore, W: 64, Src: api.Rax, Base: api.Rsp}, []byte{0x48, 0x89, 0x84, 0x24, 0, 0, 0, 0}},
		{api.X{Op: api.XJmp, W: 8, Imm: -128}, []byte{0xEB, 0x80}},
		{api.X{Op: api.XJmp, W: 32, Imm: -128}, []byte{0xE9, 0x80, 0xFF, 0xFF, 0xFF}},
		{api.X{Op: api.XJcc, W: 8, Cc: api.CcB, Imm: 127}, []byte{0x72, 0x7F}},
		{api.X{Op: api.XJcc, W: 32, Cc: api.CcLe, Imm: 1}, []byte{0x0F, 0x8E, 1, 0, 0, 0}},
	} {
		if got, e := Bytes(c.x); !bytes.Equal(got, c.want) || e != api.OK || Len(c.x) != len(c.want) {
			t.Errorf("Bytes(%v) = %x, %v, not %x", c.x, got, e, c.want)
		}
		if got, n, e := Read(c.want); got != c.x || n != len(c.want) || e != api.OK {
			t.Errorf("Read(%x) = %v, %d, %v, not %v", c.want, got, n, e, c.x)
		}
	}
}

func TestBytesOfValidInstructions(t *testing.T) {
	eachValid(func(x api.X) {
		got, e := Bytes(x)
		want, _ := plainBytes(x)
		if !bytes.Equal(got, want) || e != api.OK || !May(x) || Len(x) != len(want) {
			t.Errorf("Bytes(%v) = %x, %v, not %x; May %t, Len %d", x, got, e, want, May(x), Len(x))
		}
	})
}

// checkCalls holds all that is told of one instruction, valid or not, against the chapter.
func checkCalls(t *testing.T, x api.X) {
	t.Helper()
	want, e := plainBytes(x)
	reads, writes := 0, 0
	if e == api.OK {
		reads, writes = plainSet(x, allUses[x.Op].reads), plainSet(x, allUses[x.Op].writes)
	}
	if May(x) != (e == api.OK) || Len(x) != len(want) || Reads(x) != reads || Writes(x) != writes {
		t.Errorf("%v: May %t, Len %d, Reads %x, Writes %x, not %v, %d, %x, %x", x, May(x), Len(x), Reads(x), Writes(x), e, len(want), reads, writes)
	}
	if got, f := Bytes(x); !bytes.Equal(got, want) || f != e {
		t.Errorf("Bytes(%v) = %x, %v, not %x, %v", x, got, f, want, e)
	}
}

func TestChangedFields(t *testing.T) {
	checked := map[api.X]bool{}
	for _, x := range someValid() {
		if key := (api.X{Op: x.Op, W: x.W, Cc: x.Cc, Dst: x.Dst / 8, Src: x.Src / 8}); !checked[key] {
			checked[key] = true
			for way := range changes {
				checkCalls(t, changed(x, way))
			}
		}
	}
}

func TestTwoChangedFields(t *testing.T) {
	r := rand.New(rand.NewSource(13))
	l := someValid()
	for range 200000 {
		x := l[r.Intn(len(l))]
		checkCalls(t, changed(changed(x, r.Intn(changes)), r.Intn(changes)))
	}
}

func TestMayAtTheEdges(t *testing.T) {
	for _, c := range []struct {
		x    api.X
		want bool
	}{
		{api.X{}, false},
		{api.X{Op: -1, W: 64}, false},
		{api.X{Op: api.XHost + 1}, false},
		{api.X{Op: api.XHost + 1, W: 64}, false},
		{api.X{Op: math.MaxInt8, W: 64}, false},
		{api.X{Op: math.MinInt8, W: 32}, false},
		{api.X{Op: api.XRet}, true},
		{api.X{Op: api.XRet, W: 64}, false},
		{api.X{Op: api.XRet, W: 8}, false},
		{api.X{Op: api.XHost, Dst: 1}, false},
		{api.X{Op: api.XMov, W: 16}, false},
		{api.X{Op: api.XMov, W: 96}, false},
		{api.X{Op: api.XMov, W: 64, Dst: 16}, false},
		{api.X{Op: api.XMov, W: 64, Src: -1}, false},
		{api.X{Op: api.XMov, W: 64, Imm: 1}, false},
		{api.X{Op: api.XMov, W: 64, Base: 1}, false},
		{api.X{Op: api.XMov, W: 64, Cc: api.CcE}, false},
		{api.X{Op: api.XMovI, W: 8}, false},
		{api.X{Op: api.XMovI, W: 32, Imm: math.MaxUint32}, false},
		{api.X{Op: api.XMovI, W: 64, Imm: math.MaxInt32 + 1}, false},
		{api.X{Op: api.XShl, W: 64, Imm: 63}, true},
		{api.X{Op: api.XShl, W: 64, Imm: 64}, false},
		{api.X{Op: api.XShl, W: 32, Imm: 31}, true},
		{api.X{Op: api.XShl, W: 32, Imm: 32}, false},
		{api.X{Op: api.XSar, W: 32, Imm: -1}, false},
		{api.X{Op: api.XShlC, W: 32, Src: api.Rcx}, false},
		{api.X{Op: api.XDiv, W: 32, Dst: 15}, true},
		{api.X{Op: api.XCmov, W: 64, Cc: 0}, false},
		{api.X{Op: api.XCmov, W: 64, Cc: 1}, false},
		{api.X{Op: api.XCmov, W: 64, Cc: 8}, false},
		{api.X{Op: api.XCmov, W: 64, Cc: 11}, false},
		{api.X{Op: api.XCmov, W: 64, Cc: 16}, false},
		{api.X{Op: api.XLoad, W: 8, Src: 1}, false},
		{api.X{Op: api.XLoad, W: 0}, false},
		{api.X{Op: api.XLoad, W: 24}, false},
		{api.X{Op: api.XLoad, W: 16, Disp: math.MinInt32}, true},
		{api.X{Op: api.XLoad, W: 16, Disp: math.MinInt32 - 1}, false},
		{api.X{Op: api.XStore, W: 16, Dst: 1}, false},
		{api.X{Op: api.XStore, W: 8, Base: 16}, false},
		{api.X{Op: api.XJmp, W: 64}, false},
		{api.X{Op: api.XJmp, W: 16}, false},
		{api.X{Op: api.XJmp, W: 40}, false},
		{api.X{Op: api.XJmp, W: 8, Imm: 128}, false},
		{api.X{Op: api.XJmp, W: 32, Imm: 128}, true},
		{api.X{Op: api.XJmp, W: 8, Imm: -129}, false},
		{api.X{Op: api.XJmp, W: 8, Cc: api.CcE}, false},
		{api.X{Op: api.XJcc, W: 8}, false},
		{api.X{Op: api.XJcc, W: 32, Cc: api.CcE, Imm: math.MinInt32 - 1}, false},
	} {
		if May(c.x) != c.want {
			t.Errorf("May(%v) = %t", c.x, !c.want)
		}
		checkCalls(t, c.x)
	}
}

// checkRead holds Read against a look-up among all instructions.
func checkRead(t *testing.T, all heads, b []byte) {
	t.Helper()
	x, n, e := Read(b)
	if y, m, f := all.read(b); x != y || n != m || e != f {
		t.Errorf("Read(%x) = %v, %d, %v, not %v, %d, %v", b, x, n, e, y, m, f)
	}
}

func TestReadOfOtherEncodings(t *testing.T) {
	for _, b := range [][]byte{
		nil, {}, {0x90}, {0x66}, {0x48}, {0x0F}, {0x66, 0x48}, {0x48, 0x0F}, {0x66, 0x66}, // no code, or another one
		{0x40, 0x89, 0xD8}, {0x40, 0xC3}, {0x48, 0xC3}, {0x48, 0x0F, 0x05}, {0x40, 0xEB, 0}, {0x48, 0xE9, 0, 0, 0, 0}, {0x41, 0x74, 0}, // a REX byte that is not needed
		{0x42, 0x89, 0xD8}, {0x4A, 0x89, 0xD8}, // a bit of it for an index
		{0x44, 0xB8, 0, 0, 0, 0}, {0x45, 0xB8, 0, 0, 0, 0}, {0x44, 0x81, 0xC0, 0, 0, 0, 0}, {0x4C, 0xF7, 0xD8}, // a bit of it for reg, where no register is
		{0x48, 0xB8, 0, 0, 0, 0, 0, 0, 0, 0}, {0xC7, 0xC0, 0, 0, 0, 0}, // the other XMovI
		{0x48, 0x0F, 0xB6, 0x80, 0, 0, 0, 0}, {0x48, 0x0F, 0xB7, 0x80, 0, 0, 0, 0}, // REX.W in a narrow load
		{0x40, 0x0F, 0xB6, 0x80, 0, 0, 0, 0}, {0x66, 0x0F, 0xB6, 0x80, 0, 0, 0, 0}, {0x66, 0x8B, 0x80, 0, 0, 0, 0}, // other bytes ahead of a load
		{0x88, 0x80, 0, 0, 0, 0}, {0x48, 0x88, 0x80, 0, 0, 0, 0}, {0x66, 0x40, 0x88, 0x80, 0, 0, 0, 0}, // stores of W 8
		{0x66, 0x40, 0x89, 0x80, 0, 0, 0, 0}, {0x66, 0x48, 0x89, 0x80, 0, 0, 0, 0}, {0x44, 0x66, 0x89, 0x80, 0, 0, 0, 0}, {0x66, 0x66, 0x89, 0x80, 0, 0, 0, 0}, // stores of W 16
		{0x66, 0x89, 0xC0}, {0x66, 0x01, 0xC0}, {0x66, 0xC3}, // other instructions with 66
		{0x8B, 0xC3}, {0x48, 0x8B, 0xC3}, {0x0F, 0xB6, 0xC0}, {0x40, 0x88, 0xC0}, // registers for memory
		{0x01, 0x80, 0, 0, 0, 0}, {0x81, 0x80, 0, 0, 0, 0, 0, 0, 0, 0}, {0x0F, 0xAF, 0x80, 0, 0, 0, 0}, {0xC1, 0xA0, 0, 0, 0, 0, 1}, // memory for registers
		{0x89, 0x00}, {0x89, 0x40, 0}, {0x8B, 0x84, 0x20, 0, 0, 0, 0}, {0x8B, 0x05, 0, 0, 0, 0}, // other memory
		{0x48, 0xC7, 0xC8, 1, 0, 0, 0}, {0x81, 0xD0, 1, 0, 0, 0}, {0x81, 0xD8, 1, 0, 0, 0}, {0xF7, 0xC8, 1, 0, 0, 0}, {0xF7, 0xD0}, {0xF7, 0xE0}, {0xF7, 0xF8}, {0xC1, 0xC0, 1}, {0xC1, 0xF0, 1}, {0xD3, 0xF0}, // other numbers for reg
		{0xC1, 0xE0, 32}, {0xC1, 0xE0, 0xFF}, {0x48, 0xC1, 0xE0, 64}, {0x48, 0xC1, 0xE0, 0x80}, // too far a shift
		{0x70, 0}, {0x71, 0}, {0x78, 0}, {0x7B, 0}, {0x0F, 0x80, 0, 0, 0, 0}, {0x0F, 0x8A, 0, 0, 0, 0}, {0x0F, 0x41, 0xC0}, {0x0F, 0x49, 0xC0}, // other conditions
		{0x83, 0xC0, 1}, {0x03, 0xC0}, {0x05, 1, 0, 0, 0}, {0xD1, 0xE0}, {0x0F, 0x0F, 0x05}, {0x0F, 0x89}, {0xC2, 0, 0}, {0x0F, 0xC3}, {0x05}, // other codes
	} {
		if x, n, e := Read(b); x != (api.X{}) || n != 0 || e != api.ErrCode {
			t.Errorf("Read(%x) = %v, %d, %v", b, x, n, e)
		}
	}
}

func TestReadOfAllBeginnings(t *testing.T) {
	all := allHeads()
	aheads := [][]byte{{}, {0x66}, {0x66, 0x66}, {0xF2}, {0xF3}, {0x67}, {0x48, 0x48}, {0x48, 0x66}, {0x41, 0x66}}
	for rex := range byte(16) {
		aheads = append(aheads, []byte{0x40 + rex}, []byte{0x66, 0x40 + rex})
	}
	for _, ahead := range aheads {
		for code := range 512 {
			b := slices.Clone(ahead)
			if code >= 256 {
				b = append(b, 0x0F)
			}
			b = append(b, byte(code), 0, 0, 0, 0, 0, 0, 0, 0, 0)
			operand := b[len(b)-9:]
			for first := range 256 {
				operand[0], operand[1] = byte(first), 0x24
				checkRead(t, all, b)
				if first%8 == 4 {
					operand[1] = 0x20
					checkRead(t, all, b)
				}
			}
		}
	}
}

func TestReadOfChangedBytes(t *testing.T) {
	all := allHeads()
	for _, x := range someValid() {
		b, _ := Bytes(x)
		b = append(b, 0x24, 0x66, 0x48, 0x89)
		for i := range b {
			had := b[i]
			for _, v := range []byte{0, 1, 0x0F, 0x20, 0x24, 0x3F, 0x40, 0x41, 0x48, 0x4F, 0x66, 0x7F, 0x80, 0x81, 0x84, 0x88, 0x89, 0x8B, 0xB6, 0xB7, 0xBF, 0xC0, 0xC3, 0xC7, 0xEB, 0xF7, 0xFF, had ^ 1, had ^ 2, had ^ 4, had ^ 8, had ^ 128} {
				b[i] = v
				checkRead(t, all, b)
			}
			b[i] = had
		}
	}
}

func TestReadOfCutOffBytes(t *testing.T) {
	for _, x := range someValid() {
		b, _ := Bytes(x)
		for n := range b {
			if y, m, e := Read(b[:n]); y != (api.X{}) || m != 0 || e != api.ErrCode {
				t.Errorf("Read(%x), of %x, = %v, %d, %v", b[:n], b, y, m, e)
			}
		}
	}
}

// P13.2

// item is what All yields.
type item struct {
	at int
	x  api.X
}

func items(b []byte) []item {
	var l []item
	for at, x := range All(b) {
		l = append(l, item{at, x})
	}
	return l
}

func TestAllOfRows(t *testing.T) {
	r := rand.New(rand.NewSource(13))
	valid := someValid()
	for range 300 {
		var b []byte
		var want []item
		for range r.Intn(12) {
			x := valid[r.Intn(len(valid))]
			own, _ := plainBytes(x)
			want = append(want, item{len(b), x})
			b = append(b, own...)
		}
		last, _ := plainBytes(api.X{Op: api.XMovI, W: 64, Imm: 7})
		for _, end := range [][]byte{nil, {0x90}, {0x90, 0xC3}, {0x40, 0x89, 0xD8}, last[:len(last)-1]} {
			if got := items(append(slices.Clip(b), end...)); !slices.Equal(got, want) {
				t.Errorf("All(%x %x) = %v, not %v", b, end, got, want)
			}
		}
	}
}

func TestAllByHand(t *testing.T) {
	ret, jump := api.X{Op: api.XRet}, api.X{Op: api.XJmp, W: 8, Imm: -2}
	for _, c := range []struct {
		b    []byte
		want []item
	}{
		{nil, nil},
		{[]byte{}, nil},
		{[]byte{0x90, 0xC3}, nil},
		{[]byte{0xC3}, []item{{0, ret}}},
		{[]byte{0xEB, 0xFE, 0xC3, 0x90, 0xC3}, []item{{0, jump}, {2, ret}}},
		{[]byte{0xC3, 0xC3, 0xEB}, []item{{0, ret}, {1, ret}}},
	} {
		if got := items(c.b); !slices.Equal(got, c.want) {
			t.Errorf("All(%x) = %v, not %v", c.b, got, c.want)
		}
	}
	if got := items(bytes.Repeat([]byte{0xC3}, 1<<16)); len(got) != 1<<16 || got[1<<16-1] != (item{1<<16 - 1, ret}) {
		t.Errorf("All of many bytes yields %d", len(got))
	}
}

func TestAllMayBeLeftAndUsedAgain(t *testing.T) {
	b := []byte{0xEB, 0xFE, 0xC3, 0x0F, 0x05}
	all := All(b)
	clear(b)
	for range 3 {
		n := 0
		for at, x := range all {
			n++
			if at != 0 || x.Op != api.XJmp {
				t.Errorf("%d: %v", at, x)
			}
			break
		}
		if n != 1 {
			t.Errorf("%d before it was left", n)
		}
	}
	var ops []int8
	for range 2 {
		for _, x := range all {
			ops = append(ops, x.Op)
		}
	}
	if !slices.Equal(ops, []int8{api.XJmp, api.XRet, api.XHost, api.XJmp, api.XRet, api.XHost}) {
		t.Errorf("All after its bytes were changed yields %v", ops)
	}
}

func TestReadsAndWritesOfValidInstructions(t *testing.T) {
	eachHead(func(x api.X) {
		use := allUses[x.Op]
		if got, want := Reads(x), plainSet(x, use.reads); got != want {
			t.Errorf("Reads(%v) = %x, not %x", x, got, want)
		}
		if got, want := Writes(x), plainSet(x, use.writes); got != want {
			t.Errorf("Writes(%v) = %x, not %x", x, got, want)
		}
	})
}

func TestReadsAndWritesByHand(t *testing.T) {
	for _, c := range []struct {
		x             api.X
		reads, writes int
	}{
		{api.X{Op: api.XMov, W: 64, Dst: 3, Src: 9}, 1 << 9, 1 << 3},
		{api.X{Op: api.XMov, W: 32, Dst: 3, Src: 3}, 1 << 3, 1 << 3},
		{api.X{Op: api.XCmov, W: 64, Dst: 3, Src: 9, Cc: api.CcE}, 1<<3 | 1<<9, 1 << 3},
		{api.X{Op: api.XCmp, W: 64, Dst: 3, Src: 9}, 1<<3 | 1<<9, 0},
		{api.X{Op: api.XTestI, W: 64, Dst: 15}, 1 << 15, 0},
		{api.X{Op: api.XAddI, W: 64, Dst: 4, Imm: 8}, 1 << 4, 1 << 4},
		{api.X{Op: api.XMovI, W: 64, Dst: 4}, 0, 1 << 4},
		{api.X{Op: api.XSar, W: 64, Dst: 5, Imm: 1}, 1 << 5, 1 << 5},
		{api.X{Op: api.XShlC, W: 64, Dst: 5}, 1<<5 | 1<<1, 1 << 5},
		{api.X{Op: api.XShlC, W: 64, Dst: 1}, 1 << 1, 1 << 1},
		{api.X{Op: api.XDiv, W: 64, Dst: 11}, 1<<0 | 1<<2 | 1<<11, 1<<0 | 1<<2},
		{api.X{Op: api.XDiv, W: 64, Dst: 2}, 1<<0 | 1<<2, 1<<0 | 1<<2},
		{api.X{Op: api.XLoad, W: 8, Dst: 6, Base: 12}, 1 << 12, 1 << 6},
		{api.X{Op: api.XStore, W: 8, Src: 6, Base: 12}, 1<<12 | 1<<6, 0},
		{api.X{Op: api.XJcc, W: 8, Cc: api.CcE}, 0, 0},
		{api.X{Op: api.XRet}, 1<<4 | 1<<0, 1 << 4},
		{api.X{Op: api.XHost}, 0x5C5, 0x803},
		{api.X{Op: api.XRet, Dst: 1}, 0, 0},
		{api.X{Op: api.XMov, W: 8, Dst: 1, Src: 2}, 0, 0},
		{api.X{Op: -1, W: 64}, 0, 0},
	} {
		if reads, writes := Reads(c.x), Writes(c.x); reads != c.reads || writes != c.writes {
			t.Errorf("Reads and Writes of %v are %x and %x, not %x and %x", c.x, reads, writes, c.reads, c.writes)
		}
	}
}

// P13.3

func TestReadOfBytes(t *testing.T) {
	behinds := [][]byte{nil, {0}, {0x90}, {0xC3}, {0x24, 0, 0, 0, 0, 0, 0, 0}, bytes.Repeat([]byte{0xFF}, 20)}
	eachValid(func(x api.X) {
		b, _ := Bytes(x)
		for _, behind := range behinds {
			if y, n, e := Read(append(slices.Clip(b), behind...)); y != x || n != len(b) || e != api.OK {
				t.Errorf("Read(%x %x) = %v, %d, %v, not %v", b, behind, y, n, e, x)
			}
		}
	})
}

func TestBytesOfWhatIsRead(t *testing.T) {
	r := rand.New(rand.NewSource(13))
	codes := []byte{0x66, 0x40, 0x41, 0x44, 0x48, 0x4D, 0x0F, 0x89, 0x81, 0x8B, 0x88, 0xB6, 0xC1, 0xC7, 0xD3, 0xF7, 0xB9, 0xE9, 0x7F, 0x8F, 0x4F, 0xAF}
	all := allHeads()
	good := 0
	for range 300000 {
		b := make([]byte, r.Intn(14))
		r.Read(b)
		for i := range min(len(b), 3) {
			if r.Intn(2) == 0 {
				b[i] = codes[r.Intn(len(codes))]
			}
		}
		checkRead(t, all, b)
		x, n, e := Read(b)
		if e != api.OK {
			continue
		}
		good++
		if own, f := Bytes(x); f != api.OK || !bytes.Equal(own, b[:n]) {
			t.Errorf("Bytes of Read(%x) = %x, %v", b, own, f)
		}
	}
	if good < 10000 {
		t.Errorf("only %d were instructions", good)
	}
}

// R4

func TestReadingChangesNothing(t *testing.T) {
	for _, x := range someValid() {
		b, _ := Bytes(x)
		whole := slices.Concat(b, []byte{0xC3, 1, 2, 3, 4, 5})
		had := slices.Clone(whole)
		for n := range len(whole) + 1 {
			Read(whole[:n])
			items(whole[:n])
		}
		if !bytes.Equal(whole, had) {
			t.Errorf("reading %x left %x", had, whole)
		}
	}
}

func TestAnswersAreNewMemory(t *testing.T) {
	for _, x := range someValid() {
		first, _ := Bytes(x)
		want := slices.Clone(first)
		clear(first[:cap(first)])
		if got, _ := Bytes(x); !bytes.Equal(got, want) {
			t.Errorf("Bytes(%v) = %x after an answer was written to, not %x", x, got, want)
		}
	}
}
