package instr

import (
	"bytes"
	"math"
	"slices"
	"testing"

	"lathe/api"
)

var (
	exit = api.Instr{Kind: api.InExit}
	call = api.Instr{Kind: api.InCall, Imm: 3}
	back = api.Instr{Kind: api.InGoto, Off: -1}
	none = api.Instr{Kind: 9}
)

// form is what the document says of a code: the instruction it stands for, and which fields are used besides.
type form struct {
	code byte
	x    api.Instr
	uses string // d Dst, D Dst but 10, s Src, o Off, i Imm, h Imm as a host's number
}

// forms tells all codes, one by one.
func forms() []form {
	all := []form{
		{64, api.Instr{Kind: api.InLoad, Size: 1}, "Dso"},
		{65, api.Instr{Kind: api.InLoad, Size: 2}, "Dso"},
		{66, api.Instr{Kind: api.InLoad, Size: 4}, "Dso"},
		{67, api.Instr{Kind: api.InLoad, Size: 8}, "Dso"},
		{72, api.Instr{Kind: api.InStore, Size: 1}, "dso"},
		{73, api.Instr{Kind: api.InStore, Size: 2}, "dso"},
		{74, api.Instr{Kind: api.InStore, Size: 4}, "dso"},
		{75, api.Instr{Kind: api.InStore, Size: 8}, "dso"},
		{111, api.Instr{Kind: api.InGoto}, "o"},
		{112, api.Instr{Kind: api.InCall}, "h"},
		{113, api.Instr{Kind: api.InExit}, ""},
	}
	for op := int8(0); op <= 12; op++ {
		byImm, byReg := "Di", "Ds"
		if op == 8 { // Neg
			byImm, byReg = "D", ""
		}
		all = append(all,
			form{byte(op), api.Instr{Kind: api.InAlu, Op: op, Width: 64}, byImm},
			form{byte(op) + 32, api.Instr{Kind: api.InAlu, Op: op, Width: 32}, byImm})
		if byReg != "" {
			all = append(all,
				form{byte(op) + 16, api.Instr{Kind: api.InAlu, Op: op, Width: 64, ByReg: true}, byReg},
				form{byte(op) + 48, api.Instr{Kind: api.InAlu, Op: op, Width: 32, ByReg: true}, byReg})
		}
	}
	for cc := int8(0); cc <= 10; cc++ {
		all = append(all,
			form{byte(cc) + 80, api.Instr{Kind: api.InJump, Op: cc}, "doi"},
			form{byte(cc) + 96, api.Instr{Kind: api.InJump, Op: cc, ByReg: true}, "dos"})
	}
	return all
}

func (f form) has(use byte) bool { return bytes.IndexByte([]byte(f.uses), use) >= 0 }

// with fills the form's fields, and tells whether they may be so.
func (f form) with(dst, src int8, off, imm int) (api.Instr, bool) {
	x := f.x
	x.Dst, x.Src, x.Off, x.Imm = dst, src, off, imm
	may := dst == 0 || f.has('d') && dst >= 0 && dst <= 10 || f.has('D') && dst >= 0 && dst <= 9
	may = may && (src == 0 || f.has('s') && src >= 0 && src <= 10)
	may = may && (off == 0 || f.has('o') && off >= -32768 && off <= 32767)
	may = may && (imm == 0 || f.has('i') && imm >= -2147483648 && imm <= 2147483647 || f.has('h') && imm >= 0 && imm <= 15)
	return x, may
}

// row tells the bytes, of numbers that are in range.
func row(code byte, dst, src int8, off, imm int) []byte {
	b := []byte{code, byte(dst) + 16*byte(src)}
	for range 2 {
		b, off = append(b, byte(off)), off>>8
	}
	for range 4 {
		b, imm = append(b, byte(imm)), imm>>8
	}
	return b
}

// eachForm calls f with all forms, filled with the numbers at which something turns.
func eachForm(f func(code byte, x api.Instr, may bool)) {
	registers := []int8{0, 1, 9, 10, 11, 15, 16, 127, -1, -128}
	offs := []int{0, 1, -1, 255, 256, 32767, 32768, -32768, -32769, 65536, math.MaxInt, math.MinInt}
	imms := []int{0, 1, -1, 14, 15, 16, 255, 65536, 1<<31 - 1, 1 << 31, -1 << 31, -1<<31 - 1, 1 << 32, math.MaxInt, math.MinInt}
	for _, form := range forms() {
		for _, dst := range registers {
			for _, src := range registers {
				for _, off := range offs {
					for _, imm := range imms {
						x, may := form.with(dst, src, off, imm)
						f(form.code, x, may)
					}
				}
			}
		}
	}
}

// some tells a few valid instructions of each form.
func some() []api.Instr {
	var all []api.Instr
	for _, f := range forms() {
		for _, c := range []struct {
			dst, src int8
			off, imm int
		}{{0, 0, 0, 0}, {1, 2, 3, 4}, {9, 10, -32768, -1 << 31}, {10, 9, 32767, 1<<31 - 1}, {5, 1, -1, -1}, {2, 0, 0, 15}} {
			if !f.has('D') && !f.has('d') || f.has('D') && c.dst == 10 {
				c.dst = 0
			}
			if !f.has('s') {
				c.src = 0
			}
			if !f.has('o') {
				c.off = 0
			}
			if f.has('h') {
				c.imm &= 15
			} else if !f.has('i') {
				c.imm = 0
			}
			x, may := f.with(c.dst, c.src, c.off, c.imm)
			if !may {
				panic("some() is wrong")
			}
			all = append(all, x)
		}
	}
	return all
}

func program(context int, l ...api.Instr) api.Prog {
	return api.Prog{Context: context, L: l}
}

// filled is a program of n instructions that do no harm, the last of which is an exit.
func filled(context, n int) api.Prog {
	p := program(context, slices.Repeat([]api.Instr{call}, n-1)...)
	p.L = append(p.L, exit)
	return p
}

// P3.1

func TestBytesAndReadByHand(t *testing.T) {
	for _, c := range []struct {
		x api.Instr
		b []byte
	}{
		{api.Instr{Kind: api.InAlu, Op: api.Add, Width: 64, Dst: 1, Imm: -1}, []byte{0x00, 0x01, 0, 0, 0xFF, 0xFF, 0xFF, 0xFF}},
		{api.Instr{Kind: api.InExit}, []byte{0x71, 0, 0, 0, 0, 0, 0, 0}},
		{api.Instr{Kind: api.InAlu, Op: api.Mov, Width: 32, Dst: 9, Imm: 0x01020304}, []byte{43, 0x09, 0, 0, 4, 3, 2, 1}},
		{api.Instr{Kind: api.InAlu, Op: api.Arsh, Width: 64, ByReg: true, Dst: 9, Src: 10}, []byte{28, 0xA9, 0, 0, 0, 0, 0, 0}},
		{api.Instr{Kind: api.InAlu, Op: api.Xor, Width: 32, ByReg: true, Dst: 0, Src: 3}, []byte{58, 0x30, 0, 0, 0, 0, 0, 0}},
		{api.Instr{Kind: api.InAlu, Op: api.Neg, Width: 64, Dst: 7}, []byte{8, 7, 0, 0, 0, 0, 0, 0}},
		{api.Instr{Kind: api.InAlu, Op: api.Neg, Width: 32, Dst: 7}, []byte{40, 7, 0, 0, 0, 0, 0, 0}},
		{api.Instr{Kind: api.InLoad, Size: 1, Dst: 2, Src: 1}, []byte{64, 0x12, 0, 0, 0, 0, 0, 0}},
		{api.Instr{Kind: api.InLoad, Size: 4, Dst: 9, Src: 10, Off: -8}, []byte{66, 0xA9, 0xF8, 0xFF, 0, 0, 0, 0}},
		{api.Instr{Kind: api.InStore, Size: 8, Dst: 10, Src: 10, Off: 0x0102}, []byte{75, 0xAA, 2, 1, 0, 0, 0, 0}},
		{api.Instr{Kind: api.InJump, Op: api.Eq, Dst: 10, Off: -32768, Imm: -1 << 31}, []byte{80, 0x0A, 0, 0x80, 0, 0, 0, 0x80}},
		{api.Instr{Kind: api.InJump, Op: api.Set, ByReg: true, Dst: 3, Src: 4, Off: 32767}, []byte{106, 0x43, 0xFF, 0x7F, 0, 0, 0, 0}},
		{api.Instr{Kind: api.InGoto, Off: -2}, []byte{111, 0, 0xFE, 0xFF, 0, 0, 0, 0}},
		{api.Instr{Kind: api.InCall, Imm: 15}, []byte{112, 0, 0, 0, 15, 0, 0, 0}},
	} {
		if b, e := Bytes(c.x); !bytes.Equal(b, c.b) || e != api.OK {
			t.Errorf("Bytes(%v) = %x, %v, not %x", c.x, b, e, c.b)
		}
		if x, e := Read(c.b); x != c.x || e != api.OK {
			t.Errorf("Read(%x) = %v, %v, not %v", c.b, x, e, c.x)
		}
	}
}

func TestMayAndBytesAtAllEdges(t *testing.T) {
	eachForm(func(code byte, x api.Instr, may bool) {
		if May(x) != may {
			t.Fatalf("May(%v) is not %t", x, may)
		}
		b, e := Bytes(x)
		if !may && (b != nil || e != api.ErrOp) {
			t.Fatalf("Bytes(%v) = %x, %v, which is not valid", x, b, e)
		}
		if want := row(code, x.Dst, x.Src, x.Off, x.Imm); may && (e != api.OK || !bytes.Equal(b, want)) {
			t.Fatalf("Bytes(%v) = %x, %v, not %x", x, b, e, want)
		}
	})
}

func TestMayLooksAtEachField(t *testing.T) {
	valid := map[api.Instr]bool{}
	for _, f := range forms() {
		valid[f.x] = true
	}
	for kind := math.MinInt8; kind <= math.MaxInt8; kind++ {
		for _, op := range []int8{-128, -1, 0, 1, 7, 8, 9, 10, 11, 12, 13, 16, 127} {
			for _, width := range []int8{-128, -32, -1, 0, 1, 8, 16, 31, 32, 33, 63, 64, 65, 96, 127} {
				for _, size := range []int8{-128, -1, 0, 1, 2, 3, 4, 5, 6, 7, 8, 9, 16, 32, 64, 127} {
					for _, byReg := range []bool{false, true} {
						x := api.Instr{Kind: int8(kind), Op: op, Width: width, Size: size, ByReg: byReg}
						if May(x) != valid[x] {
							t.Errorf("May(%v) is not %t", x, valid[x])
						}
						if b, e := Bytes(x); (e == api.OK) != valid[x] || e != api.OK && (e != api.ErrOp || b != nil) {
							t.Errorf("Bytes(%v) = %x, %v", x, b, e)
						}
					}
				}
			}
		}
	}
}

func TestReadOfAllCodesAndRegisters(t *testing.T) {
	byCode := map[byte]form{}
	for _, f := range forms() {
		byCode[f.code] = f
	}
	for code := range 256 {
		f, known := byCode[byte(code)]
		for registers := range 256 {
			dst, src := int8(registers%16), int8(registers/16)
			for _, off := range []int{0, 1, -1, -32768, 32767} {
				for _, imm := range []int{0, 1, -1, 15, 16, 1 << 8, -1 << 31, 1<<31 - 1} {
					b := row(byte(code), dst, src, off, imm)
					want, may := f.with(dst, src, off, imm)
					if !known || !may {
						want, may = api.Instr{}, false
					}
					if x, e := Read(b); x != want || may && e != api.OK || !may && e != api.ErrOp {
						t.Fatalf("Read(%x) = %v, %v, not %v", b, x, e, want)
					}
				}
			}
		}
	}
}

func TestReadTakesEightBytes(t *testing.T) {
	b := append([]byte{113}, make([]byte, 99)...)
	for n := range len(b) {
		want := api.ErrCode
		if n == 8 {
			want = api.OK
		}
		if _, e := Read(b[:n]); e != want {
			t.Errorf("Read of %d bytes: %v, not %v", n, e, want)
		}
	}
	if x, e := Read(nil); x != (api.Instr{}) || e != api.ErrCode {
		t.Errorf("Read(nil) = %v, %v", x, e)
	}
	wrong := []byte{255, 255, 255, 255, 255, 255, 255} // its length comes first
	if x, e := Read(wrong); x != (api.Instr{}) || e != api.ErrCode {
		t.Errorf("Read(%x) = %v, %v", wrong, x, e)
	}
}

func TestTarget(t *testing.T) {
	const far = 1 << 40
	for _, c := range []struct {
		i, off, to int
		ok         bool
	}{
		{0, 0, 1, true},
		{5, 3, 9, true},
		{5, -6, 0, true},
		{5, -7, -1, true},
		{-4, 1, -2, true},
		{3, 1 << 20, 1<<20 + 4, true}, // an offset that no valid instruction has
		{far, far, 2*far + 1, true},
		{-far, -far, -2*far + 1, true},
		{far, -far, 1, true},
		{far + 1, 0, 0, false},
		{-far - 1, 0, 0, false},
		{0, far + 1, 0, false},
		{0, -far - 1, 0, false},
		{math.MaxInt, math.MaxInt, 0, false},
		{math.MinInt, 0, 0, false},
		{0, math.MinInt, 0, false},
		{math.MaxInt, math.MinInt, 0, false},
	} {
		for kind := math.MinInt8; kind <= math.MaxInt8; kind++ {
			to, ok := c.to, c.ok
			if int8(kind) != api.InJump && int8(kind) != api.InGoto {
				to, ok = 0, false
			}
			x := api.Instr{Kind: int8(kind), Off: c.off}
			if got, did := Target(c.i, x); got != to || did != ok {
				t.Errorf("Target(%d, %v) = %d, %t, not %d, %t", c.i, x, got, did, to, ok)
			}
		}
	}
	invalid := api.Instr{Kind: api.InJump, Op: 99, Width: 7, Dst: -1, Off: 2}
	if to, ok := Target(1, invalid); to != 4 || !ok {
		t.Errorf("Target(1, %v) = %d, %t", invalid, to, ok)
	}
}

func TestArgs(t *testing.T) {
	want := []int{0, 1, 2, 3, 4, 5, 0, 1, 2, 3, 4, 5, 0, 1, 2, 3}
	for num := -300; num <= 300; num++ {
		n := 0
		if num >= 0 && num < len(want) {
			n = want[num]
		}
		if got := Args(num); got != n {
			t.Errorf("Args(%d) = %d, not %d", num, got, n)
		}
	}
	for _, num := range []int{math.MinInt, -1 << 32, 1 << 32, 1<<32 + 1, math.MaxInt} {
		if got := Args(num); got != 0 {
			t.Errorf("Args(%d) = %d", num, got)
		}
	}
}

// P3.2

func TestCheck(t *testing.T) {
	to := func(off int) api.Instr { return api.Instr{Kind: api.InGoto, Off: off} }
	jump := func(off int) api.Instr { return api.Instr{Kind: api.InJump, Off: off} }
	for _, c := range []struct {
		p  api.Prog
		at int
		e  api.Errno
	}{
		{program(0, exit), 0, api.OK},
		{program(256, back), 0, api.OK},
		{filled(12, 64), 0, api.OK},
		{program(0, jump(-1), exit), 0, api.OK},
		{program(0, jump(0), exit), 0, api.OK},
		{program(0, exit, to(-2)), 0, api.OK},
		{program(0, to(1), jump(-2), exit), 0, api.OK},

		{program(-1, exit), 0, api.ErrArg},
		{program(257, exit), 0, api.ErrArg},
		{program(math.MinInt, exit), 0, api.ErrArg},
		{program(math.MaxInt, exit), 0, api.ErrArg},
		{program(1<<32, exit), 0, api.ErrArg},
		{program(257), 0, api.ErrArg}, // the context comes first
		{program(-1, none, call), 0, api.ErrArg},

		{program(0), 0, api.ErrLong},
		{api.Prog{L: []api.Instr{}}, 0, api.ErrLong},
		{filled(0, 65), 0, api.ErrLong},
		{program(0, slices.Repeat([]api.Instr{none}, 65)...), 0, api.ErrLong}, // the length before the instructions
		{program(0, make([]api.Instr, 100000)...), 0, api.ErrLong},

		{program(0, none), 0, api.ErrOp},
		{program(0, call, call, none), 2, api.ErrOp},
		{program(0, none, none, exit), 0, api.ErrOp},
		{program(0, call, api.Instr{Kind: api.InCall, Imm: 16}, exit), 1, api.ErrOp},
		{program(0, call, api.Instr{Kind: api.InGoto, Off: -32769}), 1, api.ErrOp}, // not valid, before its target

		{program(0, jump(1), exit), 0, api.ErrJump},
		{program(0, jump(-2), exit), 0, api.ErrJump},
		{program(0, jump(32767), exit), 0, api.ErrJump},
		{program(0, jump(-32768), exit), 0, api.ErrJump},
		{program(0, call, to(0)), 1, api.ErrJump},
		{program(0, call, to(-3)), 1, api.ErrJump},
		{program(0, jump(1), none), 0, api.ErrJump}, // the first instruction that has one of both
		{program(0, none, jump(2)), 0, api.ErrOp},
		{program(0, jump(5), call), 0, api.ErrJump}, // before the end

		{program(0, call), 0, api.ErrEnd},
		{program(0, call, exit, call), 2, api.ErrEnd},
		{program(0, jump(-1)), 0, api.ErrEnd},
		{program(0, exit, jump(-1)), 1, api.ErrEnd},
		{program(0, slices.Repeat([]api.Instr{call}, 64)...), 63, api.ErrEnd},
	} {
		if at, e := Check(c.p); at != c.at || e != c.e {
			t.Errorf("Check(%v) = %d, %v, not %d, %v", c.p, at, e, c.at, c.e)
		}
		if b, e := Encode(c.p); e != c.e || e != api.OK && b != nil {
			t.Errorf("Encode(%v) = %x, %v, not %v", c.p, b, e, c.e)
		}
	}
}

func TestSame(t *testing.T) {
	base := program(3, call, api.Instr{Kind: api.InJump, Op: 1, Dst: 2, Off: -1, Imm: 7}, exit)
	alter := func(change func(p *api.Prog)) api.Prog {
		p := program(base.Context, base.L...)
		p.L = slices.Clone(p.L)
		change(&p)
		return p
	}
	if !Same(base, alter(func(*api.Prog) {})) {
		t.Error("a copy is not the same")
	}
	for i, other := range []api.Prog{
		alter(func(p *api.Prog) { p.Context = 4 }),
		alter(func(p *api.Prog) { p.L = p.L[:2] }),
		alter(func(p *api.Prog) { p.L = append(p.L, exit) }),
		alter(func(p *api.Prog) { p.L = nil }),
		alter(func(p *api.Prog) { p.L[0], p.L[2] = p.L[2], p.L[0] }),
		alter(func(p *api.Prog) { p.L[1].Kind = api.InAlu }),
		alter(func(p *api.Prog) { p.L[1].Op = 2 }),
		alter(func(p *api.Prog) { p.L[1].Width = 64 }),
		alter(func(p *api.Prog) { p.L[1].Size = 1 }),
		alter(func(p *api.Prog) { p.L[1].ByReg = true }),
		alter(func(p *api.Prog) { p.L[1].Dst = 3 }),
		alter(func(p *api.Prog) { p.L[1].Src = 1 }),
		alter(func(p *api.Prog) { p.L[1].Off = 0 }),
		alter(func(p *api.Prog) { p.L[1].Imm = 1<<32 + 7 }),
	} {
		if Same(base, other) || Same(other, base) {
			t.Errorf("%d: %v is said to be %v", i, base, other)
		}
		if !Same(other, other) {
			t.Errorf("%d: %v is not said to be itself", i, other)
		}
	}
	if !Same(api.Prog{}, api.Prog{L: []api.Instr{}}) || !Same(api.Prog{L: []api.Instr{}}, api.Prog{}) {
		t.Error("nil and empty lists are not the same")
	}
	if !Same(program(-5, none), program(-5, none)) || Same(program(-5, none), program(-6, none)) {
		t.Error("programs that are not valid are not compared")
	}
}

// P3.3

func TestEncodeAndDecodeByHand(t *testing.T) {
	p := program(256,
		api.Instr{Kind: api.InAlu, Op: api.Add, Width: 64, Dst: 1, Imm: -1},
		api.Instr{Kind: api.InJump, Op: api.Ne, Dst: 1, Off: -2},
		exit)
	b := []byte{
		0, 1,
		0, 1, 0, 0, 0xFF, 0xFF, 0xFF, 0xFF,
		81, 1, 0xFE, 0xFF, 0, 0, 0, 0,
		113, 0, 0, 0, 0, 0, 0, 0,
	}
	if got, e := Encode(p); !bytes.Equal(got, b) || e != api.OK {
		t.Errorf("Encode(%v) = %x, %v, not %x", p, got, e, b)
	}
	got, at, e := Decode(b)
	if got.Context != 256 || !slices.Equal(got.L, p.L) || at != 0 || e != api.OK {
		t.Errorf("Decode(%x) = %v, %d, %v, not %v", b, got, at, e, p)
	}
}

func TestDecodeTellsTheFirstError(t *testing.T) {
	ends, calls := row(113, 0, 0, 0, 0), row(112, 0, 0, 0, 2)
	over, op := row(111, 0, 0, 5, 0), row(255, 0, 0, 0, 0)
	join := func(context uint16, rows ...[]byte) []byte {
		return append([]byte{byte(context), byte(context >> 8)}, slices.Concat(rows...)...)
	}
	for _, c := range []struct {
		b  []byte
		at int
		e  api.Errno
	}{
		{nil, 0, api.ErrCode},
		{[]byte{}, 0, api.ErrCode},
		{[]byte{0}, 0, api.ErrCode},
		{ends, 0, api.ErrCode}, // six bytes behind the context
		{join(0, ends, ends[:1]), 0, api.ErrCode},
		{join(0, ends, ends[:7]), 0, api.ErrCode},
		{join(257, op, op[:7]), 0, api.ErrCode}, // the number of bytes comes first

		{join(257, ends), 0, api.ErrArg},
		{join(0x8000, ends), 0, api.ErrArg},
		{join(0xFFFF, ends), 0, api.ErrArg},
		{join(257), 0, api.ErrArg},
		{join(257, op), 0, api.ErrArg},
		{join(300, slices.Repeat(ends, 65)), 0, api.ErrArg},

		{join(0), 0, api.ErrLong},
		{join(256), 0, api.ErrLong},
		{join(0, slices.Repeat(ends, 65)), 0, api.ErrLong},
		{join(0, slices.Repeat(op, 65)), 0, api.ErrLong},

		{join(0, op), 0, api.ErrOp},
		{join(0, calls, calls, op, op, ends), 2, api.ErrOp},
		{join(0, slices.Repeat(calls, 63), op), 63, api.ErrOp},
		{join(0, over, op), 1, api.ErrOp}, // all are read before the program is checked

		{join(0, calls, over, ends), 1, api.ErrJump},
		{join(0, over, over), 0, api.ErrJump},
		{join(0, over, calls), 0, api.ErrJump},
		{join(0, calls, calls), 1, api.ErrEnd},
		{join(256, slices.Repeat(calls, 64)), 63, api.ErrEnd},
	} {
		p, at, e := Decode(c.b)
		if at != c.at || e != c.e {
			t.Errorf("Decode(%x) = %d, %v, not %d, %v", c.b, at, e, c.at, c.e)
		}
		if p.Context != 0 || p.L != nil {
			t.Errorf("Decode(%x) tells a program beside its error: %v", c.b, p)
		}
	}
	for _, b := range [][]byte{join(0, ends), join(256, slices.Repeat(calls, 63), ends)} {
		if p, at, e := Decode(b); len(p.L) != len(b)/8 || at != 0 || e != api.OK {
			t.Errorf("Decode(%x) = %v, %d, %v", b, p, at, e)
		}
	}
}

// P3.4

func TestReadUndoesBytes(t *testing.T) {
	for _, x := range some() {
		b, e := Bytes(x)
		got, f := Read(b)
		if e != api.OK || f != api.OK || got != x || len(b) != 8 {
			t.Errorf("Read(Bytes(%v)) = %v (%v, %v)", x, got, e, f)
		}
	}
}

func TestBytesUndoRead(t *testing.T) {
	var read int
	for code := range 256 {
		for registers := range 256 {
			for _, rest := range []byte{0, 1, 0x80, 0xFF} {
				for place := 2; place < 8; place++ {
					b := []byte{byte(code), byte(registers), 0, 0, 0, 0, 0, 0}
					b[place] = rest
					x, e := Read(b)
					if e != api.OK {
						continue
					}
					read++
					if got, f := Bytes(x); f != api.OK || !bytes.Equal(got, b) {
						t.Fatalf("Bytes(Read(%x)) = %x, %v", b, got, f)
					}
				}
			}
		}
	}
	if read == 0 {
		t.Error("nothing was read")
	}
}

func TestDecodeUndoesEncode(t *testing.T) {
	all := some()
	for n := 1; n <= 64; n++ {
		for start := range all {
			p := api.Prog{Context: (n*37 + start) % 257}
			for i := range n - 1 {
				x := all[(start+i)%len(all)]
				if x.Kind == api.InJump || x.Kind == api.InGoto {
					x.Off = (start+i*7)%n - i - 1
				}
				p.L = append(p.L, x)
			}
			p.L = append(p.L, exit)
			b, e := Encode(p)
			got, at, f := Decode(b)
			if e != api.OK || f != api.OK || at != 0 || got.Context != p.Context || !slices.Equal(got.L, p.L) {
				t.Fatalf("Decode(Encode(%v)) = %v, %d (%v, %v)", p, got, at, e, f)
			}
			if again, e := Encode(got); e != api.OK || !bytes.Equal(again, b) {
				t.Fatalf("Encode(Decode(%x)) = %x, %v", b, again, e)
			}
		}
	}
}

// R4

func TestArgumentsStayAsTheyAre(t *testing.T) {
	p := filled(9, 4)
	list := append(slices.Clone(p.L), none, none)
	p.L = list[:4]
	b, _ := Encode(p)
	long := append(slices.Clone(b), 1, 2, 3)
	part := long[:len(b)]
	kept, keptList := slices.Clone(long), slices.Clone(list)
	first, _, e := Decode(part)
	second, _, f := Decode(part)
	if e != api.OK || f != api.OK {
		t.Fatalf("Decode(%x): %v, %v", part, e, f)
	}
	if !bytes.Equal(long, kept) || !slices.Equal(list, keptList) {
		t.Error("an argument was written to")
	}
	first.L[0] = none
	if second.L[0] != call {
		t.Error("two programs share memory")
	}
	clear(long)
	if !Same(second, p) {
		t.Error("a program shares memory with its bytes")
	}
	one, _ := Encode(p)
	one[0]++
	if two, _ := Encode(p); two[0] != 9 {
		t.Error("two encodings share memory")
	}
	row, _ := Bytes(exit)
	row[0] = 0
	if again, _ := Bytes(exit); again[0] != 113 {
		t.Error("two results of Bytes share memory")
	}
}
