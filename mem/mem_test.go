package mem

import (
	"bytes"
	"math"
	"slices"
	"testing"

	"lathe/api"
)

// plain is a memory told byte by byte: what is at each mapped address, and in which region it lies.
type plain struct {
	at map[uint64]byte
	in map[uint64]int8
}

func newPlain(context, code []byte, stack bool) *plain {
	p := &plain{map[uint64]byte{}, map[uint64]int8{}}
	p.add(1, 0x100000, code)
	p.add(2, 0x200000, context)
	p.add(3, 0x300000, make([]byte, 64))
	if stack {
		p.add(4, 0x400000, make([]byte, 264))
	}
	return p
}

func (p *plain) add(number int8, start uint64, b []byte) {
	for i, v := range b {
		p.at[start+uint64(i)], p.in[start+uint64(i)] = v, number
	}
}

// may tells whether an access is allowed, address by address.
func (p *plain) may(at uint64, n int, write bool) bool {
	for i := range n {
		if in := p.in[at+uint64(i)]; in == 0 || in != p.in[at] || write && in == 1 {
			return false
		}
	}
	return true
}

func (p *plain) read(at uint64, n int) (uint64, api.Errno) {
	if !p.may(at, n, false) {
		return 0, api.ErrFault
	}
	var v uint64
	for i := n - 1; i >= 0; i-- {
		v = v*256 + uint64(p.at[at+uint64(i)])
	}
	return v, api.OK
}

func (p *plain) write(at uint64, n int, v uint64) api.Errno {
	if !p.may(at, n, true) {
		return api.ErrFault
	}
	for i := range n {
		p.at[at+uint64(i)] = byte(v)
		v /= 256
	}
	return api.OK
}

// whole tells a region's bytes in order.
func (p *plain) whole(number int8, start uint64) []byte {
	var b []byte
	for at := start; p.in[at] == number; at++ {
		b = append(b, p.at[at])
	}
	return b
}

// check holds all that m tells of its bytes against p.
func (p *plain) check(t *testing.T, m *Mem) {
	t.Helper()
	if got, want := m.Context(), p.whole(2, 0x200000); !bytes.Equal(got, want) {
		t.Errorf("Context() = %x, not %x", got, want)
	}
	if got, want := m.Frame(), p.whole(3, 0x300000); !bytes.Equal(got[:], want) {
		t.Errorf("Frame() = %x, not %x", got, want)
	}
	if got, want := m.Stack(), p.whole(4, 0x400000); !bytes.Equal(got, want) {
		t.Errorf("Stack() = %x, not %x", got, want)
	}
	code := p.whole(1, 0x100000)
	if got, e := m.Fetch(0x100000); !bytes.Equal(got, code) || (e == api.OK) != (len(code) > 0) {
		t.Errorf("Fetch(0x100000) = %x, %v, not %x", got, e, code)
	}
}

// numbered tells n bytes that differ from their neighbours and are not 0.
func numbered(n, first int) []byte {
	b := make([]byte, n)
	for i := range b {
		b[i] = byte((first+i)%251 + 1)
	}
	return b
}

func mustNew(t *testing.T, context, code []byte, stack bool) *Mem {
	t.Helper()
	m, e := New(context, code, stack)
	if e != api.OK || m == nil {
		t.Fatalf("New of %d and %d bytes: %v", len(context), len(code), e)
	}
	return m
}

// eachShape calls f with memories of all kinds of sizes, and the same told byte by byte.
func eachShape(t *testing.T, f func(m *Mem, p *plain)) {
	t.Helper()
	for _, context := range []int{0, 1, 2, 3, 4, 7, 8, 9, 255, 256} {
		for _, code := range []int{0, 1, 3, 8, 16383, 16384} {
			for _, stack := range []bool{false, true} {
				c, d := numbered(context, 0), numbered(code, 100)
				f(mustNew(t, c, d, stack), newPlain(c, d, stack))
			}
		}
	}
}

// edgeAddresses are those around all ends that regions of any size can have, and those at which addresses wrap round.
func edgeAddresses() []uint64 {
	ends := []uint64{0, 1 << 20, 1 << 32, 1 << 63, 0x100000 + 16384, 0x200000 + 256, 0x300000, 0x300040, 0x400000, 0x400100, 0x400108, 0x100000000 + 0x200000, 1<<63 + 0x300000}
	for i := range uint64(10) {
		ends = append(ends, 0x100000+i, 0x200000+i)
	}
	seen := map[uint64]bool{}
	var all []uint64
	for _, end := range ends {
		for at := end - 9; at != end+10; at++ {
			if !seen[at] {
				seen[at], all = true, append(all, at)
			}
		}
	}
	return all
}

var sizes = []int{1, 2, 4, 8}

// P2.1

func TestNewHasLimits(t *testing.T) {
	for _, c := range []struct {
		context, code int
		e             api.Errno
	}{
		{0, 0, api.OK},
		{256, 16384, api.OK},
		{257, 0, api.ErrLong},
		{0, 16385, api.ErrLong},
		{257, 16385, api.ErrLong},
		{256, 16385, api.ErrLong},
		{257, 16384, api.ErrLong},
		{100000, 0, api.ErrLong},
	} {
		for _, stack := range []bool{false, true} {
			m, e := New(make([]byte, c.context), make([]byte, c.code), stack)
			if e != c.e || (m == nil) != (e != api.OK) {
				t.Errorf("New of %d and %d bytes: %v, %v", c.context, c.code, m == nil, e)
			}
		}
	}
}

func TestNewTakesNilAsEmpty(t *testing.T) {
	for _, stack := range []bool{false, true} {
		newPlain(nil, nil, stack).check(t, mustNew(t, nil, nil, stack))
		newPlain(nil, nil, stack).check(t, mustNew(t, []byte{}, []byte{}, stack))
	}
}

func TestNewHoldsCopies(t *testing.T) {
	context, code := numbered(20, 0), numbered(20, 50)
	m := mustNew(t, context[:10], code[:10], true)
	p := newPlain(context[:10], code[:10], true)
	for at := uint64(0x200000); at < 0x20000A; at++ {
		m.Write(at, 1, 0)
		p.write(at, 1, 0)
	}
	if !bytes.Equal(context, numbered(20, 0)) || !bytes.Equal(code, numbered(20, 50)) {
		t.Error("writes reach the arguments of New")
	}
	clear(context)
	clear(code)
	p.check(t, m)
}

func TestNewFrameAndStackAreNoughts(t *testing.T) {
	m := mustNew(t, numbered(256, 0), numbered(16384, 0), true)
	if m.Frame() != [64]byte{} || !bytes.Equal(m.Stack(), make([]byte, 264)) {
		t.Error("the frame or the stack does not begin with zeros")
	}
}

func TestReadAtAllEdges(t *testing.T) {
	eachShape(t, func(m *Mem, p *plain) {
		for _, at := range edgeAddresses() {
			for _, n := range sizes {
				v, e := m.Read(at, n)
				if want, fault := p.read(at, n); v != want || e != fault {
					t.Errorf("Read(%#x, %d) = %#x, %v, not %#x, %v", at, n, v, e, want, fault)
				}
			}
		}
	})
}

func TestWriteAtAllEdges(t *testing.T) {
	eachShape(t, func(m *Mem, p *plain) {
		for i, at := range edgeAddresses() {
			for _, n := range sizes {
				v := 0xF1E2D3C4B5A69788 + uint64(i)
				if e, want := m.Write(at, n, v), p.write(at, n, v); e != want {
					t.Errorf("Write(%#x, %d) = %v, not %v", at, n, e, want)
				}
			}
		}
		p.check(t, m)
	})
}

func TestWriteByHand(t *testing.T) {
	m := mustNew(t, make([]byte, 12), make([]byte, 12), true)
	for _, c := range []struct {
		at uint64
		n  int
		e  api.Errno
	}{
		{0x300038, 8, api.OK},
		{0x300039, 8, api.ErrFault},
		{0x30003F, 1, api.OK},
		{0x300040, 1, api.ErrFault},
		{0x2FFFFF, 2, api.ErrFault},
		{0x100000, 1, api.ErrFault},
		{0x100004, 8, api.ErrFault},
		{0x200004, 8, api.OK},
		{0x200005, 8, api.ErrFault},
		{0x400100, 8, api.OK},
		{0x400104, 8, api.ErrFault},
		{math.MaxUint64, 8, api.ErrFault},
	} {
		if e := m.Write(c.at, c.n, 1); e != c.e {
			t.Errorf("Write(%#x, %d) = %v, not %v", c.at, c.n, e, c.e)
		}
	}
}

func TestWriteTakesTheLowestBytes(t *testing.T) {
	for _, c := range []struct {
		n    int
		want []byte
	}{
		{1, []byte{0x88, 9, 9, 9, 9, 9, 9, 9}},
		{2, []byte{0x88, 0x77, 9, 9, 9, 9, 9, 9}},
		{4, []byte{0x88, 0x77, 0x66, 0x55, 9, 9, 9, 9}},
		{8, []byte{0x88, 0x77, 0x66, 0x55, 0x44, 0x33, 0x22, 0x11}},
	} {
		m := mustNew(t, bytes.Repeat([]byte{9}, 8), nil, false)
		if e := m.Write(api.ContextAt, c.n, 0x1122334455667788); e != api.OK || !bytes.Equal(m.Context(), c.want) {
			t.Errorf("Write of %d bytes: %v, %x, not %x", c.n, e, m.Context(), c.want)
		}
	}
}

func TestAccessOfASizeThatIsNone(t *testing.T) {
	m := mustNew(t, make([]byte, 256), make([]byte, 16384), true)
	for _, at := range []uint64{0, api.CodeAt, api.ContextAt, api.FrameAt, api.StackAt, math.MaxUint64} {
		for _, n := range []int{math.MinInt, -8, -1, 0, 3, 5, 6, 7, 9, 12, 16, 32, 64, 257, 264, 1<<32 + 1, math.MaxInt} {
			if v, e := m.Read(at, n); v != 0 || e != api.ErrArg {
				t.Errorf("Read(%#x, %d) = %#x, %v", at, n, v, e)
			}
			if e := m.Write(at, n, 1); e != api.ErrArg {
				t.Errorf("Write(%#x, %d) = %v", at, n, e)
			}
		}
	}
	newPlain(make([]byte, 256), make([]byte, 16384), true).check(t, m)
}

func TestAccessToNil(t *testing.T) {
	var m *Mem
	for _, n := range []int{-1, 0, 1, 3, 8} { // ahead of ErrArg and of ErrFault
		for _, at := range []uint64{0, api.FrameAt} {
			if v, e := m.Read(at, n); v != 0 || e != api.ErrNil {
				t.Errorf("Read(%#x, %d) of nil = %#x, %v", at, n, v, e)
			}
			if e := m.Write(at, n, 1); e != api.ErrNil {
				t.Errorf("Write(%#x, %d) to nil = %v", at, n, e)
			}
		}
	}
}

// P2.2

func TestFetchGoesToTheEnd(t *testing.T) {
	eachShape(t, func(m *Mem, p *plain) {
		code := p.whole(1, 0x100000)
		for _, at := range edgeAddresses() {
			b, e := m.Fetch(at)
			if p.in[at] == 1 {
				if e != api.OK || !bytes.Equal(b, code[at-0x100000:]) {
					t.Errorf("Fetch(%#x) = %x, %v", at, b, e)
				}
			} else if e != api.ErrFault || len(b) != 0 {
				t.Errorf("Fetch(%#x) = %x, %v, with %d bytes of code", at, b, e, len(code))
			}
		}
	})
}

func TestNilHasNothing(t *testing.T) {
	var m *Mem
	if b, e := m.Fetch(api.CodeAt); b != nil || e != api.ErrNil {
		t.Errorf("Fetch of nil = %x, %v", b, e)
	}
	if m.Context() != nil || m.Frame() != [64]byte{} || m.Stack() != nil || m.Copy() != nil {
		t.Error("a nil memory has contents")
	}
}

func TestStackIsThereOrNot(t *testing.T) {
	if b := mustNew(t, nil, nil, false).Stack(); b != nil {
		t.Errorf("Stack() without a stack = %x", b)
	}
	if b := mustNew(t, nil, nil, false).Copy().Stack(); b != nil {
		t.Errorf("Stack() of a copy without a stack = %x", b)
	}
	if b := mustNew(t, nil, nil, true).Copy().Stack(); len(b) != 264 {
		t.Errorf("Stack() of a copy has %d bytes", len(b))
	}
}

func TestResultsAreNewMemory(t *testing.T) {
	context, code := numbered(16, 0), numbered(16, 50)
	m := mustNew(t, context, code, true)
	fetched, _ := m.Fetch(api.CodeAt)
	later, _ := m.Fetch(api.CodeAt + 8)
	for _, b := range [][]byte{fetched, m.Context(), m.Stack()} {
		clear(b)
		clear(b[len(b):cap(b)])
	}
	frame := m.Frame()
	frame[0] = 99
	newPlain(context, code, true).check(t, m)
	if !bytes.Equal(later, code[8:]) {
		t.Errorf("two results of Fetch share memory: %x", later)
	}
}

func TestResultsStayWhatTheyWere(t *testing.T) {
	m := mustNew(t, numbered(8, 0), nil, true)
	context, frame, stack := m.Context(), m.Frame(), m.Stack()
	for _, at := range []uint64{api.ContextAt, api.FrameAt, api.StackAt} {
		if e := m.Write(at, 8, math.MaxUint64); e != api.OK {
			t.Fatal(e)
		}
	}
	if !bytes.Equal(context, numbered(8, 0)) || frame != [64]byte{} || !bytes.Equal(stack, make([]byte, 264)) {
		t.Error("a later write is seen in an earlier result")
	}
}

func TestCopyIsIndependent(t *testing.T) {
	eachShape(t, func(m *Mem, p *plain) {
		m.Write(api.FrameAt+8, 8, 0x0102030405060708)
		p.write(api.FrameAt+8, 8, 0x0102030405060708)
		c := m.Copy()
		p.check(t, c)
		q := newPlain(m.Context(), p.whole(1, 0x100000), p.in[0x400000] == 4)
		q.write(api.FrameAt+8, 8, 0x0102030405060708)
		for _, at := range []uint64{api.ContextAt, api.FrameAt, api.StackAt} {
			if e, want := m.Write(at, 1, 0xAA), p.write(at, 1, 0xAA); e != want {
				t.Errorf("Write(%#x, 1) = %v, not %v", at, e, want)
			}
			if e, want := c.Write(at, 1, 0xBB), q.write(at, 1, 0xBB); e != want {
				t.Errorf("Write(%#x, 1) to a copy = %v, not %v", at, e, want)
			}
		}
		p.check(t, m)
		q.check(t, c)
	})
}

func TestMemoryThatNewDidNotMake(t *testing.T) {
	m := new(Mem)
	for _, at := range edgeAddresses() {
		for _, n := range sizes {
			m.Read(at, n)
			m.Write(at, n, 1)
		}
		if b, e := m.Fetch(at); len(b) != 0 || e != api.ErrFault {
			t.Errorf("Fetch(%#x) of an empty memory = %x, %v", at, b, e)
		}
	}
	if c := m.Copy(); c == nil || c.Frame() != m.Frame() || len(c.Context()) != 0 || len(c.Stack()) != 0 {
		t.Error("an empty memory has contents")
	}
}

// P2.3

func TestRegionAtAllEdges(t *testing.T) {
	eachShape(t, func(m *Mem, p *plain) {
		context, code, stack := len(p.whole(2, 0x200000)), len(p.whole(1, 0x100000)), p.in[0x400000] == 4
		for _, at := range edgeAddresses() {
			if r := Region(at, context, code, stack); r != p.in[at] {
				t.Errorf("Region(%#x, %d, %d, %t) = %d, not %d", at, context, code, stack, r, p.in[at])
			}
		}
	})
}

func TestRegionLimitsTheSizes(t *testing.T) {
	for _, c := range []struct {
		at            uint64
		context, code int
		want          int8
	}{
		{0x200000, math.MinInt, 5, 0},
		{0x200000, -1, 5, 0},
		{0x200000, 0, 5, 0},
		{0x200000, 1, 5, 2},
		{0x2000FF, 257, 5, 2},
		{0x200100, 257, 5, 0},
		{0x2000FF, math.MaxInt, 5, 2},
		{0x200100, math.MaxInt, 5, 0},
		{0x300000, math.MaxInt, 5, 3},
		{0x100000, 5, math.MinInt, 0},
		{0x100000, 5, -1, 0},
		{0x100000, 5, 0, 0},
		{0x103FFF, 5, 16385, 1},
		{0x104000, 5, 16385, 0},
		{0x103FFF, 5, math.MaxInt, 1},
		{0x104000, 5, math.MaxInt, 0},
		{0x200004, 5, math.MaxInt, 2},
		{0x30003F, -1, -1, 3},
		{0x400107, -1, -1, 4},
	} {
		if r := Region(c.at, c.context, c.code, true); r != c.want {
			t.Errorf("Region(%#x, %d, %d, true) = %d, not %d", c.at, c.context, c.code, r, c.want)
		}
	}
	if r := Region(0x400107, math.MaxInt, math.MaxInt, false); r != 0 {
		t.Errorf("Region of a stack that is not there = %d", r)
	}
}

func TestRegionIsWhereReadsAreAllowed(t *testing.T) {
	eachShape(t, func(m *Mem, p *plain) {
		context, code, stack := len(m.Context()), len(p.whole(1, 0x100000)), len(m.Stack()) > 0
		for _, at := range edgeAddresses() {
			_, e := m.Read(at, 1)
			if r := Region(at, context, code, stack); (r != 0) != (e == api.OK) {
				t.Errorf("Region(%#x) = %d, but Read tells %v", at, r, e)
			}
		}
	})
}

// P2.4

func TestWrittenBytesAreReadBack(t *testing.T) {
	eachShape(t, func(m *Mem, p *plain) {
		v := uint64(0x9E3779B97F4A7C15)
		for i := range 400 { // sizes and places in turn, so that later writes lie across earlier ones
			v = v*6364136223846793005 + 1442695040888963407
			at := []uint64{api.ContextAt, api.FrameAt, api.StackAt, api.StackTop}[i%4] + v>>59
			n := sizes[v>>57%4]
			if e, want := m.Write(at, n, v), p.write(at, n, v); e != want {
				t.Fatalf("Write(%#x, %d) = %v, not %v", at, n, e, want)
			}
			for _, n := range sizes {
				got, e := m.Read(at, n)
				if want, fault := p.read(at, n); got != want || e != fault {
					t.Fatalf("Read(%#x, %d) = %#x, %v, not %#x, %v", at, n, got, e, want, fault)
				}
			}
		}
		p.check(t, m)
	})
}

func TestFaultsChangeNothing(t *testing.T) {
	eachShape(t, func(m *Mem, p *plain) {
		for _, at := range edgeAddresses() {
			for _, n := range []int{-1, 0, 1, 2, 3, 4, 5, 6, 7, 8, 9, 16} {
				want := api.ErrArg
				if slices.Contains(sizes, n) {
					want = api.ErrFault
				}
				if want == api.ErrFault && p.may(at, n, true) {
					continue
				}
				if e := m.Write(at, n, math.MaxUint64); e != want {
					t.Errorf("Write(%#x, %d) = %v, not %v", at, n, e, want)
				}
			}
		}
		p.check(t, m)
	})
}

func TestCodeNeverChanges(t *testing.T) {
	code := numbered(64, 7)
	m := mustNew(t, nil, code, true)
	for at := uint64(api.CodeAt - 8); at < api.CodeAt+72; at++ {
		for _, n := range sizes {
			if e := m.Write(at, n, 0); e != api.ErrFault {
				t.Errorf("Write(%#x, %d) = %v", at, n, e)
			}
		}
	}
	newPlain(nil, code, true).check(t, m)
}
