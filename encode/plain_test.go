package encode

import (
	"bytes"
	"encoding/hex"
	"slices"
	"strconv"
	"strings"

	"lathe/api"
)

// row is a line of the chapter's table, or the part of one for some of its widths.
type row struct {
	op     int8
	widths string // none: W is not named
	code   string // cc or Dst behind a + is added to its last byte
	reg    string // a field, or a number behind a /
	rm     string // a field; Base is one of memory
	imm    string // how many bytes; shift: one, of which not all are let be
}

// rows are the chapter's table.
var rows = []row{
	{api.XMov, "32 64", "89", "Src", "Dst", ""},
	{api.XMovI, "64", "C7", "/0", "Dst", "4"},
	{api.XMovI, "32", "B8 +Dst", "", "", "4"},
	{api.XAdd, "32 64", "01", "Src", "Dst", ""},
	{api.XOr, "32 64", "09", "Src", "Dst", ""},
	{api.XAnd, "32 64", "21", "Src", "Dst", ""},
	{api.XSub, "32 64", "29", "Src", "Dst", ""},
	{api.XXor, "32 64", "31", "Src", "Dst", ""},
	{api.XCmp, "32 64", "39", "Src", "Dst", ""},
	{api.XTest, "32 64", "85", "Src", "Dst", ""},
	{api.XAddI, "32 64", "81", "/0", "Dst", "4"},
	{api.XOrI, "32 64", "81", "/1", "Dst", "4"},
	{api.XAndI, "32 64", "81", "/4", "Dst", "4"},
	{api.XSubI, "32 64", "81", "/5", "Dst", "4"},
	{api.XXorI, "32 64", "81", "/6", "Dst", "4"},
	{api.XCmpI, "32 64", "81", "/7", "Dst", "4"},
	{api.XTestI, "32 64", "F7", "/0", "Dst", "4"},
	{api.XMul, "32 64", "0F AF", "Dst", "Src", ""},
	{api.XShl, "32 64", "C1", "/4", "Dst", "shift"},
	{api.XShr, "32 64", "C1", "/5", "Dst", "shift"},
	{api.XSar, "32 64", "C1", "/7", "Dst", "shift"},
	{api.XShlC, "32 64", "D3", "/4", "Dst", ""},
	{api.XShrC, "32 64", "D3", "/5", "Dst", ""},
	{api.XSarC, "32 64", "D3", "/7", "Dst", ""},
	{api.XNeg, "32 64", "F7", "/3", "Dst", ""},
	{api.XDiv, "32 64", "F7", "/6", "Dst", ""},
	{api.XCmov, "32 64", "0F 40 +Cc", "Dst", "Src", ""},
	{api.XLoad, "8", "0F B6", "Dst", "Base", ""},
	{api.XLoad, "16", "0F B7", "Dst", "Base", ""},
	{api.XLoad, "32 64", "8B", "Dst", "Base", ""},
	{api.XStore, "8", "88", "Src", "Base", ""},
	{api.XStore, "16", "66 89", "Src", "Base", ""},
	{api.XStore, "32 64", "89", "Src", "Base", ""},
	{api.XJmp, "8", "EB", "", "", "1"},
	{api.XJmp, "32", "E9", "", "", "4"},
	{api.XJcc, "8", "70 +Cc", "", "", "1"},
	{api.XJcc, "32", "0F 80 +Cc", "", "", "4"},
	{api.XRet, "", "C3", "", "", ""},
	{api.XHost, "", "0F 05", "", "", ""},
}

// conditions are the ten that there are.
var conditions = []int8{api.CcB, api.CcAe, api.CcE, api.CcNe, api.CcBe, api.CcA, api.CcL, api.CcGe, api.CcLe, api.CcG}

// at tells a row's widths.
func (r row) at() []int8 {
	if r.widths == "" {
		return []int8{0}
	}
	var l []int8
	for _, text := range strings.Fields(r.widths) {
		w, _ := strconv.Atoi(text)
		l = append(l, int8(w))
	}
	return l
}

// names tells whether a row names a field.
func (r row) names(field string) bool {
	if field == "Disp" {
		return r.rm == "Base"
	}
	if field == "Imm" {
		return r.imm != ""
	}
	return r.reg == field || r.rm == field || strings.HasSuffix(r.code, "+"+field)
}

// plainRow finds the row of an operation at a width.
func plainRow(op, w int8) (row, bool) {
	for _, r := range rows {
		if r.op == op && slices.Contains(r.at(), w) {
			return r, true
		}
	}
	return row{}, false
}

// plainMay asks field by field.
func plainMay(x api.X) bool {
	r, ok := plainRow(x.Op, x.W)
	if !ok {
		return false
	}
	for field, v := range map[string]int8{"Dst": x.Dst, "Src": x.Src, "Base": x.Base} {
		if r.names(field) && (v < 0 || v > 15) || !r.names(field) && v != 0 {
			return false
		}
	}
	if r.names("Cc") && !slices.Contains(conditions, x.Cc) || !r.names("Cc") && x.Cc != 0 {
		return false
	}
	least, most := 0, 0
	if r.names("Disp") {
		least, most = -0x80000000, 0x7FFFFFFF
	}
	if x.Disp < least || x.Disp > most {
		return false
	}
	least, most = plainImm(r, x.W)
	return x.Imm >= least && x.Imm <= most
}

// plainImm tells the range of Imm.
func plainImm(r row, w int8) (least, most int) {
	switch r.imm {
	case "4":
		return -0x80000000, 0x7FFFFFFF
	case "1":
		return -128, 127
	case "shift":
		return 0, int(w) - 1
	}
	return 0, 0
}

// field tells what a valid instruction has in a field, or the number behind a /.
func field(x api.X, name string) int {
	switch name {
	case "Dst":
		return int(x.Dst)
	case "Src":
		return int(x.Src)
	case "Base":
		return int(x.Base)
	case "Cc":
		return int(x.Cc)
	}
	n, _ := strconv.Atoi(strings.TrimPrefix(name, "/"))
	return n
}

// plainHead tells a valid instruction's bytes up to Disp or Imm, with how many of these follow, as the chapter's words put them together.
func plainHead(x api.X) (head []byte, disp, imm int) {
	r, _ := plainRow(x.Op, x.W)
	text, added, _ := strings.Cut(r.code, " +")
	code, _ := hex.DecodeString(strings.ReplaceAll(text, " ", ""))
	reg, rm := field(x, r.reg), field(x, r.rm)
	switch added {
	case "Cc":
		code[len(code)-1] += byte(x.Cc)
	case "Dst":
		rm = int(x.Dst)
		code[len(code)-1] += byte(rm % 8)
	}
	if code[0] == 0x66 {
		head, code = []byte{0x66}, code[1:]
	}
	if x.W == 64 || reg > 7 || rm > 7 || x.Op == api.XStore && x.W == 8 {
		head = append(head, 0x40+byte(x.W/64)*8+byte(reg/8)*4+byte(rm/8))
	}
	head = append(head, code...)
	switch {
	case r.rm == "Base":
		head, disp = append(head, 0x80+8*byte(reg%8)+byte(rm%8)), 4
		if rm%8 == 4 {
			head = append(head, 0x24)
		}
	case r.rm != "":
		head = append(head, 0xC0+8*byte(reg%8)+byte(rm%8))
	}
	return head, disp, map[string]int{"4": 4, "1": 1, "shift": 1}[r.imm]
}

// plainTail tells n bytes of a number, the lowest first, by dividing.
func plainTail(v, n int) []byte {
	var b []byte
	for range n {
		b = append(b, byte((v%256+256)%256))
		v = (v - (v%256+256)%256) / 256
	}
	return b
}

// plainNumber undoes plainTail.
func plainNumber(b []byte) int {
	v, unit := 0, 1
	for _, x := range b {
		v += int(x) * unit
		unit *= 256
	}
	if 2*v >= unit {
		v -= unit
	}
	return v
}

func plainBytes(x api.X) ([]byte, api.Errno) {
	if !plainMay(x) {
		return nil, api.ErrArg
	}
	head, disp, imm := plainHead(x)
	return slices.Concat(head, plainTail(x.Disp, disp), plainTail(x.Imm, imm)), api.OK
}

// eachHead calls f with all valid instructions whose Disp and Imm are 0.
func eachHead(f func(x api.X)) {
	upTo := func(r row, field string) []int8 {
		if !r.names(field) {
			return []int8{0}
		}
		return []int8{0, 1, 2, 3, 4, 5, 6, 7, 8, 9, 10, 11, 12, 13, 14, 15}
	}
	for _, r := range rows {
		ccs := []int8{0}
		if r.names("Cc") {
			ccs = conditions
		}
		for _, w := range r.at() {
			for _, dst := range upTo(r, "Dst") {
				for _, src := range upTo(r, "Src") {
					for _, base := range upTo(r, "Base") {
						for _, cc := range ccs {
							f(api.X{Op: r.op, W: w, Dst: dst, Src: src, Base: base, Cc: cc})
						}
					}
				}
			}
		}
	}
}

// heads are all valid instructions but for Disp and Imm, by their bytes ahead of these.
type heads map[string]api.X

func allHeads() heads {
	all := heads{}
	eachHead(func(x api.X) {
		head, _, _ := plainHead(x)
		all[string(head)] = x
	})
	return all
}

// longestHead is 66, a REX byte, the code and two bytes of an operand.
const longestHead = 5

// read looks up what bytes begin with among all heads.
func (all heads) read(b []byte) (api.X, int, api.Errno) {
	for n := range min(len(b), longestHead) + 1 {
		x, ok := all[string(b[:n])]
		if !ok {
			continue
		}
		_, disp, imm := plainHead(x)
		if len(b) < n+disp+imm {
			continue
		}
		x.Disp, x.Imm = plainNumber(b[n:n+disp]), plainNumber(b[n+disp:n+disp+imm])
		if own, e := plainBytes(x); e == api.OK && bytes.HasPrefix(b, own) {
			return x, len(own), api.OK
		}
	}
	return api.X{}, 0, api.ErrCode
}

// uses are the registers that an operation reads, and those that it writes.
type uses struct{ reads, writes string }

// allUses are the chapter's words on Reads and Writes.
var allUses = map[int8]uses{
	api.XMov:   {"Src", "Dst"},
	api.XMovI:  {"", "Dst"},
	api.XAdd:   {"Dst Src", "Dst"},
	api.XOr:    {"Dst Src", "Dst"},
	api.XAnd:   {"Dst Src", "Dst"},
	api.XSub:   {"Dst Src", "Dst"},
	api.XXor:   {"Dst Src", "Dst"},
	api.XCmp:   {"Dst Src", ""},
	api.XTest:  {"Dst Src", ""},
	api.XAddI:  {"Dst", "Dst"},
	api.XOrI:   {"Dst", "Dst"},
	api.XAndI:  {"Dst", "Dst"},
	api.XSubI:  {"Dst", "Dst"},
	api.XXorI:  {"Dst", "Dst"},
	api.XCmpI:  {"Dst", ""},
	api.XTestI: {"Dst", ""},
	api.XMul:   {"Dst Src", "Dst"},
	api.XShl:   {"Dst", "Dst"},
	api.XShr:   {"Dst", "Dst"},
	api.XSar:   {"Dst", "Dst"},
	api.XShlC:  {"Dst 1", "Dst"},
	api.XShrC:  {"Dst 1", "Dst"},
	api.XSarC:  {"Dst 1", "Dst"},
	api.XNeg:   {"Dst", "Dst"},
	api.XDiv:   {"0 2 Dst", "0 2"},
	api.XCmov:  {"Dst Src", "Dst"},
	api.XLoad:  {"Base", "Dst"},
	api.XStore: {"Base Src", ""},
	api.XJmp:   {"", ""},
	api.XJcc:   {"", ""},
	api.XRet:   {"4 0", "4"},
	api.XHost:  {"0 7 6 2 10 8", "0 1 11"},
}

// plainSet tells registers, which are numbers or fields, as a bit mask.
func plainSet(x api.X, registers string) int {
	in := map[int]bool{}
	for _, name := range strings.Fields(registers) {
		in[field(x, name)] = true
	}
	mask, value := 0, 1
	for r := range 16 {
		if in[r] {
			mask += value
		}
		value *= 2
	}
	return mask
}
