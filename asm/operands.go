package asm

import (
	"strconv"
	"strings"

	"almonry/api"
	"almonry/inst"
)

// The forms, as far as lines and parcels tell them apart.
const (
	formNone = iota
	formWord
	formR
	formI
	formLoad
	formStore
	formB
	formUp
	formJ
	formC
	formCn
	formLr
	formV
	forms
)

func formOf(op uint8) int {
	switch inst.Class(op) {
	case inst.None:
		return formWord
	case inst.Loads:
		return formLoad
	case inst.Stores:
		return formStore
	case inst.Branches:
		return formB
	case inst.Atomics:
		if op == api.LRW || op == api.LRD {
			return formLr
		}
		return formR
	case inst.Csrs:
		if op >= api.CSRRWI {
			return formCn
		}
		return formC
	}
	switch op {
	case api.LUI, api.AUIPC:
		return formUp
	case api.JAL:
		return formJ
	case api.SFENCEVMA:
		return formV
	case api.JALR, api.ADDI, api.SLTI, api.SLTIU, api.XORI, api.ORI, api.ANDI, api.SLLI, api.SRLI, api.SRAI,
		api.ADDIW, api.SLLIW, api.SRLIW, api.SRAIW:
		return formI
	}
	if inst.Class(op) == inst.Arith {
		return formR
	}
	return formNone
}

// operand is how a part of a line is written, and read into an instruction.
type operand struct {
	write func(x api.Inst) string
	read  func(x *api.Inst, s string)
}

// operands tells those of an operation's line, in order.
func operands(op uint8) []operand {
	rd := operand{func(x api.Inst) string { return register(x.Rd) }, func(x *api.Inst, s string) { x.Rd = readRegister(s) }}
	rs1 := operand{func(x api.Inst) string { return register(x.Rs1) }, func(x *api.Inst, s string) { x.Rs1 = readRegister(s) }}
	rs2 := operand{func(x api.Inst) string { return register(x.Rs2) }, func(x *api.Inst, s string) { x.Rs2 = readRegister(s) }}
	csr := operand{func(x api.Inst) string { return number(int64(x.Csr)) }, func(x *api.Inst, s string) { x.Csr = uint16(readNumber(s)) }}
	imm := operand{func(x api.Inst) string { return number(x.Imm) }, func(x *api.Inst, s string) { x.Imm = readNumber(s) }}
	upper := operand{func(x api.Inst) string { return number(x.Imm >> 12) }, func(x *api.Inst, s string) { x.Imm = readNumber(s) << 12 }}
	place := operand{func(x api.Inst) string { return number(x.Imm) + "(" + register(x.Rs1) + ")" }, readPlace}
	l := [forms][]operand{
		formWord:  {imm},
		formR:     {rd, rs1, rs2},
		formI:     {rd, rs1, imm},
		formLoad:  {rd, place},
		formStore: {rs2, place},
		formB:     {rs1, rs2, imm},
		formUp:    {rd, upper},
		formJ:     {rd, imm},
		formC:     {rd, csr, rs1},
		formCn:    {rd, csr, imm},
		formLr:    {rd, rs1},
		formV:     {rs1, rs2},
	}
	return l[formOf(op)]
}

func number(n int64) string { return strconv.FormatInt(n, 10) }

func register(n uint8) string { return "x" + strconv.Itoa(int(n)) }

func readNumber(s string) int64 {
	n, err := strconv.ParseInt(s, 10, 64)
	if err != nil {
		giveUp()
	}
	return n
}

func readRegister(s string) uint8 {
	digits, ok := strings.CutPrefix(s, "x")
	if !ok {
		giveUp()
	}
	return uint8(readNumber(digits))
}

func readPlace(x *api.Inst, s string) {
	n, rest, _ := strings.Cut(s, "(")
	x.Imm = readNumber(n)
	x.Rs1 = readRegister(strings.TrimSuffix(rest, ")"))
}
