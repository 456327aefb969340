// Package isa knows the instructions: their ops and kinds, which of them are right, and their words.
package isa

// Ops in the order of the document's table; their numbers are those of package api.
const (
	Add = iota + 1
	Sub
	Sll
	Slt
	Sltu
	Xor
	Srl
	Sra
	Or
	And
	Mul
	Mulh
	Mulhsu
	Mulhu
	Div
	Divu
	Rem
	Remu
	Addw
	Subw
	Sllw
	Srlw
	Sraw
	Mulw
	Divw
	Divuw
	Remw
	Remuw
	Addi
	Slti
	Sltiu
	Xori
	Ori
	Andi
	Slli
	Srli
	Srai
	Addiw
	Slliw
	Srliw
	Sraiw
	Lb
	Lh
	Lw
	Ld
	Lbu
	Lhu
	Lwu
	Jalr
	Sb
	Sh
	Sw
	Sd
	Beq
	Bne
	Blt
	Bge
	Bltu
	Bgeu
	Lui
	Auipc
	Jal
	Ecall
	Ebreak
)

// Kind is what the instructions of one layout have in common.
type Kind int

// Kinds in the order of the document's table.
const (
	KindR Kind = iota
	KindI
	KindH
	KindW
	KindL
	KindS
	KindB
	KindU
	KindJ
	KindN
)

// Row is one op's line of the document's table.
type Row struct {
	Op     int
	Name   string
	Kind   Kind
	opcode int
	f, g   int
}

// registerRows and otherRows are one table, parted so that neither function is long.
func registerRows() [Addi - Add]Row {
	return [...]Row{
		{Add, "add", KindR, 51, 0, 0},
		{Sub, "sub", KindR, 51, 0, 32},
		{Sll, "sll", KindR, 51, 1, 0},
		{Slt, "slt", KindR, 51, 2, 0},
		{Sltu, "sltu", KindR, 51, 3, 0},
		{Xor, "xor", KindR, 51, 4, 0},
		{Srl, "srl", KindR, 51, 5, 0},
		{Sra, "sra", KindR, 51, 5, 32},
		{Or, "or", KindR, 51, 6, 0},
		{And, "and", KindR, 51, 7, 0},
		{Mul, "mul", KindR, 51, 0, 1},
		{Mulh, "mulh", KindR, 51, 1, 1},
		{Mulhsu, "mulhsu", KindR, 51, 2, 1},
		{Mulhu, "mulhu", KindR, 51, 3, 1},
		{Div, "div", KindR, 51, 4, 1},
		{Divu, "divu", KindR, 51, 5, 1},
		{Rem, "rem", KindR, 51, 6, 1},
		{Remu, "remu", KindR, 51, 7, 1},
		{Addw, "addw", KindR, 59, 0, 0},
		{Subw, "subw", KindR, 59, 0, 32},
		{Sllw, "sllw", KindR, 59, 1, 0},
		{Srlw, "srlw", KindR, 59, 5, 0},
		{Sraw, "sraw", KindR, 59, 5, 32},
		{Mulw, "mulw", KindR, 59, 0, 1},
		{Divw, "divw", KindR, 59, 4, 1},
		{Divuw, "divuw", KindR, 59, 5, 1},
		{Remw, "remw", KindR, 59, 6, 1},
		{Remuw, "remuw", KindR, 59, 7, 1},
	}
}

func otherRows() [Ebreak - Addi + 1]Row {
	return [...]Row{
		{Addi, "addi", KindI, 19, 0, 0},
		{Slti, "slti", KindI, 19, 2, 0},
		{Sltiu, "sltiu", KindI, 19, 3, 0},
		{Xori, "xori", KindI, 19, 4, 0},
		{Ori, "ori", KindI, 19, 6, 0},
		{Andi, "andi", KindI, 19, 7, 0},
		{Slli, "slli", KindH, 19, 1, 0},
		{Srli, "srli", KindH, 19, 5, 0},
		{Srai, "srai", KindH, 19, 5, 16},
		{Addiw, "addiw", KindI, 27, 0, 0},
		{Slliw, "slliw", KindW, 27, 1, 0},
		{Srliw, "srliw", KindW, 27, 5, 0},
		{Sraiw, "sraiw", KindW, 27, 5, 32},
		{Lb, "lb", KindL, 3, 0, 0},
		{Lh, "lh", KindL, 3, 1, 0},
		{Lw, "lw", KindL, 3, 2, 0},
		{Ld, "ld", KindL, 3, 3, 0},
		{Lbu, "lbu", KindL, 3, 4, 0},
		{Lhu, "lhu", KindL, 3, 5, 0},
		{Lwu, "lwu", KindL, 3, 6, 0},
		{Jalr, "jalr", KindL, 103, 0, 0},
		{Sb, "sb", KindS, 35, 0, 0},
		{Sh, "sh", KindS, 35, 1, 0},
		{Sw, "sw", KindS, 35, 2, 0},
		{Sd, "sd", KindS, 35, 3, 0},
		{Beq, "beq", KindB, 99, 0, 0},
		{Bne, "bne", KindB, 99, 1, 0},
		{Blt, "blt", KindB, 99, 4, 0},
		{Bge, "bge", KindB, 99, 5, 0},
		{Bltu, "bltu", KindB, 99, 6, 0},
		{Bgeu, "bgeu", KindB, 99, 7, 0},
		{Lui, "lui", KindU, 55, 0, 0},
		{Auipc, "auipc", KindU, 23, 0, 0},
		{Jal, "jal", KindJ, 111, 0, 0},
		{Ecall, "ecall", KindN, 115, 0, 0},
		{Ebreak, "ebreak", KindN, 115, 0, 1},
	}
}

func find(wanted func(Row) bool) (Row, bool) {
	for _, row := range registerRows() {
		if wanted(row) {
			return row, true
		}
	}
	for _, row := range otherRows() {
		if wanted(row) {
			return row, true
		}
	}
	return Row{}, false
}

// Named tells the row of the op that has this name.
func Named(name string) (Row, bool) {
	return find(func(row Row) bool { return row.Name == name })
}

func numbered(op int) (Row, bool) {
	return find(func(row Row) bool { return row.Op == op })
}
