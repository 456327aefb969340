package isa

import "pinion/api"

// Right tells the row of an instruction, and whether the instruction is right.
func Right(i api.Ins) (Row, bool) {
	row, ok := numbered(i.Op)
	if !ok {
		return Row{}, false
	}
	l := layoutOf(row.Kind)
	if !rightRegister(i.Rd, l.rd) || !rightRegister(i.Rs1, l.rs1) || !rightRegister(i.Rs2, l.rs2) || !l.takesImm(i.Imm) {
		return Row{}, false
	}
	return row, true
}

func rightRegister(register int, has bool) bool {
	if !has {
		return register == 0
	}
	return 0 <= register && register <= MostRegister
}

// Encode tells an instruction's word.
func Encode(i api.Ins) (int, api.Errno) {
	row, ok := Right(i)
	if !ok {
		return 0, api.ErrIns
	}
	l := layoutOf(row.Kind)
	// Registers that the kind has not are 0 here, and leave the bits to others.
	registers := i.Rd<<rdAt | i.Rs1<<rs1At | i.Rs2<<rs2At
	return row.fixedPart(l) | registers | l.immIntoWord(i.Imm), api.OK
}

// Decode tells a word's instruction.
func Decode(word int) (api.Ins, api.Errno) {
	if word < 0 || word > wordBits {
		return api.Ins{}, api.ErrIns
	}
	row, ok := find(func(row Row) bool { return row.fits(word) })
	if !ok {
		return api.Ins{}, api.ErrIns
	}
	l := layoutOf(row.Kind)
	return api.Ins{
		Op:  row.Op,
		Rd:  registerOfWord(word, rdAt, l.rd),
		Rs1: registerOfWord(word, rs1At, l.rs1),
		Rs2: registerOfWord(word, rs2At, l.rs2),
		Imm: l.immOfWord(word),
	}, api.OK
}

func (r Row) fixedPart(l layout) int {
	return r.opcode | r.f<<fAt | r.g<<l.gAt
}

func (r Row) fits(word int) bool {
	// Most rows are of another opcode: no layout need be made for them.
	if r.opcode != word&opcodeBits {
		return false
	}
	l := layoutOf(r.Kind)
	return word&l.fixed == r.fixedPart(l)
}

func registerOfWord(word, at int, has bool) int {
	if !has {
		return 0
	}
	return bits(word, at, 5)
}
