package isa

// Where the fields of a word begin that lie at one place in every kind that has them.
const (
	rdAt  = 7
	fAt   = 12
	rs1At = 15
	rs2At = 20
)

// Bits of a word that are the same for all instructions of an op.
const (
	opcodeBits = 0x7f
	fBits      = 7 << fAt
	wordBits   = 1<<32 - 1
)

// MostRegister is the highest number of a register.
const MostRegister = 31

// piece is a run of bits of Imm, and where it lies in the word.
type piece struct {
	low, width, at int
}

// layout is one kind's line of the document's table.
type layout struct {
	rd, rs1, rs2 bool
	least, most  int // of Imm
	even         bool
	pieces       []piece
	gAt          int
	fixed        int
}

func layoutOf(kind Kind) layout {
	switch kind {
	case KindR:
		return layout{rd: true, rs1: true, rs2: true, gAt: 25, fixed: opcodeBits | fBits | 0x7f<<25}
	case KindI, KindL:
		return layout{rd: true, rs1: true, least: -2048, most: 2047,
			pieces: []piece{{0, 12, 20}}, fixed: opcodeBits | fBits}
	case KindH:
		return layout{rd: true, rs1: true, most: 63,
			pieces: []piece{{0, 6, 20}}, gAt: 26, fixed: opcodeBits | fBits | 0x3f<<26}
	case KindW:
		return layout{rd: true, rs1: true, most: 31,
			pieces: []piece{{0, 5, 20}}, gAt: 25, fixed: opcodeBits | fBits | 0x7f<<25}
	case KindS:
		return layout{rs1: true, rs2: true, least: -2048, most: 2047,
			pieces: []piece{{5, 7, 25}, {0, 5, 7}}, fixed: opcodeBits | fBits}
	case KindB:
		return layout{rs1: true, rs2: true, least: -4096, most: 4094, even: true,
			pieces: []piece{{12, 1, 31}, {5, 6, 25}, {1, 4, 8}, {11, 1, 7}}, fixed: opcodeBits | fBits}
	case KindU:
		return layout{rd: true, least: -524288, most: 524287,
			pieces: []piece{{0, 20, 12}}, fixed: opcodeBits}
	case KindJ:
		return layout{rd: true, least: -1048576, most: 1048574, even: true,
			pieces: []piece{{20, 1, 31}, {1, 10, 21}, {11, 1, 20}, {12, 8, 12}}, fixed: opcodeBits}
	default:
		return layout{gAt: 20, fixed: wordBits}
	}
}

func (l layout) takesImm(imm int) bool {
	if l.even && imm%2 != 0 {
		return false
	}
	return l.least <= imm && imm <= l.most
}

func (l layout) immIntoWord(imm int) int {
	word := 0
	for _, p := range l.pieces {
		word |= bits(imm, p.low, p.width) << p.at
	}
	return word
}

func (l layout) immOfWord(word int) int {
	imm := 0
	for _, p := range l.pieces {
		imm |= bits(word, p.at, p.width) << p.low
	}
	// What is beyond the greatest Imm can only come of the sign, which counts for least, not for -least.
	if imm > l.most {
		imm += 2 * l.least
	}
	return imm
}

func bits(number, low, width int) int {
	return number >> low & (1<<width - 1)
}
