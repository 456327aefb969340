package isa

import "pinion/api"

// slot tells where a register of an instruction comes from: a letter of the half, or else it is always the register of this number.
type slot int

// form is one line of the document's list of short forms.
type form struct {
	half   string // from bit 15 down: digits, or d, s, t and i for bits of Rd, Rs1, Rs2 and Imm
	order  string // which bits of Imm those with i are, as hexadecimal digits
	signed bool   // the first of these is Imm's sign
	op     int
	rd     slot
	rs1    slot
	rs2    slot // x0 where the kind has no such register
	holds  func(api.Ins) bool
}

// forms is the document's list, in its order.
func forms() [32]form {
	const (
		x0, x1, x2 slot = 0, 1, 2
		d, s, t    slot = 'd', 's', 't'
	)
	return [...]form{
		{"000iiiiiiiiddd00", "54987623", false, Addi, d, x2, x0, hasImm},
		{"010iiisssiiddd00", "54326", false, Lw, d, s, x0, always},
		{"011iiisssiiddd00", "54376", false, Ld, d, s, x0, always},
		{"110iiisssiittt00", "54326", false, Sw, x0, s, t, always},
		{"111iiisssiittt00", "54376", false, Sd, x0, s, t, always},
		{"000idddddiiiii01", "543210", true, Addi, d, d, x0, hasRdAndImmOrNeither},
		{"001idddddiiiii01", "543210", true, Addiw, d, d, x0, hasRd},
		{"010idddddiiiii01", "543210", true, Addi, d, x0, x0, hasRd},
		{"011i00010iiiii01", "946875", true, Addi, x2, x2, x0, hasImm},
		{"011idddddiiiii01", "543210", true, Lui, d, x0, x0, hasImmAndRdBut2},
		{"100i00dddiiiii01", "543210", false, Srli, d, d, x0, hasImm},
		{"100i01dddiiiii01", "543210", false, Srai, d, d, x0, hasImm},
		{"100i10dddiiiii01", "543210", true, Andi, d, d, x0, always},
		{"100011ddd00ttt01", "", false, Sub, d, d, t, always},
		{"100011ddd01ttt01", "", false, Xor, d, d, t, always},
		{"100011ddd10ttt01", "", false, Or, d, d, t, always},
		{"100011ddd11ttt01", "", false, And, d, d, t, always},
		{"100111ddd00ttt01", "", false, Subw, d, d, t, always},
		{"100111ddd01ttt01", "", false, Addw, d, d, t, always},
		{"101iiiiiiiiiii01", "b498a673215", true, Jal, x0, x0, x0, always},
		{"110iiisssiiiii01", "84376215", true, Beq, x0, s, x0, always},
		{"111iiisssiiiii01", "84376215", true, Bne, x0, s, x0, always},
		{"000idddddiiiii10", "543210", false, Slli, d, d, x0, hasRdAndImm},
		{"010idddddiiiii10", "543276", false, Lw, d, x2, x0, hasRd},
		{"011idddddiiiii10", "543876", false, Ld, d, x2, x0, hasRd},
		{"1000sssss0000010", "", false, Jalr, x0, s, x0, hasRs1},
		{"1000dddddttttt10", "", false, Add, d, x0, t, hasRdAndRs2},
		{"1001000000000010", "", false, Ebreak, x0, x0, x0, always},
		{"1001sssss0000010", "", false, Jalr, x1, s, x0, hasRs1},
		{"1001dddddttttt10", "", false, Add, d, d, t, hasRdAndRs2},
		{"110iiiiiittttt10", "543276", false, Sw, x0, x2, t, always},
		{"111iiiiiittttt10", "543876", false, Sd, x0, x2, t, always},
	}
}

func always(api.Ins) bool { return true }

func hasRd(i api.Ins) bool { return i.Rd != 0 }

func hasRs1(i api.Ins) bool { return i.Rs1 != 0 }

func hasImm(i api.Ins) bool { return i.Imm != 0 }

func hasRdAndRs2(i api.Ins) bool { return i.Rd != 0 && i.Rs2 != 0 }

func hasRdAndImm(i api.Ins) bool { return i.Rd != 0 && i.Imm != 0 }

func hasRdAndImmOrNeither(i api.Ins) bool { return (i.Rd != 0) == (i.Imm != 0) }

func hasImmAndRdBut2(i api.Ins) bool { return hasRdAndImm(i) && i.Rd != 2 }
