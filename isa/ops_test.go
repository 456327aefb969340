package isa

import (
	"testing"

	"pinion/api"
)

func TestOpsAreThoseOfApi(t *testing.T) {
	for n, c := range [][2]int{
		{Add, api.Add}, {Sub, api.Sub}, {Sll, api.Sll}, {Slt, api.Slt}, {Sltu, api.Sltu}, {Xor, api.Xor}, {Srl, api.Srl}, {Sra, api.Sra}, {Or, api.Or}, {And, api.And},
		{Mul, api.Mul}, {Mulh, api.Mulh}, {Mulhsu, api.Mulhsu}, {Mulhu, api.Mulhu}, {Div, api.Div}, {Divu, api.Divu}, {Rem, api.Rem}, {Remu, api.Remu},
		{Addw, api.Addw}, {Subw, api.Subw}, {Sllw, api.Sllw}, {Srlw, api.Srlw}, {Sraw, api.Sraw}, {Mulw, api.Mulw}, {Divw, api.Divw}, {Divuw, api.Divuw}, {Remw, api.Remw}, {Remuw, api.Remuw},
		{Addi, api.Addi}, {Slti, api.Slti}, {Sltiu, api.Sltiu}, {Xori, api.Xori}, {Ori, api.Ori}, {Andi, api.Andi}, {Slli, api.Slli}, {Srli, api.Srli}, {Srai, api.Srai},
		{Addiw, api.Addiw}, {Slliw, api.Slliw}, {Srliw, api.Srliw}, {Sraiw, api.Sraiw},
		{Lb, api.Lb}, {Lh, api.Lh}, {Lw, api.Lw}, {Ld, api.Ld}, {Lbu, api.Lbu}, {Lhu, api.Lhu}, {Lwu, api.Lwu}, {Jalr, api.Jalr},
		{Sb, api.Sb}, {Sh, api.Sh}, {Sw, api.Sw}, {Sd, api.Sd},
		{Beq, api.Beq}, {Bne, api.Bne}, {Blt, api.Blt}, {Bge, api.Bge}, {Bltu, api.Bltu}, {Bgeu, api.Bgeu},
		{Lui, api.Lui}, {Auipc, api.Auipc}, {Jal, api.Jal}, {Ecall, api.Ecall}, {Ebreak, api.Ebreak},
	} {
		if c[0] != n+1 || c[1] != n+1 {
			t.Errorf("op %d is %d here and %d in api", n+1, c[0], c[1])
		}
	}
}

func TestEveryOpHasOneRow(t *testing.T) {
	names := map[string]int{}
	for op := Add; op <= Ebreak; op++ {
		row, ok := numbered(op)
		if !ok || row.Op != op {
			t.Errorf("numbered(%d) = %+v, %v", op, row, ok)
		}
		names[row.Name] = op
		if named, ok := Named(row.Name); !ok || named != row {
			t.Errorf("Named(%q) = %+v, %v, want %+v", row.Name, named, ok, row)
		}
	}
	if len(names) != Ebreak {
		t.Errorf("%d names, want %d", len(names), Ebreak)
	}
}

func TestNoRow(t *testing.T) {
	for _, op := range []int{-1, 0, 65} {
		if row, ok := numbered(op); ok || row != (Row{}) {
			t.Errorf("numbered(%d) = %+v, %v", op, row, ok)
		}
	}
	for _, name := range []string{"", "nop", "Add", "add "} {
		if row, ok := Named(name); ok || row != (Row{}) {
			t.Errorf("Named(%q) = %+v, %v", name, row, ok)
		}
	}
}

// TestFixedBitsAndImm: in every kind each bit of a word belongs to just one field.
func TestFixedBitsAndImm(t *testing.T) {
	for kind := KindR; kind <= KindN; kind++ {
		l := layoutOf(kind)
		fields := []int{l.fixed}
		for _, p := range l.pieces {
			fields = append(fields, (1<<p.width-1)<<p.at)
		}
		for _, r := range []struct {
			has bool
			at  int
		}{{l.rd, rdAt}, {l.rs1, rs1At}, {l.rs2, rs2At}} {
			if r.has {
				fields = append(fields, MostRegister<<r.at)
			}
		}
		all := 0
		for _, field := range fields {
			if all&field != 0 {
				t.Errorf("kind %d: two fields share the bits %#x", kind, all&field)
			}
			all |= field
		}
		if all != wordBits {
			t.Errorf("kind %d: the fields fill %#x", kind, all)
		}
	}
}
