package lines

import (
	"math"

	"pinion/api"
	"pinion/isa"
)

// named tells what the name of a statement stands for, and what stands behind it; the instruction has what the name alone tells.
func named(name string) (api.Ins, string, bool) {
	if row, ok := isa.Named(name); ok {
		return api.Ins{Op: row.Op}, shapeOf(row.Kind), true
	}
	switch name {
	case "nop":
		return api.Ins{Op: isa.Addi}, "", true
	case "mv":
		return api.Ins{Op: isa.Addi}, "d,s", true
	case "not":
		return api.Ins{Op: isa.Xori, Imm: -1}, "d,s", true
	case "neg":
		return api.Ins{Op: isa.Sub}, "d,t", true
	case "seqz":
		return api.Ins{Op: isa.Sltiu, Imm: 1}, "d,s", true
	case "snez":
		return api.Ins{Op: isa.Sltu}, "d,t", true
	case "beqz":
		return api.Ins{Op: isa.Beq}, "s,p", true
	case "bnez":
		return api.Ins{Op: isa.Bne}, "s,p", true
	case "j":
		return api.Ins{Op: isa.Jal}, "p", true
	case "ret":
		return api.Ins{Op: isa.Jalr, Rs1: 1}, "", true
	default:
		return api.Ins{}, "", false
	}
}

// readLoad reads what stands behind li.
func readLoad(rest []piece) ([]Part, api.Errno) {
	var p Part
	if !readShape(&p, "d,i", rest) {
		return nil, api.ErrSyntax
	}
	if p.Ins.Imm < math.MinInt32 || p.Ins.Imm > math.MaxInt32 {
		return nil, api.ErrRange
	}
	return load(p.Ins.Rd, p.Ins.Imm), api.OK
}

func load(register, number int) []Part {
	low := (number+2048)&4095 - 2048
	if low == number {
		return []Part{{Ins: api.Ins{Op: isa.Addi, Rd: register, Imm: number}}}
	}
	high := (number - low) / 4096
	// lui takes no more; in 32 bits both numbers are the same.
	if high == 524288 {
		high = -524288
	}
	parts := []Part{{Ins: api.Ins{Op: isa.Lui, Rd: register, Imm: high}}}
	if low != 0 {
		parts = append(parts, Part{Ins: api.Ins{Op: isa.Addiw, Rd: register, Rs1: register, Imm: low}})
	}
	return parts
}
