package machine

import (
	"math/bits"

	"pinion/isa"
)

// Shifts are by the low bits of the second number, as many as can tell a bit of the first.
const (
	shiftBits    = 63
	lowShiftBits = 31
)

// compute tells what an op makes of two numbers, the second of them from a register or the Imm.
func compute(op, a, b int) int {
	switch op {
	case isa.Add, isa.Addi:
		return a + b
	case isa.Sub:
		return a - b
	case isa.Sll, isa.Slli:
		return a << (b & shiftBits)
	case isa.Slt, isa.Slti:
		return truth(a < b)
	case isa.Sltu, isa.Sltiu:
		return truth(uint(a) < uint(b))
	case isa.Xor, isa.Xori:
		return a ^ b
	case isa.Srl, isa.Srli:
		return int(uint(a) >> (b & shiftBits))
	case isa.Sra, isa.Srai:
		return a >> (b & shiftBits)
	case isa.Or, isa.Ori:
		return a | b
	case isa.And, isa.Andi:
		return a & b
	default:
		return computeProduct(op, a, b)
	}
}

func computeProduct(op, a, b int) int {
	switch op {
	case isa.Mul:
		return a * b
	case isa.Mulh:
		return highOfProduct(a, b) - above(a, b) - above(b, a)
	case isa.Mulhsu:
		return highOfProduct(a, b) - above(a, b)
	case isa.Mulhu:
		return highOfProduct(a, b)
	case isa.Div:
		return quotient(a, b)
	case isa.Divu:
		return quotientUnsigned(a, b)
	case isa.Rem:
		return remainder(a, b)
	case isa.Remu:
		return remainderUnsigned(a, b)
	default:
		return computeLow(op, a, b)
	}
}

func computeLow(op, a, b int) int {
	switch op {
	case isa.Addw, isa.Addiw:
		return low(a + b)
	case isa.Subw:
		return low(a - b)
	case isa.Sllw, isa.Slliw:
		return low(a << (b & lowShiftBits))
	case isa.Srlw, isa.Srliw:
		return low(lowUnsigned(a) >> (b & lowShiftBits))
	case isa.Sraw, isa.Sraiw:
		return low(a) >> (b & lowShiftBits)
	case isa.Mulw:
		return low(a * b)
	case isa.Divw:
		return low(quotient(low(a), low(b)))
	case isa.Divuw:
		return low(quotientUnsigned(lowUnsigned(a), lowUnsigned(b)))
	case isa.Remw:
		return remainder(low(a), low(b))
	default: // remuw, the only one left
		return low(remainderUnsigned(lowUnsigned(a), lowUnsigned(b)))
	}
}

func truth(holds bool) int {
	if holds {
		return 1
	}
	return 0
}

func low(number int) int { return int(int32(number)) }

func lowUnsigned(number int) int { return int(uint32(number)) }

// highOfProduct takes both numbers as without a sign.
func highOfProduct(a, b int) int {
	high, _ := bits.Mul64(uint64(a), uint64(b))
	return int(high)
}

// above tells how much too great the high bits of a product with b are, if a has a sign but was taken without:
// a number below 0 is then greater by 2 to the 64th.
func above(a, b int) int {
	if a < 0 {
		return b
	}
	return 0
}

// The least number divided by -1 is itself in Go too, and 0 is left.
func quotient(a, b int) int {
	if b == 0 {
		return -1
	}
	return a / b
}

func remainder(a, b int) int {
	if b == 0 {
		return a
	}
	return a % b
}

func quotientUnsigned(a, b int) int {
	if b == 0 {
		return -1
	}
	return int(uint(a) / uint(b))
}

func remainderUnsigned(a, b int) int {
	if b == 0 {
		return a
	}
	return int(uint(a) % uint(b))
}

func branches(op, a, b int) bool {
	switch op {
	case isa.Beq:
		return a == b
	case isa.Bne:
		return a != b
	case isa.Blt:
		return a < b
	case isa.Bge:
		return a >= b
	case isa.Bltu:
		return uint(a) < uint(b)
	default: // bgeu, the only one left
		return uint(a) >= uint(b)
	}
}
