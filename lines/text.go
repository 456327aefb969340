package lines

import (
	"strconv"

	"pinion/api"
	"pinion/isa"
)

// shapeOf tells what stands behind the name of an instruction: d, s and t are Rd, Rs1 and Rs2, i is Imm, p is Imm or a target, all else is itself.
// Writing and reading both go by it, so that they can't differ.
func shapeOf(kind isa.Kind) string {
	switch kind {
	case isa.KindR:
		return "d,s,t"
	case isa.KindI, isa.KindH, isa.KindW:
		return "d,s,i"
	case isa.KindL:
		return "d,i(s)"
	case isa.KindS:
		return "t,i(s)"
	case isa.KindB:
		return "s,t,p"
	case isa.KindU:
		return "d,i"
	case isa.KindJ:
		return "d,p"
	default:
		return ""
	}
}

// Show tells an instruction's text.
func Show(i api.Ins) (string, api.Errno) {
	row, ok := isa.Right(i)
	if !ok {
		return "", api.ErrIns
	}
	shape := shapeOf(row.Kind)
	if shape == "" {
		return row.Name, api.OK
	}
	text := row.Name + " "
	for _, r := range shape {
		text += showPart(i, r)
	}
	return text, api.OK
}

func showPart(i api.Ins, part rune) string {
	switch part {
	case 'd':
		return showRegister(i.Rd)
	case 's':
		return showRegister(i.Rs1)
	case 't':
		return showRegister(i.Rs2)
	case 'i', 'p':
		return strconv.Itoa(i.Imm)
	case ',':
		return ", "
	default:
		return string(part)
	}
}

func showRegister(register int) string { return "x" + strconv.Itoa(register) }
