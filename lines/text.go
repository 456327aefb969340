package lines

import (
	"strconv"
	"strings"

	"pinion/api"
	"pinion/isa"
)

// shapeOf tells what stands behind the name of an instruction: d, s and t are Rd, Rs1 and Rs2, i is Imm, all else is itself.
// Writing and reading both go by it, so that they can't differ.
func shapeOf(kind isa.Kind) string {
	switch kind {
	case isa.KindR:
		return "d,s,t"
	case isa.KindI, isa.KindH, isa.KindW:
		return "d,s,i"
	case isa.KindL:
		return "d,i(s)"
	case isa.KindS:
		return "t,i(s)"
	case isa.KindB:
		return "s,t,i"
	case isa.KindU, isa.KindJ:
		return "d,i"
	default:
		return ""
	}
}

// Show tells an instruction's text.
func Show(i api.Ins) (string, api.Errno) {
	row, ok := isa.Right(i)
	if !ok {
		return "", api.ErrIns
	}
	shape := shapeOf(row.Kind)
	if shape == "" {
		return row.Name, api.OK
	}
	text := row.Name + " "
	for _, r := range shape {
		text += showPart(i, r)
	}
	return text, api.OK
}

func showPart(i api.Ins, part rune) string {
	switch part {
	case 'd':
		return showRegister(i.Rd)
	case 's':
		return showRegister(i.Rs1)
	case 't':
		return showRegister(i.Rs2)
	case 'i':
		return strconv.Itoa(i.Imm)
	case ',':
		return ", "
	default:
		return string(part)
	}
}

func showRegister(register int) string { return "x" + strconv.Itoa(register) }

// Read tells the instruction of a text that is one instruction.
func Read(text string) (api.Ins, api.Errno) {
	// A remark ends with its line: an LF in it is still one too many.
	if len(text) > api.MaxText || strings.Contains(text, "\n") {
		return api.Ins{}, api.ErrSyntax
	}
	pieces, ok := cut(text)
	if !ok {
		return api.Ins{}, api.ErrSyntax
	}
	i, ok := readInstruction(pieces)
	if !ok {
		return api.Ins{}, api.ErrSyntax
	}
	// Registers are right by their spelling: only Imm can be wrong by now.
	if _, ok := isa.Right(i); !ok {
		return api.Ins{}, api.ErrRange
	}
	return i, api.OK
}

func readInstruction(pieces []piece) (api.Ins, bool) {
	if len(pieces) == 0 {
		return api.Ins{}, false
	}
	row, ok := isa.Named(pieces[0].text)
	if !ok {
		return api.Ins{}, false
	}
	i := api.Ins{Op: row.Op}
	if !readShape(&i, shapeOf(row.Kind), pieces[1:]) {
		return api.Ins{}, false
	}
	return i, true
}

func readShape(i *api.Ins, shape string, pieces []piece) bool {
	if len(pieces) != len(shape) {
		return false
	}
	for n, part := range shape {
		if !readPart(i, part, pieces[n]) {
			return false
		}
	}
	return true
}

func readPart(i *api.Ins, part rune, p piece) bool {
	ok := true
	switch part {
	case 'd':
		i.Rd, ok = readRegister(p)
	case 's':
		i.Rs1, ok = readRegister(p)
	case 't':
		i.Rs2, ok = readRegister(p)
	case 'i':
		i.Imm, ok = readNumber(p)
	default:
		ok = p.text == string(part)
	}
	return ok
}

func readRegister(p piece) (int, bool) {
	digits, ok := strings.CutPrefix(p.text, "x")
	if !ok {
		return 0, false
	}
	register, err := strconv.Atoi(digits)
	// Written again it must be the same: that rules out noughts ahead.
	if err != nil || register > isa.MostRegister || showRegister(register) != p.text {
		return 0, false
	}
	return register, true
}

func readNumber(p piece) (int, bool) {
	if p.kind != numberPiece {
		return 0, false
	}
	number, err := strconv.Atoi(p.text)
	return number, err == nil
}
