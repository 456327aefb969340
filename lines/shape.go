package lines

import (
	"strconv"
	"strings"

	"pinion/api"
	"pinion/isa"
)

// readShape reads what stands behind a statement's name into p; what the shape has not stays as it is.
func readShape(p *Part, shape string, pieces []piece) bool {
	if len(pieces) != len(shape) {
		return false
	}
	for n, letter := range shape {
		if !readPiece(p, letter, pieces[n]) {
			return false
		}
	}
	return true
}

func readPiece(p *Part, letter rune, from piece) bool {
	ok := true
	switch letter {
	case 'd':
		p.Ins.Rd, ok = readRegister(from)
	case 's':
		p.Ins.Rs1, ok = readRegister(from)
	case 't':
		p.Ins.Rs2, ok = readRegister(from)
	case 'i':
		p.Ins.Imm, ok = readNumber(from)
	case 'p':
		if isName(from) {
			p.Target = from.text
		} else {
			p.Ins.Imm, ok = readNumber(from)
		}
	default:
		ok = from.text == string(letter)
	}
	return ok
}

func readRegister(p piece) (int, bool) {
	digits, ok := strings.CutPrefix(p.text, "x")
	if !ok {
		return 0, false
	}
	register, err := strconv.Atoi(digits)
	// Written again it must be the same: that rules out noughts ahead.
	if err != nil || register > isa.MostRegister || showRegister(register) != p.text {
		return 0, false
	}
	return register, true
}

func readNumber(p piece) (int, bool) {
	if p.kind != numberPiece {
		return 0, false
	}
	number, err := strconv.Atoi(p.text)
	return number, err == nil
}

func isName(p piece) bool {
	return p.kind == wordPiece && len(p.text) <= api.MaxName && !strings.Contains(p.text, ".")
}
