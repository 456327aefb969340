package lines

import (
	"strings"

	"pinion/api"
	"pinion/isa"
)

// Part is what a statement puts into a program: bytes, or an instruction of which the layout tells whether it is short.
type Part struct {
	Data   string // empty for such an instruction
	Ins    api.Ins
	Target string // the name that stands in the place of Imm, or none
}

// Line is what stands in a line.
type Line struct {
	Name  string // ahead of a colon, or none
	Parts []Part
}

// ReadLine tells what stands in a line.
func ReadLine(text string) (Line, api.Errno) {
	pieces, ok := cut(text)
	if !ok {
		return Line{}, api.ErrSyntax
	}
	var line Line
	if len(pieces) > 1 && pieces[1].text == ":" {
		if !isName(pieces[0]) {
			return Line{}, api.ErrSyntax
		}
		line.Name, pieces = pieces[0].text, pieces[2:]
	}
	if len(pieces) == 0 {
		return line, api.OK
	}
	var e api.Errno
	line.Parts, e = readStatement(pieces[0].text, pieces[1:])
	if e != api.OK {
		return Line{}, e
	}
	return line, api.OK
}

// Read tells the instruction of a text that is one instruction.
func Read(text string) (api.Ins, api.Errno) {
	// A remark ends with its line: an LF in it is still one too many.
	if len(text) > api.MaxText || strings.Contains(text, "\n") {
		return api.Ins{}, api.ErrSyntax
	}
	pieces, ok := cut(text)
	if !ok || len(pieces) == 0 {
		return api.Ins{}, api.ErrSyntax
	}
	return readPlain(pieces[0].text, pieces[1:])
}

func readStatement(name string, rest []piece) ([]Part, api.Errno) {
	if plain, ok := strings.CutPrefix(name, "c."); ok {
		return readShort(plain, rest)
	}
	if size := sizeOfData(name); size != 0 {
		return readData(size, rest)
	}
	if name == "li" {
		return readLoad(rest)
	}
	p, e := readInstruction(name, rest)
	if e != api.OK {
		return nil, e
	}
	return []Part{p}, api.OK
}

// readInstruction reads a statement that is one instruction, by its own name or another.
func readInstruction(name string, rest []piece) (Part, api.Errno) {
	ins, shape, ok := named(name)
	p := Part{Ins: ins}
	if !ok || !readShape(&p, shape, rest) {
		return Part{}, api.ErrSyntax
	}
	// Registers are right by their spelling: only Imm can be wrong by now.
	if _, ok := isa.Right(p.Ins); !ok {
		return Part{}, api.ErrRange
	}
	return p, api.OK
}

// readPlain reads an instruction by its own name, and without a target.
func readPlain(name string, rest []piece) (api.Ins, api.Errno) {
	if _, ok := isa.Named(name); !ok {
		return api.Ins{}, api.ErrSyntax
	}
	p, e := readInstruction(name, rest)
	if p.Target != "" {
		e = api.ErrSyntax
	}
	if e != api.OK {
		return api.Ins{}, e
	}
	return p.Ins, api.OK
}

func readShort(name string, rest []piece) ([]Part, api.Errno) {
	ins, e := readPlain(name, rest)
	if e != api.OK {
		return nil, e
	}
	half, e := isa.Short(ins)
	if e != api.OK {
		return nil, api.ErrRange
	}
	return []Part{{Data: isa.Bytes(half, isa.HalfSize)}}, api.OK
}

func sizeOfData(name string) int {
	switch name {
	case ".byte":
		return 1
	case ".half":
		return 2
	case ".word":
		return 4
	default:
		return 0
	}
}

func readData(size int, rest []piece) ([]Part, api.Errno) {
	var p Part
	if !readShape(&p, "i", rest) {
		return nil, api.ErrSyntax
	}
	number := p.Ins.Imm
	if number < 0 || number >= 1<<(8*size) {
		return nil, api.ErrRange
	}
	return []Part{{Data: isa.Bytes(number, size)}}, api.OK
}
