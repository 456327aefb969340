// Package asm makes bytes of assembly texts, and texts of bytes.
package asm

import (
	"strings"

	"pinion/api"
	"pinion/isa"
	"pinion/lines"
)

// part is a part of a program, with its line in the text and its size in the bytes.
type part struct {
	lines.Part
	line int
	size int
}

// program is a text that has been read.
type program struct {
	parts []part
	names map[string]int // how many parts stand ahead of a name
}

// Assemble makes bytes of a text.
func Assemble(text string, short bool) (string, api.Fault) {
	if len(text) > api.MaxText {
		return "", api.Fault{Code: api.ErrLong}
	}
	p, fault := readProgram(text)
	if fault.Code != api.OK {
		return "", fault
	}
	places := p.layOut(short)
	if places[len(p.parts)] > api.MaxCode {
		return "", api.Fault{Code: api.ErrSize}
	}
	return p.bytes(places)
}

func readProgram(text string) (program, api.Fault) {
	p := program{names: map[string]int{}}
	for n, line := range strings.Split(text, "\n") {
		if e := p.add(line, n+1); e != api.OK {
			return program{}, api.Fault{Code: e, Line: n + 1}
		}
	}
	for _, part := range p.parts {
		if _, ok := p.names[part.Target]; part.Target != "" && !ok {
			return program{}, api.Fault{Code: api.ErrLabel, Line: part.line}
		}
	}
	return p, api.Fault{}
}

func (p *program) add(text string, number int) api.Errno {
	line, e := lines.ReadLine(text)
	if e != api.OK {
		return e
	}
	if line.Name != "" {
		if _, ok := p.names[line.Name]; ok {
			return api.ErrTwice
		}
		p.names[line.Name] = len(p.parts)
	}
	for _, found := range line.Parts {
		p.parts = append(p.parts, part{Part: found, line: number})
	}
	return api.OK
}

// bytes tells the bytes of a program whose parts have their sizes.
func (p *program) bytes(places []int) (string, api.Fault) {
	var code strings.Builder
	for n, part := range p.parts {
		bytes, e := part.bytes(p.placed(n, places))
		if e != api.OK {
			// Imm was right when it was read, and no two places are too far apart: a target is an odd number of bytes away.
			return "", api.Fault{Code: api.ErrRange, Line: part.line}
		}
		code.WriteString(bytes)
	}
	return code.String(), api.Fault{}
}

func (p part) bytes(i api.Ins) (string, api.Errno) {
	if p.Data != "" {
		return p.Data, api.OK
	}
	encode := isa.Encode
	if p.size == isa.HalfSize {
		encode = isa.Short
	}
	number, e := encode(i)
	if e != api.OK {
		return "", e
	}
	return isa.Bytes(number, p.size), api.OK
}
