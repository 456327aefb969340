package asm

import (
	"iter"
	"strconv"
	"strings"

	"pinion/api"
	"pinion/isa"
	"pinion/lines"
)

// chunk is some bytes that belong together: those of an instruction, or else two, or the last one.
type chunk struct {
	size   int
	number int
	ins    api.Ins // nothing, if the bytes stand for none
}

// Items goes through the instructions of some bytes, up to what stands for none.
func Items(code string) iter.Seq2[int, api.Ins] {
	return func(yield func(int, api.Ins) bool) {
		for at, c := range chunks(code) {
			if c.ins == (api.Ins{}) || !yield(at, c.ins) {
				return
			}
		}
	}
}

// Disassemble makes a text of bytes.
func Disassemble(code string) (string, api.Errno) {
	if len(code) > api.MaxCode {
		return "", api.ErrSize
	}
	var text strings.Builder
	for _, c := range chunks(code) {
		text.WriteString(c.show() + "\n")
	}
	return text.String(), api.OK
}

func chunks(code string) iter.Seq2[int, chunk] {
	return func(yield func(int, chunk) bool) {
		for at := 0; at < len(code); {
			c := firstChunk(code[at:])
			if !yield(at, c) {
				return
			}
			at += c.size
		}
	}
}

func firstChunk(code string) chunk {
	if len(code) < isa.HalfSize {
		return chunk{size: len(code), number: isa.Number(code)}
	}
	half := isa.Number(code[:isa.HalfSize])
	if i, e := isa.Expand(half); e == api.OK {
		return chunk{isa.HalfSize, half, i}
	}
	if len(code) >= isa.WordSize {
		word := isa.Number(code[:isa.WordSize])
		if i, e := isa.Decode(word); e == api.OK {
			return chunk{isa.WordSize, word, i}
		}
	}
	return chunk{size: isa.HalfSize, number: half}
}

func (c chunk) show() string {
	// What stands for no instruction has no text and no short form.
	text, _ := lines.Show(c.ins)
	short, e := isa.Short(c.ins)
	switch {
	case c.size == isa.WordSize:
		return text
	case e == api.OK && c.number == short:
		return "c." + text
	case c.size == isa.HalfSize:
		return ".half " + strconv.Itoa(c.number)
	default:
		return ".byte " + strconv.Itoa(c.number)
	}
}
