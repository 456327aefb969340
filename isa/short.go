package isa

import (
	"strings"

	"pinion/api"
)

const (
	halfBits  = 1<<16 - 1
	topOfHalf = 15
)

// Three bits can't tell all registers: they count from this one.
const firstOfEight = 8

// Short tells an instruction's short form.
func Short(i api.Ins) (int, api.Errno) {
	if _, ok := Right(i); !ok {
		return 0, api.ErrIns
	}
	for _, f := range forms() {
		if f.op != i.Op {
			continue
		}
		// What has no room in the half is lost in it: only if all comes back does the form stand for the instruction.
		half := f.write(i)
		if back, ok := f.read(half); ok && back == i {
			return half, api.OK
		}
	}
	return 0, api.ErrNone
}

// Expand tells what a half stands for.
func Expand(half int) (api.Ins, api.Errno) {
	if half < 0 || half > halfBits {
		return api.Ins{}, api.ErrIns
	}
	for _, f := range forms() {
		if i, ok := f.read(half); ok {
			return i, api.OK
		}
	}
	return api.Ins{}, api.ErrIns
}

func (f form) read(half int) (api.Ins, bool) {
	if !f.fits(half) {
		return api.Ins{}, false
	}
	i := api.Ins{Op: f.op, Rd: f.register(f.rd, half), Rs1: f.register(f.rs1, half), Rs2: f.register(f.rs2, half), Imm: f.imm(half)}
	return i, f.holds(i)
}

func (f form) fits(half int) bool {
	for n, r := range f.half {
		if isBit(r) && bits(half, topOfHalf-n, 1) != int(r-'0') {
			return false
		}
	}
	return true
}

func isBit(r rune) bool { return r == '0' || r == '1' }

func (f form) register(from slot, half int) int {
	if from <= MostRegister {
		return int(from)
	}
	places := f.placesOf(rune(from))
	register := 0
	for _, at := range places {
		register = register<<1 | bits(half, at, 1)
	}
	if len(places) == 3 {
		register += firstOfEight
	}
	return register
}

func (f form) imm(half int) int {
	imm := 0
	for n, at := range f.placesOf('i') {
		bit := bits(half, at, 1) << f.immBit(n)
		if n == 0 && f.signed {
			bit = -bit
		}
		imm |= bit
	}
	return imm
}

func (f form) write(i api.Ins) int {
	half := 0
	for n, r := range f.half {
		if r == '1' {
			half |= 1 << (topOfHalf - n)
		}
	}
	half |= f.writeRegister('d', i.Rd) | f.writeRegister('s', i.Rs1) | f.writeRegister('t', i.Rs2)
	for n, at := range f.placesOf('i') {
		half |= bits(i.Imm, f.immBit(n), 1) << at
	}
	return half
}

func (f form) writeRegister(letter rune, register int) int {
	half := 0
	places := f.placesOf(letter)
	for n, at := range places {
		half |= bits(register, len(places)-1-n, 1) << at
	}
	return half
}

// placesOf tells at which bits of the half a letter stands, from the highest down.
func (f form) placesOf(letter rune) []int {
	var places []int
	for n, r := range f.half {
		if r == letter {
			places = append(places, topOfHalf-n)
		}
	}
	return places
}

// immBit tells which bit of Imm the nth letter i of the half is.
func (f form) immBit(n int) int {
	return strings.IndexByte("0123456789ab", f.order[n])
}
