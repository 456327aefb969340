package pinion

import (
	"testing"

	"pinion/api"
)

// wantJump: one step, done from place 0, goes to pc; rd has the place behind, if there is an rd.
func wantJump(t *testing.T, m *Machine, text string, pc, rd, behind int) {
	t.Helper()
	want := stateOf(t, m)
	want.pc = pc
	if rd != 0 {
		want.registers[rd] = behind
	}
	wantDone(t, m, text, want)
}

func TestP7Jal(t *testing.T) {
	for _, c := range []struct {
		text string
		pc   int
		rd   int
	}{
		{"jal x1, 8", 8, 1}, {"jal x31, 4", 4, 31}, {"jal x5, 0", 0, 5}, {"jal x5, 2", 2, 5}, {"jal x0, 100", 100, 0}, {"jal x1, -2", -2, 1},
		{"jal x1, -1048576", -1048576, 1}, {"jal x1, 1048574", 1048574, 1}, {"jal x0, 4094", 4094, 0}, {"jal x0, 4096", 4096, 0},
	} {
		wantJump(t, machineFor(t, c.text, false), c.text, c.pc, c.rd, 4)
	}
	// From another place than 0, and backwards.
	m := machineFor(t, "nop\nnop\njal x1, -6", true)
	wantRun(t, m, 3, api.Going, 0, 3)
	wantRegister(t, m, 1, 8)
	wantPc(t, m, -2)
}

func TestP7Jalr(t *testing.T) {
	for _, c := range []struct {
		text        string
		base, pc    int
		rd, behind  int
		wantedShort bool
	}{
		{"jalr x1, 0(x5)", 100, 100, 1, 4, false},
		{"jalr x1, 0(x5)", 100, 100, 1, 2, true},
		{"jalr x0, 0(x5)", 100, 100, 0, 2, true},
		{"jalr x0, 6(x5)", 100, 106, 0, 0, false},
		{"jalr x31, -6(x5)", 100, 94, 31, 4, false},
		// Rd and Rs1 the same: Rs1 as it was ahead.
		{"jalr x5, 0(x5)", 100, 100, 5, 4, false},
		{"jalr x5, 8(x5)", 100, 108, 5, 4, false},
		// The lowest bit goes from the sum, not from its parts.
		{"jalr x1, 0(x5)", 101, 100, 1, 4, false},
		{"jalr x1, 1(x5)", 100, 100, 1, 4, false},
		{"jalr x1, 1(x5)", 101, 102, 1, 4, false},
		{"jalr x1, -1(x5)", 100, 98, 1, 4, false},
		{"jalr x1, -1(x5)", 101, 100, 1, 4, false},
		{"jalr x1, -1(x5)", 0, -2, 1, 4, false},
		{"jalr x1, 0(x5)", -1, -2, 1, 4, false},
		// Wrapping round, and as far as can be.
		{"jalr x1, 0(x5)", top, top - 1, 1, 4, false},
		{"jalr x1, 1(x5)", top, low, 1, 4, false},
		{"jalr x1, -1(x5)", low, top - 1, 1, 4, false},
		{"jalr x1, -2048(x5)", low + 2047, top - 1, 1, 4, false},
		{"jalr x1, 2047(x5)", -2047, 0, 1, 4, false},
	} {
		m := machineFor(t, c.text, c.wantedShort)
		set(t, m, 5, c.base)
		wantJump(t, m, c.text, c.pc, c.rd, c.behind)
	}
	wantJump(t, machineFor(t, "jalr x1, 24(x0)", false), "jalr from x0", 24, 1, 4)
	// The short form that puts the place behind into x1, the register that it comes from.
	m := machineFor(t, "c.jalr x1, 0(x1)", false)
	set(t, m, 1, 51)
	wantJump(t, m, "c.jalr x1, 0(x1)", 50, 1, 2)
}

func TestP7Branches(t *testing.T) {
	const yes, no = true, false
	for _, c := range []struct {
		a, b                           int
		beq, bne, blt, bge, bltu, bgeu bool
	}{
		{5, 5, yes, no, no, yes, no, yes},
		{5, 6, no, yes, yes, no, yes, no},
		{6, 5, no, yes, no, yes, no, yes},
		{-1, 0, no, yes, yes, no, no, yes},
		{0, -1, no, yes, no, yes, yes, no},
		{-1, -1, yes, no, no, yes, no, yes},
		{low, top, no, yes, yes, no, no, yes},
		{top, low, no, yes, no, yes, yes, no},
		{low, low, yes, no, no, yes, no, yes},
		{1 << 32, 0, no, yes, no, yes, no, yes},
		{0, 1 << 32, no, yes, yes, no, yes, no},
	} {
		for op, goes := range map[string]bool{"beq": c.beq, "bne": c.bne, "blt": c.blt, "bge": c.bge, "bltu": c.bltu, "bgeu": c.bgeu} {
			for imm, pc := range map[string]int{"8": 8, "2": 2, "0": 0, "-2": -2, "-4096": -4096, "4094": 4094} {
				text := op + " x5, x6, " + imm
				m := machineFor(t, text, false)
				set(t, m, 5, c.a)
				set(t, m, 6, c.b)
				if !goes {
					pc = 4
				}
				wantJump(t, m, text, pc, 0, 0)
			}
		}
	}
}

// TestP7ShortJumps: a short branch goes by Imm from its own place, or two bytes on.
func TestP7ShortJumps(t *testing.T) {
	for text, pc := range map[string]int{
		"c.beq x8, x0, 20": 2, "c.bne x8, x0, 20": 20, "c.beq x9, x0, -20": -20, "c.bne x9, x0, 20": 2, "c.jal x0, -2048": -2048, "c.jal x0, 2046": 2046,
	} {
		m := machineFor(t, text, false)
		set(t, m, 9, 0)
		wantJump(t, m, text, pc, 0, 0)
	}
}
