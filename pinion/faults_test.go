package pinion

import (
	"strings"
	"testing"

	"pinion/api"
)

// wantFault: a fault that a text has, short or not.
func wantFault(t *testing.T, text string, code api.Errno, line int) {
	t.Helper()
	for _, short := range []bool{false, true} {
		if bytes, f := Assemble(text, short); bytes != "" || f != (api.Fault{Code: code, Line: line}) {
			t.Errorf("P5: Assemble(%q, %v) = %x, %+v, want %d in line %d", text, short, bytes, f, code, line)
		}
	}
}

func TestP5NoLine(t *testing.T) {
	for _, line := range []string{
		"?", "5", "-", "-5", "x1", "a", ",", "()", ":", "::", ": nop", "a b: nop", "a: b: nop", "a:: nop", "5: nop", "A: nop", "-a: nop", "a_b: nop", "a.b: nop", ".a: nop", "(a): nop", "a, : nop", "1a: nop", "ä: nop", "nop:nop:", "a: 5", "a: b", "a: ,",
		"nop nop", "nop,", "nop x1", "nop 5", "nop a", "nop()", "nops", "no p", "Nop", "NOP", "nop;", "nop\r", "nop\x00", "nop\xff", "nop\u00a0", "nop\v",
		"mv", "mv x1", "mv x1,", "mv x1 x2", "mv x1, x2, x3", "mv x1, 5", "mv x1, a", "mv x32, x1", "mv x1, x01", "not x1", "not x1, x2, -1", "neg x1", "neg x1, x0, x2", "seqz x1", "snez x1, 5",
		"ret x1", "ret 0", "j", "j x1, a", "j 1 2", "j (a)", "j a b", "j a,", "j A", "j a.b", "j .a", "j c.a", "j -a", "j 5a", "j +4", "j - 4",
		"beqz x1", "beqz a, 4", "beqz x1, x2, 4", "beqz 4", "bnez x1 4", "bnez x1, -", "beq x1, x2", "beq x1, a", "beq a, x1, x2", "jal a", "jal 4", "jal a, x1", "jal x1, a(x2)",
		"addi x1, x2, a", "addi x1, a, 5", "lui x1, a", "auipc x1, a", "lw x1, a(x2)", "lw x1, a", "jalr x1, a(x2)", "jalr x1, a", "slli x1, x2, a", "add x1, x2, a", "sw x1, a(x2)",
		"li", "li x1", "li x1, a", "li x1, x2", "li 5", "li x1 5", "li x1, 5, 6", "li x1, 5(x2)",
		".byte", ".byte a", ".byte x1", ".byte 1, 2", ".byte 1 2", ".byte (1)", ". byte 1", ".byte1", "..byte 1", ".bytes 1", ".zero 1", ".", ". 1", ".BYTE 1", "byte 1", "half 1", "word 1", ".dword 1", ".half", ".word", ".li x1, 5", ".nop", "a.byte 1",
		"c.", "c. ebreak", "c .ebreak", "c . ebreak", "c ebreak", "C.ebreak", "c.c.ebreak", "c..ebreak", ".c.ebreak", "c.nop", "c.mv x1, x2", "c.li x1, 5", "c.ret", "c.j 4", "c.beqz x8, 4", "c.byte 1", "c..byte 1", "c.ebreak 5", "c.addi x1, 1", "c.add x1, x2", "d.ebreak", "cc.ebreak",
		"c.beq x8, x0, a", "c.jal x0, a", "c.addi x1, x1, a", "c.bne x8, x0, x9",
		"fence", "call a", "la x1, a", "beq x1, x2, \"a\"",
	} {
		wantFault(t, line+"\na:", api.ErrSyntax, 1)
		wantFault(t, "nop\n\n# it\n "+line+" # it\nb:", api.ErrSyntax, 4)
	}
}

func TestP5NamesThatAreNone(t *testing.T) {
	for _, name := range []string{"ninechars", "a12345678", "abcdefghijklmnopqrstuvwxyz", strings.Repeat("a", 500)} {
		wantFault(t, name+": nop", api.ErrSyntax, 1)
		wantFault(t, "nop\nj "+name, api.ErrSyntax, 2)
		wantFault(t, "beq x1, x2, "+name+"\n"+name[:8]+":", api.ErrSyntax, 1)
	}
}

func TestP5NumbersOfTooManyDigits(t *testing.T) {
	for text, want := range map[string]api.Errno{
		"j 0000000004": api.OK, "j 00000000004": api.ErrSyntax, "j -0000000004": api.OK, "j -00000000004": api.ErrSyntax,
		".word 0000000001": api.OK, ".word 00000000001": api.ErrSyntax, ".word 9999999999": api.ErrRange, ".word 99999999999": api.ErrSyntax,
		"li x1, 0000000005": api.OK, "li x1, 00000000005": api.ErrSyntax, "li x1, -9999999999": api.ErrRange, "li x1, -99999999999": api.ErrSyntax,
		"c.addi x1, x1, 0000000005": api.OK, "c.addi x1, x1, 00000000005": api.ErrSyntax,
	} {
		if want == api.OK {
			if _, f := Assemble(text, false); f != (api.Fault{}) {
				t.Errorf("P5: Assemble(%q) = %+v", text, f)
			}
			continue
		}
		wantFault(t, text, want, 1)
	}
}

func TestP5Ranges(t *testing.T) {
	for _, line := range []string{
		"addi x1, x2, 2048", "addi x1, x2, -2049", "slli x1, x2, 64", "slli x1, x2, -1", "slliw x1, x2, 32", "lw x1, 2048(x2)", "sw x1, -2049(x2)", "lui x1, 524288", "lui x1, -524289", "jalr x0, 2048(x1)",
		"beq x1, x2, 1", "beq x1, x2, 4096", "beq x1, x2, -4098", "jal x1, 1048576", "jal x1, -1048578", "jal x1, 3",
		"beqz x1, 3", "beqz x1, 4096", "bnez x1, -4098", "bnez x1, -1", "j 1", "j 1048576", "j -1048578",
		"li x1, 2147483648", "li x1, -2147483649", "li x1, 4294967295",
		".byte 256", ".byte -1", ".half 65536", ".half -1", ".word 4294967296", ".word -1",
		"c.addi x1, x1, 32", "c.addi x1, x1, 0", "c.addi x1, x1, 9999", "c.ecall", "c.add x1, x2, x3", "c.mul x8, x8, x9", "c.beq x8, x0, 256", "c.beq x8, x0, 3", "c.jal x0, 2048", "c.jal x1, 4", "c.lui x2, 1", "c.lw x0, 4(x2)", "c.slli x1, x1, 64", "c.blt x8, x0, 4",
	} {
		wantFault(t, line, api.ErrRange, 1)
		wantFault(t, "nop\na: "+line+"\nj a", api.ErrRange, 2)
	}
	// Behind it they are no longer of a form, or of none.
	wantFault(t, "c.beq x8, x0, 254\nc.beq x8, x0, -256\nc.beq x8, x0, 256", api.ErrRange, 3)
}

func TestP5Twice(t *testing.T) {
	wantFault(t, "a:\na:", api.ErrTwice, 2)
	wantFault(t, "a: nop\nb: nop\n\na: nop\nb:", api.ErrTwice, 4)
	wantFault(t, "abcdefgh:\nabcdefg:\nabcdefgh:", api.ErrTwice, 3)
	wantFault(t, "x1:\nnop:\nx1 : nop", api.ErrTwice, 3)
}

func TestP5Labels(t *testing.T) {
	for _, line := range []string{"j b", "jal x1, b", "beq x1, x2, b", "beqz x1, b", "bnez x1, b", "j x1", "j nop", "beq x1, x2, x3", "a: j b", "j ab", "j aa"} {
		wantFault(t, "q: nop\n"+line+"\nj z", api.ErrLabel, 2)
	}
	wantFault(t, "a: j a\nj b\nj d\nb:", api.ErrLabel, 3)
}

// TestP5OddTargets: an odd number of bytes away, on or back, short or not.
func TestP5OddTargets(t *testing.T) {
	for text, line := range map[string]int{
		"a: .byte 1\nj a":                               2,
		"j a\n.byte 1\na:":                              1,
		"a: .byte 1\nnop\nbeqz x8, a":                   3,
		"beq x1, x2, a\n.byte 1\na: nop":                1,
		"jal x1, a\nnop\n.byte 1\nnop\na: nop":          1,
		"a: .byte 1\n.byte 2\n.byte 3\nbnez x1, a":      4,
		"a: .byte 1\nb: .byte 2\nj a\nj b\nj a":         4,
		"a:\nj a\n.byte 1\nj a\nj b\n.byte 1\nj b\nb: ": 4,
	} {
		wantFault(t, text, api.ErrRange, line)
	}
	wantBytes(t, "a: .byte 1\n.byte 2\nj a", false, "\x01\x02\x6f\xf0\xff\xff")
	wantBytes(t, ".byte 1\na: j a", true, "\x01\x01\xa0")
	wantBytes(t, ".byte 1\nj a\na: .byte 1", true, "\x01\x09\xa0\x01")
}

// TestP5OrderOfFaults: texts with several faults at once.
func TestP5OrderOfFaults(t *testing.T) {
	many := strings.Repeat("li x0,5000\n", 129) // too many bytes, in 129 lines
	for _, c := range []struct {
		text string
		code api.Errno
		line int
	}{
		{strings.Repeat("?", 2001), api.ErrLong, 0},
		{"a:\na: li x1, 9999999999\nj b\n" + strings.Repeat(".word 1\n", 260), api.ErrLong, 0},
		// of one line
		{"a:\na: ?", api.ErrSyntax, 2},
		{"a:\na: addi x1, x2, 9999 ?", api.ErrSyntax, 2},
		{"a:\na: addi x1, x32, 9999", api.ErrSyntax, 2},
		{"addi x1, x2, 9999,", api.ErrSyntax, 1},
		{".byte 256 257", api.ErrSyntax, 1},
		{"c.jal x1, a", api.ErrSyntax, 1},
		{"c.nop 99999", api.ErrSyntax, 1},
		{"a:\na: addi x1, x2, 9999", api.ErrRange, 2},
		{"a:\na: .byte 256", api.ErrRange, 2},
		{"a:\na: c.ecall", api.ErrRange, 2},
		{"a:\na: j b", api.ErrTwice, 2},
		// of several lines
		{"a:\na:\n?", api.ErrTwice, 2},
		{"?\na:\na:", api.ErrSyntax, 1},
		{".byte 256\n?", api.ErrRange, 1},
		{"?\n.byte 256", api.ErrSyntax, 1},
		{"a:\na:\n.byte 256", api.ErrTwice, 2},
		{"j b\n?", api.ErrSyntax, 2},
		{"j b\n.byte 256", api.ErrRange, 2},
		{"j b\na:\na:", api.ErrTwice, 3},
		{"j b\n\nj d", api.ErrLabel, 1},
		// of the whole
		{many + "?", api.ErrSyntax, 130},
		{many + ".byte 256", api.ErrRange, 130},
		{"a:\n" + many + "a:", api.ErrTwice, 131},
		{many + "j b", api.ErrLabel, 130},
		{"a: .byte 1\nj a\n" + many, api.ErrSize, 0},
		{"a: .byte 1\nj a\nj b", api.ErrLabel, 3},
		{"a: .byte 1\nj a\nb: .byte 1\nb:", api.ErrTwice, 4},
		{"a: .byte 1\nj a\n?", api.ErrSyntax, 3},
	} {
		wantFault(t, c.text, c.code, c.line)
	}
}

// TestP1EveryByteInPrograms: whatever byte stands anywhere, the call ends, and a text has a fault or bytes.
func TestP1EveryByteInPrograms(t *testing.T) {
	const text = "a: c.addi x8,x8,-1#\nbeqz x8, a\n.half 5\nli x1,99999\nj a"
	for at := 0; at <= len(text); at++ {
		for b := range 256 {
			for _, end := range []int{at, min(at+1, len(text))} {
				changed := text[:at] + string([]byte{byte(b)}) + text[end:]
				for _, short := range []bool{false, true} {
					code, f := Assemble(changed, short)
					if f.Code == api.OK && (f.Line != 0 || code == "") || f.Code != api.OK && (f.Line < 1 || f.Line > 7 || code != "") {
						t.Errorf("P1: Assemble(%q, %v) = %x, %+v", changed, short, code, f)
					}
				}
			}
		}
	}
}
