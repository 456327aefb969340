package pinion

import (
	"strings"
	"testing"

	"pinion/api"
)

func wantRead(t *testing.T, text string, want api.Ins) {
	t.Helper()
	if i, e := Read(text); i != want || e != api.OK {
		t.Errorf("P3: Read(%q) = %+v, %d, want %+v", text, i, e, want)
	}
}

func wantNotRead(t *testing.T, text string, want api.Errno) {
	t.Helper()
	if i, e := Read(text); i != (api.Ins{}) || e != want {
		t.Errorf("P3: Read(%q) = %+v, %d, want %d", text, i, e, want)
	}
}

func TestP3KnownTexts(t *testing.T) {
	for _, c := range known {
		if s, e := Show(c.i); s != c.text || e != api.OK {
			t.Errorf("P3: Show(%+v) = %q, %d, want %q", c.i, s, e, c.text)
		}
		wantRead(t, c.text, c.i)
	}
}

func TestP3EdgesComeBack(t *testing.T) {
	for _, s := range shapes {
		for _, op := range s.ops {
			for _, imm := range []int{s.least, 0, s.most} {
				for _, i := range []api.Ins{{Op: op, Imm: imm}, s.highest(op, imm)} {
					text, e := Show(i)
					if e != api.OK {
						t.Errorf("P3: Show(%+v) = %q, %d", i, text, e)
					}
					wantRead(t, text, i)
				}
			}
		}
	}
}

func TestP3ImmsOutOfRange(t *testing.T) {
	for text, bounds := range map[string][]string{
		"addi x1, x2, @":  {"-2049", "2048", "-9999999999", "9999999999"},
		"addiw x1, x2, @": {"-2049", "2048"},
		"slli x1, x2, @":  {"-1", "64"},
		"srai x1, x2, @":  {"-1", "64"},
		"slliw x1, x2, @": {"-1", "32"},
		"ld x1, @(x2)":    {"-2049", "2048"},
		"jalr x1, @(x2)":  {"-2049", "2048"},
		"sd x1, @(x2)":    {"-2049", "2048"},
		"beq x1, x2, @":   {"-4097", "-4098", "4095", "4096", "1", "-1", "3"},
		"lui x1, @":       {"-524289", "524288"},
		"auipc x1, @":     {"-524289", "524288"},
		"jal x1, @":       {"-1048577", "-1048578", "1048575", "1048576", "1", "-1"},
	} {
		for _, b := range bounds {
			wantNotRead(t, strings.Replace(text, "@", b, 1), api.ErrRange)
		}
	}
}

func TestP3BlanksAndRemarks(t *testing.T) {
	for _, c := range known {
		tight := strings.ReplaceAll(c.text, ", ", ",")
		wide := c.text
		for _, mark := range []string{",", "(", ")"} {
			wide = strings.ReplaceAll(wide, mark, " \t"+mark+"\t ")
		}
		wide = "\t " + strings.Replace(wide, " ", "\t \t", 1) + " \t"
		for _, text := range []string{tight, wide, tight + "#", wide + "# add x1, \r \x00 \xff #", c.text + "#:"} {
			wantRead(t, text, c.i)
		}
	}
	wantRead(t, "lui x1,-5", api.Ins{Op: api.Lui, Rd: 1, Imm: -5})
}

func TestP3Numbers(t *testing.T) {
	for text, imm := range map[string]int{
		"0": 0, "-0": 0, "00": 0, "0000000000": 0, "-0000000000": 0, "0000000007": 7, "-0000000007": -7, "010": 10, "08": 8, "-2048": -2048, "2047": 2047,
	} {
		wantRead(t, "addi x1, x2, "+text, api.Ins{Op: api.Addi, Rd: 1, Rs1: 2, Imm: imm})
	}
	for _, text := range []string{
		"", "-", "--1", "+1", "- 1", "1-", "1 1", "1-1", "00000000000", "-00000000007", "12345678901", "0x1", "1a", "a", "x1", "1_0", "1.0", "1e1", "'a'", "\u0661", "−1", "(1)",
	} {
		wantNotRead(t, "addi x1, x2, "+text, api.ErrSyntax)
	}
}

func TestP3Registers(t *testing.T) {
	for r := range 32 {
		i := api.Ins{Op: api.Add, Rd: r, Rs1: 31 - r, Rs2: r}
		text, _ := Show(i)
		wantRead(t, text, i)
	}
	for _, text := range []string{
		"", "x", "x32", "x33", "x99", "x00", "x01", "x031", "x-1", "x 1", "x1x", "xx1", "X1", "1", "a0", "ra", "zero", "x4294967297", "x18446744073709551617", "y1", "x\u0661",
	} {
		for _, form := range []string{"add @, x2, x3", "add x1, @, x3", "add x1, x2, @", "lui @, 5", "ld x1, 5(@)", "sd @, 5(x2)", "beq @, x2, 4"} {
			wantNotRead(t, strings.Replace(form, "@", text, 1), api.ErrSyntax)
		}
	}
}

func TestP3NoInstruction(t *testing.T) {
	for _, text := range []string{
		"", " ", "\t", "#", "# ecall", "5", "-", ",", "()", "x1",
		"ecall ecall", "ecall,", ", ecall", "ecall x1", "ecall 0", "ebreak()", "(ecall)", "e call", "ecal", "ecalll", "ECALL", "Ecall", "5ecall", "-ecall",
		"add", "add x1", "add x1,", "add x1, x2", "add x1, x2,", "add x1, x2, x3,", "add x1, x2, x3, x4", "add x1, x2, x3 x4", "add x1 x2 x3", "add x1,, x2, x3", "add, x1, x2, x3", "add (x1), x2, x3", "addx1, x2, x3", "add x1, x2, 3",
		"addi x1, x2", "addi x1, 5", "addi x1, 5, x2", "addi x1, 5(x2)", "addi x1, x2, x3", "slli x1, x2, x3",
		"ld x1, x2, 5", "ld x1, (x2)", "ld x1, 5", "ld x1, 5(x2", "ld x1, 5 x2)", "ld x1, 5)x2(", "ld x1, 5, (x2)", "ld x1, 5((x2))", "ld x1 5(x2)", "ld 5(x2), x1", "ld x1, x2(5)", "ld x1, 5(x2),", "ld x1, 5(2)",
		"sd x1, x2, 5", "sd 5(x2), x1", "jalr x1, x2, 5", "jalr x1", "jalr x1, x2",
		"beq x1, 8", "beq x1, x2", "beq x1, x2, (8)", "lui x1", "lui x1, x2", "lui x1, x2, 5", "jal 8", "jal x1",
		"fence", "lr", "addd x1, x2, x3", "csrrw x1, x2, 5",
		"ecall;", "ecall // it", "ecall\r", "ecall\v", "ecall\f", "ecall\x00", "ecall\u00a0", "\ufeffecall", "ecall \xff", "ecall \xc3\xa4", "\xffecall", "add x1; x2; x3", "add x1. x2, x3",
	} {
		wantNotRead(t, text, api.ErrSyntax)
	}
}

// TestP3OtherStatements: what may stand in a program, but is no instruction alone.
func TestP3OtherStatements(t *testing.T) {
	for _, text := range []string{
		"a: ecall", "a:", ":", ": ecall", "ecall:", "beq x1, x2, a", "beq x1, x2, x3", "jal x1, a", "jal x0, x1",
		"c.ebreak", "c.addi x8, x8, -1", "c. ebreak", "c .ebreak", "c ebreak",
		"nop", "mv x1, x2", "not x1, x2", "neg x1, x2", "seqz x1, x2", "snez x1, x2", "beqz x1, 4", "bnez x1, 4", "j 4", "j-4", "ret", "li x1, 5",
		".byte 1", ".half 1", ".word 1", "byte 1",
		"ecall\n", "\necall", "ecall\necall", "ecall #\n", "ecall # \n ecall", "#\necall", "\n",
	} {
		wantNotRead(t, text, api.ErrSyntax)
	}
}

// TestP3SyntaxComesFirst: a number that may not stand there matters only where all else is right.
func TestP3SyntaxComesFirst(t *testing.T) {
	for _, text := range []string{
		"addi x1, x2, 2048,", "addi x1, x2, 2048 5", "addi x1, x32, 2048", "ld x1, 2048(x2", "ld x1, 2048(x32)", "beq x1, x2, 1 a", "addi x1, x2, 2048\n", "a: addi x1, x2, 2048", "c.addi x1, x1, 2048", "addi x1, x2, 2048 ä",
		"addi x1, x2, 2048" + strings.Repeat(" ", 2000),
	} {
		wantNotRead(t, text, api.ErrSyntax)
	}
}

func TestP3Length(t *testing.T) {
	for _, fill := range []string{" ", "\t", "#"} {
		pad := strings.Repeat(fill, api.MaxText-len("ecall"))
		wantRead(t, "ecall"+pad, api.Ins{Op: api.Ecall})
		wantNotRead(t, "ecall"+pad+fill, api.ErrSyntax)
	}
	// Bytes count, not runes.
	remark := "ecall#" + strings.Repeat("ä", 997)
	wantRead(t, remark, api.Ins{Op: api.Ecall})
	wantNotRead(t, remark+"x", api.ErrSyntax)
	wantNotRead(t, "addi x1, x2, "+strings.Repeat("0", 1900), api.ErrSyntax)
	wantNotRead(t, strings.Repeat("a", 2000), api.ErrSyntax)
	wantNotRead(t, strings.Repeat("ecall ", 1<<16), api.ErrSyntax)
}

// TestP1EveryByte: no byte anywhere in a text makes the call panic, and with an error there is no instruction.
func TestP1EveryByte(t *testing.T) {
	const text = "ld x1, -5(x2) # a"
	for at := 0; at <= len(text); at++ {
		for b := range 256 {
			i, e := Read(text[:at] + string([]byte{byte(b)}) + text[at:])
			if e != api.OK && i != (api.Ins{}) {
				t.Errorf("P1: with byte %d at %d: %+v, %d", b, at, i, e)
			}
		}
	}
}
