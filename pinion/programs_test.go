package pinion

import (
	"strconv"
	"strings"
	"testing"

	"pinion/api"
)

func wantBytes(t *testing.T, text string, short bool, want string) {
	t.Helper()
	if code, f := Assemble(text, short); code != want || f != (api.Fault{}) {
		t.Errorf("P5: Assemble(%q, %v) = %x, %+v, want %x", text, short, code, f, want)
	}
}

// wantSame: both texts have the same bytes, short or not.
func wantSame(t *testing.T, text, other string) {
	t.Helper()
	for _, short := range []bool{false, true} {
		code, f := Assemble(other, short)
		if f != (api.Fault{}) {
			t.Fatalf("P5: Assemble(%q, %v) = %+v", other, short, f)
		}
		wantBytes(t, text, short, code)
	}
}

func wantSize(t *testing.T, text string, short bool, want int) {
	t.Helper()
	if code, f := Assemble(text, short); len(code) != want || f != (api.Fault{}) {
		t.Errorf("P5: Assemble(%q, %v) has %d bytes, %+v, want %d", text, short, len(code), f, want)
	}
}

func wordBytes(word int) string {
	return string([]byte{byte(word), byte(word >> 8), byte(word >> 16), byte(word >> 24)})
}

func halfBytes(half int) string { return wordBytes(half)[:2] }

func TestP5EveryInstruction(t *testing.T) {
	for _, c := range known {
		want := wordBytes(c.word)
		wantBytes(t, c.text, false, want)
		if half, e := Short(c.i); e == api.OK {
			want = halfBytes(half)
		}
		wantBytes(t, c.text, true, want)
	}
}

func TestP5EveryShortForm(t *testing.T) {
	for _, c := range knownHalves {
		word, _ := Encode(mustRead(t, c.text))
		wantBytes(t, c.text, false, wordBytes(word))
		wantBytes(t, c.text, true, halfBytes(c.half))
		wantBytes(t, "c."+c.text, false, halfBytes(c.half))
		wantBytes(t, "c."+c.text, true, halfBytes(c.half))
	}
}

func TestP5DocumentExamples(t *testing.T) {
	const loop = "a: addi x1, x1, 1\nbne x1, x2, a\nebreak"
	wantBytes(t, loop, false, "\x93\x80\x10\x00\xe3\x9e\x20\xfe\x73\x00\x10\x00")
	wantBytes(t, loop, true, "\x85\x00\xe3\x9f\x20\xfe\x02\x90")
	wantSame(t, "li x5, 2048", "lui x5, 1\naddiw x5, x5, -2048")
}

func TestP5OtherNames(t *testing.T) {
	for text, other := range map[string]string{
		"nop":              "addi x0, x0, 0",
		"mv x1, x2":        "addi x1, x2, 0",
		"not x1, x2":       "xori x1, x2, -1",
		"neg x1, x2":       "sub x1, x0, x2",
		"seqz x1, x2":      "sltiu x1, x2, 1",
		"snez x1, x2":      "sltu x1, x0, x2",
		"beqz x9, 8":       "beq x9, x0, 8",
		"bnez x9, -8":      "bne x9, x0, -8",
		"beqz x1, 4094":    "beq x1, x0, 4094",
		"bnez x1, -4096":   "bne x1, x0, -4096",
		"j 8":              "jal x0, 8",
		"j -1048576":       "jal x0, -1048576",
		"j 1048574":        "jal x0, 1048574",
		"ret":              "jalr x0, 0(x1)",
		"a: beqz x9, a":    "beq x9, x0, 0",
		"nop\nj a\na: nop": "nop\njal x0, a\na: nop",
	} {
		wantSame(t, text, other)
	}
}

func TestP5Load(t *testing.T) {
	for number, other := range map[string]string{
		"0":           "addi x6, x0, 0",
		"-0":          "addi x6, x0, 0",
		"31":          "addi x6, x0, 31",
		"2047":        "addi x6, x0, 2047",
		"-2048":       "addi x6, x0, -2048",
		"2048":        "lui x6, 1\naddiw x6, x6, -2048",
		"-2049":       "lui x6, -1\naddiw x6, x6, 2047",
		"4095":        "lui x6, 1\naddiw x6, x6, -1",
		"4096":        "lui x6, 1",
		"-4096":       "lui x6, -1",
		"6143":        "lui x6, 1\naddiw x6, x6, 2047",
		"6144":        "lui x6, 2\naddiw x6, x6, -2048",
		"-6144":       "lui x6, -1\naddiw x6, x6, -2048",
		"-6145":       "lui x6, -2\naddiw x6, x6, 2047",
		"2147481599":  "lui x6, 524287\naddiw x6, x6, 2047",
		"2147481600":  "lui x6, -524288\naddiw x6, x6, -2048",
		"2147483647":  "lui x6, -524288\naddiw x6, x6, -1",
		"2147479552":  "lui x6, 524287",
		"-2147483648": "lui x6, -524288",
		"-2147483647": "lui x6, -524288\naddiw x6, x6, 1",
	} {
		wantSame(t, "li x6, "+number, other)
	}
	wantSame(t, "li x0, 4097", "lui x0, 1\naddiw x0, x0, 1")
	// Each of the two is short by itself.
	wantSize(t, "li x5, 4097", true, 4)
	wantSize(t, "li x5, 2048", true, 6)
	wantSize(t, "li x2, 4097", true, 6)
	wantSize(t, "li x5, 2048", false, 8)
}

func TestP5Data(t *testing.T) {
	for text, want := range map[string]string{
		".byte 0": "\x00", ".byte 255": "\xff", ".byte -0": "\x00",
		".half 0": "\x00\x00", ".half 258": "\x02\x01", ".half 65535": "\xff\xff",
		".word 0": "\x00\x00\x00\x00", ".word 67305985": "\x01\x02\x03\x04", ".word 4294967295": "\xff\xff\xff\xff",
		".byte 1\n.half 1\n.word 1\n.byte 2": "\x01\x01\x00\x01\x00\x00\x00\x02",
		".word 19":                           "\x13\x00\x00\x00", // not made short, for it is no instruction
	} {
		wantBytes(t, text, false, want)
		wantBytes(t, text, true, want)
	}
}

func TestP5NoBytes(t *testing.T) {
	for _, text := range []string{"", "\n", "\n\n\n", " \t ", "#", "# nop\n#nop", "a:", "a:\nb:", " a : # it", "x1:\nnop:\nadd:"} {
		wantBytes(t, text, false, "")
		wantBytes(t, text, true, "")
	}
}

func TestP5Blanks(t *testing.T) {
	for _, text := range []string{
		"a:lw x8,-4(x9)\nj a\nj-4\nc.addi x8,x8,-1\n.byte 7",
		"a :\tlw  x8 , -4 ( x9 ) # four\n\tj\ta#\n j  -4 #:\n\tc.addi\tx8 ,x8, -1 \n\t.byte\t7 ",
		"\ta\t:lw\tx8\t,-4(\tx9\t)\nj a\nj-4\n c.addi x8,x8,-1#c.\n .byte 7#\n",
		"# \xff\x00\r ä\na:\n\n\nlw x8,-4(x9)\n#\nj a\nj -4\nc.addi x8,x8,-1\n\n.byte 7\n\n",
		"a:lw x8,-0000000004(x9)\nj a\nj-04\nc.addi x8,x8,-1\n.byte 007",
	} {
		wantBytes(t, text, false, "\x03\xa4\xc4\xff\x6f\xf0\xdf\xff\x6f\xf0\xdf\xff\x7d\x14\x07")
		wantBytes(t, text, true, "\x03\xa4\xc4\xff\xf5\xbf\xf5\xbf\x7d\x14\x07")
	}
	wantSame(t, ".byte-0", ".byte 0")
	wantSame(t, "a:c.ebreak", "c.ebreak")
	wantSame(t, "a:.half 5", ".half 5")
}

func TestP5Names(t *testing.T) {
	for _, name := range []string{"a", "z", "a1", "a0", "abcdefgh", "a1234567", "x1", "x32", "x", "nop", "add", "li", "j", "c", "byte", "z9z9z9z9"} {
		wantSame(t, name+": j "+name, "j 0")
		wantSame(t, "nop\nbne x1, x2, "+name+"\nnop\n"+name+":", "nop\nbne x1, x2, q\nnop\nq:")
	}
	// Letters that two names have in common don't make them one.
	wantSame(t, "ab: nop\na: nop\nabc: nop\nj a", "nop\nq: nop\nnop\nj q")
}

// TestP5Places: a name stands for the place of the first statement behind it, or the end.
func TestP5Places(t *testing.T) {
	for text, other := range map[string]string{
		"a:\n\n# it\nnop\nj a":               "nop\njal x0, -4",
		"a:\nb: nop\nj a\nj b":               "nop\njal x0, -4\njal x0, -8",
		"j a\nnop\na:":                       "jal x0, 8\nnop",
		"j a\nnop\na:\nb:\n":                 "jal x0, 8\nnop",
		"j b\nli x5, 99999\nb: nop":          "jal x0, 12\nli x5, 99999\nnop",
		"c.ebreak\na: .byte 1\n.byte 2\nj a": "c.ebreak\n.byte 1\n.byte 2\njal x0, -2",
		"beq x1, x2, a\n.word 0\na: ret":     "beq x1, x2, 8\n.word 0\nret",
		"a: jal x1, a":                       "jal x1, 0",
		"jal x1, a\na:":                      "jal x1, 4",
	} {
		code, f := Assemble(other, false)
		if f != (api.Fault{}) {
			t.Fatalf("P5: Assemble(%q) = %+v", other, f)
		}
		wantBytes(t, text, false, code)
	}
}

// TestP5NumbersStay: a number is no name: it counts bytes, whatever becomes short.
func TestP5NumbersStay(t *testing.T) {
	wantBytes(t, "nop\nbeqz x8, -4\nj 8", true, "\x01\x00\x75\xdc\x21\xa0")
}

func TestP5Length(t *testing.T) {
	for _, fill := range []string{" ", "\n", "#", "\t"} {
		wantBytes(t, "nop"+strings.Repeat(fill, 1997), true, "\x01\x00")
		wantFault(t, "nop"+strings.Repeat(fill, 1998), api.ErrLong, 0)
	}
	wantBytes(t, "nop#"+strings.Repeat("ä", 998), true, "\x01\x00")
	wantFault(t, "nop#"+strings.Repeat("ä", 998)+"x", api.ErrLong, 0)
	wantFault(t, strings.Repeat("?\n", 1<<16), api.ErrLong, 0)
}

func TestP5Size(t *testing.T) {
	nops := strings.Repeat("nop\n", 255)
	wantSize(t, nops+"nop", false, 1024)
	wantSize(t, nops+"nop\na:\n#", false, 1024)
	wantSize(t, nops+".half 1\n.byte 1\n.byte 1", false, 1024)
	for _, more := range []string{"nop\n.byte 1", "nop\nnop", "nop\nc.ebreak", "nop\n.word 1", "li x1, 99999", "j a\na: .byte 1"} {
		if code, f := Assemble(nops+more, false); code != "" || f != (api.Fault{Code: api.ErrSize}) {
			t.Errorf("P5: %q behind 1020 bytes: %d bytes, %+v", more, len(code), f)
		}
	}
	// Short ones count as such.
	wantSize(t, strings.Repeat("nop\n", 500), true, 1000)
	wantSize(t, "beqz x8, a\n"+strings.Repeat("nop\n", 494)+"a:", true, 992)
	wantFault(t, strings.Repeat("li x0,5000\n", 128)+".byte 1", api.ErrSize, 0)
	wantSize(t, strings.Repeat("li x0,5000\n", 128), true, 1024)
}

// TestP5JustFits: branches that just have a short form, and such as just have none.
func TestP5JustFits(t *testing.T) {
	fill := strings.Repeat("add x1, x2, x3\n", 62) // 248 bytes, short or not
	for _, c := range []struct {
		text string
		size int
	}{
		{"beqz x8, a\n" + fill + "nop\nnop\na:", 248 + 4 + 2},          // 254 bytes on
		{"bnez x15, a\n" + fill + "nop\nnop\na:", 248 + 4 + 2},         // 254
		{"beqz x8, a\n" + fill + "nop\nnop\nnop\na:", 248 + 6 + 4},     // 256
		{"bnez x15, a\n" + fill + "nop\nnop\nnop\na:", 248 + 6 + 4},    // 256
		{"a: " + fill + "nop\nnop\nnop\nnop\nbeqz x8, a", 248 + 8 + 2}, // 256 bytes back
		{"a: " + fill + "nop\nnop\nnop\nnop\nbnez x9, a", 248 + 8 + 2}, // 256
		{"a: " + fill + "li x5, 4097\nli x5, 4097\nbeqz x8, a", 248 + 8 + 2},
		{"a: " + fill + "li x5, 2048\nli x5, 4097\nbeqz x8, a", 248 + 10 + 4}, // 258
		{"beqz x7, a\n" + fill + "a:", 248 + 4},                               // no such register
		{"beq x8, x9, a\n" + fill + "a:", 248 + 4},
		{"beq x8, x0, a\n" + fill + "a:", 248 + 2},
		{"blt x8, x0, a\n" + fill + "a:", 248 + 4},
		{"jal x1, a\n" + fill + "a:", 248 + 4},
		{"jal x0, a\n" + fill + "a:", 248 + 2},
	} {
		wantSize(t, c.text, true, c.size)
	}
	// A jump has room for all that a program can be.
	wantSize(t, "j a\n"+strings.Repeat("li x0,5000\n", 127)+"a:", true, 2+1016)
	wantSize(t, "a: "+strings.Repeat("li x0,5000\n", 127)+"j a", true, 1016+2)
}

// TestP5AllShortAtFirst: each of the two fits only as long as the other one is short.
func TestP5AllShortAtFirst(t *testing.T) {
	fill := strings.Repeat("add x1, x2, x3\n", 62)
	wantSize(t, "b: beqz x8, a\n"+fill+"c.ebreak\nbeqz x9, b\na:", true, 2+248+2+2)
}

// TestP5OneGrowsAnother: the last one has no room at once, each of the others only when the one that it goes over has grown.
func TestP5OneGrowsAnother(t *testing.T) {
	fill := strings.Repeat(".word 0\n", 62) + "c.ebreak\n" // 250 bytes
	text := "beqz x8, a\n" + fill + "beqz x8, b\na: " + fill + "beqz x8, d\nb: " + fill + "c.ebreak\n"
	wantSize(t, text+"d:", true, 3*(2+250)+2)
	wantSize(t, text+"c.ebreak\nd:", true, 3*(4+250)+4)
	// One that goes back fits only until the one that it goes over has grown.
	text = "b: beqz x8, a\n" + fill + "c.ebreak\nc.ebreak\nbeqz x9, b\n"
	wantSize(t, "a:\n"+text, true, 2+250+4+2)
	wantSize(t, text+"a:", true, 4+250+4+4)
}

// TestP5ShortDoesTheSame: each target of the short bytes is the instruction that it is in the long ones.
func TestP5ShortDoesTheSame(t *testing.T) {
	const text = "a: nop\nb: beqz x8, d\nadd x1, x2, x3\nc: bnez x9, a\nj c\nblt x1, x2, e\nli x5, 99999\nd: ret\nj b\ne: jal x1, d\nebreak"
	long, f := Assemble(text, false)
	if f != (api.Fault{}) {
		t.Fatalf("P5: Assemble = %+v", f)
	}
	short, _ := Assemble(text, true)
	if len(short) >= len(long) {
		t.Errorf("P5: %d bytes short, %d long", len(short), len(long))
	}
	first, second := targets(long), targets(short)
	if first != second || !strings.Contains(first, ">") {
		t.Errorf("P8: targets %s long, %s short", first, second)
	}
}

// targets tells of each branch and jump which instruction it goes to, by their numbers.
func targets(code string) string {
	numbers := map[int]int{}
	for at := range Items(code) {
		numbers[at] = len(numbers)
	}
	var all []string
	for at, i := range Items(code) {
		if i.Op >= api.Beq && i.Op <= api.Bgeu || i.Op == api.Jal {
			all = append(all, strconv.Itoa(numbers[at])+">"+strconv.Itoa(numbers[at+i.Imm]))
		}
	}
	return strings.Join(all, " ")
}
