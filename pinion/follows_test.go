package pinion

import (
	"strconv"
	"strings"
	"testing"

	"pinion/api"
)

// chance: numbers that look like chance, but are the same in every run.
type chance uint64

func (c *chance) next() int {
	*c ^= *c << 13
	*c ^= *c >> 7
	*c ^= *c << 17
	return int(*c >> 1)
}

func (c *chance) below(n int) int { return c.next() % n }

// any: a right instruction of the shape.
func (s shape) any(c *chance) api.Ins {
	i := s.highest(s.ops[c.below(len(s.ops))], 0)
	i.Rd, i.Rs1, i.Rs2 = c.next()&i.Rd, c.next()&i.Rs1, c.next()&i.Rs2
	i.Imm = s.least + c.below((s.most-s.least)/s.step+1)*s.step
	if c.below(2) == 0 {
		i.Imm = i.Imm % 64 &^ (s.step - 1) // so that short forms are not rare
		i.Imm = max(s.least, min(s.most, i.Imm))
	}
	return i
}

// TestP8ReadAgain: what is written is read again as it was, in every form.
func TestP8ReadAgain(t *testing.T) {
	c := chance(88172645463325252)
	shorts := 0
	for range 1000 {
		for _, s := range shapes {
			i := s.any(&c)
			word, e := Encode(i)
			if back, e2 := Decode(word); back != i || e != api.OK || e2 != api.OK {
				t.Fatalf("P8: %+v is word %#x, %d, and that is %+v, %d", i, word, e, back, e2)
			}
			text, e := Show(i)
			if back, e2 := Read(text); back != i || e != api.OK || e2 != api.OK {
				t.Fatalf("P8: %+v is text %q, %d, and that is %+v, %d", i, text, e, back, e2)
			}
			wantBytes(t, text, false, wordBytes(word))
			wantItems(t, wordBytes(word), []told{{0, text}})
			wantText(t, wordBytes(word), text+"\n")
			half, e := Short(i)
			if e == api.ErrNone {
				wantFault(t, "c."+text, api.ErrRange, 1)
				continue
			}
			shorts++
			if back, e2 := Expand(half); back != i || e != api.OK || e2 != api.OK {
				t.Fatalf("P8: %+v is half %#x, %d, and that is %+v, %d", i, half, e, back, e2)
			}
			wantBytes(t, text, true, halfBytes(half))
			wantItems(t, halfBytes(half), []told{{0, text}})
			wantText(t, halfBytes(half), "c."+text+"\n")
		}
	}
	if shorts < 100 {
		t.Errorf("P8: only %d short forms were among them", shorts)
	}
}

// TestP8ProgramReadAgain: a program's bytes, made a text, are those bytes again.
func TestP8ProgramReadAgain(t *testing.T) {
	c := chance(362436069)
	for range 200 {
		text := program(&c)
		for _, short := range []bool{false, true} {
			code, _ := Assemble(text, short)
			again, e := Disassemble(code)
			if e != api.OK {
				t.Fatalf("P8: Disassemble(%x) = %d", code, e)
			}
			wantBytes(t, again, false, code)
		}
	}
}

// data: from here on lies what the programs keep; their code ends ahead of it.
const data = 1024

// wantTheSame: short or not, a program comes to the same event by as many steps, with the same registers and data.
func wantTheSame(t *testing.T, text string) state {
	t.Helper()
	long, short := machineFor(t, text, false), machineFor(t, text, true)
	for range 20 { // a program may call for ever
		event, count := long.Run(api.MaxRun)
		other, otherCount := short.Run(api.MaxRun)
		if event.Kind == api.Break {
			event.Value, other.Value = 0, other.Value-short.Pc()
		}
		if event != other || count != otherCount {
			t.Fatalf("P8: %q comes to %+v after %d, short to %+v after %d", text, event, count, other, otherCount)
		}
		if event.Kind != api.Call {
			break
		}
	}
	one, two := stateOf(t, long), stateOf(t, short)
	if one.registers != two.registers || [api.MaxMem - data]int(one.memory[data:]) != [api.MaxMem - data]int(two.memory[data:]) {
		t.Fatalf("P8: %q does not the same if it is short", text)
	}
	return one
}

// TestP8KnownPrograms: with what they come to.
func TestP8KnownPrograms(t *testing.T) {
	for _, c := range []struct {
		text     string
		register int
		want     int
	}{
		{"li x5, 10\nli x6, 0\na: add x6, x6, x5\naddi x5, x5, -1\nbnez x5, a\nebreak", 6, 55},
		// The greatest number that divides both.
		{"li x10, 1071\nli x11, 462\na: beqz x11, b\nremu x12, x10, x11\nmv x10, x11\nmv x11, x12\nj a\nb: ebreak", 10, 21},
		// The primes below 100, with a sieve.
		{"li x8, 2048\nli x9, 100\nli x5, 2\nli x15, 0\n" +
			"a: bge x5, x9, d\nadd x10, x8, x5\nlbu x11, 0(x10)\nbnez x11, c\naddi x15, x15, 1\nmul x12, x5, x5\nli x13, 1\n" +
			"b: bge x12, x9, c\nadd x14, x8, x12\nsb x13, 0(x14)\nadd x12, x12, x5\nj b\n" +
			"c: addi x5, x5, 1\nj a\nd: ebreak", 15, 25},
		// Steps that go up and down from 27 to 1.
		{"li x10, 27\nli x11, 0\nli x12, 1\nli x13, 3\na: beq x10, x12, c\naddi x11, x11, 1\nandi x14, x10, 1\nbnez x14, b\nsrli x10, x10, 1\nj a\n" +
			"b: mul x10, x10, x13\naddi x10, x10, 1\nj a\nc: ebreak", 11, 111},
		// Calls within a run.
		{"li x5, 3\na: mv x17, x5\necall\naddi x5, x5, -1\nbgez: bge x5, x0, a\nebreak", 17, 0},
		// A jump so far that it has no short form, over code that is never reached.
		{"li x5, 1\nbeqz x0, far\n" + strings.Repeat("nop\nnop\nebreak\n", 45) + "far: addi x5, x5, 41\nebreak", 5, 42},
	} {
		if s := wantTheSame(t, c.text); s.registers[c.register] != c.want {
			t.Errorf("P8: %q makes x%d %d, want %d", c.text, c.register, s.registers[c.register], c.want)
		}
	}
}

// program: some program that knows its places by names alone, and keeps none of them in registers.
func program(c *chance) string {
	var text strings.Builder
	size := 10 + c.below(50)
	name := func() string { return "n" + strconv.Itoa(c.below(size)) }
	register := func() string { return "x" + strconv.Itoa([]int{0, 5, 8, 9, 10, 11, 15, 31}[c.below(8)]) }
	pick := func(words string) string {
		all := strings.Fields(words)
		return all[c.below(len(all))]
	}
	for n := range size {
		if c.below(4) == 0 || n == 0 {
			text.WriteString("li " + register() + ", " + strconv.Itoa(c.below(1<<20)-1<<19) + "\n")
		}
		text.WriteString("n" + strconv.Itoa(n) + ":")
		rd, rs := register(), register()
		switch c.below(8) {
		case 0:
			text.WriteString(pick("add sub xor or and addw subw mul mulh divu rem sll sra srlw sltu") + " " + rd + "," + pick(rd+" "+rs) + "," + register())
		case 1:
			text.WriteString(pick("addi addiw andi slti xori") + " " + rd + "," + pick(rd+" x0") + "," + strconv.Itoa(c.below(64)-32))
		case 2:
			text.WriteString(pick("lw ld sw sd lbu sh") + " " + rd + "," + strconv.Itoa(data+8*c.below(64)) + "(x0)")
		case 3:
			text.WriteString(pick("slli srli srai") + " " + rd + "," + rd + "," + strconv.Itoa(c.below(64)))
		case 4:
			text.WriteString(pick("beqz bnez") + " " + rd + "," + name())
		case 5:
			text.WriteString(pick("blt bge bltu beq") + " " + rd + "," + rs + "," + name())
		case 6:
			text.WriteString("mv " + rd + "," + rs)
		default:
			text.WriteString(pick("nop ecall"))
		}
		text.WriteString("\n")
	}
	return text.String() + "ebreak"
}

// TestP8ShortOrNot: programs that nobody wrote.
func TestP8ShortOrNot(t *testing.T) {
	c := chance(2463534242)
	for range 300 {
		wantTheSame(t, program(&c))
	}
}

// TestP8Quotients: quotient times divisor and remainder are the first number, of 64 bits and of 32, signed and not.
func TestP8Quotients(t *testing.T) {
	const text = "div x5, x2, x3\nrem x6, x2, x3\nmul x5, x5, x3\nadd x10, x5, x6\n" +
		"divu x5, x2, x3\nremu x6, x2, x3\nmul x5, x5, x3\nadd x11, x5, x6\n" +
		"divw x5, x2, x3\nremw x6, x2, x3\nmulw x5, x5, x3\naddw x12, x5, x6\n" +
		"divuw x5, x2, x3\nremuw x6, x2, x3\nmulw x5, x5, x3\naddw x13, x5, x6\nebreak"
	numbers := []int{low, low + 1, low32 - 1, low32, low32 + 1, -1000, -3, -2, -1, 0, 1, 2, 3, 1000, top32, 1 << 31, 1<<32 - 1, 1 << 32, 1<<32 + 1, top - 1, top, some, other}
	for _, a := range numbers {
		for _, b := range numbers {
			m := machineFor(t, text, true)
			set(t, m, 2, a)
			set(t, m, 3, b)
			wantRun(t, m, 99, api.Break, m.Pc()+4*16, 16)
			for register, want := range map[int]int{10: a, 11: a, 12: int(int32(a)), 13: int(int32(a))} {
				wantRegister(t, m, register, want)
			}
		}
	}
}
