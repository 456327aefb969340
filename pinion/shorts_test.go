package pinion

import (
	"strconv"
	"strings"
	"testing"

	"pinion/api"
)

// listed: the document's list of short forms, as it is written there.
const listed = `
| 000 i[5 4 9 8 7 6 2 3] ddd 00 | addi d, x2, i | i is not 0 |
| 010 i[5 4 3] sss i[2 6] ddd 00 | lw d, i(s) | |
| 011 i[5 4 3] sss i[7 6] ddd 00 | ld d, i(s) | |
| 110 i[5 4 3] sss i[2 6] ttt 00 | sw t, i(s) | |
| 111 i[5 4 3] sss i[7 6] ttt 00 | sd t, i(s) | |
| 000 i[5] ddddd i[4 3 2 1 0] 01 - | addi d, d, i | d and i are not 0, or both are |
| 001 i[5] ddddd i[4 3 2 1 0] 01 - | addiw d, d, i | d is not 0 |
| 010 i[5] ddddd i[4 3 2 1 0] 01 - | addi d, x0, i | d is not 0 |
| 011 i[9] 00010 i[4 6 8 7 5] 01 - | addi x2, x2, i | i is not 0 |
| 011 i[5] ddddd i[4 3 2 1 0] 01 - | lui d, i | d is not 0 or 2, i is not 0 |
| 100 i[5] 00 ddd i[4 3 2 1 0] 01 | srli d, d, i | i is not 0 |
| 100 i[5] 01 ddd i[4 3 2 1 0] 01 | srai d, d, i | i is not 0 |
| 100 i[5] 10 ddd i[4 3 2 1 0] 01 - | andi d, d, i | |
| 100 0 11 ddd 00 ttt 01 | sub d, d, t | |
| 100 0 11 ddd 01 ttt 01 | xor d, d, t | |
| 100 0 11 ddd 10 ttt 01 | or d, d, t | |
| 100 0 11 ddd 11 ttt 01 | and d, d, t | |
| 100 1 11 ddd 00 ttt 01 | subw d, d, t | |
| 100 1 11 ddd 01 ttt 01 | addw d, d, t | |
| 101 i[11 4 9 8 10 6 7 3 2 1 5] 01 - | jal x0, i | |
| 110 i[8 4 3] sss i[7 6 2 1 5] 01 - | beq s, x0, i | |
| 111 i[8 4 3] sss i[7 6 2 1 5] 01 - | bne s, x0, i | |
| 000 i[5] ddddd i[4 3 2 1 0] 10 | slli d, d, i | d and i are not 0 |
| 010 i[5] ddddd i[4 3 2 7 6] 10 | lw d, i(x2) | d is not 0 |
| 011 i[5] ddddd i[4 3 8 7 6] 10 | ld d, i(x2) | d is not 0 |
| 100 0 sssss 00000 10 | jalr x0, 0(s) | s is not 0 |
| 100 0 ddddd ttttt 10 | add d, x0, t | d and t are not 0 |
| 100 1 00000 00000 10 | ebreak | |
| 100 1 sssss 00000 10 | jalr x1, 0(s) | s is not 0 |
| 100 1 ddddd ttttt 10 | add d, d, t | d and t are not 0 |
| 110 i[5 4 3 2 7 6] ttttt 10 | sw t, i(x2) | |
| 111 i[5 4 3 8 7 6] ttttt 10 | sd t, i(x2) | |
`

// line: one line of the list, cut into the sixteen bits of the half, the text, and the condition.
type line struct {
	bits   []string // "0", "1", "d", "s", "t", or the number of a bit of Imm behind an "i"
	signed bool
	text   string
	when   string
}

func list() []line {
	var all []line
	for l := range strings.Lines(strings.TrimSpace(listed)) {
		cells := strings.Split(l, "|")
		half := strings.TrimSpace(cells[1])
		plain := strings.TrimSuffix(half, "-")
		all = append(all, line{bitsOf(plain), plain != half, strings.TrimSpace(cells[2]), strings.TrimSpace(cells[3])})
	}
	return all
}

func bitsOf(half string) []string {
	var bits []string
	for n, part := range strings.FieldsFunc(half, func(r rune) bool { return r == '[' || r == ']' }) {
		if n%2 == 1 {
			for _, number := range strings.Fields(part) {
				bits = append(bits, "i"+number)
			}
			continue
		}
		for _, r := range part {
			if r != ' ' && r != 'i' {
				bits = append(bits, string(r))
			}
		}
	}
	return bits
}

// standsFor: what the line makes of a half: the values of d, s, t and i; or false.
func (l line) standsFor(half int) (map[string]int, bool) {
	values, widths := map[string]int{}, map[string]int{}
	top := 0
	for n, b := range l.bits {
		bit := half >> (15 - n) & 1
		switch number, isImm := strings.CutPrefix(b, "i"); {
		case isImm:
			at, _ := strconv.Atoi(number)
			values["i"] |= bit << at
			top = max(top, at)
		case b == "0" || b == "1":
			if b != strconv.Itoa(bit) {
				return nil, false
			}
		default:
			values[b] = 2*values[b] + bit
			widths[b]++
		}
	}
	for letter, width := range widths {
		if width == 3 {
			values[letter] += 8
		}
	}
	if l.signed && values["i"] >= 1<<top {
		values["i"] -= 2 << top
	}
	return values, conditions[l.when](values)
}

var conditions = map[string]func(map[string]int) bool{
	"":                               func(v map[string]int) bool { return true },
	"i is not 0":                     func(v map[string]int) bool { return v["i"] != 0 },
	"d is not 0":                     func(v map[string]int) bool { return v["d"] != 0 },
	"s is not 0":                     func(v map[string]int) bool { return v["s"] != 0 },
	"d and i are not 0":              func(v map[string]int) bool { return v["d"] != 0 && v["i"] != 0 },
	"d and t are not 0":              func(v map[string]int) bool { return v["d"] != 0 && v["t"] != 0 },
	"d and i are not 0, or both are": func(v map[string]int) bool { return v["d"] != 0 && v["i"] != 0 || v["d"] == 0 && v["i"] == 0 },
	"d is not 0 or 2, i is not 0":    func(v map[string]int) bool { return v["d"] != 0 && v["d"] != 2 && v["i"] != 0 },
}

// instruction: the line's text with these values for its letters, read.
func (l line) instruction(t *testing.T, values map[string]int) api.Ins {
	t.Helper()
	name, rest, _ := strings.Cut(l.text, " ")
	for _, letter := range []string{"d", "s", "t"} {
		rest = strings.ReplaceAll(rest, letter, "x"+strconv.Itoa(values[letter]))
	}
	return mustRead(t, name+" "+strings.ReplaceAll(rest, "i", strconv.Itoa(values["i"])))
}

// byTheList: what each half stands for, and each instruction's short form, by the document's list.
func byTheList(t *testing.T) (map[int]api.Ins, map[api.Ins]int) {
	t.Helper()
	stands, shorts := map[int]api.Ins{}, map[api.Ins]int{}
	for _, l := range list() {
		for half := range 65536 {
			values, ok := l.standsFor(half)
			if !ok {
				continue
			}
			i := l.instruction(t, values)
			if other, twice := stands[half]; twice {
				t.Fatalf("the half %#x stands for %+v and for %+v", half, other, i)
			}
			stands[half] = i
			if _, earlier := shorts[i]; !earlier {
				shorts[i] = half
			}
		}
	}
	return stands, shorts
}

func wantShort(t *testing.T, i api.Ins, want int, wantErr api.Errno) {
	t.Helper()
	if h, e := Short(i); h != want || e != wantErr {
		t.Errorf("P4: Short(%+v) = %#x, %d, want %#x, %d", i, h, e, want, wantErr)
	}
}

func wantExpand(t *testing.T, half int, want api.Ins, wantErr api.Errno) {
	t.Helper()
	if i, e := Expand(half); i != want || e != wantErr {
		t.Errorf("P4: Expand(%#x) = %+v, %d, want %+v, %d", half, i, e, want, wantErr)
	}
}

func mustRead(t *testing.T, text string) api.Ins {
	t.Helper()
	i, e := Read(text)
	if e != api.OK {
		t.Fatalf("P3: Read(%q) = %d", text, e)
	}
	return i
}

func TestP4KnownHalves(t *testing.T) {
	for _, c := range knownHalves {
		i := mustRead(t, c.text)
		wantShort(t, i, c.half, api.OK)
		wantExpand(t, c.half, i, api.OK)
	}
}

func TestP4DocumentExamples(t *testing.T) {
	wantShort(t, api.Ins{Op: api.Addi}, 1, api.OK)
	wantShort(t, api.Ins{Op: api.Ebreak}, 36866, api.OK)
	wantShort(t, api.Ins{Op: api.Addi, Rd: 8, Rs1: 8, Imm: -1}, 5245, api.OK)
	wantShort(t, api.Ins{Op: api.Lw, Rd: 1, Rs1: 2, Imm: 4}, 16530, api.OK)
}

// TestP4TheList: every half, and every instruction that has a short form.
func TestP4TheList(t *testing.T) {
	stands, shorts := byTheList(t)
	for half := range 65536 {
		if i, ok := stands[half]; ok {
			wantExpand(t, half, i, api.OK)
		} else {
			wantExpand(t, half, api.Ins{}, api.ErrIns)
		}
	}
	for i, half := range shorts {
		wantShort(t, i, half, api.OK)
	}
}

// TestP4NextToTheList: what differs from an instruction with a short form in one thing has that of the list, or none.
func TestP4NextToTheList(t *testing.T) {
	_, shorts := byTheList(t)
	for _, c := range knownHalves {
		i := mustRead(t, c.text)
		var others []api.Ins
		for r := range 32 {
			others = append(others,
				api.Ins{Op: i.Op, Rd: r, Rs1: i.Rs1, Rs2: i.Rs2, Imm: i.Imm},
				api.Ins{Op: i.Op, Rd: i.Rd, Rs1: r, Rs2: i.Rs2, Imm: i.Imm},
				api.Ins{Op: i.Op, Rd: i.Rd, Rs1: i.Rs1, Rs2: r, Imm: i.Imm})
		}
		for op := api.Add; op <= api.Ebreak; op++ {
			others = append(others, api.Ins{Op: op, Rd: i.Rd, Rs1: i.Rs1, Rs2: i.Rs2, Imm: i.Imm})
		}
		for imm := -2100; imm <= 2100; imm++ {
			others = append(others, api.Ins{Op: i.Op, Rd: i.Rd, Rs1: i.Rs1, Rs2: i.Rs2, Imm: imm})
		}
		for _, other := range others {
			_, right := Encode(other)
			half, ok := shorts[other]
			switch {
			case right != api.OK:
				wantShort(t, other, 0, api.ErrIns)
			case ok:
				wantShort(t, other, half, api.OK)
			default:
				wantShort(t, other, 0, api.ErrNone)
			}
		}
	}
}

// TestP4SeveralForms: these have two, of which the first is theirs.
func TestP4SeveralForms(t *testing.T) {
	for _, c := range []struct {
		text          string
		first, second int
	}{
		{"addi x2, x2, -32", 0x1101, 0x713d},
		{"addi x2, x2, -16", 0x1141, 0x717d},
		{"addi x2, x2, 16", 0x0141, 0x6141},
	} {
		i := mustRead(t, c.text)
		wantExpand(t, c.first, i, api.OK)
		wantExpand(t, c.second, i, api.OK)
		wantShort(t, i, c.first, api.OK)
	}
}

func TestP4NoShortForm(t *testing.T) {
	for _, text := range []string{
		"addi x8, x2, 0", "addi x8, x2, 1024", "addi x8, x2, -4", "addi x8, x2, 6", "addi x7, x2, 4", "addi x16, x2, 4",
		"addi x1, x1, 0", "addi x0, x0, 1", "addi x1, x1, 32", "addi x1, x1, -33", "addi x1, x3, 1", "addi x0, x0, -1",
		"addi x2, x2, 0", "addi x2, x2, 40", "addi x2, x2, 512", "addi x2, x2, -528", "addiw x0, x0, 1", "addiw x0, x0, 0", "addiw x1, x1, 32", "addiw x1, x2, 1",
		"lui x0, 1", "lui x2, 1", "lui x1, 0", "lui x1, 32", "lui x1, -33",
		"srli x8, x8, 0", "srai x8, x8, 0", "srli x7, x7, 1", "srai x16, x16, 1", "srli x8, x9, 1", "slli x1, x1, 0", "slli x0, x0, 1", "slli x1, x2, 1",
		"andi x8, x8, 32", "andi x8, x8, -33", "andi x7, x7, 1", "andi x8, x9, 1",
		"sub x8, x9, x8", "sub x7, x7, x8", "sub x8, x8, x16", "xor x8, x9, x10", "addw x8, x9, x8",
		"lw x8, 128(x9)", "lw x8, -4(x9)", "lw x8, 2(x9)", "lw x7, 0(x9)", "lw x8, 0(x7)", "ld x8, 4(x9)", "ld x8, 256(x9)", "sw x8, 128(x9)", "sd x8, 4(x9)", "sd x16, 0(x9)",
		"lw x0, 0(x2)", "lw x1, 256(x2)", "ld x0, 0(x2)", "ld x1, 4(x2)", "ld x1, 512(x2)", "sw x1, 256(x2)", "sw x1, 2(x2)", "sd x1, 4(x2)", "sd x1, 512(x2)",
		"jal x0, 2048", "jal x0, -2050", "jal x1, 0", "beq x8, x0, 256", "beq x8, x0, -258", "beq x8, x9, 2", "beq x7, x0, 2", "beq x0, x8, 2", "bne x8, x0, 256", "bne x16, x0, 2", "blt x8, x0, 2",
		"jalr x0, 0(x0)", "jalr x1, 0(x0)", "jalr x0, 2(x1)", "jalr x2, 0(x1)", "add x0, x0, x1", "add x1, x0, x0", "add x1, x1, x0", "add x1, x2, x1", "add x0, x0, x0",
		"ecall", "lb x8, 0(x9)", "lwu x8, 0(x9)", "sb x8, 0(x9)", "mul x8, x8, x9", "auipc x1, 1", "slti x8, x8, 1", "sltu x8, x8, x9", "slliw x8, x8, 1",
	} {
		wantShort(t, mustRead(t, text), 0, api.ErrNone)
	}
}

func TestP4WrongInstructions(t *testing.T) {
	for _, i := range noOps() {
		wantShort(t, i, 0, api.ErrIns)
	}
	for _, s := range shapes {
		for _, op := range s.ops {
			for _, i := range s.wrong(op) {
				wantShort(t, i, 0, api.ErrIns)
			}
		}
	}
}

func TestP4WrongHalves(t *testing.T) {
	for _, half := range []int{
		-1 << 63, -65535, -1, 65536, 65537, 1<<16 + 36866, 1<<32 + 1, 1<<62 + 1, 1<<63 - 1, // of more than 16 bits
		0, 0x0004, 0x2000, 0x8000, 0xa000, // no such form; Imm is 0
		0x0005, 0x0081, 0x2001, 0x4001, 0x6001, 0x6101, 0x6005, 0x6081, 0x8001, 0x8401, 0x9c41, 0x9c61, // d is 0, or Imm
		0x0002, 0x0006, 0x0082, 0x2002, 0x4002, 0x6002, 0x8002, 0x8006, 0x9006, 0xa002, // d or s is 0, or Imm
		3, 0x0013, 0x0033, 0x0073, 0xffff, // the beginnings of words
	} {
		wantExpand(t, half, api.Ins{}, api.ErrIns)
	}
}
