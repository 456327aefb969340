package pinion

import (
	"math"
	"testing"

	"pinion/api"
)

// shape: what the document's table says of a kind, written down here once more.
type shape struct {
	name         string
	ops          []int
	rd, rs1, rs2 bool
	least, most  int
	step         int
}

var shapes = []shape{
	{"R", span(api.Add, api.Remuw), true, true, true, 0, 0, 1},
	{"I", append(span(api.Addi, api.Andi), api.Addiw), true, true, false, -2048, 2047, 1},
	{"H", span(api.Slli, api.Srai), true, true, false, 0, 63, 1},
	{"W", span(api.Slliw, api.Sraiw), true, true, false, 0, 31, 1},
	{"L", span(api.Lb, api.Jalr), true, true, false, -2048, 2047, 1},
	{"S", span(api.Sb, api.Sd), false, true, true, -2048, 2047, 1},
	{"B", span(api.Beq, api.Bgeu), false, true, true, -4096, 4094, 2},
	{"U", span(api.Lui, api.Auipc), true, false, false, -524288, 524287, 1},
	{"J", span(api.Jal, api.Jal), true, false, false, -1048576, 1048574, 2},
	{"N", span(api.Ecall, api.Ebreak), false, false, false, 0, 0, 1},
}

func span(first, last int) []int {
	var ops []int
	for op := first; op <= last; op++ {
		ops = append(ops, op)
	}
	return ops
}

// highest: an instruction of the shape with the highest registers.
func (s shape) highest(op, imm int) api.Ins {
	i := api.Ins{Op: op, Imm: imm}
	if s.rd {
		i.Rd = 31
	}
	if s.rs1 {
		i.Rs1 = 31
	}
	if s.rs2 {
		i.Rs2 = 31
	}
	return i
}

// wrong: right instructions of the shape, each with one field spoilt.
func (s shape) wrong(op int) []api.Ins {
	var all []api.Ins
	for _, v := range []int{s.least - 1, s.least - s.step, s.most + 1, s.most + s.step, math.MinInt, math.MaxInt} {
		all = append(all, api.Ins{Op: op, Imm: v})
	}
	if s.step == 2 {
		all = append(all, api.Ins{Op: op, Imm: 1}, api.Ins{Op: op, Imm: -1}, api.Ins{Op: op, Imm: 4093}, api.Ins{Op: op, Imm: -4095})
	}
	for _, v := range []int{-1, 32, 33, 1 << 32, math.MinInt, math.MaxInt} {
		all = append(all, api.Ins{Op: op, Rd: v}, api.Ins{Op: op, Rs1: v}, api.Ins{Op: op, Rs2: v})
	}
	for v := 1; v < 32; v++ {
		if !s.rd {
			all = append(all, api.Ins{Op: op, Rd: v})
		}
		if !s.rs1 {
			all = append(all, api.Ins{Op: op, Rs1: v})
		}
		if !s.rs2 {
			all = append(all, api.Ins{Op: op, Rs2: v})
		}
	}
	return all
}

// noOps: instructions of no op.
func noOps() []api.Ins {
	var all []api.Ins
	for _, op := range []int{math.MinInt, -64, -1, 0, 65, 66, 128, 1 << 32, 1<<32 + 1, math.MaxInt} {
		all = append(all, api.Ins{Op: op}, api.Ins{Op: op, Rd: 1, Rs1: 2, Rs2: 3, Imm: 4})
	}
	return all
}

func wantNoIns(t *testing.T, i api.Ins) {
	t.Helper()
	if w, e := Encode(i); w != 0 || e != api.ErrIns {
		t.Errorf("P2: Encode(%+v) = %#x, %d, want 0, ErrIns", i, w, e)
	}
	if s, e := Show(i); s != "" || e != api.ErrIns {
		t.Errorf("P3: Show(%+v) = %q, %d, want nothing, ErrIns", i, s, e)
	}
}

func TestShapesHoldEveryOpOnce(t *testing.T) {
	seen := map[int]int{}
	for _, s := range shapes {
		for _, op := range s.ops {
			seen[op]++
		}
	}
	for op := api.Add; op <= api.Ebreak; op++ {
		if seen[op] != 1 {
			t.Errorf("op %d stands %d times", op, seen[op])
		}
	}
	if len(seen) != 64 {
		t.Errorf("%d ops, want 64", len(seen))
	}
}

func TestP2KnownWords(t *testing.T) {
	for _, c := range known {
		if w, e := Encode(c.i); w != c.word || e != api.OK {
			t.Errorf("P2: Encode(%+v) = %#x, %d, want %#x", c.i, w, e, c.word)
		}
		if i, e := Decode(c.word); i != c.i || e != api.OK {
			t.Errorf("P2: Decode(%#x) = %+v, %d, want %+v", c.word, i, e, c.i)
		}
	}
}

func TestP2DocumentExamples(t *testing.T) {
	for _, c := range []struct {
		i    api.Ins
		word int
	}{
		{api.Ins{Op: api.Add, Rd: 1, Rs1: 2, Rs2: 3}, 3211443},
		{api.Ins{Op: api.Addi}, 19},
		{api.Ins{Op: api.Ecall}, 115},
		{api.Ins{Op: api.Ebreak}, 1048691},
	} {
		if w, e := Encode(c.i); w != c.word || e != api.OK {
			t.Errorf("P2: Encode(%+v) = %d, %d, want %d", c.i, w, e, c.word)
		}
	}
}

func TestP2WrongInstructions(t *testing.T) {
	for _, i := range noOps() {
		wantNoIns(t, i)
	}
	for _, s := range shapes {
		for _, op := range s.ops {
			for _, i := range s.wrong(op) {
				wantNoIns(t, i)
			}
		}
	}
}

// TestP2EdgesComeBack: words of right instructions are of 32 bits, and each comes back as it was.
func TestP2EdgesComeBack(t *testing.T) {
	for _, s := range shapes {
		for _, op := range s.ops {
			for _, imm := range []int{s.least, s.least + s.step, 0, s.most - s.step, s.most} {
				if imm < s.least || imm > s.most {
					continue
				}
				for _, i := range []api.Ins{{Op: op, Imm: imm}, s.highest(op, imm)} {
					w, e := Encode(i)
					if e != api.OK || w < 0 || w > math.MaxUint32 {
						t.Errorf("P2: kind %s: Encode(%+v) = %#x, %d", s.name, i, w, e)
					}
					if back, e := Decode(w); back != i || e != api.OK {
						t.Errorf("P2: kind %s: Decode(%#x) = %+v, %d, want %+v", s.name, w, back, e, i)
					}
				}
			}
		}
	}
}

// TestP2EveryImm: no two Imms of one op have the same word, as each comes back.
func TestP2EveryImm(t *testing.T) {
	for _, s := range shapes {
		op := s.ops[len(s.ops)-1]
		for imm := s.least; imm <= s.most; imm += s.step {
			i := s.highest(op, imm)
			w, e := Encode(i)
			back, d := Decode(w)
			if e != api.OK || d != api.OK || back != i {
				t.Fatalf("P2: Encode(%+v) = %#x, %d; Decode of it = %+v, %d", i, w, e, back, d)
			}
		}
	}
}

func TestP2WrongWords(t *testing.T) {
	for _, w := range []int{
		math.MinInt, -1, -19, 1 << 32, 1<<32 + 19, 1<<62 + 19, math.MaxInt, // of more than 32 bits
		0, 1, 0x12, 0x11, 0x7f, 0xffffffff, // no opcode
		0x02000033 + 1<<25, 0x40001033, 0x40002033, 0x42000033, 0x80000033, // R: no such g
		0x0000103b | 1<<25, 0x0000203b, 0x4000103b, // R of words: no such f, no such g
		0x04001013, 0x40001013, 0x80005013, 0x44005013, // H: no such g
		0x0200101b, 0x4000101b, 0x0200501b, 0x4200501b, 0x0000201b, // W: 32 and more, no such g, no such f
		0x00007003, 0x00001067, 0x00007067, // L: no such f
		0x00004023, 0x00007023, // S: no such f
		0x00002063, 0x00003063, // B: no such f
		0x00200073, 0x10500073, 0x80000073, 0x000000f3, 0x00001073, 0x00008073, 0x00108073, 0x001000f3, 0x00101073, // N: all else is 0
		0x0000000f, 0x0000100f, 0x0000202f, 0x00001053, // instructions that other machines have
	} {
		if i, e := Decode(w); i != (api.Ins{}) || e != api.ErrIns {
			t.Errorf("P2: Decode(%#x) = %+v, %d, want ErrIns", w, i, e)
		}
	}
}

// TestP2WordsOfNoInstruction counts the words without registers that belong to an instruction, over all of 31..25, 14..12 and 6..0.
func TestP2WordsOfNoInstruction(t *testing.T) {
	count := 0
	for top := 0; top < 128; top++ {
		for f := 0; f < 8; f++ {
			for opcode := 0; opcode < 128; opcode++ {
				w := top<<25 | f<<12 | opcode
				i, e := Decode(w)
				if e == api.OK {
					count++
					if back, d := Encode(i); back != w || d != api.OK {
						t.Errorf("P2: Decode(%#x) = %+v, whose word is %#x, %d", w, i, back, d)
					}
				} else if e != api.ErrIns || i != (api.Ins{}) {
					t.Errorf("P2: Decode(%#x) = %+v, %d", w, i, e)
				}
			}
		}
	}
	// R has all of these bits fixed; I, L, S and B have the top free; H has one bit of it free, W none; U and J have f free too; of N only ecall has bit 20 clear.
	want := 28 + (7+8+4+6)*128 + 3*2 + 3 + (2+1)*128*8 + 1
	if count != want {
		t.Errorf("P2: %d words belong to an instruction, want %d", count, want)
	}
}

// TestP2EveryBitCounts: a word with another bit is another instruction's word, or none's.
func TestP2EveryBitCounts(t *testing.T) {
	for _, c := range known {
		for bit := 0; bit < 32; bit++ {
			w := c.word ^ 1<<bit
			i, e := Decode(w)
			if e != api.OK {
				continue
			}
			if back, d := Encode(i); i == c.i || back != w || d != api.OK {
				t.Errorf("P2: Decode(%#x) = %+v, whose word is %#x, %d", w, i, back, d)
			}
		}
	}
}
