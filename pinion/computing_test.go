package pinion

import (
	"strconv"
	"testing"

	"pinion/api"
)

// wantStep: the event of one step.
func wantStep(t *testing.T, m *Machine, kind, value int) {
	t.Helper()
	pc := m.Pc()
	if event := m.Step(); event != (api.Event{Kind: kind, Value: value}) {
		t.Errorf("P7: Step() at %d = %+v, want {%d %d}", pc, event, kind, value)
	}
}

// wantDone: one step does an instruction, that of this text; what it changes is told in want.
func wantDone(t *testing.T, m *Machine, text string, want state) {
	t.Helper()
	wantStep(t, m, api.Going, 0)
	wantState(t, m, want)
	if t.Failed() {
		t.Fatalf("P7: by %s", text)
	}
}

// wantComputed: the instruction makes this of x2 and x3, into x0 and the numbers' own registers too, and changes nothing else.
func wantComputed(t *testing.T, op, behind string, a, b, want int) {
	t.Helper()
	for _, rd := range []int{1, 2, 3, 31, 0} {
		text := op + " x" + strconv.Itoa(rd) + ", x2, " + behind
		m := machineFor(t, text, false)
		set(t, m, 2, a)
		set(t, m, 3, b)
		after := stateOf(t, m)
		after.pc = 4
		if rd != 0 {
			after.registers[rd] = want
		}
		wantDone(t, m, text+" of "+strconv.Itoa(a)+" and "+strconv.Itoa(b), after)
	}
}

func TestP7TwoRegisters(t *testing.T) {
	ops := map[string]bool{}
	for _, c := range knownOfRegisters {
		wantComputed(t, c.op, "x3", c.a, c.b, c.want)
		ops[c.op] = true
	}
	if len(ops) != api.Remuw {
		t.Errorf("P7: %d ops have known results", len(ops))
	}
}

func TestP7RegisterAndImm(t *testing.T) {
	ops := map[string]bool{}
	for _, c := range knownOfImms {
		wantComputed(t, c.op, strconv.Itoa(c.b), c.a, 77, c.want)
		ops[c.op] = true
	}
	if len(ops) != api.Sraiw-api.Remuw {
		t.Errorf("P7: %d ops have known results", len(ops))
	}
}

// TestP7OneRegisterTwice: both numbers from the same register, and the result into it.
func TestP7OneRegisterTwice(t *testing.T) {
	for text, want := range map[string]int{
		"add x5, x5, x5": -14, "sub x5, x5, x5": 0, "mul x5, x5, x5": 49, "div x5, x5, x5": 1, "slt x5, x5, x5": 0,
		"add x5, x0, x5": -7, "sub x5, x0, x5": 7, "add x5, x0, x0": 0, "divu x5, x5, x0": -1, "sra x5, x5, x5": -1,
	} {
		m := machineFor(t, text, false)
		set(t, m, 5, -7)
		after := stateOf(t, m)
		after.pc = 4
		after.registers[5] = want
		wantDone(t, m, text, after)
	}
}

// TestP7Upper: lui at any place, auipc from its own.
func TestP7Upper(t *testing.T) {
	for _, at := range []int{0, 2, 2048, 4092} {
		for imm, value := range map[int]int{-524288: low32, -1: -4096, 0: 0, 1: 4096, 524287: 2147479552} {
			for op, want := range map[string]int{"lui": value, "auipc": value + at} {
				text := op + " x31, " + strconv.Itoa(imm)
				m := machineFor(t, "jalr x0, "+strconv.Itoa(at/2)+"(x1)", false)
				set(t, m, 1, at/2)
				wantStep(t, m, api.Going, 0)
				code, _ := Assemble(text, false)
				lay(t, m, at, code)
				after := stateOf(t, m)
				after.registers[31] = want
				after.pc = at + 4
				wantDone(t, m, text, after)
			}
		}
	}
	m := machineFor(t, "lui x0, 5\nauipc x0, 5", false)
	after := stateOf(t, m)
	for _, after.pc = range []int{4, 8} {
		wantDone(t, m, "upper to x0", after)
	}
}

// TestP7EveryShortForm: a half does what the word of its instruction does, but that two bytes are behind it.
func TestP7EveryShortForm(t *testing.T) {
	for half := range 65536 {
		i, e := Expand(half)
		if e != api.OK {
			continue
		}
		word, _ := Encode(i)
		short, long := machineOf(t, halfBytes(half)), machineOf(t, wordBytes(word))
		one, other := short.Step(), long.Step()
		if one != other {
			t.Errorf("P7: half %#x: %+v, its word: %+v", half, one, other)
		}
		if short.Pc() != long.Pc() && short.Pc()+2 != long.Pc() {
			t.Errorf("P7: half %#x: pc is %d, its word: %d", half, short.Pc(), long.Pc())
		}
		for register := range 32 {
			a, _ := short.Get(register)
			b, _ := long.Get(register)
			if a != b && (i.Op != api.Jalr || a+2 != b) {
				t.Errorf("P7: half %#x: x%d is %d, its word: %d", half, register, a, b)
			}
		}
	}
}
