package pinion

import (
	"testing"

	"pinion/api"
)

// wantStuck: the event, again and again, and nothing is changed.
func wantStuck(t *testing.T, m *Machine, kind, value int) {
	t.Helper()
	before := stateOf(t, m)
	wantStep(t, m, kind, value)
	wantState(t, m, before)
	wantRun(t, m, 7, kind, value, 0)
	wantState(t, m, before)
}

// goTo: brings pc to a place, by a jalr that is gone again behind it.
func goTo(t *testing.T, m *Machine, place int) {
	t.Helper()
	word, _ := Encode(mustRead(t, "jalr x0, 0(x5)"))
	before := stateOf(t, m)
	lay(t, m, m.Pc(), wordBytes(word))
	set(t, m, 5, place)
	wantStep(t, m, api.Going, 0)
	set(t, m, 5, before.registers[5])
	for n := range 4 {
		lay(t, m, before.pc+n, string([]byte{byte(before.memory[before.pc+n])}))
	}
	wantPc(t, m, place)
}

func TestP7Fetch(t *testing.T) {
	for _, place := range []int{-2, -4, 4096, 4098, 8192, 1 << 32, -1 << 32, low, low + 2, top - 1, top - 3} {
		m := machineOf(t, "\x01\x00")
		goTo(t, m, place)
		wantStuck(t, m, api.Fetch, place)
	}
}

// TestP7EndOfMemory: an instruction of two bytes has room at 4094, one of four at 4092.
func TestP7EndOfMemory(t *testing.T) {
	m := machineOf(t, "")
	goTo(t, m, 4094)
	wantStuck(t, m, api.Illegal, 0)
	lay(t, m, 4094, "\x05\x03") // addi x6, x6, 1
	wantStep(t, m, api.Going, 0)
	wantRegister(t, m, 6, 1007)
	wantStuck(t, m, api.Fetch, 4096)

	m = machineOf(t, "")
	goTo(t, m, 4092)
	lay(t, m, 4092, "\x13\x03\x13\x00") // the same, not short
	wantStep(t, m, api.Going, 0)
	wantRegister(t, m, 6, 1007)
	wantStuck(t, m, api.Fetch, 4096)

	// The first two bytes of a word, be there such a word or not.
	for _, bytes := range []string{"\x13\x03", "\x03\x00", "\xff\xff", "\x73\x00"} {
		m = machineOf(t, "")
		goTo(t, m, 4094)
		lay(t, m, 4094, bytes)
		wantStuck(t, m, api.Fetch, 4094)
	}
	m = machineOf(t, "")
	goTo(t, m, 4092)
	lay(t, m, 4092, "\xff\xff\xff\xff")
	wantStuck(t, m, api.Illegal, 0xffffffff)
	lay(t, m, 4092, "\x73\x00\x10\x00")
	wantStuck(t, m, api.Break, 4092)
	lay(t, m, 4092, "\x02\x90\xff\xff")
	wantStuck(t, m, api.Break, 4092)
}

func TestP7Illegal(t *testing.T) {
	for code, value := range map[string]int{
		"":                         0,
		"\x00\x00\xff\xff":         0,          // the half alone, whatever is behind
		"\x02\x80":                 0x8002,     // jalr x0, 0(x0) has no short form
		"\xff\xff\xff\xff":         0xffffffff, // the word, without a sign
		"\x03\x70\x00\x00":         0x7003,
		"\x73\x00\x20\x00":         0x200073,
		"\x0b\x00\x00\x80":         0x8000000b,
		"\x33\x00\x00\x04":         0x4000033,
		"\x1f\x00\x00\x00\x00\x00": 0x1f,
	} {
		wantStuck(t, machineOf(t, code), api.Illegal, value)
	}
}

// TestP7IllegalHalves: all halves that stand for nothing.
func TestP7IllegalHalves(t *testing.T) {
	for half := range 65536 {
		_, e := Expand(half)
		if half&3 == 3 {
			continue
		}
		event := machineOf(t, halfBytes(half)+"\xff\xff").Step()
		if illegal := event == (api.Event{Kind: api.Illegal, Value: half}); illegal != (e == api.ErrIns) || (event.Kind == api.Illegal) != illegal {
			t.Errorf("P7: of half %#x Step() = %+v", half, event)
		}
	}
}

func TestP7Call(t *testing.T) {
	for _, value := range []int{0, 93, -1, low, top, 1 << 32} {
		m := machineFor(t, "ecall\necall\nli x17, 5\necall", false)
		set(t, m, 17, value)
		want := stateOf(t, m)
		for _, want.pc = range []int{4, 8} {
			wantStep(t, m, api.Call, value)
			wantState(t, m, want)
		}
		wantStep(t, m, api.Going, 0)
		wantStep(t, m, api.Call, 5)
		wantPc(t, m, 16)
	}
	m := machineOf(t, "")
	goTo(t, m, 4092)
	lay(t, m, 4092, "\x73\x00\x00\x00")
	wantStep(t, m, api.Call, 1017)
	wantStuck(t, m, api.Fetch, 4096)
}

func TestP7Break(t *testing.T) {
	m := machineFor(t, "ebreak\nc.ebreak\nnop", false)
	wantStuck(t, m, api.Break, 0)
	goTo(t, m, 4)
	wantStuck(t, m, api.Break, 4)
	goTo(t, m, 6)
	wantStep(t, m, api.Going, 0)
}
