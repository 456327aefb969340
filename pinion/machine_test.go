package pinion

import (
	"strings"
	"testing"

	"pinion/api"
)

// state: all that can be seen of a machine.
type state struct {
	memory    [api.MaxMem]int
	registers [32]int
	pc        int
}

func stateOf(t *testing.T, m *Machine) state {
	t.Helper()
	s := state{pc: m.Pc()}
	for address := range s.memory {
		value, e := m.Peek(address)
		if e != api.OK {
			t.Fatalf("P7: Peek(%d) = %d", address, e)
		}
		s.memory[address] = value
	}
	for register := range s.registers {
		value, e := m.Get(register)
		if e != api.OK {
			t.Fatalf("P7: Get(%d) = %d", register, e)
		}
		s.registers[register] = value
	}
	return s
}

func wantState(t *testing.T, m *Machine, want state) {
	t.Helper()
	got := stateOf(t, m)
	if got.pc != want.pc {
		t.Errorf("P7: Pc() = %d, want %d", got.pc, want.pc)
	}
	for register, value := range want.registers {
		if got.registers[register] != value {
			t.Errorf("P7: x%d is %d, want %d", register, got.registers[register], value)
		}
	}
	for address, value := range want.memory {
		if got.memory[address] != value {
			t.Errorf("P7: the byte at %d is %d, want %d", address, got.memory[address], value)
		}
	}
}

// machineOf: a machine with this code, and in all registers something of their own.
func machineOf(t *testing.T, code string) *Machine {
	t.Helper()
	m, e := New(code)
	if m == nil || e != api.OK {
		t.Fatalf("P7: New of %d bytes = %v, %d", len(code), m, e)
	}
	for register := 1; register < 32; register++ {
		set(t, m, register, 1000+register)
	}
	return m
}

func machineFor(t *testing.T, text string, short bool) *Machine {
	t.Helper()
	code, f := Assemble(text, short)
	if f != (api.Fault{}) {
		t.Fatalf("P5: Assemble(%q, %v) = %+v", text, short, f)
	}
	return machineOf(t, code)
}

func set(t *testing.T, m *Machine, register, value int) {
	t.Helper()
	if e := m.Set(register, value); e != api.OK {
		t.Fatalf("P7: Set(%d, %d) = %d", register, value, e)
	}
}

// lay: bytes into memory, by Poke.
func lay(t *testing.T, m *Machine, address int, bytes string) {
	t.Helper()
	for n := range len(bytes) {
		if e := m.Poke(address+n, int(bytes[n])); e != api.OK {
			t.Fatalf("P7: Poke(%d, %d) = %d", address+n, bytes[n], e)
		}
	}
}

func TestP7New(t *testing.T) {
	whole := strings.Repeat("0123456789abcde\xff", 256)
	for _, size := range []int{0, 1, 2, 1025, 4095, 4096} {
		m, e := New(whole[:size])
		if m == nil || e != api.OK {
			t.Fatalf("P7: New of %d bytes = %v, %d", size, m, e)
		}
		want := state{}
		for at := range size {
			want.memory[at] = int(whole[at])
		}
		wantState(t, m, want)
	}
	for _, code := range []string{whole + "\x00", whole + "x", whole + whole} {
		if m, e := New(code); m != nil || e != api.ErrSize {
			t.Errorf("P7: New of %d bytes = %v, %d, want ErrSize", len(code), m, e)
		}
	}
}

func TestP7Registers(t *testing.T) {
	m := machineOf(t, "some code")
	want := stateOf(t, m)
	for register := range 32 {
		for _, value := range []int{low, low32, -1, 0, 1, 255, 256, top32, top, 7 * register} {
			set(t, m, register, value)
			if register != 0 {
				want.registers[register] = value
			}
			if got, e := m.Get(register); got != want.registers[register] || e != api.OK {
				t.Errorf("P7: Get(%d) = %d, %d, want %d", register, got, e, want.registers[register])
			}
		}
	}
	wantState(t, m, want)
	for _, register := range []int{-1, 32, 33, -32, 63, 256, 1 << 32, -1 << 32, low, top} {
		if e := m.Set(register, 5); e != api.ErrArg {
			t.Errorf("P7: Set(%d, 5) = %d, want ErrArg", register, e)
		}
		if value, e := m.Get(register); value != 0 || e != api.ErrArg {
			t.Errorf("P7: Get(%d) = %d, %d, want ErrArg", register, value, e)
		}
	}
	wantState(t, m, want)
}

func TestP7Bytes(t *testing.T) {
	m := machineOf(t, "some code")
	want := stateOf(t, m)
	for _, address := range []int{0, 1, 8, 9, 255, 256, 2048, 4094, 4095} {
		for _, value := range []int{0, 1, 127, 128, 255} {
			want.memory[address] = value
			lay(t, m, address, string([]byte{byte(value)}))
			if got, e := m.Peek(address); got != value || e != api.OK {
				t.Errorf("P7: Peek(%d) = %d, %d, want %d", address, got, e, value)
			}
		}
	}
	wantState(t, m, want)
	for _, address := range []int{-1, 4096, 4097, -4096, 8192, 1 << 32, -1 << 32, low, top} {
		for _, value := range []int{0, 5, 255, -1, 256} {
			if e := m.Poke(address, value); e != api.ErrArg {
				t.Errorf("P7: Poke(%d, %d) = %d, want ErrArg", address, value, e)
			}
		}
		if value, e := m.Peek(address); value != 0 || e != api.ErrArg {
			t.Errorf("P7: Peek(%d) = %d, %d, want ErrArg", address, value, e)
		}
	}
	for _, value := range []int{-1, 256, -128, 257, 1 << 32, low, top} {
		if e := m.Poke(4095, value); e != api.ErrArg {
			t.Errorf("P7: Poke(4095, %d) = %d, want ErrArg", value, e)
		}
	}
	wantState(t, m, want)
}

// TestP1MachinesApart: what one does, another does not see, not even one of the same code.
func TestP1MachinesApart(t *testing.T) {
	const text = "addi x5, x5, 1\nsd x5, 1000(x0)\nj -8"
	m, still := machineFor(t, text, false), machineFor(t, text, false)
	before := stateOf(t, still)
	m.Run(50)
	m.Set(9, -9)
	m.Poke(4095, 9)
	m.Poke(0, 9)
	wantState(t, still, before)
	// Step by step in turn, as one that is alone.
	one, two, alone := machineFor(t, text, false), machineFor(t, text, false), machineFor(t, text, false)
	set(t, two, 5, -100)
	for range 40 {
		one.Step()
		two.Step()
		alone.Step()
	}
	wantState(t, one, stateOf(t, alone))
	want := stateOf(t, alone)
	want.registers[5] = -100 + 14
	for n := range 8 {
		want.memory[1000+n] = (-100 + 13) >> (8 * n) & 255
	}
	wantState(t, two, want)
}

// TestP1NoMachine: New gives nil beside an error, and no call panics.
func TestP1NoMachine(t *testing.T) {
	m, _ := New(strings.Repeat("x", 4097))
	if e := m.Set(1, 1); e != api.ErrArg {
		t.Errorf("P1: Set of no machine = %d", e)
	}
	if v, e := m.Get(1); v != 0 || e != api.ErrArg {
		t.Errorf("P1: Get of no machine = %d, %d", v, e)
	}
	if e := m.Poke(1, 1); e != api.ErrArg {
		t.Errorf("P1: Poke of no machine = %d", e)
	}
	if v, e := m.Peek(1); v != 0 || e != api.ErrArg {
		t.Errorf("P1: Peek of no machine = %d, %d", v, e)
	}
	if m.Pc() != 0 {
		t.Errorf("P1: Pc of no machine = %d", m.Pc())
	}
	if event := m.Step(); event != (api.Event{Kind: api.Fetch}) {
		t.Errorf("P1: Step of no machine = %+v", event)
	}
	if event, count := m.Run(5); event != (api.Event{Kind: api.Fetch}) || count != 0 {
		t.Errorf("P1: Run of no machine = %+v, %d", event, count)
	}
}
