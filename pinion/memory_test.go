package pinion

import (
	"strconv"
	"testing"

	"pinion/api"
)

var sizes = map[string]int{"lb": 1, "lbu": 1, "lh": 2, "lhu": 2, "lw": 4, "lwu": 4, "ld": 8, "sb": 1, "sh": 2, "sw": 4, "sd": 8}

// access: a machine about to load or store at an address, by a register and an Imm.
func access(t *testing.T, op string, base, imm int) *Machine {
	t.Helper()
	m := machineFor(t, op+" x6, "+strconv.Itoa(imm)+"(x5)", false)
	set(t, m, 5, base)
	set(t, m, 6, other)
	return m
}

func TestP7Loads(t *testing.T) {
	const mixed, high = "\x81\x92\xa3\xb4\xc5\xd6\xe7\xf8", "\xff\xff\xff\xff\xff\xff\xff\x7f"
	const small = "\x01\x02\x03\x04\x05\x06\x07\x08"
	for _, c := range []struct {
		op, bytes string
		want      int
	}{
		{"lb", mixed, -127}, {"lbu", mixed, 0x81}, {"lh", mixed, -0x6d7f}, {"lhu", mixed, 0x9281},
		{"lw", mixed, -0x4b5c6d7f}, {"lwu", mixed, 0xb4a39281}, {"ld", mixed, -0x718293a4b5c6d7f},
		{"lb", high, -1}, {"lbu", high, 255}, {"lh", high, -1}, {"lhu", high, 65535},
		{"lw", high, -1}, {"lwu", high, 1<<32 - 1}, {"ld", high, top},
		{"lb", small, 1}, {"lbu", small, 1}, {"lh", small, 0x0201}, {"lhu", small, 0x0201},
		{"lw", small, 0x04030201}, {"lwu", small, 0x04030201}, {"ld", small, 0x0807060504030201},
	} {
		// Any address will do, be it a multiple of the size or not, and even where the load itself lies behind.
		for _, address := range []int{8, 9, 1001, 2047, 4096 - sizes[c.op]} {
			for _, imm := range []int{0, 2047, -2048} {
				m := access(t, c.op, address-imm, imm)
				lay(t, m, address, c.bytes[:sizes[c.op]])
				want := stateOf(t, m)
				want.registers[6] = c.want
				want.pc = 4
				wantDone(t, m, c.op+" at "+strconv.Itoa(address), want)
			}
		}
	}
}

func TestP7Stores(t *testing.T) {
	const value = -0x718293a4b5c6d7f
	const bytes = "\x81\x92\xa3\xb4\xc5\xd6\xe7\xf8"
	for _, op := range []string{"sb", "sh", "sw", "sd"} {
		for _, address := range []int{8, 9, 1001, 2047, 4096 - sizes[op]} {
			for _, imm := range []int{0, 2047, -2048} {
				m := access(t, op, address-imm, imm)
				set(t, m, 6, value)
				for around := max(address-3, 4); around < min(address+12, 4096); around++ {
					lay(t, m, around, "\x55")
				}
				want := stateOf(t, m)
				for n := range sizes[op] {
					want.memory[address+n] = int(bytes[n])
				}
				want.pc = 4
				wantDone(t, m, op+" at "+strconv.Itoa(address), want)
			}
		}
	}
}

// TestP7Access: beyond memory, be it in part only, or by an address that wraps round: nothing is changed.
func TestP7Access(t *testing.T) {
	for op, size := range sizes {
		for _, c := range []struct{ base, imm, address int }{
			{4096 - size, 1, 4097 - size}, {4097 - size, 0, 4097 - size}, {4095, 1, 4096}, {4096, 0, 4096}, {5000, 0, 5000}, {3000, 2047, 5047},
			{0, -1, -1}, {-1, 0, -1}, {-size, 0, -size}, {-8, 7, -1}, {0, -2048, -2048}, {2047, -2048, -1},
			{1 << 32, 0, 1 << 32}, {-1 << 32, 0, -1 << 32}, {1 << 32, 8, 1<<32 + 8},
			{top, 0, top}, {low, 0, low}, {top, 1, low}, {top, 2047, low + 2046}, {low, -1, top}, {low, -2048, top - 2047}, {top, -7, top - 7},
		} {
			m := access(t, op, c.base, c.imm)
			want := stateOf(t, m)
			wantStep(t, m, api.Access, c.address)
			wantState(t, m, want)
			wantStep(t, m, api.Access, c.address)
			if t.Failed() {
				t.Fatalf("P7: by %s x6, %d(x5) with x5 %d", op, c.imm, c.base)
			}
		}
	}
}

func TestP7LoadToX0(t *testing.T) {
	for _, op := range []string{"lb", "lbu", "lh", "lhu", "lw", "lwu", "ld"} {
		m := machineFor(t, op+" x0, 0(x0)\n"+op+" x0, -1(x0)", false)
		want := stateOf(t, m)
		want.pc = 4
		wantDone(t, m, op, want)
		wantStep(t, m, api.Access, -1)
		wantState(t, m, want)
	}
}

func TestP7StoreOfX0(t *testing.T) {
	m := machineFor(t, "sw x0, 1001(x0)", false)
	lay(t, m, 1000, "\xff\xff\xff\xff\xff\xff")
	want := stateOf(t, m)
	want.pc = 4
	for n := range 4 {
		want.memory[1001+n] = 0
	}
	wantDone(t, m, "sw", want)
}

// TestP7LoadOverItsBase: the address is found ahead of the load.
func TestP7LoadOverItsBase(t *testing.T) {
	m := machineFor(t, "ld x5, 8(x5)\nsd x5, 0(x5)", false)
	lay(t, m, 108, "\xc8")
	set(t, m, 5, 100)
	want := stateOf(t, m)
	want.pc, want.registers[5] = 4, 200
	wantDone(t, m, "ld", want)
	want.pc, want.memory[200] = 8, 200
	wantDone(t, m, "sd", want)
}

// TestP7CodeIsMemory: what is stored where code lies is run.
func TestP7CodeIsMemory(t *testing.T) {
	m := machineFor(t, "sw x5, 4(x0)\n.word 0\nebreak", false)
	word, _ := Encode(mustRead(t, "addi x7, x0, 77"))
	set(t, m, 5, word)
	wantRun(t, m, 9, api.Break, 8, 2)
	wantRegister(t, m, 7, 77)
	lay(t, m, 8, "\x01\x00\x02\x90") // nop, ebreak
	wantRun(t, m, 9, api.Break, 10, 1)
}
