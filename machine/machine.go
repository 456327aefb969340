// Package machine runs instructions: a machine's memory, registers and pc, its steps, and what they come to.
package machine

import (
	"pinion/api"
	"pinion/isa"
)

// Machine has memory, registers, and a pc.
//
// Beside an error New gives nil. No call panics, so a nil machine answers as one without memory and registers would.
type Machine struct {
	memory    [api.MaxMem]byte
	registers [isa.MostRegister + 1]int
	pc        int
}

// New makes a machine that has the code from address 0 on.
func New(code string) (*Machine, api.Errno) {
	if len(code) > api.MaxMem {
		return nil, api.ErrSize
	}
	m := &Machine{}
	copy(m.memory[:], code)
	return m, api.OK
}

// Set sets a register.
func (m *Machine) Set(register, value int) api.Errno {
	if !m.has(register) {
		return api.ErrArg
	}
	m.put(register, value)
	return api.OK
}

// Get tells a register.
func (m *Machine) Get(register int) (int, api.Errno) {
	if !m.has(register) {
		return 0, api.ErrArg
	}
	return m.registers[register], api.OK
}

// Poke writes a byte.
func (m *Machine) Poke(address, value int) api.Errno {
	if !m.holds(address, 1) || value < 0 || value > 255 {
		return api.ErrArg
	}
	m.write(address, value, 1)
	return api.OK
}

// Peek reads a byte.
func (m *Machine) Peek(address int) (int, api.Errno) {
	if !m.holds(address, 1) {
		return 0, api.ErrArg
	}
	return m.read(address, 1), api.OK
}

// Pc tells pc.
func (m *Machine) Pc() int {
	if m == nil {
		return 0
	}
	return m.pc
}

func (m *Machine) has(register int) bool {
	return m != nil && 0 <= register && register <= isa.MostRegister
}

func (m *Machine) put(register, value int) {
	if register != 0 {
		m.registers[register] = value
	}
}

func (m *Machine) holds(address, size int) bool {
	// The size is taken from the bound: added to the address, it could wrap round.
	return m != nil && 0 <= address && address <= api.MaxMem-size
}

func (m *Machine) read(address, size int) int {
	return isa.Number(string(m.memory[address : address+size]))
}

func (m *Machine) write(address, value, size int) {
	copy(m.memory[address:], isa.Bytes(value, size))
}
