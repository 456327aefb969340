// Package pinion: text to bytes, bytes to text, and a machine that runs them: see DOC.md.
package pinion

import (
	"pinion/api"
	"pinion/asm"
	"pinion/isa"
	"pinion/lines"
	"pinion/machine"
)

// Encode tells an instruction's word (P2).
func Encode(i api.Ins) (int, api.Errno) { return isa.Encode(i) }

// Decode tells a word's instruction (P2).
func Decode(word int) (api.Ins, api.Errno) { return isa.Decode(word) }

// Show tells an instruction's text (P3).
func Show(i api.Ins) (string, api.Errno) { return lines.Show(i) }

// Read tells a text's instruction (P3).
func Read(text string) (api.Ins, api.Errno) { return lines.Read(text) }

// Short tells an instruction's short form (P4).
func Short(i api.Ins) (int, api.Errno) { return isa.Short(i) }

// Expand tells what a half stands for (P4).
func Expand(half int) (api.Ins, api.Errno) { return isa.Expand(half) }

// Assemble makes bytes of a text (P5).
func Assemble(text string, short bool) (string, api.Fault) { return asm.Assemble(text, short) }

// Disassemble makes a text of bytes (P6).
func Disassemble(code string) (string, api.Errno) { return asm.Disassemble(code) }

// Items goes through the instructions of some bytes (P5).
func Items(code string) func(yield func(at int, i api.Ins) bool) {
	return asm.Items(code)
}

// Machine has memory, registers, and a pc.
type Machine struct {
	state machine.Machine
}

// New makes a machine (P7).
func New(code string) (*Machine, api.Errno) {
	m, e := machine.New(code)
	if e != api.OK {
		return nil, e
	}
	return &Machine{*m}, api.OK
}

// Set sets a register (P7).
func (m *Machine) Set(register int, value int) api.Errno { return m.inner().Set(register, value) }

// Get tells a register (P7).
func (m *Machine) Get(register int) (int, api.Errno) { return m.inner().Get(register) }

// Poke writes a byte (P7).
func (m *Machine) Poke(address int, value int) api.Errno { return m.inner().Poke(address, value) }

// Peek reads a byte (P7).
func (m *Machine) Peek(address int) (int, api.Errno) { return m.inner().Peek(address) }

// Pc tells pc (P7).
func (m *Machine) Pc() int { return m.inner().Pc() }

// Step does one step (P7).
func (m *Machine) Step() api.Event { return m.inner().Step() }

// Run does steps (P7).
func (m *Machine) Run(most int) (api.Event, int) { return m.inner().Run(most) }

// inner is for the nil, too, that New gives beside an error: the state of none can't be named.
func (m *Machine) inner() *machine.Machine {
	if m == nil {
		return nil
	}
	return &m.state
}
