// Package pinion: text to bytes, bytes to text, and a machine that runs them: see DOC.md.
package pinion

import (
	"pinion/api"
	"pinion/asm"
	"pinion/isa"
	"pinion/lines"
)

// Encode tells an instruction's word (P2).
func Encode(i api.Ins) (int, api.Errno) { return isa.Encode(i) }

// Decode tells a word's instruction (P2).
func Decode(word int) (api.Ins, api.Errno) { return isa.Decode(word) }

// Show tells an instruction's text (P3).
func Show(i api.Ins) (string, api.Errno) { return lines.Show(i) }

// Read tells a text's instruction (P3).
func Read(text string) (api.Ins, api.Errno) { return lines.Read(text) }

// Short tells an instruction's short form (P4).
func Short(i api.Ins) (int, api.Errno) { return isa.Short(i) }

// Expand tells what a half stands for (P4).
func Expand(half int) (api.Ins, api.Errno) { return isa.Expand(half) }

// Assemble makes bytes of a text (P5).
func Assemble(text string, short bool) (string, api.Fault) { return asm.Assemble(text, short) }

// Disassemble makes a text of bytes (P6).
func Disassemble(code string) (string, api.Errno) { return asm.Disassemble(code) }

// Items goes through the instructions of some bytes (P5).
func Items(code string) func(yield func(at int, i api.Ins) bool) {
	return asm.Items(code)
}

// Machine has memory, registers, and a pc.
type Machine struct{}

// New makes a machine (P7).
func New(code string) (*Machine, api.Errno) { return nil, api.OK }

// Set sets a register (P7).
func (m *Machine) Set(register int, value int) api.Errno { return api.OK }

// Get tells a register (P7).
func (m *Machine) Get(register int) (int, api.Errno) { return 0, api.OK }

// Poke writes a byte (P7).
func (m *Machine) Poke(address int, value int) api.Errno { return api.OK }

// Peek reads a byte (P7).
func (m *Machine) Peek(address int) (int, api.Errno) { return 0, api.OK }

// Pc tells pc (P7).
func (m *Machine) Pc() int { return 0 }

// Step does one step (P7).
func (m *Machine) Step() api.Event { return api.Event{} }

// Run does steps (P7).
func (m *Machine) Run(most int) (api.Event, int) { return api.Event{}, 0 }
