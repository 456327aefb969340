package machine

import (
	"pinion/api"
	"pinion/isa"
)

// A half with both of these bits is the low half of a word.
const wordMark = 3

// What is called for stands in this register.
const callRegister = 17

// Run does steps till an event is not Going, or so many have been done, and counts those that did their instruction.
func (m *Machine) Run(most int) (api.Event, int) {
	done := 0
	for range min(most, api.MaxRun) {
		event := m.Step()
		if event.Kind == api.Going || event.Kind == api.Call {
			done++
		}
		if event.Kind != api.Going {
			return event, done
		}
	}
	return api.Event{}, done
}

// Step does one step.
func (m *Machine) Step() api.Event {
	size := m.sizeAtPc()
	if !m.holds(m.Pc(), size) {
		return api.Event{Kind: api.Fetch, Value: m.Pc()}
	}
	number := m.read(m.pc, size)
	i, e := meaning(number, size)
	if e != api.OK {
		return api.Event{Kind: api.Illegal, Value: number}
	}
	return m.do(i, m.pc+size)
}

// sizeAtPc tells how many bytes there are to fetch, be they in memory or not.
func (m *Machine) sizeAtPc() int {
	if m.holds(m.Pc(), isa.HalfSize) && m.read(m.pc, isa.HalfSize)&wordMark == wordMark {
		return isa.WordSize
	}
	return isa.HalfSize
}

func meaning(number, size int) (api.Ins, api.Errno) {
	if size == isa.HalfSize {
		return isa.Expand(number)
	}
	return isa.Decode(number)
}

// do obeys an instruction; behind is the place behind it.
func (m *Machine) do(i api.Ins, behind int) api.Event {
	row, _ := isa.Right(i)
	first, second := m.registers[i.Rs1], m.registers[i.Rs2]
	switch row.Kind {
	case isa.KindR:
		return m.goOn(i.Rd, compute(i.Op, first, second), behind)
	case isa.KindI, isa.KindH, isa.KindW:
		return m.goOn(i.Rd, compute(i.Op, first, i.Imm), behind)
	case isa.KindL:
		if i.Op == isa.Jalr {
			return m.goOn(i.Rd, behind, (first+i.Imm)&^1)
		}
		return m.load(i, first+i.Imm, behind)
	case isa.KindS:
		return m.store(i, first+i.Imm, behind)
	case isa.KindB:
		if branches(i.Op, first, second) {
			return m.goOn(i.Rd, 0, m.pc+i.Imm)
		}
		return m.goOn(i.Rd, 0, behind)
	case isa.KindU:
		return m.goOn(i.Rd, m.upper(i), behind)
	case isa.KindJ:
		return m.goOn(i.Rd, behind, m.pc+i.Imm)
	default: // ecall and ebreak
		return m.leave(i.Op, behind)
	}
}

// goOn ends an instruction that was done: one that has no Rd has 0 there, and x0 stays as it is.
func (m *Machine) goOn(rd, value, pc int) api.Event {
	m.put(rd, value)
	m.pc = pc
	return api.Event{Kind: api.Going}
}

func (m *Machine) upper(i api.Ins) int {
	value := i.Imm * 4096
	if i.Op == isa.Auipc {
		value += m.pc
	}
	return value
}

func (m *Machine) leave(op, behind int) api.Event {
	if op == isa.Ebreak {
		return api.Event{Kind: api.Break, Value: m.pc}
	}
	m.pc = behind
	return api.Event{Kind: api.Call, Value: m.registers[callRegister]}
}
