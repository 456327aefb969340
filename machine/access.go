package machine

import (
	"pinion/api"
	"pinion/isa"
)

func (m *Machine) load(i api.Ins, address, behind int) api.Event {
	size := sizeOf(i.Op)
	if !m.holds(address, size) {
		return api.Event{Kind: api.Access, Value: address}
	}
	return m.goOn(i.Rd, signed(i.Op, m.read(address, size)), behind)
}

func (m *Machine) store(i api.Ins, address, behind int) api.Event {
	size := sizeOf(i.Op)
	if !m.holds(address, size) {
		return api.Event{Kind: api.Access, Value: address}
	}
	m.write(address, m.registers[i.Rs2], size)
	return m.goOn(i.Rd, 0, behind)
}

// sizeOf tells how many bytes a load or store has.
func sizeOf(op int) int {
	switch op {
	case isa.Lb, isa.Lbu, isa.Sb:
		return 1
	case isa.Lh, isa.Lhu, isa.Sh:
		return 2
	case isa.Lw, isa.Lwu, isa.Sw:
		return 4
	default: // ld and sd
		return 8
	}
}

// signed gives the bytes that a load has read their sign, if the load asks for it; those of ld fill the number.
func signed(op, number int) int {
	switch op {
	case isa.Lb:
		return int(int8(number))
	case isa.Lh:
		return int(int16(number))
	case isa.Lw:
		return int(int32(number))
	default:
		return number
	}
}
