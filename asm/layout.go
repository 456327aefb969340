package asm

import (
	"pinion/api"
	"pinion/isa"
)

// layOut gives each part its size, and tells the places of all parts and of the end.
func (p *program) layOut(short bool) []int {
	for n := range p.parts {
		p.parts[n].size = p.parts[n].firstSize(short)
	}
	places := p.places()
	for p.grow(places) {
		places = p.places()
	}
	return places
}

func (p part) firstSize(short bool) int {
	switch {
	case p.Data != "":
		return len(p.Data)
	case short && (p.Target != "" || hasShort(p.Ins)):
		return isa.HalfSize
	default:
		return isa.WordSize
	}
}

func hasShort(i api.Ins) bool {
	_, e := isa.Short(i)
	return e == api.OK
}

func (p *program) places() []int {
	places := []int{0}
	for n, part := range p.parts {
		places = append(places, places[n]+part.size)
	}
	return places
}

// grow makes those long that have no short form by these places, and tells whether there was one.
func (p *program) grow(places []int) bool {
	grown := false
	for n, part := range p.parts {
		if part.Target != "" && part.size == isa.HalfSize && !hasShort(p.placed(n, places)) {
			p.parts[n].size = isa.WordSize
			grown = true
		}
	}
	return grown
}

// placed tells the nth part's instruction as it is by these places.
func (p *program) placed(n int, places []int) api.Ins {
	i := p.parts[n].Ins
	if target := p.parts[n].Target; target != "" {
		i.Imm = places[p.names[target]] - places[n]
	}
	return i
}
