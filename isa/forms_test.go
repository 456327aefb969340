package isa

import (
	"strings"
	"testing"
)

// TestFormsAreWellMade: what reading and writing a half lean on.
func TestFormsAreWellMade(t *testing.T) {
	for _, f := range forms() {
		if len(f.half) != 16 || strings.Trim(f.half, "01dsti") != "" {
			t.Errorf("%s: no half", f.half)
		}
		if len(f.order) != strings.Count(f.half, "i") || strings.Trim(f.order, "0123456789ab") != "" {
			t.Errorf("%s: Imm has the bits %q", f.half, f.order)
		}
		for n := range len(f.order) {
			if f.signed && f.immBit(n) > f.immBit(0) {
				t.Errorf("%s: the sign is not the highest bit of %q", f.half, f.order)
			}
		}
		for letter, from := range map[string]slot{"d": f.rd, "s": f.rs1, "t": f.rs2} {
			count := strings.Count(f.half, letter)
			if count != 0 && count != 3 && count != 5 || count != 0 && from != slot(letter[0]) {
				t.Errorf("%s: %d bits of %s, for %c", f.half, count, letter, rune(from))
			}
		}
	}
}

func TestBytes(t *testing.T) {
	for _, c := range []struct {
		number, count int
		want          string
	}{
		{0, 0, ""}, {255, 1, "\xff"}, {258, 2, "\x02\x01"}, {1, 4, "\x01\x00\x00\x00"}, {0xfedcba98, 4, "\x98\xba\xdc\xfe"},
	} {
		if got := Bytes(c.number, c.count); got != c.want {
			t.Errorf("Bytes(%d, %d) = %x, want %x", c.number, c.count, got, c.want)
		}
		if got := Number(c.want); got != c.number {
			t.Errorf("Number(%x) = %d, want %d", c.want, got, c.number)
		}
	}
}
