package lines

import (
	"slices"
	"testing"
)

func TestCut(t *testing.T) {
	for line, want := range map[string][]piece{
		"":                nil,
		" \t ":            nil,
		"# a":             nil,
		"j-4":             {{wordPiece, "j"}, {numberPiece, "-4"}},
		"j4":              {{wordPiece, "j4"}},
		"4j":              {{numberPiece, "4"}, {wordPiece, "j"}},
		"1-1":             {{numberPiece, "1"}, {numberPiece, "-1"}},
		"a b":             {{wordPiece, "a"}, {wordPiece, "b"}},
		"ld x1,\t8(x2)#":  {{wordPiece, "ld"}, {wordPiece, "x1"}, {markPiece, ","}, {numberPiece, "8"}, {markPiece, "("}, {wordPiece, "x2"}, {markPiece, ")"}},
		",,":              {{markPiece, ","}, {markPiece, ","}},
		"a :b":            {{wordPiece, "a"}, {markPiece, ":"}, {wordPiece, "b"}},
		"c.add":           {{wordPiece, "c.add"}},
		"c. add":          {{wordPiece, "c."}, {wordPiece, "add"}},
		"c .add":          {{wordPiece, "c"}, {wordPiece, ".add"}},
		"a:.byte-5":       {{wordPiece, "a"}, {markPiece, ":"}, {wordPiece, ".byte"}, {numberPiece, "-5"}},
		". byte5":         {{wordPiece, "."}, {wordPiece, "byte5"}},
		"-0000000000":     {{numberPiece, "-0000000000"}},
		"0123456789 # -,": {{numberPiece, "0123456789"}},
	} {
		got, ok := cut(line)
		if !ok || !slices.Equal(got, want) {
			t.Errorf("cut(%q) = %v, %v, want %v", line, got, ok, want)
		}
	}
}

func TestCutNot(t *testing.T) {
	for _, line := range []string{"-", "- 1", "--1", "a-", "-#1", "01234567890", "-01234567890", "A", "a;", "ä", "a\xff", "\r", "\n", "+1", "a_b"} {
		if got, ok := cut(line); ok || got != nil {
			t.Errorf("cut(%q) = %v, %v", line, got, ok)
		}
	}
}
