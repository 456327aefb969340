// Package lines cuts a line of assembly into pieces, reads statements, and writes instructions as texts.
package lines

import "strings"

const maxDigits = 10

type pieceKind int

const (
	noPiece pieceKind = iota
	wordPiece
	numberPiece
	markPiece
)

// piece is a name or register (a word), a number, or a comma, colon or bracket (a mark).
type piece struct {
	kind pieceKind
	text string
}

// cutter holds the pieces so far, and of the piece that is not yet at its end the kind and where it begins.
type cutter struct {
	line   string
	pieces []piece
	kind   pieceKind
	from   int
}

// cut tells the pieces of a line, and whether it is made of pieces alone.
func cut(line string) ([]piece, bool) {
	line, _, _ = strings.Cut(line, "#")
	c := cutter{line: line}
	for at, r := range line {
		if c.goesOn(r) {
			continue
		}
		if !c.end(at) || !c.begin(at, r) {
			return nil, false
		}
	}
	if !c.end(len(line)) {
		return nil, false
	}
	return c.pieces, true
}

func (c *cutter) goesOn(r rune) bool {
	switch c.kind {
	case wordPiece:
		return isLetter(r) || isDigit(r) || r == '.'
	case numberPiece:
		return isDigit(r)
	}
	return false
}

func (c *cutter) begin(at int, r rune) bool {
	c.from = at
	switch {
	// A dot is part of its word, as no blank may stand behind it, nor within "c.".
	case isLetter(r) || r == '.':
		c.kind = wordPiece
	case isDigit(r) || r == '-':
		c.kind = numberPiece
	case r == ',' || r == ':' || r == '(' || r == ')':
		c.kind = markPiece
	case r == ' ' || r == '\t':
		c.kind = noPiece
	default:
		return false
	}
	return true
}

func (c *cutter) end(at int) bool {
	if c.kind == noPiece {
		return true
	}
	p := piece{c.kind, c.line[c.from:at]}
	c.pieces = append(c.pieces, p)
	return p.kind != numberPiece || isInt(p.text)
}

// isInt is asked of digits with or without a sign ahead: only their count can be wrong.
func isInt(text string) bool {
	digits := len(strings.TrimPrefix(text, "-"))
	return 1 <= digits && digits <= maxDigits
}

func isLetter(r rune) bool { return 'a' <= r && r <= 'z' }

func isDigit(r rune) bool { return '0' <= r && r <= '9' }
