package pinion

import (
	"iter"
	"slices"
	"strings"
	"testing"

	"pinion/api"
)

// told: a place and the text of the instruction there.
type told struct {
	at   int
	text string
}

// tell: what an iterator tells, left behind the first so many.
func tell(t *testing.T, all func(yield func(int, api.Ins) bool), most int) []told {
	t.Helper()
	var list []told
	for at, i := range all {
		text, e := Show(i)
		if e != api.OK {
			t.Errorf("P5: Items: at %d %+v", at, i)
		}
		list = append(list, told{at, text})
		if len(list) == most {
			break
		}
	}
	return list
}

func wantItems(t *testing.T, code string, want []told) {
	t.Helper()
	if got := tell(t, Items(code), -1); !slices.Equal(got, want) {
		t.Errorf("P5: Items(%x) = %v, want %v", code, got, want)
	}
}

const fiveItems = "\x01\x00\xb3\x00\x31\x00\x02\x90\x73\x00\x00\x00\x7d\x14"

var itsItems = []told{{0, "addi x0, x0, 0"}, {2, "add x1, x2, x3"}, {6, "ebreak"}, {8, "ecall"}, {12, "addi x8, x8, -1"}}

func TestP5Items(t *testing.T) {
	wantItems(t, fiveItems, itsItems)
	wantItems(t, "", nil)
	// Not the first of its forms, but an instruction.
	wantItems(t, "\x41\x61\x41\x01", []told{{0, "addi x2, x2, 16"}, {2, "addi x2, x2, 16"}})
	for _, c := range known {
		wantItems(t, wordBytes(c.word), []told{{0, c.text}})
	}
	for _, c := range knownHalves {
		wantItems(t, halfBytes(c.half), []told{{0, c.text}})
	}
}

// TestP5ItemsEnd: at what stands for none, and at the end, be it within an instruction.
func TestP5ItemsEnd(t *testing.T) {
	for _, none := range []string{"", "\x01", "\x13", "\x00", "\x00\x00", "\x00\x00\x01\x00", "\x13\x00", "\x13\x00\x00", "\xff\xff\xff\xff", "\xff\xff\x01\x00", "\x02\x80\x01\x00", "\x33\x00\x00\x80\x01\x00"} {
		wantItems(t, none, nil)
		wantItems(t, fiveItems+none, itsItems)
	}
}

func TestP5ItemsOfManyBytes(t *testing.T) {
	code := strings.Repeat("\x01\x00\x13\x00\x00\x00", 5000)
	count, last := 0, 0
	for at := range Items(code) {
		count, last = count+1, at
	}
	if count != 10000 || last != len(code)-4 {
		t.Errorf("P5: Items: %d, the last at %d", count, last)
	}
}

func TestP5ItemsLeftEarly(t *testing.T) {
	all := Items(fiveItems)
	for _, most := range []int{1, 3, 2, 5, 4, 1, 5} {
		if got := tell(t, all, most); !slices.Equal(got, itsItems[:most]) {
			t.Errorf("P5: Items, left behind %d: %v", most, got)
		}
		if got := tell(t, all, -1); !slices.Equal(got, itsItems) {
			t.Errorf("P5: Items again: %v", got)
		}
	}
}

// TestP5ItemsLeftMeansLeft: by hand, for a range statement hides it only by a panic.
func TestP5ItemsLeftMeansLeft(t *testing.T) {
	for most := 1; most <= 5; most++ {
		calls := 0
		Items(fiveItems)(func(int, api.Ins) bool {
			calls++
			return calls < most
		})
		if calls != most {
			t.Errorf("P5: Items, left at %d: %d calls", most, calls)
		}
	}
}

// TestP5ItemsTwoAtOnce: two that go through the same iterator don't disturb each other.
func TestP5ItemsTwoAtOnce(t *testing.T) {
	all := Items(fiveItems)
	next, stop := iter.Pull2(iter.Seq2[int, api.Ins](all))
	defer stop()
	for at, i := range all {
		otherAt, other, ok := next()
		if !ok || otherAt != at || other != i {
			t.Errorf("P5: Items: at %d %+v, and at %d %+v, %v", at, i, otherAt, other, ok)
		}
		if got := tell(t, all, -1); !slices.Equal(got, itsItems) {
			t.Errorf("P5: Items within: %v", got)
		}
	}
	if at, i, ok := next(); ok {
		t.Errorf("P5: Items: one more at %d, %+v", at, i)
	}
}
