package pinion

import (
	"strconv"
	"strings"
	"testing"

	"pinion/api"
)

// wantText: the text of some bytes, and the bytes again of the text.
func wantText(t *testing.T, code, want string) {
	t.Helper()
	text, e := Disassemble(code)
	if text != want || e != api.OK {
		t.Errorf("P6: Disassemble(%x) = %q, %d, want %q", code, text, e, want)
	}
	wantBytes(t, text, false, code)
}

func TestP6Instructions(t *testing.T) {
	for _, c := range known {
		wantText(t, wordBytes(c.word), c.text+"\n")
	}
	for _, c := range knownHalves {
		wantText(t, halfBytes(c.half), "c."+c.text+"\n")
		word, _ := Encode(mustRead(t, c.text))
		wantText(t, wordBytes(word), c.text+"\n") // not made short
	}
}

func TestP6Bytes(t *testing.T) {
	for code, want := range map[string]string{
		"":                         "",
		"\x00":                     ".byte 0\n",
		"\x01":                     ".byte 1\n",
		"\x13":                     ".byte 19\n",
		"\xff":                     ".byte 255\n",
		"\x00\x00":                 ".half 0\n",
		"\xff\xff":                 ".half 65535\n",
		"\x02\x01":                 ".half 258\n",
		"\x13\x00":                 ".half 19\n",
		"\x13\x00\x00":             ".half 19\n.byte 0\n",
		"\x01\x00\x00":             "c.addi x0, x0, 0\n.byte 0\n",
		"\x00\x00\x00":             ".half 0\n.byte 0\n",
		"\x13\x00\x00\x00\x13\x00": "addi x0, x0, 0\n.half 19\n",
		"\xff\xff\xff\xff":         ".half 65535\n.half 65535\n",
		"\xff\xff\x01\x00":         ".half 65535\nc.addi x0, x0, 0\n",
		"\xff\xff\x13\x00\x00\x00": ".half 65535\naddi x0, x0, 0\n",
		"\x33\x00\x00\x80":         ".half 51\n.half 32768\n",
		"\x7f\x00\x02\x90\x01":     ".half 127\nc.ebreak\n.byte 1\n",
		"\x63\x08\x00\xfe":         "beq x0, x0, -2064\n",
		"\x6f\x00\x00\x80":         "jal x0, -1048576\n",
		"\x73\x00\x20\x00":         ".half 115\nc.addi x8, x2, 8\n",
	} {
		wantText(t, code, want)
	}
}

// TestP6NotTheFirstForm: a half that is not the short form of what it stands for would not come back.
func TestP6NotTheFirstForm(t *testing.T) {
	wantText(t, "\x41\x01\x41\x61\x7d\x71\x3d\x71", "c.addi x2, x2, 16\n.half 24897\n.half 29053\n.half 28989\n")
}

func TestP6EveryHalf(t *testing.T) {
	for half := range 65536 {
		want := ".half " + strconv.Itoa(half) + "\n"
		if i, e := Expand(half); e == api.OK {
			if first, _ := Short(i); first == half {
				text, _ := Show(i)
				want = "c." + text + "\n"
			}
		}
		wantText(t, halfBytes(half), want)
	}
}

func TestP6Size(t *testing.T) {
	for _, code := range []string{strings.Repeat("\x01\x00", 512), strings.Repeat("\x13\x00\x00\x00", 256), strings.Repeat("\x00", 1024), strings.Repeat("\xff", 1023)} {
		text, e := Disassemble(code)
		if e != api.OK || strings.Count(text, "\n") < 256 || !strings.HasSuffix(text, "\n") {
			t.Errorf("P6: Disassemble of %d bytes = %d bytes, %d", len(code), len(text), e)
		}
	}
	for _, size := range []int{1025, 1026, 1028, 4096, 1 << 20} {
		if text, e := Disassemble(strings.Repeat("\x01", size)); text != "" || e != api.ErrSize {
			t.Errorf("P6: Disassemble of %d bytes = %q, %d, want ErrSize", size, text, e)
		}
	}
	// A text that is too long to come back is right all the same.
	text, _ := Disassemble(strings.Repeat("\x01\x00", 512))
	if text != strings.Repeat("c.addi x0, x0, 0\n", 512) {
		t.Errorf("P6: Disassemble = %q", text)
	}
	wantFault(t, text, api.ErrLong, 0)
}

// TestP6AnyBytes: nothing is lost.
func TestP6AnyBytes(t *testing.T) {
	n := uint32(2463534242)
	for range 2000 {
		var code []byte
		for range n % 67 {
			n ^= n << 13
			n ^= n >> 17
			n ^= n << 5
			b := byte(n)
			if n&0x300 == 0 {
				b = "\x13\x33\x63\x6f\x73\x03\x23\x37"[n>>10&7] // so that there are words too
			}
			code = append(code, b)
		}
		n += 7
		text, e := Disassemble(string(code))
		if back, f := Assemble(text, false); back != string(code) || e != api.OK || f != (api.Fault{}) {
			t.Fatalf("P6: of %x the text is %q, %d, and of that %x, %+v", code, text, e, back, f)
		}
	}
}
