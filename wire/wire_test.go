package wire

import (
	"strings"
	"testing"

	"dispatch/api"
)

func TestSumOf(t *testing.T) {
	for _, c := range []struct {
		text string
		want Sum
	}{
		{"", Sum{}},
		{"a", Sum{'a', 0, 0, 0}},
		{"pull", Sum{'p', 'u', 'l', 'l'}},
		{"\x01\x02\x03\x04\x05", Sum{8, 2, 3, 4}},
		{"\x01\x00\x00\x00\x01\x00\x00\x00\x01", Sum{13, 0, 0, 0}},
		{"\x00\x00\x00\xff\x00\x00\x00\xff", Sum{0, 0, 0, 0xfc}},
	} {
		if got := SumOf(c.text); got != c.want {
			t.Errorf("SumOf(%q) = %v, want %v", c.text, got, c.want)
		}
	}
}

func TestSealAndOpen(t *testing.T) {
	for _, c := range []struct{ text, line string }{
		{"", " 00000000"},
		{"pull", "pull 70756c6c"},
		{"sub 1 a x", "sub 1 a x 167f8780"},
		{" ", "  20000000"},
		{"\x0f\xf0", "\x0f\xf0 0ff00000"},
		{"α", "α ceb10000"},
	} {
		if got := Seal(c.text); got != c.line {
			t.Errorf("Seal(%q) = %q, want %q", c.text, got, c.line)
		}
		if got, ok := Open(c.line); !ok || got != c.text {
			t.Errorf("Open(%q) = %q, %v, want %q", c.line, got, ok, c.text)
		}
	}
}

func TestOpenRefuses(t *testing.T) {
	for _, line := range []string{
		"", " ", "0", "00000000", "x00000000", "\t00000000",
		"pull", "pull ", "pull70756c6c", "pull 70756c6", "pull 70756c6c0", "pull 070756c6c",
		"pull 70756C6C", "pull 70756c6g", "pull 7075 c6c", "pull 7075\xff\xff6c",
		"pull 70756c6c ", "pull 70756c6c\r", " pull 70756c6c", "pull\t70756c6c",
		"\xff fF000000", "\xff Ff000000", "\xff fx000000", "\xff xf000000",
	} {
		if text, ok := Open(line); ok || text != "" {
			t.Errorf("Open(%q) = %q, %v, want a refusal", line, text, ok)
		}
	}
}

func TestOpenHoldsEveryDigitOfTheSum(t *testing.T) {
	line := Seal("sub 1 a x")
	for i := len(line) - 8; i < len(line); i++ {
		for _, digit := range []byte(digits) {
			changed := line[:i] + string(digit) + line[i+1:]
			if _, ok := Open(changed); ok != (changed == line) {
				t.Errorf("Open(%q): %v", changed, ok)
			}
		}
	}
}

func TestOpenAtTheBound(t *testing.T) {
	for n := api.MaxLine - 2; n <= api.MaxLine+2; n++ {
		line := Seal(strings.Repeat("x", n-tailBytes))
		if len(line) != n {
			t.Fatalf("a line of %d bytes, want %d", len(line), n)
		}
		if _, ok := Open(line); ok != (n <= api.MaxLine) {
			t.Errorf("Open of a line of %d bytes: %v", n, ok)
		}
	}
}

func TestPending(t *testing.T) {
	var p Pending
	if !p.Empty() || p.End() != "" {
		t.Error("a new one is not empty")
	}
	p.Add("ab")
	p.Add("")
	p.Add("c")
	if p.Empty() {
		t.Error("empty with three bytes")
	}
	first := p.End()
	p.Add("xyz")
	if first != "abc" || p.End() != "xyz" || !p.Empty() {
		t.Errorf("the first line is %q", first)
	}
}

func TestPendingKeepsLittleOfALongLine(t *testing.T) {
	var p Pending
	whole := strings.Repeat("y", api.MaxLine)
	p.Add(whole)
	if line := p.End(); line != whole {
		t.Errorf("a line at the bound: %q", line)
	}
	for range 1000 {
		p.Add(strings.Repeat("z", 777))
		p.Add("z")
	}
	if n := cap(p.kept); n > 4*api.MaxLine {
		t.Errorf("room for %d bytes", n)
	}
	if n := len(p.End()); n <= api.MaxLine {
		t.Errorf("a long line has only %d bytes", n)
	}
	p.Add("short")
	if line := p.End(); line != "short" {
		t.Errorf("behind a long line: %q", line)
	}
}
