package tests

import (
	"math"
	"strconv"
	"strings"
	"testing"

	"loop.example/g01224/impl"
)

func TestCodeName(t *testing.T) {
	names := []string{"ok", "invalid", "range", "limit", "state", "syntax", "notfound", "budget", "proof"}
	for code, want := range names {
		if got := impl.CodeName(int64(code)); got != want {
			t.Errorf("CodeName %d: got %q, want %q", code, got, want)
		}
	}
	for _, code := range []int64{-1, 9, 10, math.MinInt64, math.MaxInt64} {
		if got := impl.CodeName(code); got != "" {
			t.Errorf("CodeName %d: got %q, want none", code, got)
		}
	}
}

func TestSameNumber(t *testing.T) {
	otherNaN := math.Float32frombits(0xff800001)
	list := []struct {
		a, b float32
		want bool
	}{
		{0, 0, true}, {0, minus0, false}, {minus0, minus0, true}, {1, 1, true}, {1, -1, false},
		{1, math.Nextafter32(1, 2), false}, {noNumber, noNumber, true}, {noNumber, otherNaN, true},
		{noNumber, 1, false}, {1, otherNaN, false}, {infinite, infinite, true}, {infinite, -infinite, false},
		{infinite, noNumber, false}, {smallest, 0, false}, {smallest, smallest, true}, {greatest, infinite, false},
	}
	for _, x := range list {
		if impl.SameNumber(x.a, x.b) != x.want || impl.SameNumber(x.b, x.a) != x.want {
			t.Errorf("SameNumber %v %v: want %v", x.a, x.b, x.want)
		}
	}
}

func TestValidSizes(t *testing.T) {
	for _, number := range []float32{0, 1, 0.1, smallest, greatest} {
		if !impl.ValidSizes(fullSizes(number)) {
			t.Errorf("sizes of %v are valid", number)
		}
	}
	for class := range impl.Classes {
		for _, number := range notAmounts {
			c := fullSizes(1)
			c[class] = number
			if impl.ValidSizes(c) {
				t.Errorf("class %d: %v is no amount", class, number)
			}
		}
	}
}

func TestSameSizes(t *testing.T) {
	list := []float32{0, minus0, 1, math.Nextafter32(1, 2), infinite, -infinite, noNumber}
	for i, a := range list {
		for j, b := range list {
			if got := impl.SameSizes(fullSizes(a), fullSizes(b)); got != (i == j) {
				t.Errorf("SameSizes of %v and of %v: got %v", a, b, got)
			}
			for class := range impl.Classes {
				c, d := fullSizes(2), fullSizes(2)
				c[class], d[class] = a, b
				if got := impl.SameSizes(c, d); got != (i == j) {
					t.Errorf("SameSizes with %v and %v in the class %d: got %v", a, b, class, got)
				}
			}
		}
	}
	if !impl.SameSizes(fullSizes(noNumber), fullSizes(math.Float32frombits(0xffc00123))) {
		t.Error("every NaN is the same")
	}
}

func TestNumberText(t *testing.T) {
	list := map[string]float32{
		"00000000": 0, "80000000": minus0, "3f800000": 1, "bf800000": -1, "7f800000": infinite, "ff800000": -infinite,
		"00000001": smallest, "7f7fffff": greatest, "7fc00000": noNumber, "3dcccccd": 0.1, "00abcdef": math.Float32frombits(0xabcdef),
	}
	for text, number := range list {
		if got := impl.NumberText(number); got != text {
			t.Errorf("NumberText %v: got %q, want %q", number, got, text)
		}
		got, code := impl.ReadNumber(text)
		wantNumber(t, "ReadNumber "+text, got, code, number, impl.OK)
	}
	for _, bits := range []uint32{0x7f800001, 0xffc00000, 0x7fffffff, 0xffffffff, 0xff800001} {
		if got := impl.NumberText(math.Float32frombits(bits)); got != "7fc00000" {
			t.Errorf("NumberText of the NaN %08x: got %q", bits, got)
		}
	}
}

func TestReadNumberSyntax(t *testing.T) {
	list := []string{
		"", "0", "0000000", "000000000", "3F800000", "3f80000g", " 3f80000", "3f80000 ", "+3f80000", "-3f80000",
		"0x3f8000", "3f_80000", "3f800000 ", "3f800000\n", "7FC00000", "ffc00000", "7fc00001", "7f800001", "ff800001",
		"7fffffff", "ffffffff", "NaN", "\x00\x00\x00\x00\x00\x00\x00\x00", "éééé", strings.Repeat("0", 100000),
	}
	for _, text := range list {
		number, code := impl.ReadNumber(text)
		wantNumber(t, "ReadNumber "+strconv.Quote(text), number, code, 0, impl.ErrSyntax)
	}
}

func TestNumbersAreReadFromTheirTexts(t *testing.T) {
	for high := range uint32(1 << 16) {
		want := math.Float32frombits(high<<16 | high*40503&0xffff)
		got, code := impl.ReadNumber(impl.NumberText(want))
		wantNumber(t, "a number from its text", got, code, want, impl.OK)
	}
}

func TestSizesText(t *testing.T) {
	c := impl.Sizes{0: 1, 19: 0.1}
	want := "3f800000 " + strings.Repeat("00000000 ", 18) + "3dcccccd"
	if got := impl.SizesText(c); got != want {
		t.Errorf("SizesText: got %q, want %q", got, want)
	}
	if got := impl.SizesText(impl.Sizes{}); got != strings.Repeat("00000000 ", 19)+"00000000" {
		t.Errorf("SizesText of nothing: got %q", got)
	}
	for _, number := range notAmounts {
		if got := impl.SizesText(impl.Sizes{7: number}); got != "" {
			t.Errorf("SizesText with %v: got %q, want none", number, got)
		}
	}
	g := chance(1)
	for range 200 {
		c := g.sizes()
		got, code := impl.ReadSizes(impl.SizesText(c))
		wantSizes(t, "sizes from their text", got, code, c, impl.OK)
	}
	got, code := impl.ReadSizes(impl.SizesText(fullSizes(greatest)))
	wantSizes(t, "the greatest sizes", got, code, fullSizes(greatest), impl.OK)
}

func TestReadSizesSyntax(t *testing.T) {
	good := impl.SizesText(impl.Sizes{4: 2})
	list := []string{
		"", " ", good + " ", " " + good, good + "\n", good + " 00000000", good[9:], good[:170], good[:len(good)-1],
		strings.Replace(good, " ", "  ", 1), strings.Replace(good, " ", "\t", 1), strings.Replace(good, " ", ",", 1),
		strings.Replace(good, "40000000", "4000000A", 1), strings.Repeat(" ", 19), strings.Repeat("0", 179),
		strings.Repeat("00000000 ", 100000),
	}
	for _, number := range notAmounts { // only valid sizes have a text
		list = append(list, strings.Replace(good, "40000000", impl.NumberText(number), 1))
		list = append(list, good[:171]+impl.NumberText(number))
	}
	for _, text := range list {
		c, code := impl.ReadSizes(text)
		wantSizes(t, "ReadSizes "+strconv.Quote(text[:min(len(text), 200)]), c, code, impl.Sizes{}, impl.ErrSyntax)
	}
}
