package tests

import (
	"fmt"
	"math"
	"strings"
	"testing"

	"loop.example/g01224/impl"
)

// deedWords has the word of each kind, and how many numbers follow it.
var deedWords = []struct {
	kind    int64
	word    string
	numbers int
}{
	{impl.DdGive, "give", 2}, {impl.DdWork, "work", 1}, {impl.DdHand, "hand", 2}, {impl.DdDeliver, "deliver", 1},
	{impl.DdCopy, "copy", 1}, {impl.DdDrop, "drop", 1}, {impl.DdSave, "save", 0}, {impl.DdCrash, "crash", 0},
}

var deedNumbers = []int64{0, 1, 2, 7, 9, 10, 11, 99, 100, 101, 256, 998, 999}

var notDeedNumbers = []int64{-1, 1000, 1001, -999, 65536, 1 << 32, math.MinInt64, math.MaxInt64}

func deedText(word string, numbers ...int64) string {
	for _, number := range numbers {
		word += fmt.Sprint(" ", number)
	}
	return word
}

// goodDeeds has valid deeds and their texts.
func goodDeeds() map[impl.Deed]string {
	deeds := map[impl.Deed]string{}
	for _, x := range deedWords {
		for _, a := range deedNumbers {
			for _, b := range deedNumbers {
				switch x.numbers {
				case 0:
					deeds[impl.Deed{Kind: x.kind}] = x.word
				case 1:
					deeds[impl.Deed{Kind: x.kind, A: a}] = deedText(x.word, a)
				case 2:
					deeds[impl.Deed{Kind: x.kind, A: a, B: b}] = deedText(x.word, a, b)
				}
			}
		}
	}
	return deeds
}

// notDeeds has deeds that are not valid.
func notDeeds() []impl.Deed {
	list := []impl.Deed{{}, {A: 1}, {A: 1, B: 1}}
	for _, kind := range []int64{0, -1, 9, 10, 255, math.MinInt64, math.MaxInt64} {
		list = append(list, impl.Deed{Kind: kind}, impl.Deed{Kind: kind, A: 1, B: 2})
	}
	for _, x := range deedWords {
		for _, number := range notDeedNumbers {
			list = append(list, impl.Deed{Kind: x.kind, A: number}, impl.Deed{Kind: x.kind, B: number}, impl.Deed{Kind: x.kind, A: number, B: number})
		}
		for _, number := range deedNumbers[1:] {
			if x.numbers < 1 {
				list = append(list, impl.Deed{Kind: x.kind, A: number})
			}
			if x.numbers < 2 {
				list = append(list, impl.Deed{Kind: x.kind, B: number}, impl.Deed{Kind: x.kind, A: 1, B: number})
			}
		}
	}
	return list
}

func wantDeedRead(t *testing.T, text string, want impl.Deed, wantCode int64) {
	t.Helper()
	got, code := impl.ReadDeed(text)
	if got != want || code != wantCode {
		t.Errorf("ReadDeed %.100q: got %v, %d, want %v, %d", text, got, code, want, wantCode)
	}
}

// deedsOf returns the deeds with some texts.
func deedsOf(t *testing.T, texts ...string) []impl.Deed {
	t.Helper()
	var deeds []impl.Deed
	for _, text := range texts {
		d, code := impl.ReadDeed(text)
		if code != impl.OK {
			t.Fatalf("ReadDeed %q: got the code %d", text, code)
		}
		deeds = append(deeds, d)
	}
	return deeds
}

// repeat returns a deed so many times.
func repeat(t *testing.T, text string, count int) []impl.Deed {
	t.Helper()
	var deeds []impl.Deed
	for range count {
		deeds = append(deeds, deedsOf(t, text)...)
	}
	return deeds
}

func TestDeedsAndTheirTexts(t *testing.T) {
	for d, text := range goodDeeds() {
		if !impl.ValidDeed(d) {
			t.Errorf("ValidDeed %v: got false", d)
		}
		wantText(t, "DeedText", impl.DeedText(d), text)
		wantDeedRead(t, text, d, impl.OK)
	}
	for _, d := range notDeeds() {
		if impl.ValidDeed(d) {
			t.Errorf("ValidDeed %v: got true", d)
		}
		wantText(t, "DeedText of no deed", impl.DeedText(d), "")
	}
}

func TestAllNumbersOfDeeds(t *testing.T) {
	for number := range int64(1000) {
		d := impl.Deed{Kind: impl.DdGive, A: number, B: 999 - number}
		text := deedText("give", number, 999-number)
		wantText(t, "DeedText", impl.DeedText(d), text)
		wantDeedRead(t, text, d, impl.OK)
		wantDeedRead(t, deedText("drop", number), impl.Deed{Kind: impl.DdDrop, A: number}, impl.OK)
	}
}

// badDeedTexts has texts of no valid deed.
func badDeedTexts() []string {
	list := []string{"", " ", "  ", "\n", "0", "1", "0 0", "what", "give", "g 1 1", "rain 0", "bench 0", "Give 0 0", "GIVE 0 0", "gives 0 0", "giv 0 0", "give0 0", "give 00", "\xff", "give\x00 0 0", "saves", "sav", "Save", "crash!", "crashcrash"}
	for _, x := range deedWords {
		for count := range 5 {
			text := x.word + strings.Repeat(" 0", count)
			if count != x.numbers {
				list = append(list, text)
			}
			list = append(list, text+" ", " "+text, text+"\n", "\n"+text, text+"\t", text+"\r", text+" x", text+" -0", text+"  0", text+" 0 ", text+"0", text+"/1", x.word+"  0"+strings.Repeat(" 0", count))
		}
		for _, number := range append([]string{"1000", "9999", "99999", "999999", "-5", "0/1", "1/2"}, badNumbers...) {
			list = append(list, x.word+" "+number, x.word+" "+number+" 0", x.word+" 0 "+number, x.word+" "+number+" "+number)
		}
	}
	return append(list, strings.Repeat(" ", 500000), "give"+strings.Repeat(" 0", 250000), strings.Repeat("0", 500000), "drop "+strings.Repeat("9", 500000))
}

func TestTextsOfNoDeed(t *testing.T) {
	good := map[string]bool{}
	for _, text := range goodDeeds() {
		good[text] = true
	}
	looked := 0
	for _, text := range badDeedTexts() {
		if !good[text] {
			looked++
			wantDeedRead(t, text, impl.Deed{}, impl.ErrSyntax)
		}
	}
	if looked < 1500 {
		t.Errorf("just %d texts are looked at", looked)
	}
}
