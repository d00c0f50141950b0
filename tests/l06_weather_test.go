package tests

import (
	"fmt"
	"math"
	"regexp"
	"slices"
	"strconv"
	"strings"
	"testing"

	"loop.example/g01224/impl"
)

func sameActs(a, b impl.Act) bool {
	return a.Kind == b.Kind && a.Cell == b.Cell && sameNumbers(a.A, b.A) && sameNumbers(a.B, b.B)
}

func wantCompiled(t *testing.T, text string, want []impl.Act, wantLine, wantCode int64) {
	t.Helper()
	got, line, code := impl.CompileWeather(text)
	if !slices.EqualFunc(got, want, sameActs) || line != wantLine || code != wantCode {
		t.Errorf("CompileWeather %.200q: got %v, %d, %d, want %v, %d, %d", text, got, line, code, want, wantLine, wantCode)
	}
}

func wantNotCompiled(t *testing.T, text string, wantLine, wantCode int64) {
	t.Helper()
	wantCompiled(t, text, nil, wantLine, wantCode)
}

func heatAct(cell int64, a float32) impl.Act {
	return impl.Act{Kind: impl.AcHeat, Cell: cell, A: a}
}
func waitAct(ticks float32) impl.Act { return impl.Act{Kind: impl.AcWait, A: ticks} }
func stirAct(share float32) impl.Act { return impl.Act{Kind: impl.AcStir, A: share} }

func waits(count int) []impl.Act { return slices.Repeat([]impl.Act{waitAct(1)}, count) }

// lineTexts has the lines of the table, and the text that ActText makes of them.
var lineTexts = []struct {
	line string
	act  impl.Act
	text string
}{
	{"heat 0 5", heatAct(0, 5), "heat 0 5"},
	{"heat 7 -5", heatAct(7, -5), "heat 7 -5"},
	{"heat 3 0", heatAct(3, 0), "heat 3 0"},
	{"heat 3 -0", heatAct(3, 0), "heat 3 0"},
	{"heat 3 0/2", heatAct(3, 0), "heat 3 0"},
	{"heat 3 -0/1024", heatAct(3, 0), "heat 3 0"},
	{"heat 1 1/2", heatAct(1, 0.5), "heat 1 1/2"},
	{"heat 1 -1/2", heatAct(1, -0.5), "heat 1 -1/2"},
	{"heat 1 3/4", heatAct(1, 0.75), "heat 1 3/4"},
	{"heat 1 2/4", heatAct(1, 0.5), "heat 1 1/2"},
	{"heat 1 1/8", heatAct(1, 0.125), "heat 1 1/8"},
	{"heat 1 1/16", heatAct(1, 0.0625), "heat 1 1/16"},
	{"heat 1 1/32", heatAct(1, 0x1p-5), "heat 1 1/32"},
	{"heat 1 1/64", heatAct(1, 0x1p-6), "heat 1 1/64"},
	{"heat 1 1/128", heatAct(1, 0x1p-7), "heat 1 1/128"},
	{"heat 1 1/256", heatAct(1, 0x1p-8), "heat 1 1/256"},
	{"heat 1 1/512", heatAct(1, 0x1p-9), "heat 1 1/512"},
	{"heat 1 1/1024", heatAct(1, 0x1p-10), "heat 1 1/1024"},
	{"heat 1 -1023/1024", heatAct(1, -1023.0/1024), "heat 1 -1023/1024"},
	{"heat 1 1024/1024", heatAct(1, 1), "heat 1 1"},
	{"heat 1 1020/1024", heatAct(1, 255.0/256), "heat 1 255/256"},
	{"heat 1 4096/8", heatAct(1, 512), "heat 1 512"},
	{"heat 1 999999", heatAct(1, 999999), "heat 1 999999"},
	{"heat 1 -999999", heatAct(1, -999999), "heat 1 -999999"},
	{"heat 1 999999/1024", heatAct(1, 999999.0/1024), "heat 1 999999/1024"},
	{"heat 1 -999998/1024", heatAct(1, -499999.0/512), "heat 1 -499999/512"},
	{"heat 1 999999/2", heatAct(1, 499999.5), "heat 1 999999/2"},
	{"heat 1 100000", heatAct(1, 100000), "heat 1 100000"},
	{"wet 2 10", impl.Act{Kind: impl.AcWet, Cell: 2, A: 10}, "wet 2 10"},
	{"wet 2 -10/4", impl.Act{Kind: impl.AcWet, Cell: 2, A: -2.5}, "wet 2 -5/2"},
	{"seed 3 1/2 8", impl.Act{Kind: impl.AcSeed, Cell: 3, A: 0.5, B: 8}, "seed 3 1/2 8"},
	{"seed 4 1000 17/2", impl.Act{Kind: impl.AcSeed, Cell: 4, A: 1000, B: 8.5}, "seed 4 1000 17/2"},
	{"seed 4 -0 -0/2", impl.Act{Kind: impl.AcSeed, Cell: 4}, "seed 4 0 0"},
	{"seed 4 -1 -8/16", impl.Act{Kind: impl.AcSeed, Cell: 4, A: -1, B: -0.5}, "seed 4 -1 -1/2"},
	{"nuclei 5 100", impl.Act{Kind: impl.AcNuclei, Cell: 5, A: 100}, "nuclei 5 100"},
	{"nuclei 6 -3/8", impl.Act{Kind: impl.AcNuclei, Cell: 6, A: -0.375}, "nuclei 6 -3/8"},
	{"stir 1/4", stirAct(0.25), "stir 1/4"},
	{"stir 2", stirAct(2), "stir 2"},
	{"stir -1", stirAct(-1), "stir -1"},
	{"stir -0", stirAct(0), "stir 0"},
	{"wait 0", waitAct(0), "wait 0"},
	{"wait 1", waitAct(1), "wait 1"},
	{"wait 10", waitAct(10), "wait 10"},
	{"wait 200", waitAct(200), "wait 200"},
}

func TestLinesOfTheTable(t *testing.T) {
	all, acts := "", []impl.Act(nil)
	for _, x := range lineTexts {
		wantCompiled(t, x.line, []impl.Act{x.act}, 0, impl.OK)
		wantCompiled(t, x.line+"\n", []impl.Act{x.act}, 0, impl.OK)
		wantText(t, "ActText", impl.ActText(x.act), x.text)
		wantCompiled(t, x.text, []impl.Act{x.act}, 0, impl.OK)
		all, acts = all+x.line+"\n", append(acts, x.act)
	}
	wantCompiled(t, all, acts, 0, impl.OK)
	wantCompiled(t, all[:len(all)-1], acts, 0, impl.OK)
	for cell := range int64(8) {
		for kind, word := range map[int64]string{impl.AcHeat: "heat", impl.AcWet: "wet", impl.AcNuclei: "nuclei"} {
			text := word + " " + strconv.FormatInt(cell, 10) + " 1/2"
			wantCompiled(t, text, []impl.Act{{Kind: kind, Cell: cell, A: 0.5}}, 0, impl.OK)
		}
	}
	for ticks := range 201 {
		wantCompiled(t, "wait "+strconv.Itoa(ticks), []impl.Act{waitAct(float32(ticks))}, 0, impl.OK)
	}
}

// badNumbers are no fractions, and no whole numbers.
var badNumbers = []string{
	"", "-", "--1", "+1", "+0", "- 1", "01", "00", "-01", "-00", "007", "1000000", "-1000000", "1234567", "0000000", "99999999999999999999999",
	"1.0", "0.5", ".5", "1e3", "0x1", "1_0", "1,0", "a", "1a", "a1", "NaN", "Inf", "٣", "１", "½", "1 ", " 1", "1\t", "\t1", "1\r", "1\x00",
}

// badFractions are numbers with a denominator that is none.
var badFractions = []string{
	"1/", "1/0", "1/1", "1/3", "1/5", "1/6", "1/7", "1/9", "1/10", "1/12", "1/24", "1/48", "1/96", "1/100", "1/1000", "1/1023", "1/1025", "1/2048",
	"1/4096", "1/65536", "1/1000000", "1/02", "1/002", "1/-2", "1/+2", "-1/-2", "/2", "-/2", "1/2/2", "1//2", "1 /2", "1/ 2", "01/2", "-01/2",
	"1000000/2", "1/2.0", "1/2a", "1/1024/", "1\\2", "0/1", "-0/1", "0/3",
}

// syntaxErrors returns lines that are none.
func syntaxErrors() []string {
	list := []string{
		"", " ", "  ", "what", "column", "heat", "wet", "seed", "nuclei", "stir", "wait", "times", "end ", " end", "end 1", "end 0", "END", "End", "ends", "en",
		"heat 1", "heat 5 ", "heat 1 ", " heat 1 5", "heat  1 5", "heat 1  5", "heat 1 5 ", "heat 1 5 6", "heat 1 5 0", "heat1 5", "heat\t1 5", "Heat 1 5", "HEAT 1 5", "heats 1 5", "hea 1 5",
		"heat 1 5\r", "heat 1,5", "wet 1", "wet 1 2 3", "wet", "seed 1", "seed 1 2", "seed 1 2 ", "seed 1 2 3 4", "seed 1  2 3", "seed  1 2 3", "seed 1 2  3", "seed 1 2 3 ",
		"nuclei 1", "nuclei 1 2 3", "stir 1 1/2", "stir 0 0", "stir  1/2", "stir 1/2 ", "stir ", "wait 1 2", "wait  1", "wait 1 ", "wait ", " wait 1", "wait 1/2", "wait 2/1", "wait 2/2", "wait -1", "wait -0",
		"times 1 2", "times  2", "times 2 ", "times ", " times 2", "times 1/2", "times 2/2", "times -1", "times -0", "time 2", "# wait 1", "wait 1; wait 2", "wait 1\v",
	}
	for _, cell := range append([]string{"8", "9", "10", "70", "-0", "7/2", "0/2"}, badNumbers...) {
		list = append(list, "heat "+cell+" 1", "wet "+cell+" 1", "seed "+cell+" 1 8", "nuclei "+cell+" 1")
	}
	for _, number := range append(badFractions, badNumbers...) {
		list = append(list, "heat 1 "+number, "wet 1 "+number, "seed 1 "+number+" 8", "seed 1 8 "+number, "nuclei 1 "+number, "stir "+number, "wait "+number, "times "+number)
	}
	return list
}

func TestCompileWeatherSyntax(t *testing.T) {
	for _, line := range syntaxErrors() {
		want := int64(0)
		wantNotCompiled(t, line+"\n", want, impl.ErrSyntax)
		wantNotCompiled(t, line+"\nwait 1", want, impl.ErrSyntax)
		wantNotCompiled(t, "wait 1\n"+line+"\n", 1, impl.ErrSyntax)
		wantNotCompiled(t, "times 2\nwait 1\n"+line+"\nend", 2, impl.ErrSyntax)
		wantNotCompiled(t, "times 2\nwait 1\n"+line+"\n", 2, impl.ErrSyntax)
		wantNotCompiled(t, "times 2\nwait 1\nend\n"+line+"\nwait 201", 3, impl.ErrSyntax)
	}
}

func TestLinesOfATextAreSeparated(t *testing.T) {
	wantCompiled(t, "", nil, 0, impl.OK)
	wantNotCompiled(t, "\n", 0, impl.ErrSyntax)
	wantNotCompiled(t, "\n\n", 0, impl.ErrSyntax)
	wantCompiled(t, "wait 1", waits(1), 0, impl.OK)
	wantCompiled(t, "wait 1\n", waits(1), 0, impl.OK)
	wantNotCompiled(t, "wait 1\n\n", 1, impl.ErrSyntax)
	wantCompiled(t, "wait 1\nwait 1", waits(2), 0, impl.OK)
	wantCompiled(t, "wait 1\nwait 1\n", waits(2), 0, impl.OK)
	wantNotCompiled(t, "wait 1\n\nwait 1", 1, impl.ErrSyntax)
	wantNotCompiled(t, "\nwait 1", 0, impl.ErrSyntax)
	wantNotCompiled(t, "wait 1\n ", 1, impl.ErrSyntax)
	wantNotCompiled(t, "wait 1\r\nwait 1\r\n", 0, impl.ErrSyntax)
	wantNotCompiled(t, "wait 1 wait 1", 0, impl.ErrSyntax)
	wantNotCompiled(t, "times 2\n\nend", 1, impl.ErrSyntax)
}

func TestCompileWeatherRanges(t *testing.T) {
	for _, number := range []string{"201", "202", "1000", "65736", "100000", "999999"} {
		wantNotCompiled(t, "wait "+number, 0, impl.ErrRange)
		wantNotCompiled(t, "wait 1\nwait "+number+"\nwhat", 1, impl.ErrRange)
		wantNotCompiled(t, "times 3\nwait "+number+"\nend", 1, impl.ErrRange)
	}
	for _, number := range []string{"0", "17", "18", "100", "256", "65537", "999999"} {
		wantNotCompiled(t, "times "+number, 0, impl.ErrRange)
		wantNotCompiled(t, "times "+number+"\nend", 0, impl.ErrRange)
		wantNotCompiled(t, "wait 1\ntimes "+number+"\nwhat\nend", 1, impl.ErrRange)
	}
	wantNotCompiled(t, "what\nwait 201", 0, impl.ErrSyntax)
	wantNotCompiled(t, "wait 201\nend", 0, impl.ErrRange)
	wantNotCompiled(t, "end\nwait 201", 0, impl.ErrState)
}

// repeated makes the text of a times.
func repeated(count int, body string) string {
	return "times " + strconv.Itoa(count) + "\n" + body + "end\n"
}

func TestTimes(t *testing.T) {
	ab := []impl.Act{heatAct(1, 2), waitAct(3)}
	for count := 1; count <= 16; count++ {
		want := slices.Repeat(ab, count)
		wantCompiled(t, repeated(count, "heat 1 2\nwait 3\n"), want, 0, impl.OK)
		wantCompiled(t, repeated(count, ""), nil, 0, impl.OK)
		wantCompiled(t, repeated(count, repeated(17-count, "")), nil, 0, impl.OK)
		want = append(append([]impl.Act{waitAct(7)}, want...), waitAct(8))
		wantCompiled(t, "wait 7\n"+repeated(count, "heat 1 2\nwait 3\n")+"wait 8\n", want, 0, impl.OK)
		for inner := 1; inner <= 16 && count*(2+2*inner) <= 120; inner++ {
			part := append(append([]impl.Act{waitAct(7)}, slices.Repeat(ab, inner)...), waitAct(8))
			text := repeated(count, "wait 7\n"+repeated(inner, "heat 1 2\nwait 3\n")+"wait 8\n")
			wantCompiled(t, text, slices.Repeat(part, count), 0, impl.OK)
			wantCompiled(t, text[:len(text)-1], slices.Repeat(part, count), 0, impl.OK)
		}
	}
	two := slices.Concat(slices.Repeat([]impl.Act{waitAct(1)}, 2), slices.Repeat([]impl.Act{waitAct(2)}, 3))
	wantCompiled(t, repeated(2, "wait 1\n")+repeated(3, "wait 2\n"), two, 0, impl.OK)
	wantCompiled(t, repeated(4, repeated(2, "wait 1\n")+repeated(3, "wait 2\n")), slices.Repeat(two, 4), 0, impl.OK)
	wantCompiled(t, repeated(2, "")+"wait 1\n", waits(1), 0, impl.OK)
	wantCompiled(t, repeated(16, repeated(16, "")+repeated(16, "")), nil, 0, impl.OK)
}

func TestTimesWithinTimes(t *testing.T) {
	wantNotCompiled(t, "times 1\ntimes 1\ntimes 1", 2, impl.ErrLimit)
	wantNotCompiled(t, "times 1\ntimes 1\ntimes 1\nend\nend\nend", 2, impl.ErrLimit)
	wantNotCompiled(t, "times 2\nwait 1\ntimes 2\nwait 1\ntimes 2\nwhat", 4, impl.ErrLimit)
	wantNotCompiled(t, "times 1\ntimes 1\nend\ntimes 1\ntimes 1\nend\nend\nend", 4, impl.ErrLimit)
	wantNotCompiled(t, "times 1\ntimes 1\ntimes 17", 2, impl.ErrRange)
	wantNotCompiled(t, "times 1\ntimes 1\ntimes 0", 2, impl.ErrRange)
	wantNotCompiled(t, "times 1\ntimes 1\ntimes", 2, impl.ErrSyntax)
	wantCompiled(t, "times 1\ntimes 1\nend\ntimes 1\nwait 1\nend\nend\ntimes 1\ntimes 1\nend\nend", waits(1), 0, impl.OK)
}

func TestEnds(t *testing.T) {
	wantNotCompiled(t, "end", 0, impl.ErrState)
	wantNotCompiled(t, "end\n", 0, impl.ErrState)
	wantNotCompiled(t, "wait 1\nend\nwhat", 1, impl.ErrState)
	wantNotCompiled(t, "times 3\nend\nend", 2, impl.ErrState)
	wantNotCompiled(t, "times 2\ntimes 2\nend\nend\nend\n", 4, impl.ErrState)
	wantNotCompiled(t, "times 1", 1, impl.ErrState)
	wantNotCompiled(t, "times 1\n", 1, impl.ErrState)
	wantNotCompiled(t, "times 2\nwait 1", 2, impl.ErrState)
	wantNotCompiled(t, "times 2\nwait 1\n", 2, impl.ErrState)
	wantNotCompiled(t, "wait 1\ntimes 2\nwait 1\nwait 2\n", 4, impl.ErrState)
	wantNotCompiled(t, "times 2\ntimes 2\nend", 3, impl.ErrState)
	wantNotCompiled(t, "times 2\ntimes 2\nend\n", 3, impl.ErrState)
	wantNotCompiled(t, "times 2\ntimes 2\nwait 1", 3, impl.ErrState)
	wantNotCompiled(t, "times 2\nend\ntimes 2\n", 3, impl.ErrState)
	wantNotCompiled(t, "times 2\nwait 201", 1, impl.ErrRange)
}

func TestCompileWeatherLimits(t *testing.T) {
	lines := func(count int) string { return strings.Repeat("wait 1\n", count) }
	wantCompiled(t, lines(120), waits(120), 0, impl.OK)
	wantCompiled(t, strings.TrimSuffix(lines(120), "\n"), waits(120), 0, impl.OK)
	wantNotCompiled(t, lines(121), 0, impl.ErrRange)
	wantNotCompiled(t, lines(120)+"what", 0, impl.ErrRange)
	wantNotCompiled(t, lines(120)+"\n", 0, impl.ErrRange)
	wantNotCompiled(t, lines(5)+"what\n"+lines(115), 0, impl.ErrRange)
	wantNotCompiled(t, lines(119)+"what", 119, impl.ErrSyntax)
	wantNotCompiled(t, lines(119)+"\n", 119, impl.ErrSyntax)
	pairs := strings.Repeat("times 1\nend\n", 60)
	wantCompiled(t, pairs, nil, 0, impl.OK)
	wantNotCompiled(t, pairs+"wait 1", 0, impl.ErrRange)
	wantNotCompiled(t, pairs[:len(pairs)-4]+"wait 1", 120, impl.ErrState)
	wantNotCompiled(t, strings.Repeat("\n", 120), 0, impl.ErrSyntax)
	wantNotCompiled(t, strings.Repeat("\n", 121), 0, impl.ErrRange)
	wantNotCompiled(t, strings.Repeat("\n", 3000), 0, impl.ErrRange)
}

func TestCompileWeatherBytes(t *testing.T) {
	long := strings.Repeat("seed 0 123456/1024 123456/1024\n", 96)
	most := long + "seed 0 123456/1024 12345"
	if len(most) != 3000 {
		t.Fatalf("the text has %d bytes", len(most))
	}
	want := slices.Repeat([]impl.Act{{Kind: impl.AcSeed, A: 123456.0 / 1024, B: 123456.0 / 1024}}, 96)
	wantCompiled(t, most, append(slices.Clone(want), impl.Act{Kind: impl.AcSeed, A: 123456.0 / 1024, B: 12345}), 0, impl.OK)
	wantNotCompiled(t, most+"\n", 0, impl.ErrRange)
	wantNotCompiled(t, most+"6", 0, impl.ErrRange)
	wantNotCompiled(t, long+"what"+strings.Repeat(" ", 20), 96, impl.ErrSyntax)
	wantNotCompiled(t, long+"what"+strings.Repeat(" ", 21), 0, impl.ErrRange)
	for _, letter := range []string{"a", " ", "é", "\x00"} {
		wantNotCompiled(t, strings.Repeat(letter, 3000/len(letter)), 0, impl.ErrSyntax)
		wantNotCompiled(t, strings.Repeat(letter, 3000/len(letter)+1), 0, impl.ErrRange)
		wantNotCompiled(t, strings.Repeat(letter, 900000/len(letter)), 0, impl.ErrRange)
	}
}

func TestCompileWeatherActs(t *testing.T) {
	ten := strings.Repeat("wait 1\n", 10)
	wantCompiled(t, repeated(12, ten), waits(120), 0, impl.OK)
	wantCompiled(t, repeated(12, ten)+repeated(16, ""), waits(120), 0, impl.OK)
	wantNotCompiled(t, repeated(12, ten)+"wait 1", 12, impl.ErrLimit)
	wantNotCompiled(t, repeated(12, ten)+"wait 201", 12, impl.ErrRange)
	wantNotCompiled(t, repeated(12, ten)+"what", 12, impl.ErrSyntax)
	wantNotCompiled(t, repeated(12, ten)+"end", 12, impl.ErrState)
	wantNotCompiled(t, repeated(12, ten)+"times 2\nwait 1", 13, impl.ErrLimit)
	wantNotCompiled(t, repeated(12, ten)+"times 2", 13, impl.ErrState)
	wantNotCompiled(t, repeated(13, ten), 1, impl.ErrLimit)
	wantNotCompiled(t, repeated(13, ten)+"what", 1, impl.ErrLimit)
	wantNotCompiled(t, repeated(16, strings.Repeat("wait 1\n", 8)), 1, impl.ErrLimit)
	wantNotCompiled(t, repeated(16, strings.Repeat("wait 1\n", 9)), 4, impl.ErrLimit)
	wantNotCompiled(t, "wait 1\n"+repeated(12, ten), 11, impl.ErrLimit)
	wantCompiled(t, repeated(8, repeated(15, "wait 1\n")), waits(120), 0, impl.OK)
	wantNotCompiled(t, repeated(16, repeated(8, "wait 1\n")), 2, impl.ErrLimit)
	wantNotCompiled(t, repeated(16, "wait 1\n"+repeated(7, "wait 1\n")), 1, impl.ErrLimit)
	wantNotCompiled(t, repeated(16, repeated(16, "heat 0 1\nwait 1\n")+"end\n"), 2, impl.ErrLimit)
	// A line that is not compiled again has its error at once.
	wantNotCompiled(t, repeated(16, ten+"what\n"), 11, impl.ErrSyntax)
	wantNotCompiled(t, repeated(16, repeated(16, "wait 1\n")+"what\n"), 4, impl.ErrSyntax)
}

const (
	cellForm     = "([0-7])"
	wholeForm    = "(0|[1-9][0-9]{0,5})"
	fractionForm = "(-?(?:0|[1-9][0-9]{0,5})(?:/(?:2|4|8|16|32|64|128|256|512|1024))?)"
)

var lineForms = []*regexp.Regexp{
	impl.AcHeat:   regexp.MustCompile("^heat " + cellForm + " " + fractionForm + "$"),
	impl.AcWet:    regexp.MustCompile("^wet " + cellForm + " " + fractionForm + "$"),
	impl.AcSeed:   regexp.MustCompile("^seed " + cellForm + " " + fractionForm + " " + fractionForm + "$"),
	impl.AcNuclei: regexp.MustCompile("^nuclei " + cellForm + " " + fractionForm + "$"),
	impl.AcStir:   regexp.MustCompile("^stir " + fractionForm + "$"),
	impl.AcWait:   regexp.MustCompile("^wait " + wholeForm + "$"),
}

var timesForm = regexp.MustCompile("^times " + wholeForm + "$")

func fractionModel(text string) float32 {
	above, below, divided := strings.Cut(text, "/")
	number, _ := strconv.ParseFloat(above, 64)
	if divided {
		part, _ := strconv.ParseFloat(below, 64)
		number /= part
	}
	return float32(number + 0)
}

// lineModel returns the act of a line, and whether there is one.
func lineModel(line string) (impl.Act, bool) {
	for kind, form := range lineForms {
		if form == nil {
			continue
		}
		if words := form.FindStringSubmatch(line); words != nil {
			act := impl.Act{Kind: int64(kind)}
			words = words[1:]
			if usesCell(act.Kind) {
				act.Cell, words = int64(words[0][0]-'0'), words[1:]
			}
			act.A = fractionModel(words[0])
			if usesB(act.Kind) {
				act.B = fractionModel(words[1])
			}
			return act, true
		}
	}
	return impl.Act{}, false
}

type weatherModel struct {
	lines []string
	acts  []impl.Act
}

// compile compiles lines within so many times, up to their end, and returns the line behind it, or that of an error.
func (w *weatherModel) compile(line, depth int) (int, int64) {
	for ; line < len(w.lines); line++ {
		text := w.lines[line]
		if text == "end" {
			if depth == 0 {
				return line, impl.ErrState
			}
			return line + 1, impl.OK
		}
		if words := timesForm.FindStringSubmatch(text); words != nil {
			count, _ := strconv.Atoi(words[1])
			if count < 1 || count > 16 {
				return line, impl.ErrRange
			}
			if depth == 2 {
				return line, impl.ErrLimit
			}
			behind := 0
			for range count {
				var code int64
				if behind, code = w.compile(line+1, depth+1); code != impl.OK {
					return behind, code
				}
			}
			line = behind - 1
			continue
		}
		act, found := lineModel(text)
		if !found {
			return line, impl.ErrSyntax
		}
		if act.Kind == impl.AcWait && act.A > 200 {
			return line, impl.ErrRange
		}
		if len(w.acts) == 120 {
			return line, impl.ErrLimit
		}
		w.acts = append(w.acts, act)
	}
	if depth > 0 {
		return len(w.lines), impl.ErrState
	}
	return 0, impl.OK
}

func compileModel(text string) ([]impl.Act, int64, int64) {
	var w weatherModel
	if text != "" {
		w.lines = strings.Split(strings.TrimSuffix(text, "\n"), "\n")
	}
	if len(text) > 3000 || len(w.lines) > 120 {
		return nil, 0, impl.ErrRange
	}
	line, code := w.compile(0, 0)
	if code != impl.OK {
		return nil, int64(line), code
	}
	return w.acts, 0, impl.OK
}

// weatherLine returns a line of weather, which is seldom none.
func (c *chance) weatherLine() string {
	if c.next(150) == 0 {
		return []string{"what", "", "wait 201", "heat 8 1", "end", "times 17", "stir 1/3", "wait 01", "times 0", "seed 1 2"}[c.next(10)]
	}
	number := func() string {
		text := strconv.Itoa(int(c.next(1000)))
		if c.next(2) == 0 {
			text += "/" + strconv.Itoa(2<<c.next(10))
		}
		return strings.Repeat("-", int(c.next(2))) + text
	}
	cell := strconv.Itoa(int(c.next(8)))
	switch c.next(6) {
	case 0:
		return "heat " + cell + " " + number()
	case 1:
		return "wet " + cell + " " + number()
	case 2:
		return "seed " + cell + " " + number() + " " + number()
	case 3:
		return "nuclei " + cell + " " + number()
	case 4:
		return "stir " + number()
	}
	return "wait " + strconv.Itoa(int(c.next(201)))
}

// weather returns a text whose times are seldom wrong.
func (c *chance) weather(depth int) string {
	text := ""
	for range c.next(7) {
		if depth < 2 && c.next(3) == 0 || c.next(400) == 0 {
			end := "end\n"
			if c.next(60) == 0 {
				end = ""
			}
			text += "times " + strconv.Itoa(int(1+c.next(5)*c.next(4))) + "\n" + c.weather(depth+1) + end
			continue
		}
		text += c.weatherLine() + "\n"
	}
	return text
}

func TestCompileWeather(t *testing.T) {
	g := chance(450)
	codes, most := map[int64]int{}, 0
	for range 5000 {
		text := g.weather(0)
		if g.next(3) == 0 {
			text = strings.TrimSuffix(text, "\n")
		}
		acts, line, code := compileModel(text)
		wantCompiled(t, text, acts, line, code)
		codes[code]++
		most = max(most, len(acts))
	}
	for _, code := range []int64{impl.OK, impl.ErrRange, impl.ErrLimit, impl.ErrSyntax, impl.ErrState} {
		if codes[code] < 30 {
			t.Errorf("just %d texts have the code %d", codes[code], code)
		}
	}
	if most < 100 {
		t.Errorf("no text has more than %d acts", most)
	}
}

func TestTextsOfActs(t *testing.T) {
	for numerator := -1100; numerator <= 1100; numerator += 7 {
		for denominator := 1; denominator <= 1024; denominator *= 2 {
			a, b := numerator, denominator
			for a%2 == 0 && b > 1 {
				a, b = a/2, b/2
			}
			word := strconv.Itoa(a)
			if b > 1 {
				word += "/" + strconv.Itoa(b)
			}
			number := float32(numerator) / float32(denominator)
			wantText(t, "ActText", impl.ActText(stirAct(number)), "stir "+word)
			wantText(t, "ActText", impl.ActText(impl.Act{Kind: impl.AcSeed, Cell: 6, A: 0.25, B: number}), "seed 6 1/4 "+word)
			wantText(t, "ActText", impl.ActText(impl.Act{Kind: impl.AcSeed, Cell: 0, A: number, B: 9}), "seed 0 "+word+" 9")
			wantCompiled(t, "stir "+word, []impl.Act{stirAct(number)}, 0, impl.OK)
		}
	}
	g := chance(451)
	for range 2000 {
		text := g.weatherLine()
		acts, _, code := impl.CompileWeather(text)
		if code != impl.OK || len(acts) == 0 {
			continue
		}
		short := impl.ActText(acts[0])
		wantCompiled(t, short, acts, 0, impl.OK)
		if !impl.ValidAct(acts[0]) || len(short) > len(text) {
			t.Errorf("ActText of the act of %q: got %q", text, short)
		}
	}
}

func TestActsWithoutAText(t *testing.T) {
	for _, a := range notActs() {
		wantText(t, fmt.Sprint("ActText of no act ", a), impl.ActText(a), "")
	}
	for _, number := range []float32{
		1.0 / 2048, -1.0 / 2048, 1 + 1.0/2048, 999999.0 / 2048, smallest, -smallest, 0.1, 1.0 / 3, math.Nextafter32(1, 2), math.Nextafter32(0.5, 0),
		1000000, -1000000, 1000001, 1048576, 999999.5, -999999.5, 500000.5, 1000001.0 / 1024, 250000.25, 1e20, greatest, -greatest, 65536.0625 * 15,
	} {
		for _, a := range []impl.Act{heatAct(1, number), {Kind: impl.AcWet, A: number}, {Kind: impl.AcNuclei, Cell: 7, A: number}, stirAct(number), {Kind: impl.AcSeed, A: number, B: 8}, {Kind: impl.AcSeed, A: 8, B: number}} {
			wantText(t, fmt.Sprint("ActText of ", a), impl.ActText(a), "")
			if !impl.ValidAct(a) {
				t.Errorf("ValidAct %v: got false", a)
			}
		}
	}
	wantText(t, "ActText", impl.ActText(heatAct(0, 499999.5)), "heat 0 999999/2")
	wantText(t, "ActText", impl.ActText(heatAct(0, -249999.75)), "heat 0 -999999/4")
	wantText(t, "ActText", impl.ActText(heatAct(0, 65536.0625)), "")
	wantText(t, "ActText", impl.ActText(heatAct(0, 60000.0625)), "heat 0 960001/16")
	wantText(t, "ActText", impl.ActText(waitAct(200)), "wait 200")
	wantText(t, "ActText", impl.ActText(waitAct(0)), "wait 0")
}
