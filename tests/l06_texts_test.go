package tests

import (
	"math"
	"strconv"
	"strings"
	"testing"

	"loop.example/g01224/impl"
)

// columnText makes the text of a column that need not be valid.
func columnText(x impl.Column) string {
	text := "column " + impl.NumberText(x.Gauge) + " " + strconv.FormatInt(x.Ticks, 10) + "\n"
	for cell := range x.Drops {
		for class, number := range x.Drops[cell] {
			if class > 0 {
				text += " "
			}
			text += impl.NumberText(number)
		}
		text += "\nair " + impl.NumberText(x.Airs[cell].Heat) + " " + impl.NumberText(x.Airs[cell].Vapour) + "\n"
	}
	return text
}

func wantColumnRead(t *testing.T, what, text string, want impl.Column, wantCode int64) {
	t.Helper()
	got, code := impl.ReadColumn(text)
	wantColumn(t, what, got, code, want, wantCode)
}

func TestColumnsAreReadFromTheirTexts(t *testing.T) {
	g := chance(460)
	list := columnsAtTheEnds()
	for range 300 {
		list = append(list, g.column(t))
	}
	for _, x := range list {
		text := impl.ColumnText(x)
		wantText(t, "ColumnText", text, columnText(x))
		wantColumnRead(t, "ReadColumn", text, x, impl.OK)
	}
	for _, x := range notColumns() {
		wantText(t, "ColumnText of no column", impl.ColumnText(x), "")
		wantColumnRead(t, "ReadColumn of no column", columnText(x), impl.Column{}, impl.ErrSyntax)
	}
	none := strings.Repeat("00000000 ", 19) + "00000000\n"
	want := "column 3f800000 1000000000\n" + none + "air 41a00000 00000000\n" + none + "air 41900000 00000000\n" + none + "air 41800000 00000000\n" + none + "air 41600000 00000000\n"
	want += none + "air 41400000 00000000\n" + none + "air 41200000 00000000\n" + none + "air 41000000 00000000\n" + none + "air 40c00000 00000000\n"
	x := stillModel(20, 0)
	x.Gauge, x.Ticks = 1, mostTicks
	wantText(t, "ColumnText", impl.ColumnText(x), want)
	wantColumnRead(t, "ReadColumn", want, x, impl.OK)
}

// changed returns a text in which the line with an index is another one, or several ones.
func changed(text string, index int, lines ...string) string {
	list := strings.Split(strings.TrimSuffix(text, "\n"), "\n")
	rest := append([]string{}, list[index+1:]...)
	return strings.Join(append(append(list[:index:index], lines...), rest...), "\n") + "\n"
}

func wantNoColumn(t *testing.T, text string) {
	t.Helper()
	wantColumnRead(t, "ReadColumn "+strconv.Quote(text[:min(len(text), 60)]), text, impl.Column{}, impl.ErrSyntax)
}

func TestReadColumnErrors(t *testing.T) {
	x := goodColumn()
	text := impl.ColumnText(x)
	for _, other := range []string{"", "\n", " ", strings.Repeat("\n", 17), strings.Repeat("\n", 18), text[:len(text)-1], text + "\n", "\n" + text, text + " ", " " + text, text + text, text + "x", text + "x\n", strings.ReplaceAll(text, "\n", "\r\n"), strings.ReplaceAll(text, " ", "  "), strings.ToUpper(text), strings.Replace(text, "\n", " ", 1)} {
		wantNoColumn(t, other)
	}
	for _, head := range []string{
		"", "column", "column 3f400000", "3f400000 12", "column 12", "column 3f400000 12 0", "column  3f400000 12", "column 3f400000  12", " column 3f400000 12", "column 3f400000 12 ", "column 3f400000 ", "column\t3f400000 12",
		"Column 3f400000 12", "columns 3f400000 12", "colum 3f400000 12", "column 3f40000 12", "column 3f4000000 12", "column 3F400000 12", "column 0.75 12", "column 3f40000g 12",
		"column bf400000 12", "column 80000000 12", "column 7fc00000 12", "column 7fc00001 12", "column 7f800000 12", "column ff800000 12",
		"column 3f400000 012", "column 3f400000 00", "column 3f400000 +12", "column 3f400000 -12", "column 3f400000 -0", "column 3f400000 -1", "column 3f400000 1000000001", "column 3f400000 12.0", "column 3f400000 1_2", "column 3f400000 0xc",
		"column 3f400000 c", "column 3f400000 9223372036854775808", "column 3f400000 18446744073709551628", "column 3f400000 twelve", "column 3f400000 1e1", "air 3f400000 12",
	} {
		wantNoColumn(t, changed(text, 0, head))
	}
	for _, ticks := range []int64{0, 9, 10, mostTicks} {
		y := x
		y.Ticks = ticks
		wantColumnRead(t, "ReadColumn", changed(text, 0, "column 3f400000 "+strconv.FormatInt(ticks, 10)), y, impl.OK)
	}
	sizes, air := impl.SizesText(impl.Sizes{3: 1}), impl.AirText(quiet)
	for cell := range 8 {
		y := x
		y.Drops[cell], y.Airs[cell] = impl.Sizes{3: 1}, quiet
		wantColumnRead(t, "ReadColumn", changed(changed(text, 1+2*cell, sizes), 2+2*cell, air), y, impl.OK)
		for _, line := range []string{"", " ", sizes + " ", " " + sizes, sizes + " 00000000", sizes[9:], sizes[:len(sizes)-1], strings.Replace(sizes, " ", "  ", 1), strings.Replace(sizes, "3f", "3F", 1), "7f800000" + sizes[8:], "80000000" + sizes[8:], sizes + "\r", air} {
			wantNoColumn(t, changed(text, 1+2*cell, line))
		}
		for _, line := range []string{"", "air", air + " ", " " + air, air + " 00000000", air[:len(air)-9], air[4:], strings.Replace(air, " ", "  ", 1), "Air" + air[3:], "air 42700001 40a00000", "air c2700001 40a00000", "air 00000000 447a0001", "air 00000000 80000000", "air 7fc00000 40a00000", air + "\r", sizes} {
			wantNoColumn(t, changed(text, 2+2*cell, line))
		}
	}
	for line := range 17 {
		lines := strings.Split(text, "\n")
		wantNoColumn(t, changed(text, line))
		wantNoColumn(t, changed(text, line, lines[line], lines[line]))
		wantNoColumn(t, changed(text, line, lines[line], ""))
		wantNoColumn(t, changed(text, line, "", lines[line]))
		wantNoColumn(t, changed(text, line, lines[line]+" "))
	}
}

// Each letter of a text that is taken away, comes twice or is another one makes the text of another column, or of none.
func TestReadColumnOfOtherLetters(t *testing.T) {
	text := impl.ColumnText(goodColumn())
	for index := range text {
		for _, other := range []string{"", text[index:index+1] + text[index:index+1], "0", "f", "A", " ", "\n", "-", "\x00"} {
			changed := text[:index] + other + text[index+1:]
			got, code := impl.ReadColumn(changed)
			if code == impl.OK && (!impl.ValidColumn(got) || columnText(got) != changed) || code != impl.OK && (code != impl.ErrSyntax || got != impl.Column{}) {
				t.Errorf("ReadColumn %q: got %d", changed, code)
			}
			// Only the ticks have digits of which one can be too many or too few.
			if code == impl.OK && len(changed) != len(text) && (index < 16 || index > 17) {
				t.Errorf("ReadColumn with the letter %d changed to %q: got OK", index, other)
			}
		}
	}
}

func TestReadColumnOfPartsOfAText(t *testing.T) {
	text := impl.ColumnText(goodColumn())
	for index := range text {
		wantNoColumn(t, text[:index])
		wantNoColumn(t, text[index+1:])
		if index < len(text)-1 {
			wantNoColumn(t, text[:index]+"\n")
		}
	}
}

func TestReadColumnOfLongTexts(t *testing.T) {
	text := impl.ColumnText(goodColumn())
	for _, letter := range []string{"0", " ", "\n", "x", "column "} {
		many := strings.Repeat(letter, 900000/len(letter))
		wantNoColumn(t, many)
		wantNoColumn(t, text+many)
		wantNoColumn(t, many+text)
		wantNoColumn(t, changed(text, 0, "column 3f400000 "+many))
		wantNoColumn(t, changed(text, 5, many))
	}
	wantNoColumn(t, changed(text, 0, "column 3f400000 "+strconv.FormatInt(math.MaxInt64, 10)))
}
