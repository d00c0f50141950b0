package tests

import (
	"math"
	"slices"
	"strings"
	"testing"

	"loop.example/g01224/impl"
)

var oddTicks = []int64{math.MinInt64, -1, 0, 1, 3, 201, math.MaxInt64}

// oddColumns has valid and invalid columns.
func oddColumns(t *testing.T) []impl.Column {
	g := chance(470)
	list := append(columnsAtTheEnds(), heavyCells()...)
	for index, x := range notColumns() {
		if index%5 == 0 {
			list = append(list, x)
		}
	}
	for range 10 {
		list = append(list, g.column(t))
	}
	for _, number := range oddNumbers {
		list = append(list, evenColumn(fullSizes(number), quiet), impl.Column{Gauge: number}, evenColumn(impl.Sizes{}, impl.Air{Heat: number, Vapour: 5}))
	}
	return list
}

// oddActs has valid and invalid acts.
func oddActs() []impl.Act {
	list := append(notActs(), goodActs...)
	for _, kind := range kindsOfActs {
		for _, number := range oddNumbers {
			list = append(list, impl.Act{Kind: kind, A: number}, impl.Act{Kind: kind, A: 2, B: number})
		}
	}
	return list
}

func TestFunctionsOfColumnsReturn(t *testing.T) {
	k := &callChecker{t: t}
	for _, x := range oddColumns(t) {
		was := x
		k.check("SettleOnce", func() []any { return results(impl.SettleOnce(x)) })
		k.check("GrowColumn", func() []any { return results(impl.GrowColumn(x)) })
		k.check("TickColumn", func() []any { return results(impl.TickColumn(x)) })
		k.check("WaterOfColumn", func() []any { return results(impl.WaterOfColumn(x)) })
		k.check("RainOf", func() []any { return results(impl.RainOf(x)) })
		k.check("CloudBase", func() []any { return results(impl.CloudBase(x)) })
		k.check("ReadColumn", func() []any { return results(impl.ReadColumn(impl.ColumnText(x))) })
		for _, a := range oddNumbers {
			k.check("StirColumn", func() []any { return results(impl.StirColumn(x, a)) })
		}
		for _, count := range oddTicks {
			k.check("TickColumns", func() []any { return results(impl.TickColumns(x, count)) })
		}
		if impl.ValidColumn(x) == (impl.ColumnText(x) == "") || !impl.SameColumn(x, was) {
			t.Errorf("the column %v has the text %q, or has been modified", was, impl.ColumnText(x))
		}
	}
	for _, a := range oddNumbers {
		for _, b := range oddNumbers {
			k.check("StillColumn", func() []any { return results(impl.StillColumn(a, b)) })
		}
	}
	if impl.FallShares() != impl.FallShares() {
		t.Error("FallShares are not always the same")
	}
}

func TestSameColumnDoesNotDependOnTheOrder(t *testing.T) {
	list := oddColumns(t)
	for index, x := range list {
		for other := index % 7; other < len(list); other += 7 {
			y := list[other]
			same := len(differences(x, y)) == 0
			if impl.SameColumn(x, y) != same || impl.SameColumn(y, x) != same {
				t.Errorf("SameColumn of the columns %d and %d is wrong", index, other)
			}
		}
	}
}

func TestFunctionsOfActsReturn(t *testing.T) {
	k := &callChecker{t: t}
	columns := []impl.Column{{}, goodColumn(), evenColumn(fullSizes(greatest), quiet), evenColumn(impl.Sizes{3: 5}, impl.Air{Heat: 60, Vapour: 1000}), {Ticks: mostTicks}, {Ticks: -1}, {Gauge: noNumber}}
	for _, a := range oddActs() {
		if impl.ActText(a) != "" && !impl.ValidAct(a) {
			t.Errorf("the act %v has the text %q", a, impl.ActText(a))
		}
		for _, x := range columns {
			k.check("DoAct", func() []any { return results(impl.DoAct(x, a)) })
			acts, all := before([]impl.Act{goodActs[0], a, goodActs[1]}, impl.Act{Kind: 77})
			got, count, code := impl.RunActs(x, acts)
			again, countAgain, codeAgain := impl.RunActs(x, acts)
			if !impl.SameColumn(got, again) || count != countAgain || code != codeAgain || (code != impl.OK && !impl.SameColumn(got, impl.Column{})) || (code == impl.OK) != (count == 3) {
				t.Errorf("RunActs %v: got %d, %d and then %d, %d", acts, count, code, countAgain, codeAgain)
			}
			if !slices.EqualFunc(all, []impl.Act{goodActs[0], a, goodActs[1], {Kind: 77}, {Kind: 77}}, sameActs) {
				t.Errorf("RunActs has modified acts to %v", all)
			}
		}
	}
	long := slices.Repeat([]impl.Act{waitAct(1)}, 1000000)
	wantRun(t, "very many acts", goodColumn(), long, impl.Column{}, 0, impl.ErrLimit)
	long[len(long)-1].Kind = 7
	wantRun(t, "very many acts, the last of which is none", goodColumn(), long, impl.Column{}, 0, impl.ErrInvalid)
}

// badText makes a text of words, blanks and newlines by chance.
func (c *chance) badText() string {
	words := []string{"heat", "wet", "seed", "nuclei", "stir", "wait", "times", "end", "0", "1", "7", "16", "200", "-1/2", "3/1024", "é", "\xff", "column", "air", "00000000"}
	text := ""
	for range c.next(30) {
		text += words[c.next(uint32(len(words)))] + []string{" ", "\n", "\n", ""}[c.next(4)]
	}
	return text
}

func TestFunctionsOfTextsReturn(t *testing.T) {
	g := chance(471)
	texts := []string{"", "\x00", strings.Repeat("times 16\n", 120), strings.Repeat("end\n", 120), "times 16\n" + strings.Repeat("times 16\nend\n", 59) + "end"}
	for range 3000 {
		texts = append(texts, g.badText(), g.weather(0))
	}
	for _, text := range texts {
		acts, line, code := compileModel(text)
		wantCompiled(t, text, acts, line, code)
		wantCompiled(t, text, acts, line, code)
		if got, code := impl.ReadColumn(text); code != impl.ErrSyntax || !impl.SameColumn(got, impl.Column{}) {
			t.Errorf("ReadColumn %q: got the code %d", text, code)
		}
	}
}

func TestActsThatAreReturnedAreNew(t *testing.T) {
	for _, text := range []string{"wait 1", "times 3\nwait 1\nend", lineTexts[0].line + "\nwait 7\nstir 1/2"} {
		wantNew(t, "CompileWeather", func() []impl.Act { acts, _, _ := impl.CompileWeather(text); return acts }, sameActs, nil)
	}
}
