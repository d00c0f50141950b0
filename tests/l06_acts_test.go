package tests

import (
	"fmt"
	"hash/fnv"
	"math"
	"slices"
	"testing"

	"loop.example/g01224/impl"
)

var kindsOfActs = []int64{impl.AcHeat, impl.AcWet, impl.AcSeed, impl.AcNuclei, impl.AcStir, impl.AcWait}

var notKinds = []int64{0, -1, 7, 8, 9, 20, math.MinInt64, math.MaxInt64}

var notCells = []int64{-1, 8, 9, math.MinInt64, math.MaxInt64}

// What each kind of acts uses beside A.
func usesCell(kind int64) bool { return kind <= impl.AcNuclei }
func usesB(kind int64) bool    { return kind == impl.AcSeed }

// notPlain has numbers that are in no act.
var notPlain = []float32{minus0, infinite, -infinite, noNumber}

// plainNumbers are in acts, also where these cannot be done.
var plainNumbers = []float32{0, 1, -1, 0.5, -0.75, smallest, -smallest, 200.5, 201, 1e6, greatest, -greatest}

// goodActs has acts that can be done in goodColumn.
var goodActs = []impl.Act{
	{Kind: impl.AcHeat, Cell: 2, A: 1.5}, {Kind: impl.AcWet, Cell: 7, A: -0.25}, {Kind: impl.AcSeed, Cell: 3, A: 0.5, B: 8},
	{Kind: impl.AcNuclei, Cell: 0, A: 100}, {Kind: impl.AcStir, A: 0.25}, {Kind: impl.AcWait, A: 3},
}

// notActs has acts that are not valid in just one field.
func notActs() []impl.Act {
	var list []impl.Act
	add := func(a impl.Act, change func(a *impl.Act)) {
		change(&a)
		list = append(list, a)
	}
	for _, act := range goodActs {
		for _, kind := range notKinds {
			add(act, func(a *impl.Act) { a.Kind = kind })
		}
		for _, cell := range notCells {
			add(act, func(a *impl.Act) { a.Cell = cell })
		}
		for _, number := range notPlain {
			add(act, func(a *impl.Act) { a.A = number })
			add(act, func(a *impl.Act) { a.B = number })
		}
		if !usesCell(act.Kind) {
			add(act, func(a *impl.Act) { a.Cell = 1 })
			add(act, func(a *impl.Act) { a.Cell = 7 })
		}
		if !usesB(act.Kind) {
			for _, number := range []float32{1, -1, smallest, -smallest, greatest} {
				add(act, func(a *impl.Act) { a.B = number })
			}
		}
	}
	for _, number := range []float32{-1, -smallest, smallest, 0.5, 1.5, 199.5, math.Nextafter32(1, 2), math.Nextafter32(200, 0), math.Nextafter32(200, 201), 201, 1e6, 1e20, greatest, -greatest, -200} {
		list = append(list, impl.Act{Kind: impl.AcWait, A: number})
	}
	return list
}

func TestValidAct(t *testing.T) {
	for _, act := range goodActs {
		for _, number := range plainNumbers {
			for cell := range int64(8) {
				a := act
				if usesCell(a.Kind) {
					a.Cell = cell
				}
				if a.Kind != impl.AcWait {
					a.A = number
				}
				if usesB(a.Kind) {
					a.B = plainNumbers[(cell+3)%8]
				}
				if !impl.ValidAct(a) {
					t.Errorf("ValidAct %v: got false", a)
				}
			}
		}
	}
	for ticks := range 201 {
		if a := (impl.Act{Kind: impl.AcWait, A: float32(ticks)}); !impl.ValidAct(a) {
			t.Errorf("ValidAct %v: got false", a)
		}
	}
	for _, kind := range kindsOfActs {
		if a := (impl.Act{Kind: kind}); !impl.ValidAct(a) {
			t.Errorf("ValidAct %v: got false", a)
		}
	}
	for _, a := range notActs() {
		if impl.ValidAct(a) {
			t.Errorf("ValidAct %v: got true", a)
		}
	}
	if impl.ValidAct(impl.Act{}) {
		t.Error("ValidAct of the act that has only 0: got true")
	}
}

// actModel is DoAct of valid arguments.
func actModel(x impl.Column, a impl.Act) (impl.Column, int64) {
	y, beyond := x, int64(impl.ErrState)
	air, drops := &y.Airs[a.Cell], &y.Drops[a.Cell]
	switch a.Kind {
	case impl.AcHeat:
		air.Heat, beyond = plus(air.Heat, a.A), impl.ErrRange
	case impl.AcWet:
		air.Vapour, beyond = plus(air.Vapour, a.A), impl.ErrRange
	case impl.AcSeed:
		more, code := impl.Spectrum(a.A, a.B)
		if code != impl.OK {
			return impl.Column{}, code
		}
		for class := range drops {
			drops[class] = plus(drops[class], more[class])
		}
	case impl.AcNuclei:
		if !(a.A >= 0) {
			return impl.Column{}, impl.ErrRange
		}
		*drops, *air, _ = activateModel(*drops, *air, a.A)
	case impl.AcStir:
		if !(a.A >= 0 && a.A <= 0.5) {
			return impl.Column{}, impl.ErrRange
		}
		y = stirModel(x, a.A)
	case impl.AcWait:
		y = ticksModel(x, int64(a.A))
	}
	if !impl.ValidColumn(y) {
		return impl.Column{}, beyond
	}
	return y, impl.OK
}

// act returns a valid act that can often be done.
func (c *chance) act() impl.Act {
	a := impl.Act{Kind: kindsOfActs[c.next(6)]}
	if usesCell(a.Kind) {
		a.Cell = int64(c.next(8))
	}
	switch a.Kind {
	case impl.AcHeat:
		a.A = float32(c.next(200))/8 - 12.5
	case impl.AcWet:
		a.A = float32(c.next(200))/32 - 1
	case impl.AcSeed:
		a.A, a.B = float32(c.next(4000))/4, float32(1+c.next(60000))
	case impl.AcNuclei:
		a.A = float32(c.next(60000))
	case impl.AcStir:
		a.A = float32(c.next(129)) / 256
	case impl.AcWait:
		a.A = float32(c.next(9))
	}
	return a
}

func wantDone(t *testing.T, what string, x impl.Column, a impl.Act, want impl.Column, wantCode int64) {
	t.Helper()
	got, code := impl.DoAct(x, a)
	wantColumn(t, what+" "+fmt.Sprint(a), got, code, want, wantCode)
}

func TestDoAct(t *testing.T) {
	g := chance(440)
	done := map[int64]int{}
	for range 1500 {
		x, a := g.column(t), g.act()
		want, code := actModel(x, a)
		wantDone(t, "DoAct", x, a, want, code)
		if code == impl.OK {
			done[a.Kind]++
		}
	}
	for _, kind := range kindsOfActs {
		if done[kind] < 50 {
			t.Errorf("just %d acts of the kind %d are done", done[kind], kind)
		}
	}
	for _, a := range goodActs {
		for _, number := range plainNumbers {
			if a.Kind != impl.AcWait {
				a.A = number
			}
			want, code := actModel(goodColumn(), a)
			wantDone(t, "DoAct", goodColumn(), a, want, code)
		}
	}
}

func TestEachActIsDoneInItsCell(t *testing.T) {
	for cell := range int64(8) {
		x := evenColumn(impl.Sizes{3: 1}, impl.Air{Heat: 0, Vapour: 5.5})
		want := x
		want.Airs[cell].Heat = 2.25
		wantDone(t, "heat", x, impl.Act{Kind: impl.AcHeat, Cell: cell, A: 2.25}, want, impl.OK)
		want = x
		want.Airs[cell].Vapour = 0
		wantDone(t, "wet", x, impl.Act{Kind: impl.AcWet, Cell: cell, A: -5.5}, want, impl.OK)
		want = x
		want.Drops[cell], _ = impl.Spectrum(100, 64)
		want.Drops[cell][3]++
		wantDone(t, "seed", x, impl.Act{Kind: impl.AcSeed, Cell: cell, A: 100, B: 64}, want, impl.OK)
		want = x
		want.Drops[cell][0], want.Airs[cell].Vapour = 65536, 4.5
		wantDone(t, "nuclei", x, impl.Act{Kind: impl.AcNuclei, Cell: cell, A: 131072}, want, impl.OK)
		x.Airs[cell].Vapour, want.Airs[cell].Vapour, want.Drops[cell][0] = 5, 5, 0
		wantDone(t, "nuclei without an excess", x, impl.Act{Kind: impl.AcNuclei, Cell: cell, A: 131072}, want, impl.OK)
	}
	x := in(3, 1, 0, 0, 256)
	stirred, code := impl.StirColumn(x, 0.125)
	wantDone(t, "stir", x, impl.Act{Kind: impl.AcStir, A: 0.125}, stirred, code)
	for _, count := range []int64{0, 1, 199, 200} {
		waited, code := impl.TickColumns(x, count)
		wantDone(t, "wait", x, impl.Act{Kind: impl.AcWait, A: float32(count)}, waited, code)
		wantInteger(t, "the ticks behind wait", waited.Ticks, code, 3+count, impl.OK)
	}
}

// actsAtTheEnds are done in columns whose cells have such air, and no droplets.
var actsAtTheEnds = []struct {
	air  impl.Air
	kind int64
	a    float32
	want impl.Air
	code int64
}{
	{impl.Air{Heat: 50, Vapour: 5}, impl.AcHeat, 10, impl.Air{Heat: 60, Vapour: 5}, impl.OK},
	{impl.Air{Heat: -50, Vapour: 5}, impl.AcHeat, -10, impl.Air{Heat: -60, Vapour: 5}, impl.OK},
	{impl.Air{Heat: 50, Vapour: 5}, impl.AcHeat, math.Nextafter32(10, 11), impl.Air{Heat: 60, Vapour: 5}, impl.OK},
	{impl.Air{Heat: 50, Vapour: 5}, impl.AcHeat, 10 + 0x1p-18, impl.Air{}, impl.ErrRange},
	{impl.Air{Heat: -50, Vapour: 5}, impl.AcHeat, -10 - 0x1p-18, impl.Air{}, impl.ErrRange},
	{impl.Air{Heat: 60, Vapour: 5}, impl.AcHeat, smallest, impl.Air{Heat: 60, Vapour: 5}, impl.OK},
	{impl.Air{Heat: 60, Vapour: 5}, impl.AcHeat, -120, impl.Air{Heat: -60, Vapour: 5}, impl.OK},
	{impl.Air{Heat: 0, Vapour: 5}, impl.AcHeat, 60.5, impl.Air{}, impl.ErrRange},
	{impl.Air{Heat: 0, Vapour: 5}, impl.AcHeat, greatest, impl.Air{}, impl.ErrRange},
	{impl.Air{Heat: 0, Vapour: 5}, impl.AcHeat, -greatest, impl.Air{}, impl.ErrRange},
	{impl.Air{Heat: minus0, Vapour: 5}, impl.AcHeat, 0, impl.Air{Heat: 0, Vapour: 5}, impl.OK},
	{impl.Air{Heat: 7, Vapour: 5}, impl.AcHeat, -7, impl.Air{Heat: 0, Vapour: 5}, impl.OK},
	{impl.Air{Heat: 7, Vapour: 990}, impl.AcWet, 10, impl.Air{Heat: 7, Vapour: 1000}, impl.OK},
	{impl.Air{Heat: 7, Vapour: 990}, impl.AcWet, 10 + 0x1p-14, impl.Air{}, impl.ErrRange},
	{impl.Air{Heat: 7, Vapour: 10}, impl.AcWet, -10, impl.Air{Heat: 7, Vapour: 0}, impl.OK},
	{impl.Air{Heat: 7, Vapour: 10}, impl.AcWet, math.Nextafter32(-10, -11), impl.Air{}, impl.ErrRange},
	{impl.Air{Heat: 7, Vapour: 0}, impl.AcWet, -smallest, impl.Air{}, impl.ErrRange},
	{impl.Air{Heat: 7, Vapour: 0}, impl.AcWet, smallest, impl.Air{Heat: 7, Vapour: smallest}, impl.OK},
	{impl.Air{Heat: 7, Vapour: 0}, impl.AcWet, 1000, impl.Air{Heat: 7, Vapour: 1000}, impl.OK},
	{impl.Air{Heat: 7, Vapour: 0}, impl.AcWet, 1001, impl.Air{}, impl.ErrRange},
	{impl.Air{Heat: 7, Vapour: 5}, impl.AcWet, greatest, impl.Air{}, impl.ErrRange},
	{impl.Air{Heat: 7, Vapour: 5}, impl.AcWet, -greatest, impl.Air{}, impl.ErrRange},
}

func TestDoActAtTheEnds(t *testing.T) {
	for _, x := range actsAtTheEnds {
		for cell := range int64(8) {
			column := evenColumn(impl.Sizes{}, x.air)
			want := column
			want.Airs[cell] = x.want
			if x.code != impl.OK {
				want = impl.Column{}
			}
			wantDone(t, "DoAct", column, impl.Act{Kind: x.kind, Cell: cell, A: x.a}, want, x.code)
		}
	}
}

func TestDoActErrors(t *testing.T) {
	good := goodColumn()
	for _, x := range notColumns() {
		for _, a := range goodActs {
			wantDone(t, "DoAct of no column", x, a, impl.Column{}, impl.ErrInvalid)
		}
		wantDone(t, "DoAct of no column", x, impl.Act{Kind: impl.AcStir, A: 2}, impl.Column{}, impl.ErrInvalid)
		wantDone(t, "DoAct of no column", x, impl.Act{}, impl.Column{}, impl.ErrInvalid)
	}
	for _, a := range notActs() {
		wantDone(t, "DoAct of no act", good, a, impl.Column{}, impl.ErrInvalid)
		wantDone(t, "DoAct of no act behind the last tick", impl.Column{Ticks: mostTicks}, a, impl.Column{}, impl.ErrInvalid)
	}
	for _, number := range []float32{-1, -smallest, -greatest} {
		wantDone(t, "DoAct", good, impl.Act{Kind: impl.AcSeed, A: number, B: 8}, impl.Column{}, impl.ErrRange)
		wantDone(t, "DoAct", good, impl.Act{Kind: impl.AcSeed, A: 8, B: number}, impl.Column{}, impl.ErrRange)
		wantDone(t, "DoAct", good, impl.Act{Kind: impl.AcNuclei, A: number}, impl.Column{}, impl.ErrRange)
		wantDone(t, "DoAct", evenColumn(impl.Sizes{}, impl.Air{}), impl.Act{Kind: impl.AcNuclei, A: number}, impl.Column{}, impl.ErrRange)
		wantDone(t, "DoAct", good, impl.Act{Kind: impl.AcStir, A: number}, impl.Column{}, impl.ErrRange)
	}
	for _, number := range []float32{0, smallest, 0.5, math.Nextafter32(1, 0)} {
		wantDone(t, "DoAct", good, impl.Act{Kind: impl.AcSeed, A: 8, B: number}, impl.Column{}, impl.ErrRange)
	}
	for _, number := range []float32{math.Nextafter32(0.5, 1), 0.75, 1, greatest} {
		wantDone(t, "DoAct", good, impl.Act{Kind: impl.AcStir, A: number}, impl.Column{}, impl.ErrRange)
	}
	full := evenColumn(fullSizes(greatest), impl.Air{Heat: 0, Vapour: 100})
	hot := evenColumn(impl.Sizes{}, impl.Air{Heat: 60})
	for _, x := range []struct {
		x impl.Column
		a impl.Act
	}{
		{full, impl.Act{Kind: impl.AcSeed, A: 1e37, B: 64}}, {full, impl.Act{Kind: impl.AcNuclei, A: 1e37}},
		{hot, impl.Act{Kind: impl.AcStir, A: 0.001}}, {heavyCells()[7], impl.Act{Kind: impl.AcWait, A: 1}},
		{impl.Column{Ticks: mostTicks}, impl.Act{Kind: impl.AcWait, A: 1}}, {impl.Column{Ticks: mostTicks - 199}, impl.Act{Kind: impl.AcWait, A: 200}},
	} {
		wantDone(t, "DoAct", x.x, x.a, impl.Column{}, impl.ErrState)
	}
	wantDone(t, "DoAct", impl.Column{Ticks: mostTicks}, impl.Act{Kind: impl.AcWait}, impl.Column{Ticks: mostTicks}, impl.OK)
}

func wantRun(t *testing.T, what string, x impl.Column, acts []impl.Act, want impl.Column, wantCount, wantCode int64) {
	t.Helper()
	got, count, code := impl.RunActs(x, acts)
	wantColumn(t, what, got, code, want, wantCode)
	wantInteger(t, what+", how many", count, code, wantCount, wantCode)
}

// runModel is RunActs of valid arguments.
func runModel(x impl.Column, acts []impl.Act) (impl.Column, int64, int64) {
	for index, a := range acts {
		y, code := actModel(x, a)
		if code != impl.OK {
			return impl.Column{}, int64(index), code
		}
		x = y
	}
	return x, int64(len(acts)), impl.OK
}

func TestRunActs(t *testing.T) {
	g := chance(441)
	codes, counts := map[int64]int{}, map[int64]bool{}
	for range 200 {
		x := g.column(t)
		var acts []impl.Act
		for range g.next(30) {
			acts = append(acts, g.act())
		}
		want, count, code := runModel(x, acts)
		wantRun(t, "RunActs", x, acts, want, count, code)
		codes[code]++
		counts[count] = true
	}
	if codes[impl.OK] < 50 || codes[impl.ErrRange] < 5 || len(counts) < 15 {
		t.Errorf("so many codes %v, and so many done %v", codes, counts)
	}
	wantRun(t, "RunActs of nothing", goodColumn(), nil, goodColumn(), 0, impl.OK)
	wantRun(t, "RunActs of nothing", goodColumn(), []impl.Act{}, goodColumn(), 0, impl.OK)
}

func TestRunActsInPartsIsRunActsAtOnce(t *testing.T) {
	g := chance(442)
	for range 100 {
		x := evenColumn(g.cloud(t), impl.Air{Heat: 5, Vapour: 9})
		var acts []impl.Act
		for range 12 {
			acts = append(acts, g.act())
		}
		at, count, code := impl.RunActs(x, acts)
		if code != impl.OK {
			continue
		}
		for first := range acts {
			part, _, code := impl.RunActs(x, acts[:first])
			wantInteger(t, "the first part", code, code, impl.OK, impl.OK)
			wantRun(t, "RunActs in two parts", part, acts[first:], at, count-int64(first), impl.OK)
		}
		one := x
		for _, a := range acts {
			one, _ = impl.DoAct(one, a)
		}
		wantColumn(t, "DoAct again and again", one, impl.OK, at, impl.OK)
	}
}

// heats returns so many acts, each of which makes the cell 0 warmer by a degree.
func heats(count int) []impl.Act {
	return slices.Repeat([]impl.Act{{Kind: impl.AcHeat, A: 1}}, count)
}

func TestRunActsErrors(t *testing.T) {
	x := evenColumn(impl.Sizes{}, impl.Air{Heat: -60, Vapour: 5})
	want := x
	want.Airs[0].Heat = 60
	wantRun(t, "the most acts", x, heats(120), want, 120, impl.OK)
	wantRun(t, "one act more", x, heats(121), impl.Column{}, 0, impl.ErrLimit)
	wantRun(t, "far too many acts", x, heats(5000), impl.Column{}, 0, impl.ErrLimit)
	early := append([]impl.Act{{Kind: impl.AcStir, A: 2}}, heats(120)...)
	wantRun(t, "one act more, the first of which has an error", x, early, impl.Column{}, 0, impl.ErrLimit)
	for index := range 120 {
		acts := heats(120)
		acts[index] = impl.Act{Kind: impl.AcStir, A: 2}
		wantRun(t, "an act with an error", x, acts, impl.Column{}, int64(index), impl.ErrRange)
	}
	x.Ticks = mostTicks
	acts := heats(9)
	acts[4], acts[6] = impl.Act{Kind: impl.AcWait, A: 1}, impl.Act{Kind: impl.AcStir, A: 2}
	wantRun(t, "two acts with errors", x, acts, impl.Column{}, 4, impl.ErrState)
	acts[2] = impl.Act{Kind: impl.AcHeat, A: 1000}
	wantRun(t, "three acts with errors", x, acts, impl.Column{}, 2, impl.ErrRange)
	x.Airs[0].Heat = 57
	wantRun(t, "an act that makes the air too hot", x, heats(9), impl.Column{}, 3, impl.ErrRange)
	for _, bad := range notActs() {
		for _, count := range []int{0, 1, 5, 119, 120, 121, 130} {
			wantRun(t, "no act behind others", x, append(heats(count), bad), impl.Column{}, 0, impl.ErrInvalid)
		}
		wantRun(t, "no act before others", x, append([]impl.Act{bad, {Kind: impl.AcStir, A: 2}}, heats(3)...), impl.Column{}, 0, impl.ErrInvalid)
		wantRun(t, "no act behind one with an error", x, []impl.Act{{Kind: impl.AcStir, A: 2}, bad}, impl.Column{}, 0, impl.ErrInvalid)
	}
	for _, bad := range notColumns() {
		for _, count := range []int{0, 1, 120, 121} {
			wantRun(t, "no column", bad, heats(count), impl.Column{}, 0, impl.ErrInvalid)
		}
	}
}

// weatherRuns have been found by another program: the gauge, all water, the cloud base (-1 if there is none), the ticks, and a
// checksum (FNV-1a of 64 bits) of the text of the column.
var weatherRuns = []struct {
	heat, vapour float32
	text         string
	gauge, water uint32
	base, ticks  int64
	sum          uint64
}{
	{20, 15, "seed 3 1000 64\nwait 200", 0x40c07dbd, 0x42fc8b76, -1, 200, 0x7553832df2cbc99a},
	{20, 0, "wait 10", 0x00000000, 0x00000000, -1, 10, 0x28c0fa2970787678},
	{10, 12.5, "nuclei 0 100000\nnuclei 3 5000/8\nwait 20\nstir 1/4\nwait 5", 0x3f27982b, 0x42c80001, 0, 25, 0xd43a2f2d6d873bf8},
	{25, 30, "times 4\nseed 7 200 4096\nwait 7\nstir 1/2\nend\nwet 2 25/2\nheat 2 -3/4\nwait 50", 0x42e9d4b3, 0x43b69fee, 0, 78, 0x43ae8c30a0c45f68},
	{-46, 1000, "wait 3\nseed 0 999999/1024 1000\nwait 30", 0x42971865, 0x45face59, -1, 33, 0x4c0c0fefa1c1a486},
	{-10, 0.5, "seed 5 12345/16 262144\nwait 1\nseed 5 1 524288\nwait 1\nstir 1/1024\nwait 9", 0x453d263f, 0x453f2ade, 0, 11, 0x7bd3f173ab01ed93},
	{15, 8, "times 3\ntimes 5\nnuclei 4 70000\nseed 6 3/2 999999\nend\nheat 4 1/8\nwait 4\nend\nstir 3/8\nwet 0 100\nwait 100", 0x42f32048, 0x438ec2a6, -1, 112, 0xba583579f8a12a17},
	{60, 0, "seed 7 999999 1\nseed 6 999999 2\nwait 40", 0x45131051, 0x45234cdc, 0, 40, 0x8b34a92ef8b6abc8},
	{0, 5.25, "times 16\nwet 7 1/4\nnuclei 7 999999\nwait 3\nend", 0x3b7fd561, 0x42d45112, 0, 48, 0xcbca7149c6dd4da1},
	{30, 26.5, "times 2\nseed 1 5000 100\nseed 4 700 3000\nstir 5/64\nwait 33\nend\nheat 7 -7\nnuclei 7 65536\nwait 200\nwait 200", 0x4333ab03, 0x43c0d62e, 0, 466, 0xa4951311ccf2a104},
}

func TestWeatherIsDoneOneAfterTheOther(t *testing.T) {
	for _, w := range weatherRuns {
		x, _ := impl.StillColumn(w.heat, w.vapour)
		acts, line, code := impl.CompileWeather(w.text)
		wantInteger(t, "the line of "+w.text, line, code, 0, impl.OK)
		got, count, code := impl.RunActs(x, acts)
		wantInteger(t, "the acts of "+w.text, count, code, int64(len(acts)), impl.OK)
		rain, code := impl.RainOf(got)
		wantNumber(t, "the rain of "+w.text, rain, code, bitsNumber(w.gauge), impl.OK)
		water, code := impl.WaterOfColumn(got)
		wantNumber(t, "the water of "+w.text, water, code, bitsNumber(w.water), impl.OK)
		base, code := impl.CloudBase(got)
		if w.base < 0 {
			wantInteger(t, "the base of "+w.text, base, code, 0, impl.ErrNotFound)
		} else {
			wantInteger(t, "the base of "+w.text, base, code, w.base, impl.OK)
		}
		wantInteger(t, "the ticks of "+w.text, got.Ticks, impl.OK, w.ticks, impl.OK)
		sum := fnv.New64a()
		sum.Write([]byte(impl.ColumnText(got)))
		if sum.Sum64() != w.sum {
			t.Errorf("%s: the text of the column has the sum %016x, want %016x", w.text, sum.Sum64(), w.sum)
		}
	}
}
