package tests

import (
	"math"
	"testing"

	"loop.example/g01224/impl"
)

// growColumnModel is GrowColumn without its errors.
func growColumnModel(x impl.Column) impl.Column {
	for cell := range x.Drops {
		x.Drops[cell], x.Airs[cell] = growModel(x.Drops[cell], x.Airs[cell], 0.0625)
	}
	return x
}

func tickModel(x impl.Column) impl.Column {
	x = settleColumnModel(growColumnModel(x))
	x.Ticks++
	return x
}

func ticksModel(x impl.Column, count int64) impl.Column {
	for range count {
		x = tickModel(x)
	}
	return x
}

func wantGrownColumn(t *testing.T, what string, x, want impl.Column, wantCode int64) {
	t.Helper()
	got, code := impl.GrowColumn(x)
	wantColumn(t, what, got, code, want, wantCode)
}

func wantTick(t *testing.T, what string, x, want impl.Column, wantCode int64) {
	t.Helper()
	got, code := impl.TickColumn(x)
	wantColumn(t, what, got, code, want, wantCode)
}

func wantTicks(t *testing.T, what string, x impl.Column, count int64, want impl.Column, wantCode int64) {
	t.Helper()
	got, code := impl.TickColumns(x, count)
	wantColumn(t, what, got, code, want, wantCode)
}

// heavyCells has a column for each cell that has more water than a number can tell.
func heavyCells() []impl.Column {
	var list []impl.Column
	for cell := range 8 {
		x := goodColumn()
		x.Drops[cell][19] = greatest
		list = append(list, x)
	}
	return list
}

func TestGrowColumn(t *testing.T) {
	g := chance(420)
	for range 300 {
		x := g.column(t)
		wantGrownColumn(t, "GrowColumn", x, growColumnModel(x), impl.OK)
	}
	for _, x := range []impl.Column{{}, {Ticks: mostTicks, Gauge: greatest}, goodColumn(), evenColumn(impl.Sizes{0: 3, 19: 2}, impl.Air{Heat: 60, Vapour: 1000}), evenColumn(impl.Sizes{0: 3}, impl.Air{Heat: -60})} {
		wantGrownColumn(t, "GrowColumn", x, growColumnModel(x), impl.OK)
	}
	for cell := range 8 {
		x := evenColumn(impl.Sizes{4: 7}, quiet)
		wantGrownColumn(t, "GrowColumn in quiet air", x, x, impl.OK)
		x.Airs[cell] = impl.Air{Heat: 0, Vapour: 6}
		want := x
		// The excess 1 and the time 1/16 let a droplet of the class 4 gain a sixteenth of its radius.
		want.Drops[cell], want.Airs[cell] = growModel(x.Drops[cell], x.Airs[cell], 1.0/16)
		wantGrownColumn(t, "GrowColumn in one cell", x, want, impl.OK)
		if want.Drops[cell] == x.Drops[cell] {
			t.Error("nothing grows in air with an excess")
		}
	}
}

func TestGrowColumnErrors(t *testing.T) {
	for _, x := range notColumns() {
		wantGrownColumn(t, "GrowColumn of no column", x, impl.Column{}, impl.ErrInvalid)
	}
	for _, x := range heavyCells() {
		wantGrownColumn(t, "GrowColumn of too much water", x, impl.Column{}, impl.ErrState)
	}
}

func TestTickColumn(t *testing.T) {
	g := chance(421)
	for range 300 {
		x := g.column(t)
		wantTick(t, "TickColumn", x, tickModel(x), impl.OK)
	}
	for _, ticks := range []int64{0, 1, mostTicks - 2, mostTicks - 1} {
		x := in(18, 0.5, 1, 2, 3)
		x.Ticks = ticks
		wantTick(t, "TickColumn", x, tickModel(x), impl.OK)
	}
	// Droplets grow before they fall.
	x := evenColumn(impl.Sizes{}, impl.Air{Heat: 0, Vapour: 905})
	x.Drops[0][18] = 1
	grown, code := impl.GrowColumn(x)
	tick, tickCode := impl.TickColumn(x)
	if code != impl.OK || tickCode != impl.OK || tick.Gauge <= 4 || !nearly(tick.Gauge, 4+64*900.0/16/65536) || grown.Drops[0][18] >= 1 {
		t.Errorf("a droplet of the class 18 that has grown is %v grams in the gauge", tick.Gauge)
	}
}

func TestTickColumnErrors(t *testing.T) {
	for _, x := range notColumns() {
		wantTick(t, "TickColumn of no column", x, impl.Column{}, impl.ErrInvalid)
	}
	for _, x := range heavyCells() {
		wantTick(t, "TickColumn of too much water", x, impl.Column{}, impl.ErrState)
	}
	wantTick(t, "TickColumn behind the last tick", impl.Column{Ticks: mostTicks}, impl.Column{}, impl.ErrState)
	full := evenColumn(impl.Sizes{}, quiet)
	full.Drops[0][18], full.Gauge = 0x1p109, greatest
	wantTick(t, "TickColumn with a gauge that becomes infinite", full, impl.Column{}, impl.ErrState)
}

func TestTickColumns(t *testing.T) {
	g := chance(422)
	for range 40 {
		x, count := g.column(t), int64(g.next(30))
		wantTicks(t, "TickColumns", x, count, ticksModel(x, count), impl.OK)
	}
	for _, count := range []int64{0, 1, 2, 199, 200} {
		x := g.column(t)
		wantTicks(t, "TickColumns", x, count, ticksModel(x, count), impl.OK)
		x.Ticks = mostTicks - count
		wantTicks(t, "TickColumns to the last tick", x, count, ticksModel(x, count), impl.OK)
		x.Ticks = mostTicks - count + 1
		if count > 0 {
			wantTicks(t, "TickColumns beyond the last tick", x, count, impl.Column{}, impl.ErrState)
		}
	}
	for _, x := range append(columnsAtTheEnds(), heavyCells()...) {
		wantTicks(t, "TickColumns 0", x, 0, x, impl.OK)
	}
}

func TestTickColumnsErrors(t *testing.T) {
	for _, x := range notColumns() {
		for _, count := range []int64{0, 1, 200, -1, 201} {
			wantTicks(t, "TickColumns of no column", x, count, impl.Column{}, impl.ErrInvalid)
		}
	}
	for _, count := range []int64{-1, 201, math.MinInt64, math.MaxInt64} {
		wantTicks(t, "so many TickColumns", goodColumn(), count, impl.Column{}, impl.ErrRange)
		wantTicks(t, "so many TickColumns behind the last tick", impl.Column{Ticks: mostTicks}, count, impl.Column{}, impl.ErrRange)
	}
	for _, x := range heavyCells() {
		wantTicks(t, "TickColumns of too much water", x, 1, impl.Column{}, impl.ErrState)
		wantTicks(t, "TickColumns of too much water", x, 200, impl.Column{}, impl.ErrState)
	}
	// The error comes in the fourth tick, when all droplets fall into the gauge.
	x := evenColumn(impl.Sizes{}, quiet)
	x.Drops[3][18], x.Gauge = 0x1p109, greatest
	want := evenColumn(impl.Sizes{}, quiet)
	want.Drops[0][18], want.Gauge, want.Ticks = 0x1p109, greatest, 3
	wantTicks(t, "TickColumns before the error", x, 3, want, impl.OK)
	wantTicks(t, "TickColumns with an error at the end", x, 4, impl.Column{}, impl.ErrState)
	wantTicks(t, "TickColumns with an error in the middle", x, 9, impl.Column{}, impl.ErrState)
}

func TestTicksAreTicksAtOnce(t *testing.T) {
	g := chance(423)
	for range 40 {
		x := g.column(t)
		first, second := int64(g.next(101)), int64(g.next(100))
		at, code := impl.TickColumns(x, first+second)
		wantInteger(t, "TickColumns", code, code, impl.OK, impl.OK)
		part, _ := impl.TickColumns(x, first)
		wantTicks(t, "TickColumns in two parts", part, second, at, impl.OK)
		one := x
		for range first + second {
			one, _ = impl.TickColumn(one)
		}
		wantColumn(t, "TickColumn again and again", one, impl.OK, at, impl.OK)
		if rain, code := impl.RainOf(at); rain < x.Gauge || code != impl.OK {
			t.Errorf("there is less rain behind %d ticks: %v, %d", first+second, rain, code)
		}
	}
}

// Without vapour that is held at its bounds, ticks keep the water, too.
func TestTicksKeepTheWater(t *testing.T) {
	g := chance(424)
	looked := 0
	for range 200 {
		x := g.column(t)
		for cell := range x.Airs {
			x.Airs[cell].Vapour = 20 + 40*g.share()
		}
		y, code := impl.TickColumns(x, 5)
		wantInteger(t, "TickColumns", code, code, impl.OK, impl.OK)
		held := false
		for _, air := range y.Airs {
			held = held || air.Vapour == 0 || air.Vapour == 1000
		}
		if !held {
			looked++
			wantKept(t, "TickColumns", x, y)
		}
	}
	if looked < 100 {
		t.Errorf("just %d runs are looked at", looked)
	}
}
