package tests

import (
	"fmt"
	"math"
	"testing"

	"loop.example/g01224/impl"
)

const mostTicks = 1000000000

// differences tells in which places two columns are not the same.
func differences(x, y impl.Column) []string {
	var list []string
	look := func(what string, a, b float32) {
		if !sameNumbers(a, b) {
			list = append(list, fmt.Sprintf("%s: %v and %v", what, a, b))
		}
	}
	for cell := range x.Drops {
		for class := range x.Drops[cell] {
			look(fmt.Sprintf("cell %d, class %d", cell, class), x.Drops[cell][class], y.Drops[cell][class])
		}
		look(fmt.Sprintf("cell %d, heat", cell), x.Airs[cell].Heat, y.Airs[cell].Heat)
		look(fmt.Sprintf("cell %d, vapour", cell), x.Airs[cell].Vapour, y.Airs[cell].Vapour)
	}
	look("gauge", x.Gauge, y.Gauge)
	if x.Ticks != y.Ticks {
		list = append(list, fmt.Sprintf("ticks: %d and %d", x.Ticks, y.Ticks))
	}
	return list
}

func wantColumn(t *testing.T, what string, got impl.Column, code int64, want impl.Column, wantCode int64) {
	t.Helper()
	if code != wantCode {
		t.Errorf("%s: got the code %d, want %d", what, code, wantCode)
	}
	if list := differences(got, want); len(list) > 0 {
		t.Errorf("%s: got and want differ in %d places, first in %s", what, len(list), list[0])
	}
}

// evenColumn has the same droplets and the same air in all cells.
func evenColumn(c impl.Sizes, air impl.Air) impl.Column {
	var x impl.Column
	for cell := range x.Drops {
		x.Drops[cell], x.Airs[cell] = c, air
	}
	return x
}

// quiet is air in which nothing grows: its excess is 0.
var quiet = impl.Air{Heat: 0, Vapour: 5}

// goodColumn has different numbers in all places.
func goodColumn() impl.Column {
	x := impl.Column{Gauge: 0.75, Ticks: 12}
	for cell := range x.Drops {
		for class := range x.Drops[cell] {
			x.Drops[cell][class] = float32(1+20*cell+class) / 1024
		}
		x.Airs[cell] = impl.Air{Heat: 10.5 - 3*float32(cell), Vapour: 5 + float32(cell)/8}
	}
	return x
}

// column returns a valid column in which weather can go on.
func (c *chance) column(t *testing.T) impl.Column {
	t.Helper()
	x := impl.Column{Gauge: c.amount(), Ticks: int64(c.next(1000))}
	for cell := range x.Drops {
		if c.next(5) > 0 {
			x.Drops[cell] = c.cloud(t)
		}
		x.Airs[cell] = c.air()
	}
	return x
}

// notColumns has columns that are not valid in just one number.
func notColumns() []impl.Column {
	var list []impl.Column
	add := func(change func(x *impl.Column)) {
		x := goodColumn()
		change(&x)
		list = append(list, x)
	}
	for cell := range 8 {
		for _, number := range notAmounts {
			add(func(x *impl.Column) { x.Drops[cell][0] = number })
			add(func(x *impl.Column) { x.Drops[cell][(7*cell+3)%20] = number })
			add(func(x *impl.Column) { x.Drops[cell][19] = number })
		}
		for _, air := range notAirs() {
			add(func(x *impl.Column) { x.Airs[cell] = air })
		}
	}
	for _, number := range notAmounts {
		add(func(x *impl.Column) { x.Gauge = number })
	}
	for _, ticks := range []int64{-1, mostTicks + 1, math.MinInt64, math.MaxInt64} {
		add(func(x *impl.Column) { x.Ticks = ticks })
	}
	return list
}

// columnsAtTheEnds has valid columns.
func columnsAtTheEnds() []impl.Column {
	list := []impl.Column{
		{}, {Ticks: mostTicks}, {Ticks: mostTicks - 1}, {Ticks: 1}, {Gauge: greatest}, {Gauge: smallest}, goodColumn(),
		evenColumn(fullSizes(greatest), impl.Air{}), evenColumn(fullSizes(smallest), impl.Air{}),
	}
	for _, air := range airsAtTheEnds() {
		list = append(list, evenColumn(impl.Sizes{3: 5, 18: 0.25}, air))
	}
	for cell := range 8 {
		x := goodColumn()
		x.Drops[cell], x.Airs[cell] = fullSizes(greatest), impl.Air{Heat: 60, Vapour: 1000}
		y := goodColumn()
		y.Drops[cell], y.Airs[cell] = impl.Sizes{}, impl.Air{Heat: -60, Vapour: 0}
		list = append(list, x, y)
	}
	return list
}

// The example of chapter 6.
func TestCloudsExample(t *testing.T) {
	shares := impl.FallShares()
	wantNumber(t, "FallShares of the class 0", shares[0], impl.OK, 1.0/64, impl.OK)
	wantNumber(t, "FallShares of the class 3", shares[3], impl.OK, 1.0/32, impl.OK)
	still, code := impl.StillColumn(20, 0)
	wantNumber(t, "the heat in the highest cell", still.Airs[7].Heat, code, 6, impl.OK)
	x, code := impl.TickColumns(still, 10)
	rain, rainCode := impl.RainOf(x)
	wantNumber(t, "the rain behind 10 ticks", rain, code+rainCode, 0, impl.OK)
	wantInteger(t, "the ticks behind 10 ticks", x.Ticks, code, 10, impl.OK)
	large, code := impl.RadiusOf(18)
	wantNumber(t, "RadiusOf 18", large, code, 64, impl.OK)
	x, code = impl.SettleOnce(impl.Column{Drops: [8]impl.Sizes{0: {18: 1}}})
	wantColumn(t, "SettleOnce", x, code, impl.Column{Gauge: 4}, impl.OK)
	wantCompiled(t, "times 2\nseed 3 1/2 8\nwait 5\nend\n", []impl.Act{
		{Kind: impl.AcSeed, Cell: 3, A: 0.5, B: 8}, {Kind: impl.AcWait, A: 5}, {Kind: impl.AcSeed, Cell: 3, A: 0.5, B: 8}, {Kind: impl.AcWait, A: 5},
	}, 0, impl.OK)
}

func TestConstantsOfClouds(t *testing.T) {
	got := []int64{impl.Cells, impl.MaxTicks, impl.MaxWeatherText, impl.MaxWeatherLines, impl.MaxActs, impl.MaxTimes, impl.AcHeat, impl.AcWet, impl.AcSeed, impl.AcNuclei, impl.AcStir, impl.AcWait}
	want := []int64{8, 200, 3000, 120, 120, 16, 1, 2, 3, 4, 5, 6}
	if fmt.Sprint(got) != fmt.Sprint(want) {
		t.Errorf("the constants are %v, want %v", got, want)
	}
}

func TestValidColumn(t *testing.T) {
	for index, x := range columnsAtTheEnds() {
		if !impl.ValidColumn(x) {
			t.Errorf("ValidColumn of the column %d at the ends: got false", index)
		}
	}
	for index, x := range notColumns() {
		if impl.ValidColumn(x) {
			t.Errorf("ValidColumn of the column %d that is none: got true", index)
		}
	}
}

// changesOfColumns has a change for each number of a column.
func changesOfColumns() []func(x *impl.Column) *float32 {
	list := []func(x *impl.Column) *float32{func(x *impl.Column) *float32 { return &x.Gauge }}
	for cell := range 8 {
		list = append(list,
			func(x *impl.Column) *float32 { return &x.Airs[cell].Heat },
			func(x *impl.Column) *float32 { return &x.Airs[cell].Vapour })
		for class := range 20 {
			list = append(list, func(x *impl.Column) *float32 { return &x.Drops[cell][class] })
		}
	}
	return list
}

func TestSameColumn(t *testing.T) {
	odd := math.Float32frombits(0x7fc00001)
	numbers := []float32{0, minus0, 1, -1, smallest, infinite, -infinite, noNumber, odd}
	for index, number := range changesOfColumns() {
		for _, a := range numbers {
			for _, b := range numbers {
				x, y := goodColumn(), goodColumn()
				*number(&x), *number(&y) = a, b
				if impl.SameColumn(x, y) != sameNumbers(a, b) {
					t.Errorf("SameColumn of columns whose number %d is %v and %v: got %v", index, a, b, !sameNumbers(a, b))
				}
			}
		}
	}
	for _, ticks := range []int64{0, -1, 13, mostTicks + 1, math.MinInt64, math.MaxInt64} {
		x, y := goodColumn(), goodColumn()
		x.Ticks = ticks
		if impl.SameColumn(x, y) || impl.SameColumn(y, x) || !impl.SameColumn(x, x) {
			t.Errorf("SameColumn of 12 and %d ticks is wrong", ticks)
		}
	}
	for _, x := range append(columnsAtTheEnds(), notColumns()...) {
		if !impl.SameColumn(x, x) {
			t.Error("a column is not the same as itself")
		}
	}
}

func stillModel(heat, vapour float32) impl.Column {
	var x impl.Column
	for cell := range x.Airs {
		x.Airs[cell] = impl.Air{Heat: minus(heat, float32(2*cell)), Vapour: vapour}
	}
	return x
}

func TestStillColumn(t *testing.T) {
	for _, heat := range []float32{60, math.Nextafter32(60, 0), 0, minus0, smallest, 2, 7.1, -45.9, math.Nextafter32(-46, 0), -46} {
		for _, vapour := range vapoursAtTheEnds {
			got, code := impl.StillColumn(heat, vapour)
			wantColumn(t, "StillColumn", got, code, stillModel(heat, vapour), impl.OK)
		}
	}
	x, code := impl.StillColumn(-46, 1000)
	for cell, heat := range []float32{-46, -48, -50, -52, -54, -56, -58, -60} {
		wantAir(t, "a cell of StillColumn -46", x.Airs[cell], code, impl.Air{Heat: heat, Vapour: 1000}, impl.OK)
	}
	g := chance(400)
	for range 1000 {
		heat, vapour := float32(g.next(10601))/100-46, g.air().Vapour
		got, code := impl.StillColumn(heat, vapour)
		wantColumn(t, "StillColumn", got, code, stillModel(heat, vapour), impl.OK)
	}
}

func TestStillColumnErrors(t *testing.T) {
	for _, heat := range append([]float32{math.Nextafter32(-46, -47), -47, -60}, notHeats...) {
		for _, vapour := range []float32{0, 5, 1000, -1, noNumber} {
			got, code := impl.StillColumn(heat, vapour)
			wantColumn(t, "StillColumn of a heat that is none", got, code, impl.Column{}, impl.ErrRange)
		}
	}
	for _, vapour := range notVapours {
		for _, heat := range []float32{60, 0, -46} {
			got, code := impl.StillColumn(heat, vapour)
			wantColumn(t, "StillColumn of a vapour that is none", got, code, impl.Column{}, impl.ErrRange)
		}
	}
}

// waterOfModel is the sum from the gauge and the lowest cell on.
func waterOfModel(x impl.Column) float32 {
	list := []float32{x.Gauge}
	for cell := range x.Drops {
		list = append(list, plus(x.Airs[cell].Vapour, over(waterModel(x.Drops[cell]), 65536)))
	}
	return total(list)
}

func TestWaterOfColumn(t *testing.T) {
	g := chance(401)
	for range 1000 {
		x := g.column(t)
		got, code := impl.WaterOfColumn(x)
		wantNumber(t, "WaterOfColumn", got, code, waterOfModel(x), impl.OK)
	}
	one := impl.Column{Gauge: 0x1p24}
	for cell := range one.Airs {
		one.Airs[cell].Vapour = 1
	}
	for _, x := range []struct {
		what string
		x    impl.Column
		want float32
	}{
		{"nothing", impl.Column{}, 0},
		{"the gauge", impl.Column{Gauge: 1.5}, 1.5},
		{"a droplet of a gram in the cell 0", impl.Column{Drops: [8]impl.Sizes{0: {16: 1}}}, 1},
		{"a droplet of a gram in the cell 7", impl.Column{Drops: [8]impl.Sizes{7: {16: 1}}}, 1},
		{"the vapour of the cell 0", impl.Column{Airs: [8]impl.Air{0: {Vapour: 3}}}, 3},
		{"the vapour of the cell 7", impl.Column{Airs: [8]impl.Air{7: {Vapour: 3}}}, 3},
		{"still air", stillModel(20, 5), 40},
		{"grams that are lost one by one in a great gauge", one, 0x1p24},
		{"a great cell 0, in which small ones are lost", impl.Column{Airs: [8]impl.Air{0: {Vapour: 1000}, 1: {Vapour: 0x1p-15}, 7: {Vapour: 0x1p-15}}}, 1000},
		{"a great cell 7 behind small ones", impl.Column{Airs: [8]impl.Air{0: {Vapour: 0x1p-15}, 1: {Vapour: 0x1p-15}, 7: {Vapour: 1000}}}, math.Nextafter32(1000, 1001)},
		{"the greatest gauge", impl.Column{Gauge: greatest, Airs: [8]impl.Air{3: {Vapour: 1000}}}, greatest},
	} {
		got, code := impl.WaterOfColumn(x.x)
		wantNumber(t, "WaterOfColumn: "+x.what, got, code, x.want, impl.OK)
	}
}

func TestWaterOfColumnErrors(t *testing.T) {
	for _, x := range notColumns() {
		got, code := impl.WaterOfColumn(x)
		wantNumber(t, "WaterOfColumn of no column", got, code, 0, impl.ErrInvalid)
	}
	for cell := range 8 {
		x := goodColumn()
		x.Drops[cell][19] = greatest
		got, code := impl.WaterOfColumn(x)
		wantNumber(t, "WaterOfColumn with too much water in a cell", got, code, 0, impl.ErrState)
		x = impl.Column{Gauge: greatest}
		x.Drops[cell][19] = 0x1p108
		got, code = impl.WaterOfColumn(x)
		wantNumber(t, "WaterOfColumn with too much water in all", got, code, 0, impl.ErrState)
	}
}

func TestRainOf(t *testing.T) {
	for _, gauge := range []float32{0, smallest, 1.5, greatest} {
		x := goodColumn()
		x.Gauge = gauge
		got, code := impl.RainOf(x)
		wantNumber(t, "RainOf", got, code, gauge, impl.OK)
	}
	for _, x := range notColumns() {
		got, code := impl.RainOf(x)
		wantNumber(t, "RainOf no column", got, code, 0, impl.ErrInvalid)
	}
}

func wantBaseOfCloud(t *testing.T, what string, x impl.Column, want, wantCode int64) {
	t.Helper()
	got, code := impl.CloudBase(x)
	wantInteger(t, what, got, code, want, wantCode)
}

func TestCloudBase(t *testing.T) {
	wantBaseOfCloud(t, "CloudBase without droplets", stillModel(20, 1000), 0, impl.ErrNotFound)
	less := math.Nextafter32(1024, 0)
	wantBaseOfCloud(t, "CloudBase with less than a cloud in all cells", evenColumn(impl.Sizes{0: less}, quiet), 0, impl.ErrNotFound)
	wantBaseOfCloud(t, "CloudBase with a great gauge", impl.Column{Gauge: greatest}, 0, impl.ErrNotFound)
	for cell := range 8 {
		for _, c := range []impl.Sizes{{10: 1}, {0: 1024}, {0: math.Nextafter32(1024, 2000)}, {0: 512, 9: 1}, {19: 1}, {19: 1.0 / 512}, {0: 24, 3: 125}, {19: 1e30}} {
			x := evenColumn(impl.Sizes{0: less}, quiet)
			x.Drops[cell] = c
			wantBaseOfCloud(t, "CloudBase with a cloud in one cell", x, int64(cell), impl.OK)
			for higher := cell; higher < 8; higher += 2 {
				x.Drops[higher] = impl.Sizes{12: 1}
			}
			wantBaseOfCloud(t, "CloudBase with clouds in several cells", x, int64(cell), impl.OK)
		}
		for _, c := range []impl.Sizes{{}, {0: less}, {9: 1, 8: 1, 0: 255}, {10: math.Nextafter32(1, 0)}, {19: math.Nextafter32(1.0/512, 0)}} {
			var x impl.Column
			x.Drops[cell] = c
			wantBaseOfCloud(t, "CloudBase with less than a cloud in one cell", x, 0, impl.ErrNotFound)
		}
	}
	// Cells are looked at from the lowest one on; one whose water WaterOf cannot tell has its error.
	for cell := range 8 {
		var x impl.Column
		x.Drops[cell][19], x.Drops[7][18] = greatest, 1
		wantBaseOfCloud(t, "CloudBase with too much water in a cell", x, 0, impl.ErrState)
		if cell > 0 {
			x.Drops[cell-1][10] = 1
			wantBaseOfCloud(t, "CloudBase with too much water above the cloud", x, int64(cell-1), impl.OK)
		}
	}
	for _, x := range notColumns() {
		x.Drops[3][19] = max(x.Drops[3][19], 5)
		if !impl.ValidColumn(x) {
			wantBaseOfCloud(t, "CloudBase of no column", x, 0, impl.ErrInvalid)
		}
	}
}
