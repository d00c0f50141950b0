package tests

import (
	"math"
	"testing"

	"loop.example/g01224/impl"
)

// shareBits have been found by another program.
var shareBits = [20]uint32{
	0x3c800000, 0x3ca14518, 0x3ccb2ff5, 0x3d000000, 0x3d214518, 0x3d4b2ff5, 0x3d800000, 0x3da14518, 0x3dcb2ff5, 0x3e000000,
	0x3e214518, 0x3e4b2ff5, 0x3e800000, 0x3ea14518, 0x3ecb2ff5, 0x3f000000, 0x3f214518, 0x3f4b2ff5, 0x3f800000, 0x3f800000,
}

func TestFallShares(t *testing.T) {
	shares := impl.FallShares()
	for class, share := range shares {
		wantNumber(t, "FallShares", share, impl.OK, bitsNumber(shareBits[class]), impl.OK)
		if class > 0 && class < 19 && share <= shares[class-1] {
			t.Errorf("the class %d falls not more quickly than the one before", class)
		}
	}
	shares[3] = 7
	if again := impl.FallShares(); again[3] != 1.0/32 {
		t.Error("FallShares have been changed by what was done to its result")
	}
}

func massNumber(class int) float32 { return float32(math.Exp2(float64(class))) }

// settleColumnModel is SettleOnce without its errors: all falls are found before one droplet moves.
func settleColumnModel(x impl.Column) impl.Column {
	var falls [9]impl.Sizes
	for cell := range x.Drops {
		for class, number := range x.Drops[cell] {
			falls[cell][class] = times(bitsNumber(shareBits[class]), number)
		}
	}
	for class, fallen := range falls[0] {
		x.Gauge = plus(x.Gauge, over(times(fallen, massNumber(class)), 65536))
	}
	for cell := range x.Drops {
		for class := range x.Drops[cell] {
			x.Drops[cell][class] = plus(minus(x.Drops[cell][class], falls[cell][class]), falls[cell+1][class])
		}
	}
	return x
}

func wantSettledColumn(t *testing.T, what string, x, want impl.Column, wantCode int64) {
	t.Helper()
	got, code := impl.SettleOnce(x)
	wantColumn(t, what, got, code, want, wantCode)
}

func TestSettleOnce(t *testing.T) {
	g := chance(410)
	for range 500 {
		x := g.column(t)
		wantSettledColumn(t, "SettleOnce", x, settleColumnModel(x), impl.OK)
		for cell := range x.Drops {
			x.Drops[cell] = g.sizes()
		}
		wantSettledColumn(t, "SettleOnce", x, settleColumnModel(x), impl.OK)
	}
	for _, x := range []impl.Column{{}, {Ticks: mostTicks}, goodColumn(), evenColumn(fullSizes(smallest), quiet), evenColumn(fullSizes(1e-40), quiet)} {
		wantSettledColumn(t, "SettleOnce", x, settleColumnModel(x), impl.OK)
	}
}

// in returns a column with the numbers of one class in the cells from the lowest one on, and some rain.
func in(class int, gauge float32, numbers ...float32) impl.Column {
	x := stillModel(20, 5)
	x.Gauge, x.Ticks = gauge, 3
	for cell, number := range numbers {
		x.Drops[cell][class] = number
	}
	return x
}

func TestAllFallAtOnce(t *testing.T) {
	for _, x := range []struct {
		what    string
		x, want impl.Column
	}{
		{"the lowest cell", in(0, 0, 64), in(0, 0x1p-16, 63)},
		{"the highest cell", in(0, 0, 0, 0, 0, 0, 0, 0, 0, 64), in(0, 0, 0, 0, 0, 0, 0, 0, 1, 63)},
		{"the lowest cell, a class that falls as a whole", in(18, 0, 1), in(18, 4)},
		{"the lowest cell, the last class", in(19, 1, 3), in(19, 25)},
		{"the highest cell, a class that falls as a whole", in(18, 0, 0, 0, 0, 0, 0, 0, 0, 5), in(18, 0, 0, 0, 0, 0, 0, 0, 5)},
		{"the highest cell, the last class", in(19, 0, 0, 0, 0, 0, 0, 0, 0, 5), in(19, 0, 0, 0, 0, 0, 0, 0, 5)},
		{"neighbours of a class that falls as a whole", in(18, 1, 1, 2, 3, 4, 5, 6, 7, 8), in(18, 5, 2, 3, 4, 5, 6, 7, 8)},
		{"neighbours of the last class", in(19, 1, 1, 2, 3, 4, 5, 6, 7, 8), in(19, 9, 2, 3, 4, 5, 6, 7, 8)},
		{"neighbours of the class 0", in(0, 0, 64, 4096, 8192), in(0, 0x1p-16, 127, 4160, 8064)},
		{"neighbours of the class 15, a half of which falls", in(15, 2, 8, 16, 32, 0, 64), in(15, 4, 12, 24, 16, 32, 32)},
		{"two neighbours in the middle", in(12, 0, 0, 0, 0, 64, 1024), in(12, 0, 0, 0, 16, 304, 768)},
		{"the highest two", in(12, 0, 0, 0, 0, 0, 0, 0, 64, 1024), in(12, 0, 0, 0, 0, 0, 0, 16, 304, 768)},
		{"the lowest two", in(12, 0, 64, 1024), in(12, 1, 304, 768)},
		{"what is added behind the difference", in(19, 0, 0, 0x1p30, 1), in(19, 0, 0x1p30, 1)},
	} {
		wantSettledColumn(t, "SettleOnce: "+x.what, x.x, x.want, impl.OK)
	}
}

func TestRainComesClassByClass(t *testing.T) {
	two := impl.Sizes{18: 0.25, 19: 0.125}
	wantSettledColumn(t, "a gram and a gram", impl.Column{Drops: [8]impl.Sizes{two}}, impl.Column{Gauge: 2}, impl.OK)
	wantSettledColumn(t, "a gram and a gram, each lost in the gauge", impl.Column{Drops: [8]impl.Sizes{two}, Gauge: 0x1p24}, impl.Column{Gauge: 0x1p24}, impl.OK)
	little := impl.Column{Drops: [8]impl.Sizes{{18: 0x1p-26, 19: 0.125}}, Gauge: 0x1p-24}
	wantSettledColumn(t, "a little before much", little, impl.Column{Gauge: 1 + 0x1p-23}, impl.OK)
	much := impl.Column{Drops: [8]impl.Sizes{{18: 0.25, 19: 0x1p-27}}, Gauge: 0x1p-24}
	wantSettledColumn(t, "much before a little", much, impl.Column{Gauge: 1}, impl.OK)
	for _, number := range []float32{smallest, 3 * smallest, 0x1p-140} {
		x := impl.Column{Drops: [8]impl.Sizes{{18: number}}}
		wantSettledColumn(t, "droplets that are few", x, impl.Column{Gauge: 4 * number}, impl.OK)
	}
	wantSettledColumn(t, "the greatest gauge", impl.Column{Drops: [8]impl.Sizes{{18: 1}}, Gauge: greatest}, impl.Column{Gauge: greatest}, impl.OK)
}

func TestSettleOnceErrors(t *testing.T) {
	for _, x := range notColumns() {
		wantSettledColumn(t, "SettleOnce of no column", x, impl.Column{}, impl.ErrInvalid)
	}
	wantSettledColumn(t, "a gauge that becomes infinite", impl.Column{Drops: [8]impl.Sizes{{18: 0x1p109}}, Gauge: greatest}, impl.Column{}, impl.ErrState)
	wantSettledColumn(t, "a product that becomes infinite", impl.Column{Drops: [8]impl.Sizes{{19: 0x1p110}}}, impl.Column{}, impl.ErrState)
	wantSettledColumn(t, "a product that does just not", impl.Column{Drops: [8]impl.Sizes{{19: 0x1p108}}}, impl.Column{Gauge: 0x1p111}, impl.OK)
	// The shares of the class 13 of the greatest number that fall and stay are both rounded up.
	for cell := 1; cell < 7; cell++ {
		var x impl.Column
		x.Drops[cell][13], x.Drops[cell+1][13] = greatest, greatest
		wantSettledColumn(t, "a cell that becomes infinite", x, impl.Column{}, impl.ErrState)
		x.Drops[cell+1][13] = 0
		wantSettledColumn(t, "a cell that stays finite", x, settleColumnModel(x), impl.OK)
	}
}

// wideWaterOf is all water in wide numbers, so that just what settling and stirring lose is seen.
func wideWaterOf(x impl.Column) float64 {
	grams := float64(x.Gauge)
	for cell := range x.Drops {
		grams += waterInBoth(x.Drops[cell], x.Airs[cell])
	}
	return grams
}

func wantKept(t *testing.T, what string, before, after impl.Column) {
	t.Helper()
	all, left := wideWaterOf(before), wideWaterOf(after)
	if math.Abs(all-left) > 1e-5*all {
		t.Errorf("%s: there are %v and then %v grams", what, all, left)
	}
	narrow, code := impl.WaterOfColumn(before)
	behind, behindCode := impl.WaterOfColumn(after)
	if code != impl.OK || behindCode != impl.OK || !nearly(narrow, behind) {
		t.Errorf("%s: WaterOfColumn is %v, %d and then %v, %d", what, narrow, code, behind, behindCode)
	}
}

func TestSettlingKeepsTheWater(t *testing.T) {
	g := chance(411)
	for range 500 {
		x := g.column(t)
		y, code := impl.SettleOnce(x)
		wantInteger(t, "SettleOnce", code, code, impl.OK, impl.OK)
		wantKept(t, "SettleOnce", x, y)
	}
}

// numberFrom is how many droplets of a class are in a cell and in those above it.
func numberFrom(x impl.Column, cell, class int) float64 {
	sum := 0.0
	for ; cell < 8; cell++ {
		sum += float64(x.Drops[cell][class])
	}
	return sum
}

func TestWhatFallsFallsDown(t *testing.T) {
	for cell := range 8 {
		for class := range 20 {
			var x, want impl.Column
			x.Drops[cell][class] = 1
			share := bitsNumber(shareBits[class])
			want.Drops[cell][class] = 1 - share
			if cell > 0 {
				want.Drops[cell-1][class] = share
			} else {
				want.Gauge = share * massNumber(class) / 65536
			}
			wantSettledColumn(t, "SettleOnce of one droplet", x, want, impl.OK)
		}
	}
	g := chance(412)
	for range 300 {
		x := g.column(t)
		y, _ := impl.SettleOnce(x)
		if y.Gauge < x.Gauge || y.Ticks != x.Ticks || y.Airs != x.Airs {
			t.Errorf("the gauge, the ticks or the air: %v %d %v and then %v %d %v", x.Gauge, x.Ticks, x.Airs, y.Gauge, y.Ticks, y.Airs)
		}
		for class := range 20 {
			for cell := range 8 {
				if before, after := numberFrom(x, cell, class), numberFrom(y, cell, class); after > before*(1+1e-6) {
					t.Errorf("droplets of the class %d in the cell %d and above: %v and then %v", class, cell, before, after)
				}
			}
		}
	}
}

// A droplet that falls as a whole falls one cell in each tick.
func TestOneCellInEachTick(t *testing.T) {
	x := evenColumn(impl.Sizes{}, quiet)
	x.Drops[7][18] = 1
	for tick := range 10 {
		got, code := impl.TickColumns(x, int64(tick))
		want := evenColumn(impl.Sizes{}, quiet)
		want.Ticks = int64(tick)
		if tick < 8 {
			want.Drops[7-tick][18] = 1
		} else {
			want.Gauge = 4
		}
		wantColumn(t, "TickColumns of one droplet", got, code, want, impl.OK)
	}
}
