package tests

import (
	"math"
	"testing"

	"loop.example/g01224/impl"
)

// mixSizesModel is MixSizes without its errors.
func mixSizesModel(c, d impl.Sizes, share float32) impl.Sizes {
	var mixed impl.Sizes
	for class := range mixed {
		mixed[class] = plus(times(c[class], minus(1, share)), times(d[class], share))
	}
	return mixed
}

// stirModel is StirColumn without its errors.
func stirModel(x impl.Column, share float32) impl.Column {
	for cell := range 7 {
		was := x
		x.Drops[cell] = mixSizesModel(was.Drops[cell], was.Drops[cell+1], share)
		x.Drops[cell+1] = mixSizesModel(was.Drops[cell+1], was.Drops[cell], share)
		x.Airs[cell] = mixModel(was.Airs[cell], was.Airs[cell+1], share)
		x.Airs[cell+1] = mixModel(was.Airs[cell+1], was.Airs[cell], share)
	}
	return x
}

func wantStirred(t *testing.T, what string, x impl.Column, share float32, want impl.Column, wantCode int64) {
	t.Helper()
	got, code := impl.StirColumn(x, share)
	wantColumn(t, what, got, code, want, wantCode)
}

var sharesAtTheEnds = []float32{0, smallest, 1e-10, 1.0 / 1024, 0.25, math.Nextafter32(0.5, 0), 0.5}

func TestStirColumn(t *testing.T) {
	g := chance(430)
	for range 500 {
		x, share := g.column(t), g.share()/2
		if g.next(5) == 0 {
			share = sharesAtTheEnds[g.next(uint32(len(sharesAtTheEnds)))]
		}
		for cell := range x.Airs {
			// Near the bounds of air, roundings can make none.
			x.Airs[cell].Heat, x.Airs[cell].Vapour = times(x.Airs[cell].Heat, 0.9), times(x.Airs[cell].Vapour, 0.9)
		}
		wantStirred(t, "StirColumn", x, share, stirModel(x, share), impl.OK)
	}
}

func TestStirColumnOfOneCell(t *testing.T) {
	// What is in the lowest cell is carried on from cell to cell; what is in the highest one comes just one cell down.
	for _, x := range []struct {
		what    string
		share   float32
		x, want impl.Column
	}{
		{"a half of the lowest cell", 0.5, in(3, 1, 256), in(3, 1, 128, 64, 32, 16, 8, 4, 2, 2)},
		{"a half of the highest cell", 0.5, in(3, 1, 0, 0, 0, 0, 0, 0, 0, 256), in(3, 1, 0, 0, 0, 0, 0, 0, 128, 128)},
		{"a half of the middle", 0.5, in(3, 1, 0, 0, 0, 256), in(3, 1, 0, 0, 128, 64, 32, 16, 8, 8)},
		{"a quarter of the lowest cell", 0.25, in(3, 1, 0x1p20), in(3, 1, 0xc0000, 0x30000, 0xc000, 0x3000, 0xc00, 0x300, 0xc0, 0x40)},
		{"a quarter of the highest cell", 0.25, in(3, 1, 0, 0, 0, 0, 0, 0, 0, 256), in(3, 1, 0, 0, 0, 0, 0, 0, 64, 192)},
		{"nothing", 0, in(3, 1, 1, 2, 3, 4, 5, 6, 7, 8), in(3, 1, 1, 2, 3, 4, 5, 6, 7, 8)},
	} {
		x.x.Airs, x.want.Airs = [8]impl.Air{}, [8]impl.Air{}
		wantStirred(t, "StirColumn of "+x.what, x.x, x.share, x.want, impl.OK)
	}
	x, want := impl.Column{Ticks: 7}, impl.Column{Ticks: 7}
	x.Airs[0] = impl.Air{Heat: -32, Vapour: 256}
	for cell, part := range []float32{128, 64, 32, 16, 8, 4, 2, 2} {
		want.Airs[cell] = impl.Air{Heat: -part / 8, Vapour: part}
	}
	wantStirred(t, "StirColumn of the air of the lowest cell", x, 0.5, want, impl.OK)
}

// The mean of two equal heats of 60 and of the share 0.001 is rounded to more than 60.
func TestStirColumnErrors(t *testing.T) {
	for _, x := range notColumns() {
		for _, share := range []float32{0, 0.25, 0.5, 0.75, noNumber} {
			wantStirred(t, "StirColumn of no column", x, share, impl.Column{}, impl.ErrInvalid)
		}
	}
	hot := evenColumn(impl.Sizes{}, impl.Air{Heat: 60})
	for _, share := range append([]float32{math.Nextafter32(0.5, 1), 0.75, 1}, notShares...) {
		wantStirred(t, "StirColumn with such a share", goodColumn(), share, impl.Column{}, impl.ErrRange)
		wantStirred(t, "StirColumn of hot air with such a share", hot, share, impl.Column{}, impl.ErrRange)
	}
	wantStirred(t, "StirColumn of hot air", hot, 0.001, impl.Column{}, impl.ErrState)
	wantStirred(t, "StirColumn of cold air", evenColumn(impl.Sizes{}, impl.Air{Heat: -60}), 0.001, impl.Column{}, impl.ErrState)
	wantStirred(t, "StirColumn of hot air that stays", hot, 0.25, hot, impl.OK)
	wantStirred(t, "StirColumn with the share 0", hot, 0, hot, impl.OK)
	two := goodColumn()
	two.Airs[0].Heat, two.Airs[1].Heat = 60, 60
	wantStirred(t, "StirColumn of two hot cells", two, 0.001, impl.Column{}, impl.ErrState)
}

func TestStirringKeepsTheWater(t *testing.T) {
	g := chance(431)
	for range 500 {
		x := g.column(t)
		y, code := impl.StirColumn(x, g.share()/2)
		if code != impl.OK {
			continue
		}
		wantKept(t, "StirColumn", x, y)
		if y.Gauge != x.Gauge || y.Ticks != x.Ticks {
			t.Errorf("StirColumn has changed the gauge or the ticks: %v %d and then %v %d", x.Gauge, x.Ticks, y.Gauge, y.Ticks)
		}
	}
}
