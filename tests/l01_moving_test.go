package tests

import (
	"math"
	"testing"

	"loop.example/g01224/impl"
)

// The example of chapter 1.
func TestSizesExample(t *testing.T) {
	mass, code := impl.MassOf(3)
	wantNumber(t, "MassOf 3", mass, code, 8, impl.OK)
	edge, code := impl.EdgeOf(3)
	wantNumber(t, "EdgeOf 3", edge, code, 12, impl.OK)
	r, code := impl.RadiusOf(3)
	wantNumber(t, "RadiusOf 3", r, code, 2, impl.OK)
	c, code := impl.PutDroplets(impl.Sizes{}, 10, 4)
	wantSizes(t, "PutDroplets of 10 and 4", c, code, impl.Sizes{3: 3, 4: 1}, impl.OK)
	water, code := impl.WaterOf(c)
	wantNumber(t, "WaterOf them", water, code, 40, impl.OK)
	class, code := impl.ClassFor(10)
	wantInteger(t, "ClassFor 10", class, code, 3, impl.OK)
	d, come, code := impl.ShiftMasses(impl.Sizes{3: 1}, [20]float32{3: 8})
	wantSizes(t, "ShiftMasses", d, code, impl.Sizes{4: 1}, impl.OK)
	wantNumber(t, "the water that has come", come, code, 8, impl.OK)
}

// putModel is PutDroplets of numbers that it accepts.
func putModel(c impl.Sizes, mass, count float32) impl.Sizes {
	if mass < 1 {
		c[0] = plus(c[0], times(count, mass))
		return c
	}
	class := 0
	for class < 19 && float32(math.Exp2(float64(class+1))) <= mass {
		class++
	}
	least := float32(math.Exp2(float64(class)))
	if class == 19 {
		c[19] = plus(c[19], times(count, over(mass, least)))
		return c
	}
	share := over(minus(mass, least), least)
	c[class] = plus(c[class], times(count, minus(1, share)))
	c[class+1] = plus(c[class+1], times(count, share))
	return c
}

func TestPutDropletsAtTheEnds(t *testing.T) {
	list := []struct {
		mass, count float32
		want        impl.Sizes
	}{
		{1, 7, impl.Sizes{0: 7}},
		{0.25, 8, impl.Sizes{0: 2}},
		{smallest, 1, impl.Sizes{0: smallest}},
		{smallest, 0.5, impl.Sizes{}},
		{math.Nextafter32(1, 0), 1, impl.Sizes{0: math.Nextafter32(1, 0)}},
		{math.Nextafter32(1, 2), 1, impl.Sizes{0: math.Nextafter32(1, 0) - 0x1p-24, 1: 0x1p-23}},
		{1.5, 2, impl.Sizes{0: 1, 1: 1}},
		{262144, 3, impl.Sizes{18: 3}},
		{393216, 2, impl.Sizes{18: 1, 19: 1}},
		{math.Nextafter32(524288, 0), 1, impl.Sizes{18: 0x1p-23, 19: math.Nextafter32(1, 0) - 0x1p-24}},
		{524288, 3, impl.Sizes{19: 3}},
		{786432, 2, impl.Sizes{19: 3}},
		{1048576, 2, impl.Sizes{19: 4}},
		{5242880, 0.5, impl.Sizes{19: 5}},
		{greatest, 1, impl.Sizes{19: greatest / 524288}},
		{10, 0, impl.Sizes{}},
		{0.5, 0, impl.Sizes{}},
		{1e30, 0, impl.Sizes{}},
		{1, greatest, impl.Sizes{0: greatest}},
	}
	for _, x := range list {
		got, code := impl.PutDroplets(impl.Sizes{}, x.mass, x.count)
		wantSizes(t, "PutDroplets", got, code, x.want, impl.OK)
		got, code = impl.PutDroplets(impl.Sizes{0: 1, 1: 2, 18: 4, 19: 8}, x.mass, x.count)
		wantSizes(t, "PutDroplets into some", got, code, putModel(impl.Sizes{0: 1, 1: 2, 18: 4, 19: 8}, x.mass, x.count), impl.OK)
	}
}

func TestPutDropletsKeepsNumberAndWater(t *testing.T) {
	g := chance(5)
	for range 2000 {
		c := g.sizes()
		mass := g.amount()*float32(1+g.next(30)) + 0.01
		count := g.amount()
		got, code := impl.PutDroplets(c, mass, count)
		wantSizes(t, "PutDroplets", got, code, putModel(c, mass, count), impl.OK)
		put, _ := impl.PutDroplets(impl.Sizes{}, mass, count)
		water, _ := impl.WaterOf(put)
		wantNearly(t, "the water of what is put", water, mass*count)
		if mass >= 1 && mass <= 524288 {
			number, _ := impl.CountOf(put)
			wantNearly(t, "the number of what is put", number, count)
		}
	}
}

func TestPutDropletsErrors(t *testing.T) {
	masses := append([]float32{0}, notAmounts...)
	for _, mass := range masses {
		got, code := impl.PutDroplets(impl.Sizes{1}, mass, 1)
		wantSizes(t, "PutDroplets of no mass", got, code, impl.Sizes{}, impl.ErrRange)
		got, code = impl.PutDroplets(impl.Sizes{1}, mass, 0)
		wantSizes(t, "PutDroplets of no mass, and none of them", got, code, impl.Sizes{}, impl.ErrRange)
		got, code = impl.PutDroplets(impl.Sizes{-1}, mass, 1)
		wantSizes(t, "PutDroplets, invalid before range", got, code, impl.Sizes{}, impl.ErrInvalid)
	}
	for _, count := range notAmounts {
		got, code := impl.PutDroplets(impl.Sizes{1}, 10, count)
		wantSizes(t, "PutDroplets of no number", got, code, impl.Sizes{}, impl.ErrRange)
		got, code = impl.PutDroplets(impl.Sizes{19: infinite}, 10, count)
		wantSizes(t, "PutDroplets, invalid before range", got, code, impl.Sizes{}, impl.ErrInvalid)
	}
	for _, x := range [][2]float32{{1, greatest}, {0.5, greatest}, {524288, greatest}, {1048576, greatest}, {greatest, greatest}, {393216, greatest}} {
		got, code := impl.PutDroplets(fullSizes(greatest), x[0], x[1])
		wantSizes(t, "PutDroplets of too many", got, code, impl.Sizes{}, impl.ErrState)
	}
}

func TestTakeShare(t *testing.T) {
	g := chance(6)
	for range 500 {
		c, class, share := g.sizes(), int64(g.next(20)), g.share()
		want := c
		taken := times(share, c[class])
		want[class] = minus(c[class], taken)
		got, number, code := impl.TakeShare(c, class, share)
		wantSizes(t, "TakeShare", got, code, want, impl.OK)
		wantNumber(t, "what is taken", number, code, taken, impl.OK)
		got[class] += number
		wantNearly(t, "what is taken and added again", got[class], c[class])
	}
}

func TestTakeShareAtTheEnds(t *testing.T) {
	for class := range int64(impl.Classes) {
		c := fullSizes(0.1)
		got, taken, code := impl.TakeShare(c, class, 0)
		wantSizes(t, "TakeShare of 0", got, code, c, impl.OK)
		wantNumber(t, "nothing is taken", taken, code, 0, impl.OK)
		want := c
		want[class] = 0
		got, taken, code = impl.TakeShare(c, class, 1)
		wantSizes(t, "TakeShare of 1", got, code, want, impl.OK)
		wantNumber(t, "all is taken", taken, code, 0.1, impl.OK)
	}
	got, taken, code := impl.TakeShare(fullSizes(greatest), 19, 0.5)
	want := fullSizes(greatest)
	want[19] = greatest / 2
	wantSizes(t, "TakeShare of much", got, code, want, impl.OK)
	wantNumber(t, "much is taken", taken, code, greatest/2, impl.OK)
}

func TestTakeShareErrors(t *testing.T) {
	check := func(c impl.Sizes, class int64, share float32, want int64) {
		t.Helper()
		got, taken, code := impl.TakeShare(c, class, share)
		wantSizes(t, "TakeShare", got, code, impl.Sizes{}, want)
		wantNumber(t, "TakeShare", taken, code, 0, want)
	}
	for _, class := range notClasses {
		check(impl.Sizes{1}, class, 0.5, impl.ErrRange)
		check(impl.Sizes{minus0}, class, 0.5, impl.ErrInvalid)
	}
	for _, share := range notShares {
		check(impl.Sizes{1}, 3, share, impl.ErrRange)
		check(impl.Sizes{19: noNumber}, 3, share, impl.ErrInvalid)
	}
}

func TestAddSizes(t *testing.T) {
	g := chance(7)
	for range 300 {
		c, d := g.sizes(), g.sizes()
		var want impl.Sizes
		for class := range want {
			want[class] = plus(c[class], d[class])
		}
		got, code := impl.AddSizes(c, d)
		wantSizes(t, "AddSizes", got, code, want, impl.OK)
		sum, _ := impl.CountOf(got)
		one, _ := impl.CountOf(c)
		two, _ := impl.CountOf(d)
		wantNearly(t, "the number of the sums", sum, one+two)
	}
	for class := range impl.Classes {
		c := impl.Sizes{}
		c[class] = greatest
		got, code := impl.AddSizes(c, impl.Sizes{})
		wantSizes(t, "AddSizes and nothing", got, code, c, impl.OK)
		got, code = impl.AddSizes(c, c)
		wantSizes(t, "AddSizes of too many", got, code, impl.Sizes{}, impl.ErrState)
		for _, number := range notAmounts {
			bad := impl.Sizes{}
			bad[class] = number
			got, code = impl.AddSizes(c, bad)
			wantSizes(t, "AddSizes, the second ones invalid", got, code, impl.Sizes{}, impl.ErrInvalid)
			got, code = impl.AddSizes(bad, c)
			wantSizes(t, "AddSizes, the first ones invalid", got, code, impl.Sizes{}, impl.ErrInvalid)
		}
	}
}

func TestScaleSizes(t *testing.T) {
	g := chance(8)
	for range 300 {
		c, by := g.sizes(), g.amount()
		var want impl.Sizes
		for class := range want {
			want[class] = times(c[class], by)
		}
		got, code := impl.ScaleSizes(c, by)
		wantSizes(t, "ScaleSizes", got, code, want, impl.OK)
		product, _ := impl.CountOf(got)
		one, _ := impl.CountOf(c)
		wantNearly(t, "the number of the products", product, one*by)
	}
	got, code := impl.ScaleSizes(fullSizes(greatest), 1)
	wantSizes(t, "ScaleSizes by 1", got, code, fullSizes(greatest), impl.OK)
	got, code = impl.ScaleSizes(fullSizes(greatest), 0)
	wantSizes(t, "ScaleSizes by 0", got, code, impl.Sizes{}, impl.OK)
	got, code = impl.ScaleSizes(impl.Sizes{19: greatest}, 2)
	wantSizes(t, "ScaleSizes to too many", got, code, impl.Sizes{}, impl.ErrState)
	got, code = impl.ScaleSizes(impl.Sizes{}, greatest)
	wantSizes(t, "ScaleSizes of nothing", got, code, impl.Sizes{}, impl.OK)
	for _, by := range notAmounts {
		got, code = impl.ScaleSizes(impl.Sizes{1}, by)
		wantSizes(t, "ScaleSizes by no amount", got, code, impl.Sizes{}, impl.ErrRange)
		got, code = impl.ScaleSizes(impl.Sizes{3: by}, by)
		wantSizes(t, "ScaleSizes, invalid before range", got, code, impl.Sizes{}, impl.ErrInvalid)
	}
}

func TestMixSizes(t *testing.T) {
	g := chance(9)
	for range 500 {
		c, d, share := g.sizes(), g.sizes(), g.share()
		var want impl.Sizes
		for class := range want {
			want[class] = plus(times(c[class], minus(1, share)), times(d[class], share))
		}
		got, code := impl.MixSizes(c, d, share)
		wantSizes(t, "MixSizes", got, code, want, impl.OK)
		mixed, _ := impl.CountOf(got)
		one, _ := impl.CountOf(c)
		two, _ := impl.CountOf(d)
		wantNearly(t, "the number of the mixture", mixed, one*(1-share)+two*share)
		got, code = impl.MixSizes(c, d, 0)
		wantSizes(t, "MixSizes with 0", got, code, c, impl.OK)
		got, code = impl.MixSizes(c, d, 1)
		wantSizes(t, "MixSizes with 1", got, code, d, impl.OK)
	}
	got, code := impl.MixSizes(fullSizes(greatest), fullSizes(greatest), 0.5)
	wantSizes(t, "MixSizes of the greatest", got, code, fullSizes(greatest), impl.OK)
	for _, share := range notShares {
		got, code := impl.MixSizes(impl.Sizes{1}, impl.Sizes{2}, share)
		wantSizes(t, "MixSizes with no share", got, code, impl.Sizes{}, impl.ErrRange)
		got, code = impl.MixSizes(impl.Sizes{1}, impl.Sizes{minus0}, share)
		wantSizes(t, "MixSizes, the second ones invalid", got, code, impl.Sizes{}, impl.ErrInvalid)
		got, code = impl.MixSizes(impl.Sizes{19: -1}, impl.Sizes{2}, share)
		wantSizes(t, "MixSizes, the first ones invalid", got, code, impl.Sizes{}, impl.ErrInvalid)
	}
}
