package tests

import (
	"math"
	"testing"

	"loop.example/g01224/impl"
)

// breakModel is BreakClass without its errors.
func breakModel(c impl.Sizes, class int64, share float32) impl.Sizes {
	broken := times(share, c[class])
	c[class] = minus(c[class], broken)
	c[class-1] = plus(c[class-1], times(2, broken))
	return c
}

func breakLargeModel(c impl.Sizes, class int64, share float32) impl.Sizes {
	for large := int64(19); large >= class; large-- {
		c = breakModel(c, large, share)
	}
	return c
}

func wantBroken(t *testing.T, what string, c impl.Sizes, class int64, share float32, want impl.Sizes, wantCode int64) {
	t.Helper()
	got, code := impl.BreakClass(c, class, share)
	wantSizes(t, what+": BreakClass", got, code, want, wantCode)
}

func wantAllBroken(t *testing.T, what string, c impl.Sizes, class int64, share float32, want impl.Sizes, wantCode int64) {
	t.Helper()
	got, code := impl.BreakLarge(c, class, share)
	wantSizes(t, what+": BreakLarge", got, code, want, wantCode)
}

func TestBreaking(t *testing.T) {
	g := chance(80)
	for range 1000 {
		c, class, share := g.sizes(), int64(1+g.next(19)), g.share()
		wantBroken(t, "some", c, class, share, breakModel(c, class, share), impl.OK)
		wantAllBroken(t, "some", c, class, share, breakLargeModel(c, class, share), impl.OK)
		wantAllBroken(t, "the class 19 alone", c, 19, share, breakModel(c, 19, share), impl.OK)
	}
}

func TestBreakingAtTheEnds(t *testing.T) {
	for class := int64(1); class < 20; class++ {
		c := fullSizes(0.1)
		wantBroken(t, "none", c, class, 0, c, impl.OK)
		wantAllBroken(t, "none", c, class, 0, c, impl.OK)
		all := c
		all[class], all[class-1] = 0, plus(0.1, 0.2)
		wantBroken(t, "all", c, class, 1, all, impl.OK)
		wantAllBroken(t, "all", c, class, 1, breakLargeModel(c, class, 1), impl.OK)
		one := impl.Sizes{}
		one[class-1] = float32(math.Exp2(float64(20 - class)))
		wantAllBroken(t, "one great droplet", impl.Sizes{19: 1}, class, 1, one, impl.OK)
		wantBroken(t, "no droplets", impl.Sizes{}, class, 1, impl.Sizes{}, impl.OK)
		wantAllBroken(t, "no droplets", impl.Sizes{}, class, 1, impl.Sizes{}, impl.OK)
	}
	wantBroken(t, "the least class that can break", impl.Sizes{1: 3}, 1, 1, impl.Sizes{0: 6}, impl.OK)
	wantBroken(t, "a half of the greatest class", impl.Sizes{19: 3}, 19, 0.5, impl.Sizes{18: 3, 19: 1.5}, impl.OK)
	wantAllBroken(t, "halves of halves", impl.Sizes{19: 4}, 17, 0.5, impl.Sizes{16: 4, 17: 2, 18: 2, 19: 2}, impl.OK)
	wantBroken(t, "the most", impl.Sizes{5: greatest}, 5, 0.5, impl.Sizes{4: greatest, 5: greatest / 2}, impl.OK)
}

func TestHalvesKeepTheWater(t *testing.T) {
	g := chance(81)
	for range 1000 {
		c, class, share := g.sizes(), int64(1+g.next(19)), g.share()
		water := wideWater(c)
		one, code := impl.BreakClass(c, class, share)
		if left := wideWater(one); code != impl.OK || math.Abs(left-water) > 1e-6*water {
			t.Errorf("BreakClass %v %d %v: the water %v and then %v, %d", c, class, share, water, left, code)
		}
		all, code := impl.BreakLarge(c, class, share)
		if left := wideWater(all); code != impl.OK || math.Abs(left-water) > 1e-6*water {
			t.Errorf("BreakLarge %v %d %v: the water %v and then %v, %d", c, class, share, water, left, code)
		}
	}
	// Whole numbers and shares that are halves are not rounded.
	for class := int64(1); class < 20; class++ {
		c := fullSizes(1024)
		for _, share := range []float32{0, 0.25, 0.5, 1} {
			one := must(t)(impl.BreakClass(c, class, share))
			if wideWater(one) != wideWater(c) {
				t.Errorf("BreakClass %d %v: the water is %v and then %v", class, share, wideWater(c), wideWater(one))
			}
		}
	}
}

func TestBreakingErrors(t *testing.T) {
	check := func(c impl.Sizes, class int64, share float32, want int64) {
		t.Helper()
		wantBroken(t, "errors", c, class, share, impl.Sizes{}, want)
		wantAllBroken(t, "errors", c, class, share, impl.Sizes{}, want)
	}
	full := fullSizes(greatest)
	for _, number := range notAmounts {
		for _, class := range []int64{0, 1, 19, 20} {
			check(impl.Sizes{0: number}, class, 0.5, impl.ErrInvalid)
			check(impl.Sizes{19: number}, class, number, impl.ErrInvalid)
		}
	}
	for _, class := range append([]int64{0}, notClasses...) {
		check(impl.Sizes{1, 1}, class, 0.5, impl.ErrRange)
		check(full, class, 1, impl.ErrRange)
		check(full, class, -1, impl.ErrRange)
	}
	for _, share := range notShares {
		for class := int64(1); class < 20; class++ {
			check(impl.Sizes{1, 1}, class, share, impl.ErrRange)
			check(full, class, share, impl.ErrRange)
		}
	}
	for class := int64(1); class < 20; class++ {
		check(full, class, 1, impl.ErrState)
		check(full, class, 0.5, impl.ErrState)
		wantBroken(t, "many, but none of them", full, class, 0, full, impl.OK)
		c := impl.Sizes{}
		c[class] = greatest
		check(c, class, 1, impl.ErrState)
		wantAllBroken(t, "too many on the way", c, 1, 1, impl.Sizes{}, impl.ErrState)
	}
	wantAllBroken(t, "too many in a later class", impl.Sizes{17: 0x1p127}, 16, 1, impl.Sizes{}, impl.ErrState)
	wantAllBroken(t, "too many behind three classes", impl.Sizes{19: 0x1p125}, 17, 1, impl.Sizes{}, impl.ErrState)
	wantAllBroken(t, "many behind two classes", impl.Sizes{19: 0x1p125}, 18, 1, impl.Sizes{17: 0x1p127}, impl.OK)
}
