package tests

import (
	"math"
	"slices"
	"testing"

	"loop.example/g01224/impl"
)

// fewNumbers has some of each kind of oddNumbers, for what is called with much else.
var fewNumbers = []float32{0, minus0, 1, -1, 0.3, smallest, 1e30, greatest, infinite, noNumber}

// oddKernels has valid and invalid kernels.
func oddKernels() []impl.Kernel {
	g := chance(100)
	list := []impl.Kernel{g.kernel(1), g.kernel(1e-6), g.kernel(1e-12), fallKernelModel(1e-9)}
	for _, number := range oddNumbers {
		list = append(list, flatKernel(number), with(flatKernel(1e-5), 3, 4, number))
		odd := impl.Kernel{}
		odd[0][19] = number
		list = append(list, odd)
	}
	return list
}

// oddBoxes has valid and invalid boxes.
func oddBoxes() []impl.Box {
	list := []impl.Box{{}, {Dust: 5}, {Counts: impl.Counts{0: 3, 1: 1}}, {Counts: impl.Counts{19: 1}}}
	for _, number := range []int64{math.MinInt64, -1, 1, 7, impl.MaxDroplets - 1, impl.MaxDroplets, impl.MaxDroplets + 1, math.MaxInt64} {
		list = append(list, fullBox(number), impl.Box{Dust: number}, impl.Box{Counts: impl.Counts{0: number}}, impl.Box{Counts: impl.Counts{18: 2, 19: number}})
	}
	return list
}

func TestFunctionsOfKernelsReturn(t *testing.T) {
	c := &callChecker{t: t}
	for _, class := range oddClasses {
		c.check("FallOf", func() []any { return results(impl.FallOf(class)) })
	}
	for _, a := range oddNumbers {
		c.check("FlatKernel", func() []any { return results(impl.FlatKernel(a)) })
		c.check("SumKernel", func() []any { return results(impl.SumKernel(a)) })
		c.check("FallKernel", func() []any { return results(impl.FallKernel(a)) })
	}
	for _, k := range oddKernels() {
		was := k
		c.check("ReadKernel", func() []any { return results(impl.ReadKernel(impl.KernelText(k))) })
		if impl.ValidKernel(k) == (impl.KernelText(k) == "") {
			t.Errorf("the kernel %v has the text %q", k, impl.KernelText(k))
		}
		for _, a := range fewNumbers {
			c.check("ScaleKernel", func() []any { return results(impl.ScaleKernel(k, a)) })
		}
		for _, l := range oddKernels() {
			c.check("AddKernels", func() []any { return results(impl.AddKernels(k, l)) })
			if impl.SameKernel(k, l) != impl.SameKernel(l, k) {
				t.Errorf("SameKernel %v %v depends on the order", k, l)
			}
		}
		if bitsText(results(k)) != bitsText(results(was)) {
			t.Errorf("%v has been modified to %v", was, k)
		}
	}
}

func TestFunctionsOfCollisionsReturn(t *testing.T) {
	k := &callChecker{t: t}
	kernels := oddKernels()
	for index, c := range oddSizes() {
		for step := range 6 {
			l := kernels[(index+step*13)%len(kernels)]
			wasC, wasL := c, l
			for _, time := range fewNumbers {
				k.check("EventsOf", func() []any { return results(impl.EventsOf(c, l, time)) })
				k.check("LossesOf", func() []any { return results(impl.LossesOf(c, l, time)) })
				k.check("Collide", func() []any { return results(impl.Collide(c, l, time)) })
				k.check("CollideSteps", func() []any { return results(impl.CollideSteps(c, l, time, 2)) })
				k.check("RainMade", func() []any { return results(impl.RainMade(c, l, time, 3)) })
			}
			for _, class := range oddClasses {
				k.check("RainMade", func() []any { return results(impl.RainMade(c, l, 0.1, class)) })
				k.check("CollideSteps", func() []any { return results(impl.CollideSteps(c, l, 0.1, class)) })
			}
			if bitsText(results(c, l)) != bitsText(results(wasC, wasL)) {
				t.Errorf("%v or %v has been modified", wasC, wasL)
			}
		}
		for _, class := range oddClasses {
			for _, a := range fewNumbers {
				k.check("BreakClass", func() []any { return results(impl.BreakClass(c, class, a)) })
				k.check("BreakLarge", func() []any { return results(impl.BreakLarge(c, class, a)) })
			}
		}
	}
}

func TestFunctionsOfBoxesReturn(t *testing.T) {
	k := &callChecker{t: t}
	g := chance(101)
	for _, b := range oddBoxes() {
		was := b
		k.check("MassOfBox", func() []any { return results(impl.MassOfBox(b)) })
		k.check("SizesOfBox", func() []any { return results(impl.SizesOfBox(b)) })
		k.check("GatherDust", func() []any { return results(impl.GatherDust(b)) })
		for _, i := range oddClasses {
			for _, j := range oddClasses {
				k.check("CollidePair", func() []any { return results(impl.CollidePair(b, impl.Pair{I: i, J: j})) })
			}
		}
		for _, count := range []int64{math.MinInt64, -1, 0, 1, 5, 1000, 1001, math.MaxInt64} {
			for _, seed := range []uint32{0, 1, math.MaxUint32} {
				k.check("DrawPairs", func() []any { return results(impl.DrawPairs(b, seed, count)) })
			}
		}
		for _, count := range []int{0, 1, 50, 1000, 1001} {
			// The capacity behind the list is the caller's, too.
			all := g.pairs(count + 3)
			before := slices.Clone(all)
			k.check("CollidePairs", func() []any { return results(impl.CollidePairs(b, all[:count])) })
			if !slices.Equal(all, before) {
				t.Errorf("%v has been modified to %v", before, all)
			}
		}
		if b != was {
			t.Errorf("%v has been modified to %v", was, b)
		}
	}
}
