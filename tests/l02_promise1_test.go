package tests

import (
	"math"
	"testing"

	"loop.example/g01224/impl"
)

var oddSteps = []int64{math.MinInt64, -1, 0, 1, 7, 200, 201, math.MaxInt64}

// oddAirs has valid and invalid air.
func oddAirs() []impl.Air {
	list := append(airsAtTheEnds(), notAirs()...)
	for _, number := range oddNumbers {
		list = append(list, impl.Air{Heat: number, Vapour: number}, impl.Air{Heat: 20, Vapour: number}, impl.Air{Heat: number, Vapour: 20})
	}
	return list
}

// fewAirs has some of each kind of oddAirs, for what is called with much else.
var fewAirs = []impl.Air{
	{}, {Heat: 0, Vapour: 5}, {Heat: minus0, Vapour: 5.5}, {Heat: 60, Vapour: 1000}, {Heat: -60, Vapour: 1000}, {Heat: 60, Vapour: 0}, {Heat: -60, Vapour: 0.1},
	{Heat: 61, Vapour: 5}, {Heat: noNumber, Vapour: 5}, {Heat: infinite, Vapour: 5}, {Heat: 5, Vapour: minus0}, {Heat: 5, Vapour: noNumber}, {Heat: 5, Vapour: 1001},
}

func TestFunctionsOfAirReturn(t *testing.T) {
	k := &callChecker{t: t}
	for _, a := range oddNumbers {
		k.check("TwoTo", func() []any { return results(impl.TwoTo(a)) })
		k.check("SaturationAt", func() []any { return results(impl.SaturationAt(a)) })
		for _, b := range oddNumbers {
			k.check("GainsAt", func() []any { return results(impl.GainsAt(a, b)) })
		}
	}
	for _, air := range oddAirs() {
		was := air
		k.check("ExcessOf", func() []any { return results(impl.ExcessOf(air)) })
		k.check("HumidityOf", func() []any { return results(impl.HumidityOf(air)) })
		k.check("DewHeat", func() []any { return results(impl.DewHeat(air)) })
		k.check("ReadAir", func() []any { return results(impl.ReadAir(impl.AirText(air))) })
		if impl.ValidAir(air) == (impl.AirText(air) == "") {
			t.Errorf("the air %v has the text %q", air, impl.AirText(air))
		}
		for _, other := range fewAirs {
			if impl.SameAir(air, other) != impl.SameAir(other, air) {
				t.Errorf("SameAir %v %v depends on the order", air, other)
			}
			for _, a := range oddNumbers {
				k.check("MixAir", func() []any { return results(impl.MixAir(air, other, a)) })
				k.check("MixAir", func() []any { return results(impl.MixAir(other, air, a)) })
			}
		}
		if !impl.SameAir(air, was) {
			t.Errorf("%v has been modified to %v", was, air)
		}
	}
}

func TestFunctionsOfGrowthReturn(t *testing.T) {
	k := &callChecker{t: t}
	for _, c := range oddSizes() {
		for _, air := range fewAirs {
			wasC, was := c, air
			k.check("WaterIn", func() []any { return results(impl.WaterIn(c, air)) })
			for _, a := range oddNumbers {
				k.check("GrowOnce", func() []any { return results(impl.GrowOnce(c, air, a)) })
				k.check("Activate", func() []any { return results(impl.Activate(c, air, a)) })
			}
			for _, steps := range oddSteps {
				k.check("GrowSteps", func() []any { return results(impl.GrowSteps(c, air, 0.01, steps)) })
				k.check("StepsToDry", func() []any { return results(impl.StepsToDry(c, air, 0.01, steps)) })
			}
			if bitsText(results(c)) != bitsText(results(wasC)) || !impl.SameAir(air, was) {
				t.Errorf("%v or %v has been modified", wasC, was)
			}
		}
	}
}
