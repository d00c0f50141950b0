package tests

import (
	"math"
	"slices"
	"testing"

	"loop.example/g01224/impl"
)

// fewParcels has valid and invalid parcels.
var fewParcels = []impl.Parcel{
	{}, parcel(0, 60, 1000), parcel(30, -60, 0), parcel(1, 25, 12), parcel(0.5, minus0, 5), parcel(3, -59, 900), parcel(2, 10, 5),
	parcel(smallest, 20, smallest), parcel(math.Nextafter32(30, 0), 0, 0), parcel(30, 20, 19),
	parcel(minus0, 5, 5), parcel(31, 5, 5), parcel(noNumber, 5, 5), parcel(infinite, 5, 5), parcel(-1, 5, 5),
	parcel(5, 61, 5), parcel(5, noNumber, 5), parcel(5, -infinite, 5), parcel(5, 5, minus0), parcel(5, 5, 1001), parcel(5, 5, noNumber),
}

var oddParts = []int64{math.MinInt64, -1, 0, 1, 2, 7, 100, 101, 200, 201, math.MaxInt64}

// oddSoundings has valid and invalid soundings.
func oddSoundings() [][]impl.Level {
	g := chance(260)
	list := append(notSoundings()[:20], soundingsAtTheEnds()[:12]...)
	for range 10 {
		list = append(list, g.sounding())
	}
	for _, number := range oddNumbers {
		list = append(list, levels(number, 20, 5, 30, 10, 5), levels(0, number, 5, 3, 10, 5), levels(0, 20, number, 3, 10, 5), levels(0, 20, 5, number, number, number))
	}
	return append(list, manyLevels(1000, 0.5), quick, unfit)
}

func TestFunctionsOfParcelsReturn(t *testing.T) {
	k := &callChecker{t: t}
	for _, air := range oddAirs() {
		was := air
		k.check("SettleAir", func() []any { return results(impl.SettleAir(air)) })
		if !impl.SameAir(air, was) {
			t.Errorf("%v has been modified to %v", was, air)
		}
	}
	for _, p := range append(fewParcels, parcelsAtTheEnds()...) {
		was := p
		k.check("BaseOf", func() []any { return results(impl.BaseOf(p)) })
		for _, a := range oddNumbers {
			k.check("RaiseDry", func() []any { return results(impl.RaiseDry(p, a)) })
			k.check("RaiseMoist", func() []any { return results(impl.RaiseMoist(p, a, 3)) })
		}
		for _, parts := range oddParts {
			k.check("RaiseMoist", func() []any { return results(impl.RaiseMoist(p, 2, parts)) })
		}
		for _, q := range fewParcels {
			if impl.SameParcel(p, q) != impl.SameParcel(q, p) {
				t.Errorf("SameParcel %v %v depends on the order", p, q)
			}
			for _, a := range fewNumbers {
				k.check("MixParcels", func() []any { return results(impl.MixParcels(p, q, a)) })
			}
		}
		if bitsText(results(p)) != bitsText(results(was)) {
			t.Errorf("%v has been modified to %v", was, p)
		}
	}
}

// behind returns a list of the same levels with more levels behind it, in its capacity, and all of these.
func behind(s []impl.Level) (list, all []impl.Level) {
	all = append(slices.Clone(s), levels(30, 7, 7, noNumber, 8, 8)...)
	return all[:len(s)], all
}

func TestFunctionsOfSoundingsReturn(t *testing.T) {
	k := &callChecker{t: t}
	for _, odd := range oddSoundings() {
		s, all := behind(odd)
		was := soundingText(all)
		k.check("FirstUnsteady", func() []any { return results(impl.FirstUnsteady(s)) })
		k.check("SteadySounding", func() []any { return results(impl.SteadySounding(s)) })
		k.check("ReadSounding", func() []any { return results(impl.ReadSounding(impl.SoundingText(s))) })
		if impl.ValidSounding(s) == (impl.SoundingText(s) == "") {
			t.Errorf("the sounding %v has the text %q", s, impl.SoundingText(s))
		}
		for _, a := range oddNumbers {
			k.check("AirAt", func() []any { return results(impl.AirAt(s, a)) })
			k.check("WarmLowest", func() []any { return results(impl.WarmLowest(s, a)) })
			k.check("VapourAbove", func() []any { return results(impl.VapourAbove(s, a)) })
			k.check("HeightOfHeat", func() []any { return results(impl.HeightOfHeat(s, a)) })
		}
		for _, p := range fewParcels {
			k.check("LiftOf", func() []any { return results(impl.LiftOf(s, p)) })
			for _, a := range fewNumbers {
				k.check("RiseIn", func() []any { return results(impl.RiseIn(s, p, a, 0.25, 5)) })
				k.check("RiseIn", func() []any { return results(impl.RiseIn(s, p, 0.25, a, 5)) })
			}
			for _, most := range oddParts {
				k.check("RiseIn", func() []any { return results(impl.RiseIn(s, p, 1e-9, 0, most)) })
			}
		}
		if soundingText(all) != was {
			t.Errorf("%v has been modified to %v", odd, all)
		}
	}
	for _, count := range oddParts {
		for _, a := range fewNumbers {
			for _, b := range fewNumbers {
				k.check("EvenSounding", func() []any { return results(impl.EvenSounding(a, b, 5, count)) })
				k.check("EvenSounding", func() []any { return results(impl.EvenSounding(5, a, b, count)) })
			}
		}
	}
}

// What is done to a result changes neither the argument nor another result.
func TestSoundingsThatAreReturnedAreNew(t *testing.T) {
	for _, s := range [][]impl.Level{levels(0, 20, 5, 1, 20, 5), levels(0, 40, 5, 2, 0, 5), manyLevels(32, 0.5)} {
		list, all := behind(s)
		was := soundingText(all)
		for what, call := range map[string]func() []impl.Level{
			"SteadySounding": func() []impl.Level { made, _, _ := impl.SteadySounding(list); return made },
			"WarmLowest":     func() []impl.Level { made, _ := impl.WarmLowest(list, 1); return made },
			"EvenSounding":   func() []impl.Level { made, _ := impl.EvenSounding(20, 1, 5, 5); return made },
			"ReadSounding":   func() []impl.Level { made, _ := impl.ReadSounding(impl.SoundingText(list)); return made },
		} {
			one, two := call(), call()
			before := soundingText(two)
			for index := range one[:cap(one)] {
				one[:cap(one)][index] = impl.Level{Height: noNumber}
			}
			if soundingText(two) != before || soundingText(call()) != before || soundingText(all) != was {
				t.Errorf("the result of %s shares memory", what)
			}
		}
	}
}

func TestFunctionsOfLongSoundingsReturn(t *testing.T) {
	long := manyLevels(300000, 0.0001)
	if impl.ValidSounding(long) || impl.SoundingText(long) != "" || !impl.SameSounding(long, slices.Clone(long)) {
		t.Error("a long sounding is valid, or not the same as itself")
	}
	k := &callChecker{t: t}
	k.check("SteadySounding", func() []any { return results(impl.SteadySounding(long)) })
	k.check("VapourAbove", func() []any { return results(impl.VapourAbove(long, 1)) })
	k.check("RiseIn", func() []any { return results(impl.RiseIn(long, fewParcels[3], 1, 0.5, 5)) })
}
