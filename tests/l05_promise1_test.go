package tests

import (
	"math"
	"slices"
	"testing"

	"loop.example/g01224/impl"
)

var oddCounts = []int64{math.MinInt64, -1, 0, 1, 2, 31, 32, 33, 63, 64, 65, 400, 1000, math.MaxInt64}

// oddPulses has valid and invalid pulses.
func oddPulses() [][]complex64 {
	g := chance(370)
	list := append(pulsesAtTheEnds(), notPulses()[:14]...)
	for range 5 {
		list = append(list, g.somePulses())
	}
	return append(list, equalPulses(100000, 1))
}

// oddMaps has valid and invalid maps.
func oddMaps() [][]impl.EchoCell {
	return append(append(mapsAtTheEnds(), notMaps()...), rowOfCells(0, 100000))
}

// before returns a list of the same elements with another one behind it, in its capacity, and all of these.
func before[T any](list []T, other T) (part, all []T) {
	all = append(slices.Clone(list), other, other)
	return all[:len(list)], all
}

func TestFunctionsOfComplexNumbersReturn(t *testing.T) {
	k := &callChecker{t: t}
	for _, z := range oddComplexes() {
		k.check("TurnsOf", func() []any { return results(impl.TurnsOf(z)) })
		if !sameNumbers(impl.SizeOf(z), impl.SizeOf(z)) {
			t.Errorf("SizeOf %v is not always the same", z)
		}
	}
	for _, a := range oddNumbers {
		k.check("LoudnessOf", func() []any { return results(impl.LoudnessOf(a)) })
		if !sameComplexes(impl.UnitAt(a), impl.UnitAt(a)) {
			t.Errorf("UnitAt %v is not always the same", a)
		}
		for _, b := range oddNumbers {
			k.check("FoldSpeed", func() []any { return results(impl.FoldSpeed(a, b)) })
			k.check("UnfoldSpeeds", func() []any { return results(impl.UnfoldSpeeds([]float32{a, b, a}, 5)) })
			k.check("UnfoldSpeeds", func() []any { return results(impl.UnfoldSpeeds([]float32{1, b}, a)) })
			for _, c := range fewNumbers {
				k.check("PulsesOf", func() []any { return results(impl.PulsesOf(a, b, c, 3)) })
				k.check("PulsesOf", func() []any { return results(impl.PulsesOf(1, a, b, 64)) })
			}
		}
		for _, count := range oddCounts {
			k.check("PulsesOf", func() []any { return results(impl.PulsesOf(1, 0.1, a, count)) })
			k.check("NoisePulses", func() []any { return results(impl.NoisePulses(uint32(count), a, count)) })
			k.check("SpotOf", func() []any { return results(impl.SpotOf(a, count)) })
		}
	}
	for _, c := range oddSizes() {
		k.check("EchoOf", func() []any { return results(impl.EchoOf(c)) })
	}
}

func TestFunctionsOfPulsesReturn(t *testing.T) {
	k := &callChecker{t: t}
	for _, odd := range oddPulses() {
		list, all := before(odd, complex(noNumber, 7))
		was := pulsesText(all)
		k.check("PowerOf", func() []any { return results(impl.PowerOf(list)) })
		k.check("WidthOf", func() []any { return results(impl.WidthOf(list)) })
		k.check("WithoutMean", func() []any { return results(impl.WithoutMean(list)) })
		k.check("LinesOf", func() []any { return results(impl.LinesOf(list)) })
		k.check("LoudestLine", func() []any { return results(impl.LoudestLine(list)) })
		k.check("ReadPulses", func() []any { return results(impl.ReadPulses(impl.PulsesText(list))) })
		for _, count := range oddCounts {
			k.check("LagOf", func() []any { return results(impl.LagOf(list, count)) })
		}
		for _, a := range oddNumbers {
			k.check("SpeedOf", func() []any { return results(impl.SpeedOf(list, a)) })
			k.check("TurnPulses", func() []any { return results(impl.TurnPulses(list, complex(a, 1))) })
			k.check("TurnPulses", func() []any { return results(impl.TurnPulses(list, complex(0, a))) })
		}
		for _, other := range oddPulses() {
			k.check("AddPulses", func() []any { return results(impl.AddPulses(list, other)) })
			k.check("AddPulses", func() []any { return results(impl.AddPulses(other, list)) })
		}
		if pulsesText(all) != was {
			t.Errorf("%v has been modified to %v", odd, all)
		}
	}
}

func TestFunctionsOfMapsReturn(t *testing.T) {
	k := &callChecker{t: t}
	for _, odd := range oddMaps() {
		list, all := before(odd, echo(7, 7, 7, 7))
		was := slices.Clone(all)
		k.check("StrongestCell", func() []any { return results(impl.StrongestCell(list)) })
		for _, x := range []int16{0, 1, -1, 1000, math.MinInt16, math.MaxInt16} {
			k.check("EchoAt", func() []any { return results(impl.EchoAt(list, impl.Spot{x, 0})) })
			k.check("EchoAt", func() []any { return results(impl.EchoAt(list, impl.Spot{0, x})) })
		}
		for _, a := range oddNumbers {
			powers, allPowers := before([]float32{1, a, 2, a}, 7)
			k.check("AddBeam", func() []any { return results(impl.AddBeam(list, 0.1, powers)) })
			k.check("AddBeam", func() []any { return results(impl.AddBeam(list, a, []float32{1, 2})) })
			if !sameLists(allPowers, []float32{1, a, 2, a, 7, 7}) {
				t.Errorf("AddBeam has modified powers to %v", allPowers)
			}
		}
		if !slices.EqualFunc(all, was, sameCells) {
			t.Errorf("%v has been modified to %v", was, all)
		}
	}
}

func TestUnfoldSpeedsModifiesNothing(t *testing.T) {
	list, all := before([]float32{8, -8, 3, -9}, 7)
	speeds, code := impl.UnfoldSpeeds(list, 10)
	wantNumbers(t, "UnfoldSpeeds", speeds, code, []float32{8, 12, 3, 11}, impl.OK)
	wantNumbers(t, "what has been unfolded", all, impl.OK, []float32{8, -8, 3, -9, 7, 7}, impl.OK)
}

// wantNew checks that what is done to a result changes neither an argument nor another result.
func wantNew[T any](t *testing.T, what string, call func() []T, same func(a, b T) bool, argument []T) {
	t.Helper()
	var other T
	one, two := call(), call()
	was, argumentWas := slices.Clone(two), slices.Clone(argument)
	for index := range one[:cap(one)] {
		one[:cap(one)][index] = other
	}
	if !slices.EqualFunc(two, was, same) || !slices.EqualFunc(call(), was, same) || !slices.EqualFunc(argument, argumentWas, same) {
		t.Errorf("the result of %s shares memory", what)
	}
}

func TestResultsOfRadarAreNew(t *testing.T) {
	pulses, allPulses := before([]complex64{1, complex(2, 3), complex(0, -1)}, 7)
	for what, call := range map[string]func() []complex64{
		"PulsesOf":    func() []complex64 { made, _ := impl.PulsesOf(2, 0.1, 0.2, 5); return made },
		"NoisePulses": func() []complex64 { made, _, _ := impl.NoisePulses(5, 1, 5); return made },
		"AddPulses":   func() []complex64 { made, _ := impl.AddPulses(pulses, pulses); return made },
		"TurnPulses":  func() []complex64 { made, _ := impl.TurnPulses(pulses, 1); return made },
		"WithoutMean": func() []complex64 { made, _ := impl.WithoutMean(pulses); return made },
		"ReadPulses":  func() []complex64 { made, _ := impl.ReadPulses(impl.PulsesText(pulses)); return made },
	} {
		wantNew(t, what, call, sameComplexes, allPulses)
	}
	speeds, allSpeeds := before([]float32{1, 2, 3}, 7)
	wantNew(t, "LinesOf", func() []float32 { made, _ := impl.LinesOf(pulses); return made }, sameNumbers, nil)
	wantNew(t, "UnfoldSpeeds", func() []float32 { made, _ := impl.UnfoldSpeeds(speeds, 10); return made }, sameNumbers, allSpeeds)
	cells, allCells := before([]impl.EchoCell{echo(1, 0, 5, 1), echo(2, 0, 5, 1)}, echo(7, 7, 7, 7))
	for _, powers := range [][]float32{nil, {1}, {1, 2, 3}} {
		wantNew(t, "AddBeam", func() []impl.EchoCell { made, _ := impl.AddBeam(cells, 0, powers); return made }, sameCells, allCells)
	}
}
