package tests

import (
	"math"
	"strings"
	"testing"

	"loop.example/g01224/impl"
)

func wantShift(t *testing.T, what string, c impl.Sizes, gain [20]float32, want impl.Sizes, wantCome float32, wantCode int64) {
	t.Helper()
	got, come, code := impl.ShiftMasses(c, gain)
	wantSizes(t, what, got, code, want, wantCode)
	wantNumber(t, what+", the water", come, code, wantCome, wantCode)
}

func TestDropletsThatGainNothingStay(t *testing.T) {
	g := chance(10)
	for range 300 {
		c := g.sizes()
		wantShift(t, "no gain", c, [20]float32{}, c, 0, impl.OK)
		wantShift(t, "a gain of -0", c, [20]float32(fullSizes(minus0)), c, 0, impl.OK)
	}
	wantShift(t, "nothing at all", impl.Sizes{}, [20]float32(fullSizes(greatest)), impl.Sizes{}, 0, impl.OK)
}

func TestShiftMasses(t *testing.T) {
	g := chance(11)
	for range 1000 {
		c := g.sizes()
		var gain [20]float32
		var want impl.Sizes
		for class := range gain {
			gain[class] = minus(g.amount(), g.amount()) * float32(1+g.next(9))
			mass := plus(float32(math.Exp2(float64(class))), gain[class])
			if mass > 0 && c[class] > 0 {
				want = putModel(want, mass, c[class])
			}
		}
		before, _ := impl.WaterOf(c)
		after, _ := impl.WaterOf(want)
		wantShift(t, "ShiftMasses", c, gain, want, minus(after, before), impl.OK)
	}
}

func TestShiftMassesAtTheEnds(t *testing.T) {
	gain := func(class int, mass float32) [20]float32 {
		var list [20]float32
		list[class] = mass
		return list
	}
	wantShift(t, "the class 0 vanishes", impl.Sizes{2}, gain(0, -1), impl.Sizes{}, -2, impl.OK)
	wantShift(t, "the class 0 loses more than it has", impl.Sizes{2}, gain(0, -5), impl.Sizes{}, -2, impl.OK)
	wantShift(t, "the class 0 loses a half", impl.Sizes{2}, gain(0, -0.5), impl.Sizes{1}, -1, impl.OK)
	wantShift(t, "the class 0 keeps hardly anything", impl.Sizes{16777216}, gain(0, -math.Nextafter32(1, 0)), impl.Sizes{1}, -16777215, impl.OK)
	wantShift(t, "the class 0 doubles", impl.Sizes{2}, gain(0, 1), impl.Sizes{1: 2}, 2, impl.OK)
	wantShift(t, "the class 19 doubles", impl.Sizes{19: 1}, gain(19, 524288), impl.Sizes{19: 2}, 524288, impl.OK)
	wantShift(t, "the class 19 becomes the class 18", impl.Sizes{19: 1}, gain(19, -262144), impl.Sizes{18: 1}, -262144, impl.OK)
	wantShift(t, "the class 19 loses a quarter", impl.Sizes{19: 2}, gain(19, -131072), impl.Sizes{18: 1, 19: 1}, -262144, impl.OK)
	wantShift(t, "the class 19 vanishes", impl.Sizes{19: 1}, gain(19, -524288), impl.Sizes{}, -524288, impl.OK)
	wantShift(t, "the class 18 becomes the class 19", impl.Sizes{18: 1}, gain(18, 262144), impl.Sizes{19: 1}, 262144, impl.OK)
	wantShift(t, "a gain of a class without droplets", impl.Sizes{3: 1}, gain(4, greatest), impl.Sizes{3: 1}, 0, impl.OK)
	wantShift(t, "the greatest loss", impl.Sizes{3: 1}, gain(3, -greatest), impl.Sizes{}, -8, impl.OK)
	wantShift(t, "the greatest gain", impl.Sizes{3: 1}, gain(3, greatest), impl.Sizes{19: greatest / 524288}, greatest, impl.OK)
}

func TestShiftMassesErrors(t *testing.T) {
	for class := range impl.Classes {
		for _, mass := range []float32{infinite, -infinite, noNumber} {
			var gain [20]float32
			gain[class] = mass
			wantShift(t, "a gain that is not finite", impl.Sizes{1}, gain, impl.Sizes{}, 0, impl.ErrRange)
			wantShift(t, "of nothing", impl.Sizes{}, gain, impl.Sizes{}, 0, impl.ErrRange)
			wantShift(t, "range before state", fullSizes(greatest), gain, impl.Sizes{}, 0, impl.ErrRange)
			wantShift(t, "invalid before range", impl.Sizes{19: minus0}, gain, impl.Sizes{}, 0, impl.ErrInvalid)
		}
	}
	for _, number := range notAmounts {
		wantShift(t, "invalid sizes", impl.Sizes{19: number}, [20]float32{}, impl.Sizes{}, 0, impl.ErrInvalid)
	}
	wantShift(t, "too many droplets", impl.Sizes{0: greatest, 1: greatest}, [20]float32{0: 1}, impl.Sizes{}, 0, impl.ErrState)
	wantShift(t, "too many, and some behind them", impl.Sizes{0: greatest, 1: greatest, 5: 1}, [20]float32{0: 1}, impl.Sizes{}, 0, impl.ErrState)
	wantShift(t, "too much water before", impl.Sizes{19: greatest}, [20]float32{19: -524288}, impl.Sizes{}, 0, impl.ErrState)
	wantShift(t, "too much water behind", impl.Sizes{3: 2}, [20]float32{3: greatest}, impl.Sizes{}, 0, impl.ErrState)
}

// spectrumTexts have been found by another program.
var spectrumTexts = []struct {
	count, mean float32
	text        string
}{
	{100, 64, "3ea3f81c 3f1bf9b6 3fa3f81c 40420bdf 410019d6 41a3f81c 420019d6 41a3f81c 410019d6 40420bdf 3fa3f81c 3f1bf9b6 3ea3f81c 3e3acafe 3de2f26c 3d913efd 3d420bdf 3d0652d4 3cbfa301 3c8c4096"},
	{100, 127, "3ea3f81c 3f1bf9b6 3fa3f81c 40420bdf 410019d6 41a3f81c 420019d6 41a3f81c 410019d6 40420bdf 3fa3f81c 3f1bf9b6 3ea3f81c 3e3acafe 3de2f26c 3d913efd 3d420bdf 3d0652d4 3cbfa301 3c8c4096"},
	{1, 1, "3ef75095 3e9e480d 3df75095 3d3b50ba 3c9e480d 3c1690a4 3b9e480d 3b345042 3adb131f 3a8c3532 3a3b50ba 3a01aa07 39b8fd42 39876323 394a99ab 391a8929 38efc37d 38bccbff 3896a792 3873516a"},
	{3, 524288, "39367d13 3961fb60 398d9902 39b3d2a2 39e7cdc3 3a17f343 3a4b14ba 3a8abdf5 3ac27f0f 3b0c7c8e 3b524fcf 3ba44e5a 3c073c35 3c6d6c19 3ce1d8fb 3d6d6c19 3e0c7c8e 3eb97c74 3f6d6c19 3fb97c74"},
	{3, greatest, "39367d13 3961fb60 398d9902 39b3d2a2 39e7cdc3 3a17f343 3a4b14ba 3a8abdf5 3ac27f0f 3b0c7c8e 3b524fcf 3ba44e5a 3c073c35 3c6d6c19 3ce1d8fb 3d6d6c19 3e0c7c8e 3eb97c74 3f6d6c19 3fb97c74"},
	{0.1, 1024, "38462092 38944cf6 38e7b841 393eb8a5 39a76ae2 3a1f4173 3aa76ae2 3b462092 3c02cb80 3ca76ae2 3d02cb80 3ca76ae2 3c02cb80 3b462092 3aa76ae2 3a1f4173 39a76ae2 393eb8a5 38e7b841 38944cf6"},
	{0, 10, strings.Repeat("00000000 ", 19) + "00000000"},
}

func TestSpectrum(t *testing.T) {
	for _, x := range spectrumTexts {
		got, code := impl.Spectrum(x.count, x.mean)
		if text := impl.SizesText(got); code != impl.OK || text != x.text {
			t.Errorf("Spectrum %v %v: got %q, %d, want %q", x.count, x.mean, text, code, x.text)
		}
	}
	g := chance(12)
	for range 300 {
		count, mean := g.amount(), 1+g.amount()*g.amount()
		got, code := impl.Spectrum(count, mean)
		if code != impl.OK || !impl.ValidSizes(got) {
			t.Errorf("Spectrum %v %v: got the code %d", count, mean, code)
		}
		sum, _ := impl.CountOf(got)
		wantNearly(t, "the number of a spectrum", sum, count)
		middle, _ := impl.ClassFor(mean)
		for class := range got {
			if got[class] > got[middle] {
				t.Errorf("Spectrum %v %v: the class %d has more than the class %d", count, mean, class, middle)
			}
		}
	}
	got, code := impl.Spectrum(greatest, 10)
	if code != impl.OK || !impl.ValidSizes(got) {
		t.Errorf("Spectrum of the greatest: got %v, %d", got, code)
	}
}

func TestSpectrumErrors(t *testing.T) {
	for _, count := range notAmounts {
		got, code := impl.Spectrum(count, 10)
		wantSizes(t, "Spectrum of no number", got, code, impl.Sizes{}, impl.ErrRange)
	}
	for _, mean := range append([]float32{0, smallest, 0.5, math.Nextafter32(1, 0)}, notAmounts...) {
		got, code := impl.Spectrum(10, mean)
		wantSizes(t, "Spectrum with no mean", got, code, impl.Sizes{}, impl.ErrRange)
	}
}
