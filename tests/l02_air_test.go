package tests

import (
	"math"
	"math/big"
	"strings"
	"testing"

	"loop.example/g01224/impl"
)

func wide(x float64) *big.Float { return new(big.Float).SetPrec(53).SetFloat64(x) }

// twoModel is TwoTo with wide numbers of another library, which rounds each operation once.
func twoModel(x float32) float32 {
	k := math.Floor(float64(x))
	y := wide(0).Mul(wide(0).Sub(wide(float64(x)), wide(k)), wide(0.6931471805599453))
	s := wide(1)
	for m := 14; m > 0; m-- {
		part := wide(0).Quo(y, wide(float64(m)))
		s = wide(0).Add(wide(1), wide(0).Mul(part, s))
	}
	result, _ := s.Float64()
	return float32(result * math.Exp2(k))
}

func saturationModel(heat float32) float32 { return times(5, twoModel(over(heat, 10))) }

func wantAir(t *testing.T, what string, got impl.Air, code int64, want impl.Air, wantCode int64) {
	t.Helper()
	if !sameNumbers(got.Heat, want.Heat) || !sameNumbers(got.Vapour, want.Vapour) || code != wantCode {
		t.Errorf("%s: got %v, %d, want %v, %d", what, got, code, want, wantCode)
	}
}

var notHeats = []float32{math.Nextafter32(-60, -61), math.Nextafter32(60, 61), -61, 61, -greatest, greatest, infinite, -infinite, noNumber}

var notVapours = append([]float32{math.Nextafter32(1000, 1001), 1001, greatest}, notAmounts...)

var heatsAtTheEnds = []float32{-60, math.Nextafter32(-60, 0), -1, -smallest, minus0, 0, smallest, 1, math.Nextafter32(60, 0), 60}

var vapoursAtTheEnds = []float32{0, smallest, 1, 5, math.Nextafter32(1000, 0), 1000}

// notAirs has air that is not valid in each of its numbers.
func notAirs() []impl.Air {
	var list []impl.Air
	for _, heat := range notHeats {
		list = append(list, impl.Air{Heat: heat, Vapour: 5})
	}
	for _, vapour := range notVapours {
		list = append(list, impl.Air{Heat: 5, Vapour: vapour})
	}
	return list
}

// airsAtTheEnds has valid air.
func airsAtTheEnds() []impl.Air {
	var list []impl.Air
	for _, heat := range heatsAtTheEnds {
		for _, vapour := range vapoursAtTheEnds {
			list = append(list, impl.Air{Heat: heat, Vapour: vapour})
		}
	}
	return list
}

// air returns valid air.
func (c *chance) air() impl.Air {
	return impl.Air{
		Heat:   float32(c.next(12001))/100 - 60,
		Vapour: float32(c.next(60001)) / float32(60+c.next(1000)),
	}
}

// The example of chapter 2.
func TestGrowthExample(t *testing.T) {
	two, code := impl.TwoTo(3)
	wantNumber(t, "TwoTo 3", two, code, 8, impl.OK)
	saturation, code := impl.SaturationAt(0)
	wantNumber(t, "SaturationAt 0", saturation, code, 5, impl.OK)
	saturation, code = impl.SaturationAt(10)
	wantNumber(t, "SaturationAt 10", saturation, code, 10, impl.OK)
	air := impl.Air{Heat: 0, Vapour: 5}
	excess, code := impl.ExcessOf(air)
	wantNumber(t, "ExcessOf", excess, code, 0, impl.OK)
	c, left, code := impl.GrowOnce(impl.Sizes{0: 3, 7: 1}, air, 4)
	wantSizes(t, "GrowOnce", c, code, impl.Sizes{0: 3, 7: 1}, impl.OK)
	wantAir(t, "GrowOnce", left, code, air, impl.OK)
	gains, code := impl.GainsAt(1, 1)
	wantNumber(t, "GainsAt 1 and 1 of the class 0", gains[0], code, 1, impl.OK)
	wantNumber(t, "GainsAt 1 and 1 of the class 3", gains[3], code, 2, impl.OK)
	gram, code := impl.WaterIn(impl.Sizes{16: 1}, impl.Air{})
	wantNumber(t, "WaterIn one droplet of the class 16", gram, code, 1, impl.OK)
}

// twoBits have been found by another program.
var twoBits = []struct{ x, two uint32 }{
	{0x00000000, 0x3f800000}, {0x80000000, 0x3f800000}, {0x00000001, 0x3f800000}, {0x80000001, 0x3f800000},
	{0x3f800000, 0x40000000}, {0xbf800000, 0x3f000000}, {0x3f000000, 0x3fb504f3}, {0xbf000000, 0x3f3504f3},
	{0x3dcccccd, 0x3f892fdf}, {0xbdcccccd, 0x3f6edb40}, {0x406ccccd, 0x414fefc6}, {0x427cd70a, 0x5f140e56},
	{0x42c70000, 0x713504f3}, {0xc2c70000, 0x0db504f3}, {0x42c7ffff, 0x717fffa7}, {0xc2c7ffff, 0x0d80002c},
	{0x42c80000, 0x71800000}, {0xc2c80000, 0x0d800000}, {0x3f7fffff, 0x3fffffff}, {0x3f800001, 0x40000001},
	{0xbf7fffff, 0x3f000000}, {0x40490fdb, 0x410d331d}, {0xc0c00000, 0x3c800000}, {0x40bffffe, 0x427ffff5},
	{0x3eaaaaab, 0x3fa14518}, {0xc0155555, 0x3e4b2ff6},
}

func TestTwoTo(t *testing.T) {
	for _, x := range twoBits {
		got, code := impl.TwoTo(math.Float32frombits(x.x))
		wantNumber(t, "TwoTo", got, code, math.Float32frombits(x.two), impl.OK)
	}
	for power := -100; power <= 100; power++ {
		got, code := impl.TwoTo(float32(power))
		wantNumber(t, "TwoTo a whole number", got, code, float32(math.Exp2(float64(power))), impl.OK)
	}
	for x := float32(-100); x <= 100; x += 0.00917 {
		got, code := impl.TwoTo(x)
		wantNumber(t, "TwoTo", got, code, twoModel(x), impl.OK)
		wantNearly(t, "TwoTo", got, float32(math.Exp2(float64(x))))
	}
}

func TestTwoToErrors(t *testing.T) {
	for _, x := range []float32{math.Nextafter32(-100, -101), math.Nextafter32(100, 101), -101, 101, -greatest, greatest, infinite, -infinite, noNumber} {
		got, code := impl.TwoTo(x)
		wantNumber(t, "TwoTo out of its range", got, code, 0, impl.ErrRange)
	}
}

func TestValidAir(t *testing.T) {
	for _, air := range airsAtTheEnds() {
		if !impl.ValidAir(air) {
			t.Errorf("ValidAir %v: got false", air)
		}
	}
	for _, air := range notAirs() {
		if impl.ValidAir(air) {
			t.Errorf("ValidAir %v: got true", air)
		}
	}
}

func TestSameAir(t *testing.T) {
	odd := math.Float32frombits(0x7fc00001)
	numbers := []float32{0, minus0, 1, -1, smallest, 1000, 1e30, infinite, -infinite, noNumber, odd}
	for _, h := range numbers {
		for _, v := range numbers {
			for _, i := range numbers {
				for _, w := range numbers {
					want := sameNumbers(h, i) && sameNumbers(v, w)
					if got := impl.SameAir(impl.Air{Heat: h, Vapour: v}, impl.Air{Heat: i, Vapour: w}); got != want {
						t.Errorf("SameAir {%v %v} {%v %v}: got %v", h, v, i, w, got)
					}
				}
			}
		}
	}
}

// saturationBits have been found by another program.
var saturationBits = []struct {
	heat float32
	bits uint32
}{
	{-60, 0x3da00000}, {60, 0x43a00000}, {0, 0x40a00000}, {minus0, 0x40a00000}, {10, 0x41200000}, {5, 0x40e24630}, {0.1, 0x40a11ce6},
	{-0.1, 0x409ee511}, {36.6, 0x427cd02d}, {-59.9, 0x3da11ce4}, {59.99, 0x439fe39f}, {-17.3, 0x3fc0ede4}, {25, 0x41e24630}, {-37.5, 0x3ebe45ec},
}

func TestSaturationAt(t *testing.T) {
	for _, x := range saturationBits {
		got, code := impl.SaturationAt(x.heat)
		wantNumber(t, "SaturationAt", got, code, math.Float32frombits(x.bits), impl.OK)
	}
	for _, heat := range heatsAtTheEnds {
		got, code := impl.SaturationAt(heat)
		wantNumber(t, "SaturationAt", got, code, saturationModel(heat), impl.OK)
	}
	for _, heat := range notHeats {
		got, code := impl.SaturationAt(heat)
		wantNumber(t, "SaturationAt no heat", got, code, 0, impl.ErrRange)
	}
}

func TestSaturationDoublesEachTenDegrees(t *testing.T) {
	for heat := float32(-60); heat <= 50; heat += 0.0371 {
		cold, code := impl.SaturationAt(heat)
		wantNumber(t, "SaturationAt", cold, code, saturationModel(heat), impl.OK)
		warm, _ := impl.SaturationAt(heat + 10)
		wantNearly(t, "the saturation at ten degrees more", warm, 2*cold)
	}
	want := float32(5.0 / 64)
	for heat := float32(-60); heat <= 60; heat += 10 {
		got, code := impl.SaturationAt(heat)
		wantNumber(t, "SaturationAt a multiple of ten", got, code, want, impl.OK)
		want *= 2
	}
}

func TestExcessAndHumidity(t *testing.T) {
	g := chance(20)
	list := airsAtTheEnds()
	for range 2000 {
		list = append(list, g.air())
	}
	for _, air := range list {
		excess, code := impl.ExcessOf(air)
		wantNumber(t, "ExcessOf", excess, code, minus(air.Vapour, saturationModel(air.Heat)), impl.OK)
		humidity, code := impl.HumidityOf(air)
		wantNumber(t, "HumidityOf", humidity, code, over(air.Vapour, saturationModel(air.Heat)), impl.OK)
	}
	for _, x := range []struct{ heat, vapour, excess, humidity float32 }{
		{0, 5, 0, 1}, {0, 0, -5, 0}, {0, 7.5, 2.5, 1.5}, {10, 5, -5, 0.5}, {-60, 1000, 1000 - 5.0/64, 12800}, {60, 0, -320, 0}, {60, 1000, 680, 3.125},
	} {
		excess, code := impl.ExcessOf(impl.Air{Heat: x.heat, Vapour: x.vapour})
		wantNumber(t, "ExcessOf", excess, code, x.excess, impl.OK)
		humidity, code := impl.HumidityOf(impl.Air{Heat: x.heat, Vapour: x.vapour})
		wantNumber(t, "HumidityOf", humidity, code, x.humidity, impl.OK)
	}
	for _, air := range notAirs() {
		excess, code := impl.ExcessOf(air)
		wantNumber(t, "ExcessOf no air", excess, code, 0, impl.ErrInvalid)
		humidity, code := impl.HumidityOf(air)
		wantNumber(t, "HumidityOf no air", humidity, code, 0, impl.ErrInvalid)
	}
}

// mixModel is MixAir without its errors.
func mixModel(a, b impl.Air, share float32) impl.Air {
	rest := minus(1, share)
	return impl.Air{
		Heat:   plus(times(a.Heat, rest), times(b.Heat, share)),
		Vapour: plus(times(a.Vapour, rest), times(b.Vapour, share)),
	}
}

func TestMixAir(t *testing.T) {
	g := chance(21)
	for range 3000 {
		a, b, share := g.air(), g.air(), g.share()
		got, code := impl.MixAir(a, b, share)
		wantAir(t, "MixAir", got, code, mixModel(a, b, share), impl.OK)
	}
	a, b := impl.Air{Heat: -60, Vapour: 1000}, impl.Air{Heat: 60, Vapour: 0}
	for _, x := range []struct{ share, heat, vapour float32 }{{0, -60, 1000}, {1, 60, 0}, {0.5, 0, 500}, {0.25, -30, 750}} {
		got, code := impl.MixAir(a, b, x.share)
		wantAir(t, "MixAir", got, code, impl.Air{Heat: x.heat, Vapour: x.vapour}, impl.OK)
	}
}

func TestMixAirErrors(t *testing.T) {
	good := impl.Air{Heat: 5, Vapour: 5}
	for _, share := range append([]float32{0.5}, notShares...) {
		for _, bad := range notAirs() {
			got, code := impl.MixAir(bad, good, share)
			wantAir(t, "MixAir of no air", got, code, impl.Air{}, impl.ErrInvalid)
			got, code = impl.MixAir(good, bad, share)
			wantAir(t, "MixAir with no air", got, code, impl.Air{}, impl.ErrInvalid)
		}
	}
	for _, share := range notShares {
		got, code := impl.MixAir(good, good, share)
		wantAir(t, "MixAir of no share", got, code, impl.Air{}, impl.ErrRange)
	}
}

// The roundings of two parts of a heat or of vapour can lift their sum above the greatest one.
func TestMixAirThatWouldNotBeValid(t *testing.T) {
	lifted := 0
	for parts := range 1001 {
		share := float32(parts) / 1000
		for _, air := range []impl.Air{{Heat: 60, Vapour: 5}, {Heat: -60, Vapour: 5}, {Heat: 5, Vapour: 1000}} {
			want, wantCode := mixModel(air, air, share), int64(impl.OK)
			if want.Heat > 60 || want.Heat < -60 || want.Vapour > 1000 {
				want, wantCode = impl.Air{}, impl.ErrState
				lifted++
			}
			got, code := impl.MixAir(air, air, share)
			wantAir(t, "MixAir of air with itself", got, code, want, wantCode)
		}
	}
	if lifted == 0 {
		t.Error("no mixture would not be valid")
	}
	got, code := impl.MixAir(impl.Air{Heat: 60}, impl.Air{Heat: 60}, 0.001)
	wantAir(t, "MixAir of the greatest heat", got, code, impl.Air{}, impl.ErrState)
	got, code = impl.MixAir(impl.Air{Heat: -60}, impl.Air{Heat: -60}, 0.001)
	wantAir(t, "MixAir of the least heat", got, code, impl.Air{}, impl.ErrState)
	share := math.Float32frombits(900735202)
	got, code = impl.MixAir(impl.Air{Vapour: 1000}, impl.Air{Vapour: 1000}, share)
	wantAir(t, "MixAir of the most vapour", got, code, impl.Air{}, impl.ErrState)
	got, code = impl.MixAir(impl.Air{Vapour: 1000}, impl.Air{Vapour: math.Nextafter32(1000, 0)}, share)
	wantAir(t, "MixAir of nearly the most vapour", got, code, impl.Air{}, impl.ErrState)
}

func TestDewHeat(t *testing.T) {
	for steps := -120; steps <= 120; steps++ {
		heat := float32(steps) / 2
		enough := saturationModel(heat)
		got, code := impl.DewHeat(impl.Air{Heat: 10, Vapour: enough})
		wantNumber(t, "DewHeat of a saturation", got, code, heat, impl.OK)
		got, code = impl.DewHeat(impl.Air{Heat: -60, Vapour: math.Nextafter32(enough, 1000)})
		wantNumber(t, "DewHeat of a bit more", got, code, heat, impl.OK)
		less, wantCode := heat-0.5, int64(impl.OK)
		if steps == -120 {
			less, wantCode = 0, impl.ErrNotFound
		}
		got, code = impl.DewHeat(impl.Air{Heat: 60, Vapour: math.Nextafter32(enough, 0)})
		wantNumber(t, "DewHeat of a bit less", got, code, less, wantCode)
	}
	for _, vapour := range []float32{0, smallest, 0.05} {
		got, code := impl.DewHeat(impl.Air{Vapour: vapour})
		wantNumber(t, "DewHeat of dry air", got, code, 0, impl.ErrNotFound)
	}
	got, code := impl.DewHeat(impl.Air{Vapour: 1000})
	wantNumber(t, "DewHeat of the most vapour", got, code, 60, impl.OK)
	for _, air := range notAirs() {
		got, code := impl.DewHeat(air)
		wantNumber(t, "DewHeat of no air", got, code, 0, impl.ErrInvalid)
	}
}

func TestAirIsReadFromItsText(t *testing.T) {
	g := chance(22)
	list := airsAtTheEnds()
	for range 1000 {
		list = append(list, g.air())
	}
	for _, air := range list {
		text := impl.AirText(air)
		if want := "air " + impl.NumberText(air.Heat) + " " + impl.NumberText(air.Vapour); text != want {
			t.Errorf("AirText %v: got %q, want %q", air, text, want)
		}
		back, code := impl.ReadAir(text)
		wantAir(t, "ReadAir", back, code, air, impl.OK)
	}
	if text := impl.AirText(impl.Air{Heat: -60, Vapour: 1000}); text != "air c2700000 447a0000" {
		t.Errorf("AirText: got %q", text)
	}
	for _, air := range notAirs() {
		if text := impl.AirText(air); text != "" {
			t.Errorf("AirText %v: got %q", air, text)
		}
		words := []string{"air", impl.NumberText(air.Heat), impl.NumberText(air.Vapour)}
		back, code := impl.ReadAir(strings.Join(words, " "))
		wantAir(t, "ReadAir of no valid air", back, code, impl.Air{}, impl.ErrSyntax)
	}
}

func TestReadAirErrors(t *testing.T) {
	good := "air c2700000 447a0000"
	for _, text := range []string{
		"", " ", "air", "air ", "air c2700000", "air c2700000 ", good + " ", " " + good, good + "\n", good + " 00000000",
		"air  c2700000 447a0000", "air c2700000  447a0000", "air\tc2700000 447a0000", "air\nc2700000 447a0000", "airc2700000 447a0000",
		"Air c2700000 447a0000", "AIR c2700000 447a0000", "ai c2700000 447a0000", "airs c2700000 447a0000", "c2700000 447a0000",
		"air C2700000 447a0000", "air c2700000 447A0000", "air c270000 447a0000", "air c2700000 447a000", "air 0c2700000 447a0000",
		"air c270000g 447a0000", "air c2700000 447a000g", "air -2700000 447a0000", "air +2700000 447a0000", "air c2700000 0x7a0000",
		"air 7fc00000 447a0000", "air c2700000 7fc00000", "air c2700000 7fc00001", "air c2700000 80000000", "air -60 1000",
	} {
		got, code := impl.ReadAir(text)
		wantAir(t, "ReadAir "+text, got, code, impl.Air{}, impl.ErrSyntax)
	}
}
