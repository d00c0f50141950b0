package tests

import (
	"math"
	"testing"

	"loop.example/g01224/impl"
)

// gainsModel is GainsAt of numbers that it accepts.
func gainsModel(excess, time float32) [20]float32 {
	var gains [20]float32
	for class := range gains {
		mass := float32(math.Exp2(float64(class)))
		gain := times(times(radius(class), excess), time)
		if gain > mass {
			gain = mass
		}
		if gain < -mass {
			gain = -mass
		}
		gains[class] = gain
	}
	return gains
}

func waterModel(c impl.Sizes) float32 {
	var waters []float32
	for class, number := range c {
		waters = append(waters, times(number, float32(math.Exp2(float64(class)))))
	}
	return total(waters)
}

// shiftModel returns the sizes, and the grams that have come.
func shiftModel(c impl.Sizes, gains [20]float32) (impl.Sizes, float32) {
	var shifted impl.Sizes
	for class, number := range c {
		mass := plus(float32(math.Exp2(float64(class))), gains[class])
		if number > 0 && mass > 0 {
			shifted = putModel(shifted, mass, number)
		}
	}
	return shifted, over(minus(waterModel(shifted), waterModel(c)), 65536)
}

func between(a, low, high float32) float32 {
	switch {
	case a < low:
		return low
	case a > high:
		return high
	}
	return a
}

// growModel is GrowOnce without its errors.
func growModel(c impl.Sizes, a impl.Air, time float32) (impl.Sizes, impl.Air) {
	excess := minus(a.Vapour, saturationModel(a.Heat))
	gains := gainsModel(excess, time)
	shifted, grams := shiftModel(c, gains)
	if excess > 0 && grams > excess {
		part := over(excess, grams)
		for class := range gains {
			gains[class] = times(gains[class], part)
		}
		shifted, grams = shiftModel(c, gains)
	}
	return shifted, impl.Air{
		Heat:   between(plus(a.Heat, times(2, grams)), -60, 60),
		Vapour: between(minus(a.Vapour, grams), 0, 1000),
	}
}

func wantGrown(t *testing.T, what string, c impl.Sizes, a impl.Air, time float32, want impl.Sizes, wantLeft impl.Air, wantCode int64) {
	t.Helper()
	got, left, code := impl.GrowOnce(c, a, time)
	wantSizes(t, what, got, code, want, wantCode)
	wantAir(t, what, left, code, wantLeft, wantCode)
}

func wantGrownSteps(t *testing.T, what string, c impl.Sizes, a impl.Air, time float32, steps int64, want impl.Sizes, wantLeft impl.Air, wantCode int64) {
	t.Helper()
	got, left, code := impl.GrowSteps(c, a, time, steps)
	wantSizes(t, what, got, code, want, wantCode)
	wantAir(t, what, left, code, wantLeft, wantCode)
}

// sizesOf returns the sizes with a text that is known to be good.
func sizesOf(t *testing.T, text string) impl.Sizes {
	t.Helper()
	c, code := impl.ReadSizes(text)
	if code != impl.OK {
		t.Fatalf("ReadSizes %q: got %d", text, code)
	}
	return c
}

// cloud returns as many droplets as there are in weather: some grams.
func (c *chance) cloud(t *testing.T) impl.Sizes {
	t.Helper()
	mean := float32(math.Exp2(float64(c.next(1800)) / 100))
	cloud, code := impl.Spectrum(float32(c.next(5000000))/mean+1, mean)
	if code != impl.OK {
		t.Fatalf("Spectrum: got %d", code)
	}
	if c.next(3) == 0 {
		cloud[c.next(20)] = 0
	}
	return cloud
}

// gainsTexts have been found by another program.
var gainsTexts = []struct {
	excess, time float32
	text         string
}{
	{1, 1, "3f800000 3fa14518 3fcb2ff5 40000000 40214518 404b2ff5 40800000 40a14518 40cb2ff5 41000000 41214518 414b2ff5 41800000 41a14518 41cb2ff5 42000000 42214518 424b2ff5 42800000 42a14518"},
	{0.3, 1.7, "3f028f5d 3f247ecc 3f4f4048 3f828f5d 3fa47ecc 3fcf4048 40028f5d 40247ecc 404f4048 40828f5d 40a47ecc 40cf4048 41028f5d 41247ecc 414f4048 41828f5d 41a47ecc 41cf4048 42028f5d 42247ecc"},
	{-2, 0.5, "bf800000 bfa14518 bfcb2ff5 c0000000 c0214518 c04b2ff5 c0800000 c0a14518 c0cb2ff5 c1000000 c1214518 c14b2ff5 c1800000 c1a14518 c1cb2ff5 c2000000 c2214518 c24b2ff5 c2800000 c2a14518"},
	{0.001, 100, "3dcccccd 3e010414 3e228cc5 3e4ccccd 3e810414 3ea28cc5 3ecccccd 3f010414 3f228cc5 3f4ccccd 3f810414 3fa28cc5 3fcccccd 40010414 40228cc5 404ccccd 40810414 40a28cc5 40cccccd 41010414"},
	{-100, 1, "bf800000 c0000000 c0800000 c1000000 c1800000 c2000000 c2800000 c3000000 c3800000 c4000000 c47bfbf6 c49ebd77 c4c80000 c4fbfbf6 c51ebd77 c5480000 c57bfbf6 c59ebd77 c5c80000 c5fbfbf6"},
	{100, 1000, "3f800000 40000000 40800000 41000000 41800000 42000000 42800000 43000000 43800000 44000000 44800000 45000000 45800000 46000000 46800000 47000000 47800000 48000000 48800000 49000000"},
	{7.7, 0.9, "3f800000 40000000 40800000 41000000 41800000 41b002d2 41ddc28f 420bb336 423002d2 425dc28f 428bb336 42b002d2 42ddc28f 430bb336 433002d2 435dc28f 438bb336 43b002d2 43ddc28f 440bb336"},
}

func TestGainsAt(t *testing.T) {
	for _, x := range gainsTexts {
		got, code := impl.GainsAt(x.excess, x.time)
		want := gainsModel(x.excess, x.time)
		wantSizes(t, "GainsAt", impl.Sizes(got), code, impl.Sizes(want), impl.OK)
		words := ""
		for _, gain := range got {
			words += impl.NumberText(gain) + " "
		}
		if words != x.text+" " {
			t.Errorf("GainsAt %v %v: got %q, want %q", x.excess, x.time, words, x.text)
		}
	}
	g := chance(30)
	for range 2000 {
		excess, time := minus(g.amount(), g.amount()), g.amount()
		got, code := impl.GainsAt(excess, time)
		wantSizes(t, "GainsAt", impl.Sizes(got), code, impl.Sizes(gainsModel(excess, time)), impl.OK)
	}
}

func TestGainsAreHeldAtTheMass(t *testing.T) {
	var masses, opposites impl.Sizes
	for class := range masses {
		masses[class] = float32(math.Exp2(float64(class)))
		opposites[class] = -masses[class]
	}
	for _, x := range [][2]float32{{1e4, 1}, {1, 1e4}, {greatest, greatest}, {greatest, 1}, {smallest, greatest}} {
		want := masses
		if x[0] == smallest {
			want = impl.Sizes(gainsModel(x[0], x[1]))
		}
		got, code := impl.GainsAt(x[0], x[1])
		wantSizes(t, "GainsAt of much", impl.Sizes(got), code, want, impl.OK)
		for class := range want {
			want[class] = -want[class]
		}
		got, code = impl.GainsAt(-x[0], x[1])
		wantSizes(t, "GainsAt of the opposite", impl.Sizes(got), code, want, impl.OK)
	}
	got, code := impl.GainsAt(1, 1)
	wantNumber(t, "a gain that just is the mass", got[0], code, 1, impl.OK)
	got, code = impl.GainsAt(math.Nextafter32(1, 2), 1)
	wantNumber(t, "a gain that is held", got[0], code, 1, impl.OK)
	got, code = impl.GainsAt(math.Nextafter32(1, 0), 1)
	wantNumber(t, "a gain that is not held", got[0], code, math.Nextafter32(1, 0), impl.OK)
	got, code = impl.GainsAt(-1, 1)
	wantNumber(t, "a gain that just is the opposite", got[0], code, -1, impl.OK)
	got, code = impl.GainsAt(-math.Nextafter32(1, 2), 1)
	wantNumber(t, "a loss that is held", got[0], code, -1, impl.OK)
	got, code = impl.GainsAt(-math.Nextafter32(1, 0), 1)
	wantNumber(t, "a loss that is not held", got[0], code, -math.Nextafter32(1, 0), impl.OK)
}

func TestGainsOfNothing(t *testing.T) {
	for _, x := range []struct{ excess, time, want float32 }{{0, 5, 0}, {0, 0, 0}, {5, 0, 0}, {minus0, 5, minus0}, {-5, 0, minus0}, {0, greatest, 0}, {1e36, 0, 0}} {
		got, code := impl.GainsAt(x.excess, x.time)
		wantSizes(t, "GainsAt of nothing", impl.Sizes(got), code, fullSizes(x.want), impl.OK)
	}
}

func TestGainsAtErrors(t *testing.T) {
	want := func(excess, time float32, wantCode int64) {
		t.Helper()
		got, code := impl.GainsAt(excess, time)
		wantSizes(t, "GainsAt", impl.Sizes(got), code, impl.Sizes{}, wantCode)
	}
	for _, excess := range []float32{infinite, -infinite, noNumber} {
		want(excess, 1, impl.ErrRange)
		want(excess, 0, impl.ErrRange)
		want(excess, -1, impl.ErrRange)
	}
	for _, time := range notAmounts {
		want(1, time, impl.ErrRange)
		want(0, time, impl.ErrRange)
		want(greatest, time, impl.ErrRange)
	}
	// The product of the radius is infinite, and infinity times 0 no number.
	want(greatest, 0, impl.ErrState)
	want(-greatest, 0, impl.ErrState)
}

func TestGrowOnce(t *testing.T) {
	g := chance(31)
	for range 1500 {
		c, a, time := g.cloud(t), g.air(), g.share()
		want, left := growModel(c, a, time)
		wantGrown(t, "GrowOnce", c, a, time, want, left, impl.OK)
		c, time = g.sizes(), g.amount()
		want, left = growModel(c, a, time)
		wantGrown(t, "GrowOnce of many", c, a, time, want, left, impl.OK)
	}
}

func TestGrowOnceWithoutExcess(t *testing.T) {
	g := chance(32)
	for heat := float32(-60); heat <= 60; heat += 0.7 {
		saturation, _ := impl.SaturationAt(heat)
		c, air := g.cloud(t), impl.Air{Heat: heat, Vapour: saturation}
		for _, time := range []float32{0, 1, greatest} {
			wantGrown(t, "no excess", c, air, time, c, air, impl.OK)
		}
		air = g.air()
		wantGrown(t, "no time", c, air, 0, c, air, impl.OK)
		wantGrown(t, "no droplets", impl.Sizes{}, air, g.amount(), impl.Sizes{}, air, impl.OK)
	}
	wantGrown(t, "a heat of -0", impl.Sizes{3: 1}, impl.Air{Heat: minus0, Vapour: 5}, 1, impl.Sizes{3: 1}, impl.Air{Heat: 0, Vapour: 5}, impl.OK)
}

// A droplet of the class 16 is a gram, and in a long time it doubles or vanishes.
func TestGrowOnceAtTheBounds(t *testing.T) {
	const long = 1e9
	list := []struct {
		what  string
		c     impl.Sizes
		air   impl.Air
		want  impl.Sizes
		after impl.Air
	}{
		{"all double", impl.Sizes{16: 3}, impl.Air{Vapour: 10}, impl.Sizes{17: 3}, impl.Air{Heat: 6, Vapour: 7}},
		{"they take just the excess", impl.Sizes{16: 5}, impl.Air{Vapour: 10}, impl.Sizes{17: 5}, impl.Air{Heat: 10, Vapour: 5}},
		{"all of the excess is taken", impl.Sizes{16: 10}, impl.Air{Vapour: 10}, impl.Sizes{16: 5, 17: 5}, impl.Air{Heat: 10, Vapour: 5}},
		{"all of a small excess is taken", impl.Sizes{16: 8}, impl.Air{Vapour: 5.0078125}, impl.Sizes{16: 8 - 1.0/128, 17: 1.0 / 128}, impl.Air{Heat: 1.0 / 64, Vapour: 5}},
		{"the greatest class doubles", impl.Sizes{19: 1}, impl.Air{Vapour: 20}, impl.Sizes{19: 2}, impl.Air{Heat: 16, Vapour: 12}},
		{"the heat is just the greatest", impl.Sizes{16: 30}, impl.Air{Vapour: 100}, impl.Sizes{17: 30}, impl.Air{Heat: 60, Vapour: 70}},
		{"the heat is held at the greatest", impl.Sizes{16: 31}, impl.Air{Vapour: 100}, impl.Sizes{17: 31}, impl.Air{Heat: 60, Vapour: 69}},
		{"the heat is less than the greatest", impl.Sizes{16: 29}, impl.Air{Vapour: 100}, impl.Sizes{17: 29}, impl.Air{Heat: 58, Vapour: 71}},
		{"all vanish", impl.Sizes{0: 65536, 16: 3}, impl.Air{Vapour: 4}, impl.Sizes{}, impl.Air{Heat: -8, Vapour: 8}},
		{"the heat is just the least", impl.Sizes{16: 30}, impl.Air{Vapour: 4}, impl.Sizes{}, impl.Air{Heat: -60, Vapour: 34}},
		{"the heat is held at the least", impl.Sizes{16: 30.5}, impl.Air{Vapour: 4}, impl.Sizes{}, impl.Air{Heat: -60, Vapour: 34.5}},
		{"the heat is more than the least", impl.Sizes{16: 29.5}, impl.Air{Vapour: 4}, impl.Sizes{}, impl.Air{Heat: -59, Vapour: 33.5}},
		{"the vapour is just the most", impl.Sizes{16: 996}, impl.Air{Vapour: 4}, impl.Sizes{}, impl.Air{Heat: -60, Vapour: 1000}},
		{"the vapour is held at the most", impl.Sizes{16: 997}, impl.Air{Vapour: 4}, impl.Sizes{}, impl.Air{Heat: -60, Vapour: 1000}},
		{"the vapour is less than the most", impl.Sizes{16: 995.5}, impl.Air{Vapour: 4}, impl.Sizes{}, impl.Air{Heat: -60, Vapour: 999.5}},
		{"the most heat and vapour", impl.Sizes{16: 600}, impl.Air{Heat: 60, Vapour: 1000}, impl.Sizes{17: 600}, impl.Air{Heat: 60, Vapour: 400}},
		{"the least heat and no vapour", impl.Sizes{16: 600}, impl.Air{Heat: -60}, impl.Sizes{}, impl.Air{Heat: -60, Vapour: 600}},
	}
	for _, x := range list {
		wantGrown(t, x.what, x.c, x.air, long, x.want, x.after, impl.OK)
		want, after := growModel(x.c, x.air, long)
		wantGrown(t, x.what+" as the model says", x.c, x.air, long, want, after, impl.OK)
	}
	part := math.Nextafter32(1, 0)
	want, after := growModel(impl.Sizes{16: 5}, impl.Air{Vapour: 10 * part}, long)
	wantGrown(t, "they take a bit more than the excess", impl.Sizes{16: 5}, impl.Air{Vapour: 10 * part}, long, want, after, impl.OK)
	if want[16] == 0 {
		t.Error("they take just the excess")
	}
}

// With very many droplets the water that comes is a rounding, which can be more than all vapour.
func TestGrowOnceHoldsVapourAtNothing(t *testing.T) {
	for _, x := range []struct {
		sizes, air string
		heat       float32
	}{
		{"00000000 00000000 00000000 00000000 00000000 00000000 4e220000 00000000 00000000 00000000 00000000 00000000 00000000 00000000 00000000 00000000 4bfcd639 00000000 00000000 00000000", "air c1d00000 3f632a9f", -18},
		{"00000000 00000000 00000000 4f340000 00000000 00000000 00000000 00000000 00000000 00000000 00000000 00000000 00000000 00000000 00000000 00000000 00000000 00000000 00000000 509c0000", "air 42300000 42e14433", 60},
		{"00000000 00000000 00000000 00000000 00000000 5031392f 00000000 00000000 00000000 00000000 00000000 00000000 00000000 00000000 00000000 00000000 00000000 4cb1021a 00000000 00000000", "air 41300000 4132db89", 43},
	} {
		c := sizesOf(t, x.sizes)
		air, _ := impl.ReadAir(x.air)
		want, left := growModel(c, air, 0.125)
		wantAir(t, "the model", left, impl.OK, impl.Air{Heat: x.heat, Vapour: 0}, impl.OK)
		wantGrown(t, "no vapour is left", c, air, 0.125, want, left, impl.OK)
	}
}

// badGrowth has arguments with the first error that they have.
func badGrowth() []struct {
	c    impl.Sizes
	a    impl.Air
	time float32
	code int64
} {
	type bad = struct {
		c    impl.Sizes
		a    impl.Air
		time float32
		code int64
	}
	var list []bad
	good, much := impl.Air{Heat: 5, Vapour: 50}, impl.Sizes{19: greatest}
	for _, number := range notAmounts {
		list = append(list, bad{impl.Sizes{0: number}, good, 1, impl.ErrInvalid}, bad{impl.Sizes{19: number}, good, -1, impl.ErrInvalid})
		list = append(list, bad{impl.Sizes{1}, good, number, impl.ErrRange}, bad{much, good, number, impl.ErrRange})
	}
	for _, air := range notAirs() {
		list = append(list, bad{impl.Sizes{1}, air, 1, impl.ErrInvalid}, bad{much, air, noNumber, impl.ErrInvalid})
	}
	return append(list,
		bad{much, good, 1, impl.ErrState},
		bad{much, good, 0, impl.ErrState},
		bad{much, impl.Air{}, 1, impl.ErrState},
		bad{impl.Sizes{0: greatest, 1: greatest}, good, 1, impl.ErrState},
		bad{impl.Sizes{19: 4e32}, good, 1e9, impl.ErrState},
		bad{impl.Sizes{18: 4e32, 19: 4e32}, good, 1e9, impl.ErrState},
	)
}

func TestGrowErrors(t *testing.T) {
	for _, x := range badGrowth() {
		wantGrown(t, "GrowOnce", x.c, x.a, x.time, impl.Sizes{}, impl.Air{}, x.code)
		wantGrownSteps(t, "GrowSteps", x.c, x.a, x.time, 1, impl.Sizes{}, impl.Air{}, x.code)
		wantGrownSteps(t, "GrowSteps", x.c, x.a, x.time, 200, impl.Sizes{}, impl.Air{}, x.code)
		steps, code := impl.StepsToDry(x.c, x.a, x.time, 200)
		wantInteger(t, "StepsToDry", steps, code, 0, x.code)
		want, wantLeft, wantCode := x.c, x.a, int64(impl.OK)
		if x.code != impl.ErrState {
			want, wantLeft, wantCode = impl.Sizes{}, impl.Air{}, x.code
		}
		wantGrownSteps(t, "no steps", x.c, x.a, x.time, 0, want, wantLeft, wantCode)
		for _, many := range []int64{-1, 201, math.MinInt64, math.MaxInt64} {
			first := int64(impl.ErrRange)
			if x.code == impl.ErrInvalid {
				first = impl.ErrInvalid
			}
			wantGrownSteps(t, "GrowSteps out of its range", x.c, x.a, x.time, many, impl.Sizes{}, impl.Air{}, first)
			steps, code = impl.StepsToDry(x.c, x.a, x.time, many)
			wantInteger(t, "StepsToDry out of its range", steps, code, 0, first)
		}
	}
}

// stepsTexts have been found by another program.
var stepsTexts = []struct {
	count, mean float32
	air         impl.Air
	time        float32
	steps       int64
	text        string
}{
	{1000, 64, impl.Air{Heat: 10, Vapour: 12}, 0.1, 1, "4023f81b 40bee69f 4148f9d9 41ee9061 429e1d4c 434b6a96 43a02875 434f59c6 42a28f4c 41f4fa31 414e12ee 40c388d3 404d48f0 3fe9b24f 3f8de9ae 3f359c2f 3ef2995a 3ea7ebd9 3e6f8f6c 3e2f551c air 41206e7a 413fc8c3"},
	{1000, 64, impl.Air{Heat: 10, Vapour: 12}, 0.1, 200, "3801f809 3c431e17 3efb8c77 40b49825 41fdfef3 42f5023d 438f4f76 43981759 431faec5 425c9653 41918df0 40e8ba0f 40608cee 3ff55447 3f91d4c2 3f387876 3ef4d21c 3ea8d3fb 3e705468 3e303fbc air 413963b6 41334e27"},
	{1e5, 1000, impl.Air{Heat: -12.3, Vapour: 2}, 0.7, 10, "431d58a5 42650014 4390bd24 43d014ff 4441cce4 44c83bb0 4561a314 460adc1c 469976db 46e7824d 469f476a 4601e0e5 4542bf56 44a220bc 4418fa8f 43a03533 43362f72 42dd29dd 428d7cc6 423d230b air c10834cc 3dda0000"},
	{1e5, 1000, impl.Air{Heat: 20.5, Vapour: 5}, 0.5, 30, "00000000 00000000 00000000 00000000 00000000 00000000 00000000 00000000 00000000 422835b3 430c37da 434cb96c 44adb538 440023b2 4408c805 43f77a68 43b18d3c 434b38d2 42d8f793 429db122 air 42700000 42940030"},
	{1e7, 300, impl.Air{Heat: 0, Vapour: 20}, 5, 200, "00000000 00000000 00000000 00000000 00000000 00000000 00000000 00000000 00000000 00000000 421b5068 3f43e166 00000000 00000000 00000000 4217f372 4224ce48 42ea709e 4336f941 431af97c air c2700000 4475a410"},
}

func TestGrowSteps(t *testing.T) {
	for _, x := range stepsTexts {
		c, _ := impl.Spectrum(x.count, x.mean)
		grown, left, code := impl.GrowSteps(c, x.air, x.time, x.steps)
		if text := impl.SizesText(grown) + " " + impl.AirText(left); code != impl.OK || text != x.text {
			t.Errorf("GrowSteps %v %v: got %q, %d, want %q", x.count, x.steps, text, code, x.text)
		}
	}
}

func TestStepsAreStepsAtOnce(t *testing.T) {
	g := chance(33)
	for range 5 {
		c, a, time := g.cloud(t), g.air(), g.share()
		grown, left := c, a
		for steps := range int64(201) {
			wantGrownSteps(t, "steps at once", c, a, time, steps, grown, left, impl.OK)
			rest, restLeft, code := impl.GrowSteps(grown, left, time, 200-steps)
			wantGrownSteps(t, "two parts of the most steps", c, a, time, 200, rest, restLeft, code)
			grown, left, code = impl.GrowOnce(grown, left, time)
			if code != impl.OK {
				t.Fatalf("GrowOnce: got %d", code)
			}
		}
	}
}

// The first step makes cold air with much vapour, in which the second one has too much water.
func TestErrorOfALaterStep(t *testing.T) {
	c, air := impl.Sizes{0: 1e38, 19: 3e32}, impl.Air{Heat: 0, Vapour: 4.999}
	grown, left, code := impl.GrowOnce(c, air, 1)
	wantAir(t, "the first step", left, code, impl.Air{Heat: -60, Vapour: 1000}, impl.OK)
	wantGrown(t, "the second step", grown, left, 1, impl.Sizes{}, impl.Air{}, impl.ErrState)
	wantGrownSteps(t, "one step", c, air, 1, 1, grown, left, impl.OK)
	for _, steps := range []int64{2, 3, 200} {
		wantGrownSteps(t, "more steps", c, air, 1, steps, impl.Sizes{}, impl.Air{}, impl.ErrState)
		dry, code := impl.StepsToDry(c, air, 1, steps)
		wantInteger(t, "StepsToDry with an error", dry, code, 0, impl.ErrState)
	}
	dry, code := impl.StepsToDry(c, air, 1, 1)
	wantInteger(t, "StepsToDry before the error", dry, code, 0, impl.ErrBudget)
	dry, code = impl.StepsToDry(c, air, 1, 0)
	wantInteger(t, "StepsToDry without a step", dry, code, 0, impl.ErrBudget)
}

func TestStepsToDry(t *testing.T) {
	g := chance(34)
	dried := 0
	for range 60 {
		var c impl.Sizes
		c[g.next(8)], c[g.next(12)] = 1, g.amount()
		a, time := impl.Air{Heat: float32(g.next(60)), Vapour: g.share()}, 1+g.share()
		want := int64(0)
		grown, left := c, a
		for grown != (impl.Sizes{}) && want < 200 {
			grown, left = growModel(grown, left, time)
			want++
		}
		wantCode := int64(impl.OK)
		if grown != (impl.Sizes{}) {
			want, wantCode = 0, impl.ErrBudget
		} else if want > 1 {
			dried++
			steps, code := impl.StepsToDry(c, a, time, want)
			wantInteger(t, "StepsToDry with just enough", steps, code, want, impl.OK)
			steps, code = impl.StepsToDry(c, a, time, want-1)
			wantInteger(t, "StepsToDry with one too few", steps, code, 0, impl.ErrBudget)
		}
		steps, code := impl.StepsToDry(c, a, time, 200)
		wantInteger(t, "StepsToDry", steps, code, want, wantCode)
	}
	if dried < 10 {
		t.Errorf("just %d clouds have dried in several steps", dried)
	}
}

func TestStepsToDryAtTheEnds(t *testing.T) {
	dry, wet := impl.Air{}, impl.Air{Vapour: 10}
	for _, x := range []struct {
		what        string
		c           impl.Sizes
		a           impl.Air
		time        float32
		most, steps int64
		code        int64
	}{
		{"no droplets", impl.Sizes{}, wet, 1, 200, 0, impl.OK},
		{"no droplets and no steps", impl.Sizes{}, wet, 0, 0, 0, impl.OK},
		{"one droplet and no steps", impl.Sizes{1}, dry, 1, 0, 0, impl.ErrBudget},
		{"one droplet and one step", impl.Sizes{1}, dry, 1, 1, 1, impl.OK},
		{"one droplet and all steps", impl.Sizes{1}, dry, 1, 200, 1, impl.OK},
		{"hardly any droplet", impl.Sizes{19: smallest}, dry, 1, 0, 0, impl.ErrBudget},
		{"no time", impl.Sizes{1}, dry, 0, 200, 0, impl.ErrBudget},
		{"wet air", impl.Sizes{1}, wet, 1, 200, 0, impl.ErrBudget},
		{"the greatest droplet", impl.Sizes{19: 1}, dry, greatest, 5, 1, impl.OK},
		// So many that there is no sum of them are some.
		{"too many to count", fullSizes(greatest), dry, 1, 0, 0, impl.ErrBudget},
		{"too many to grow", fullSizes(greatest), dry, 1, 1, 0, impl.ErrState},
	} {
		steps, code := impl.StepsToDry(x.c, x.a, x.time, x.most)
		wantInteger(t, "StepsToDry: "+x.what, steps, code, x.steps, x.code)
	}
}

// waterInBoth is the water of droplets and air in wide numbers, so that just what a step loses is seen.
func waterInBoth(c impl.Sizes, a impl.Air) float64 {
	grams := float64(a.Vapour)
	for class, number := range c {
		grams += float64(number) * math.Exp2(float64(class)-16)
	}
	return grams
}

func TestGrowthKeepsTheWater(t *testing.T) {
	g := chance(35)
	kept, grown, dried := 0, 0, 0
	for range 1000 {
		c, a, time := g.cloud(t), g.air(), g.share()*float32(1+g.next(20))
		d, b, code := impl.GrowOnce(c, a, time)
		if code != impl.OK {
			t.Fatalf("GrowOnce: got %d", code)
		}
		excess, _ := impl.ExcessOf(a)
		before, after := waterInBoth(c, impl.Air{}), waterInBoth(d, impl.Air{})
		if some := 1e-5 * (before + after); excess <= 0 && after > before+some {
			t.Errorf("the air %v is dry, but the droplets have %v and then %v grams", a, before, after)
		} else if excess > 0 && after-before > float64(excess)+some {
			t.Errorf("the air %v has the excess %v, but the droplets have %v and then %v grams", a, excess, before, after)
		}
		if b.Vapour == 0 || b.Vapour == 1000 {
			continue
		}
		kept++
		if after > before {
			grown++
		} else {
			dried++
		}
		all, left := waterInBoth(c, a), waterInBoth(d, b)
		if math.Abs(all-left) > 1e-5*all {
			t.Errorf("GrowOnce of %v %v: there are %v and then %v grams", c, a, all, left)
		}
		narrow, code := impl.WaterIn(c, a)
		behind, _ := impl.WaterIn(d, b)
		wantNumber(t, "WaterIn", narrow, code, plus(a.Vapour, over(waterModel(c), 65536)), impl.OK)
		wantNearly(t, "WaterIn behind a step", behind, narrow)
	}
	if kept < 500 || grown < 100 || dried < 100 {
		t.Errorf("just %d runs are looked at, %d with growth and %d without", kept, grown, dried)
	}
}
