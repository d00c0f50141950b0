package tests

import (
	"math"
	"testing"

	"loop.example/g01224/impl"
)

// levels makes levels of the height, the heat and the vapour of each.
func levels(numbers ...float32) []impl.Level {
	var s []impl.Level
	for index := 0; index < len(numbers); index += 3 {
		s = append(s, impl.Level(parcel(numbers[index], numbers[index+1], numbers[index+2])))
	}
	return s
}

// manyLevels has levels at whole heights, or at half ones.
func manyLevels(count int, apart float32) []impl.Level {
	var s []impl.Level
	for index := range count {
		s = append(s, impl.Level(parcel(float32(index)*apart, 20, 5)))
	}
	return s
}

func wantSounding(t *testing.T, what string, got []impl.Level, code int64, want []impl.Level, wantCode int64) {
	t.Helper()
	if len(got) != len(want) || code != wantCode {
		t.Errorf("%s: got %v, %d, want %v, %d", what, got, code, want, wantCode)
		return
	}
	for index := range got {
		wantParcel(t, what, impl.Parcel(got[index]), code, impl.Parcel(want[index]), wantCode)
	}
}

// sounding returns a valid sounding, mostly warm below.
func (c *chance) sounding() []impl.Level {
	var s []impl.Level
	height, heat := float32(c.next(3))/2, float32(c.next(600))/10
	for range 2 + c.next(31) {
		if height > 30 || len(s) == 32 {
			break
		}
		s = append(s, impl.Level(parcel(height, heat, c.air().Vapour)))
		height = plus(height, float32(1+c.next(2000))/1000)
		heat = between(plus(heat, float32(c.next(2000))/100-16), -60, 60)
	}
	if len(s) < 2 {
		return levels(0, 20, 5, 1, 14, 4)
	}
	return s
}

// notSoundings has soundings with one mistake.
func notSoundings() [][]impl.Level {
	list := [][]impl.Level{
		nil, {}, levels(0, 20, 5), levels(30, 20, 5), manyLevels(33, 0.5), manyLevels(1000, 0.01),
		levels(1, 20, 5, 1, 20, 5), levels(2, 20, 5, 1, 20, 5), levels(0, 20, 5, 0, 20, 5),
		levels(0, 20, 5, 1, 20, 5, 1, 20, 5), levels(0, 20, 5, 2, 20, 5, 1, 20, 5), levels(1, 20, 5, 0, 20, 5, 2, 20, 5),
		levels(minus0, 20, 5, 0, 20, 5), levels(0, 20, 5, 30, 20, 5, 30, 20, 5),
	}
	for _, p := range notParcels() {
		bad := impl.Level(p)
		list = append(list, []impl.Level{bad, impl.Level(parcel(30, 5, 5))}, []impl.Level{impl.Level(parcel(0, 5, 5)), bad})
		list = append(list, []impl.Level{impl.Level(parcel(0, 5, 5)), bad, impl.Level(parcel(30, 5, 5))})
	}
	return list
}

// soundingsAtTheEnds has valid soundings.
func soundingsAtTheEnds() [][]impl.Level {
	list := [][]impl.Level{
		levels(0, 20, 5, 30, 20, 5), levels(0, 20, 5, smallest, 20, 5), levels(0, 60, 1000, 1, -60, 0), levels(0, -60, 0, 30, 60, 1000),
		levels(math.Nextafter32(30, 0), 20, 5, 30, minus0, 5), levels(0, minus0, 5, 1, 0, 5, 2, minus0, 5),
		manyLevels(31, 1), manyLevels(32, 0.5), manyLevels(2, 30),
	}
	for _, air := range airsAtTheEnds() {
		list = append(list, []impl.Level{{Height: 1, Air: air}, {Height: math.Nextafter32(1, 2), Air: air}})
	}
	return list
}

func TestValidSounding(t *testing.T) {
	for _, s := range soundingsAtTheEnds() {
		if !impl.ValidSounding(s) {
			t.Errorf("ValidSounding %v: got false", s)
		}
	}
	for _, s := range notSoundings() {
		if impl.ValidSounding(s) {
			t.Errorf("ValidSounding %v: got true", s)
		}
	}
	for count := range 40 {
		if got := impl.ValidSounding(manyLevels(count, 0.5)); got != (count >= 2 && count <= 32) {
			t.Errorf("ValidSounding %d levels: got %v", count, got)
		}
	}
	g := chance(220)
	for range 500 {
		if s := g.sounding(); !impl.ValidSounding(s) {
			t.Errorf("ValidSounding %v: got false", s)
		}
	}
}

func TestSameSounding(t *testing.T) {
	odd := bitsNumber(0x7fc00001)
	numbers := []float32{0, minus0, 1, infinite, noNumber, odd}
	for _, a := range numbers {
		for _, b := range numbers {
			want := sameNumbers(a, b)
			for _, pair := range [][2][]impl.Level{
				{levels(a, 1, 2), levels(b, 1, 2)},
				{levels(1, a, 2), levels(1, b, 2)},
				{levels(1, 2, a), levels(1, 2, b)},
				{levels(1, 2, 3, a, 5, 6), levels(1, 2, 3, b, 5, 6)},
				{levels(1, 2, 3, 4, 5, 6, 7, 8, a), levels(1, 2, 3, 4, 5, 6, 7, 8, b)},
			} {
				if got := impl.SameSounding(pair[0], pair[1]); got != want {
					t.Errorf("SameSounding %v: got %v", pair, got)
				}
			}
		}
	}
	for _, x := range []struct {
		s, t []impl.Level
		want bool
	}{
		{nil, nil, true}, {nil, []impl.Level{}, true}, {nil, levels(0, 0, 0), false}, {levels(0, 0, 0), nil, false},
		{levels(1, 2, 3), levels(1, 2, 3, 4, 5, 6), false}, {levels(1, 2, 3, 4, 5, 6), levels(1, 2, 3), false},
		{manyLevels(100, 1), manyLevels(100, 1), true}, {manyLevels(100, 1), manyLevels(101, 1), false},
	} {
		if got := impl.SameSounding(x.s, x.t); got != x.want {
			t.Errorf("SameSounding %v %v: got %v", x.s, x.t, got)
		}
	}
}

// evenModel is EvenSounding of good arguments.
func evenModel(heat, fall, vapour float32, count int) []impl.Level {
	var s []impl.Level
	for index := range count {
		height := float32(index)
		s = append(s, impl.Level(parcel(height, minus(heat, times(fall, height)), over(vapour, plus(1, height)))))
	}
	return s
}

// evenTexts have been found by another program.
var evenTexts = []struct {
	heat, fall, vapour float32
	text               string
}{
	{20, 6, 10, "00000000 41a00000 41200000\n3f800000 41600000 40a00000\n40000000 41000000 40555555\n"},
	{25.3, 6.5, 12.7, "00000000 41ca6666 414b3333\n3f800000 41966666 40cb3333\n40000000 4144cccc 40877777\n40400000 40b99998 404b3333\n" +
		"40800000 bf333340 40228f5c\n40a00000 c0e66668 40077777\n40c00000 c15b3334 3fe83a83\n40e00000 c1a1999a 3fcb3333\n41000000 c1d5999a 3fb49f4a\n"},
}

func TestEvenSounding(t *testing.T) {
	for _, x := range evenTexts {
		s, code := impl.EvenSounding(x.heat, x.fall, x.vapour, int64(len(x.text)/27))
		if text := impl.SoundingText(s); text != x.text || code != impl.OK {
			t.Errorf("EvenSounding %v: got %q, %d", x, text, code)
		}
	}
	g := chance(221)
	for range 1000 {
		heat, fall, vapour := float32(g.next(6001))/100, float32(g.next(201))/100, g.air().Vapour
		count := 2 + int(g.next(30))
		s, code := impl.EvenSounding(heat, fall, vapour, int64(count))
		wantSounding(t, "EvenSounding", s, code, evenModel(heat, fall, vapour, count), impl.OK)
		s, code = impl.EvenSounding(-heat, -fall, vapour, int64(count))
		wantSounding(t, "EvenSounding that gets warmer", s, code, evenModel(-heat, -fall, vapour, count), impl.OK)
	}
	s, code := impl.EvenSounding(60, 4, 1000, 31)
	wantSounding(t, "just to -60", s, code, evenModel(60, 4, 1000, 31), impl.OK)
	s, code = impl.EvenSounding(minus0, 0, 0, 2)
	wantSounding(t, "a heat of -0", s, code, levels(0, minus0, 0, 1, minus0, 0), impl.OK)
	s, code = impl.EvenSounding(minus0, -0.5, 0, 2)
	wantSounding(t, "a heat of -0 that becomes 0", s, code, levels(0, 0, 0, 1, 0.5, 0), impl.OK)
}

func TestEvenSoundingErrors(t *testing.T) {
	want := func(heat, fall, vapour float32, count, wantCode int64) {
		t.Helper()
		s, code := impl.EvenSounding(heat, fall, vapour, count)
		wantSounding(t, "EvenSounding", s, code, nil, wantCode)
	}
	for _, count := range []int64{math.MinInt64, -1, 0, 1, 32, 33, math.MaxInt64} {
		want(20, 1, 10, count, impl.ErrRange)
		want(noNumber, 1, minus0, count, impl.ErrRange)
	}
	for _, count := range []int64{2, 31} {
		for _, heat := range notHeats {
			want(heat, 0, 10, count, impl.ErrState)
		}
		for _, vapour := range notVapours {
			want(20, 1, vapour, count, impl.ErrState)
		}
		for _, fall := range []float32{infinite, -infinite, noNumber, greatest, -greatest, 81, -41} {
			want(20, fall, 10, count, impl.ErrState)
		}
	}
	want(60, 4.0001, 10, 31, impl.ErrState)
	want(-60, -4.0001, 10, 31, impl.ErrState)
}

// airAtModel is AirAt of a valid sounding.
func airAtModel(s []impl.Level, height float32) (impl.Air, int64) {
	if !(height >= s[0].Height && height <= s[len(s)-1].Height) {
		return impl.Air{}, impl.ErrNotFound
	}
	index := 0
	for s[index].Height < height {
		index++
	}
	high := s[index]
	if high.Height == height {
		return high.Air, impl.OK
	}
	low := s[index-1]
	air := mixModel(low.Air, high.Air, over(minus(height, low.Height), minus(high.Height, low.Height)))
	if !impl.ValidAir(air) {
		return impl.Air{}, impl.ErrState
	}
	return air, impl.OK
}

func wantAirAt(t *testing.T, what string, s []impl.Level, height float32, want impl.Air, wantCode int64) {
	t.Helper()
	got, code := impl.AirAt(s, height)
	wantAir(t, what, got, code, want, wantCode)
}

// even returns one of the two soundings of which another program has found results.
func even(t *testing.T, which int) []impl.Level {
	t.Helper()
	s, code := impl.EvenSounding(25.3, 6.5, 12.7, 9)
	if which == 1 {
		s, code = impl.EvenSounding(59.9, 3.3, 999.9, 31)
	}
	if code != impl.OK {
		t.Fatalf("EvenSounding: got %d", code)
	}
	return s
}

var heightBits = []struct {
	which                       int
	height, heat, vapour, above uint32
}{
	{0, 0x3fa8e884, 0x4185c7f0, 0x40b58d7e, 0x418b6876},
	{0, 0x40b09491, 0xc129160b, 0x3ffae106, 0x40838162},
	{0, 0x40a28f5b, 0xc0f70a38, 0x4005eb22, 0x409fe9f6},
	{0, 0x40754ca8, 0x3ec60760, 0x40295ad8, 0x40fdae96},
	{0, 0x3fdd32dd, 0x41611378, 0x4099e1e2, 0x41748ee8},
	{0, 0x40caea05, 0xc17eabc4, 0x3fde53f0, 0x40260dde},
	{1, 0x41c1e291, 0xc1a09edc, 0x421e88bd, 0x434dc148},
	{1, 0x4175fa9f, 0x4112ab5c, 0x42747aec, 0x441f9e60},
	{1, 0x417270be, 0x411e58c2, 0x4277bb72, 0x4423053f},
	{1, 0x40e29d36, 0x42121f27, 0x42f7b4bf, 0x44a82eb4},
	{1, 0x3dc36afe, 0x426e5729, 0x446e0c81, 0x45559a1c},
	{1, 0x41321a38, 0x41b954bf, 0x42a4f72e, 0x446aa55b},
}

func TestAirAt(t *testing.T) {
	for _, x := range heightBits {
		wantAirAt(t, "AirAt", even(t, x.which), bitsNumber(x.height), impl.Air{Heat: bitsNumber(x.heat), Vapour: bitsNumber(x.vapour)}, impl.OK)
	}
	g := chance(222)
	for range 1000 {
		s := g.sounding()
		last := s[len(s)-1].Height
		for _, height := range []float32{g.height(), times(last, g.share()), last + 1} {
			want, code := airAtModel(s, height)
			wantAirAt(t, "AirAt", s, height, want, code)
		}
		for index, level := range s {
			wantAirAt(t, "AirAt a level", s, level.Height, level.Air, impl.OK)
			if index == 0 {
				continue
			}
			for _, height := range []float32{math.Nextafter32(level.Height, 0), math.Nextafter32(s[index-1].Height, 30)} {
				want, code := airAtModel(s, height)
				wantAirAt(t, "AirAt nearly a level", s, height, want, code)
			}
		}
	}
}

func TestAirAtTheEnds(t *testing.T) {
	s := levels(1, 20, 8, 3, 10, 4, 4, -10, 4)
	for _, x := range []struct{ height, heat, vapour float32 }{{1, 20, 8}, {2, 15, 6}, {1.5, 17.5, 7}, {3, 10, 4}, {3.25, 5, 4}, {3.5, 0, 4}, {4, -10, 4}} {
		wantAirAt(t, "AirAt", s, x.height, impl.Air{Heat: x.heat, Vapour: x.vapour}, impl.OK)
	}
	for _, height := range []float32{math.Nextafter32(1, 0), math.Nextafter32(4, 5), 0, minus0, 30, 31, -1, greatest, -greatest, infinite, -infinite, noNumber} {
		wantAirAt(t, "below or above", s, height, impl.Air{}, impl.ErrNotFound)
	}
	whole := levels(0, 20, 8, 30, -10, 2)
	for _, height := range []float32{0, minus0} {
		wantAirAt(t, "AirAt 0", whole, height, impl.Air{Heat: 20, Vapour: 8}, impl.OK)
	}
	wantAirAt(t, "AirAt 30", whole, 30, impl.Air{Heat: -10, Vapour: 2}, impl.OK)
	wantAirAt(t, "AirAt a bit", whole, smallest, impl.Air{Heat: 20, Vapour: 8}, impl.OK)
	wantAirAt(t, "AirAt less than 0", whole, -smallest, impl.Air{}, impl.ErrNotFound)
	wantAirAt(t, "AirAt more than 30", whole, math.Nextafter32(30, 31), impl.Air{}, impl.ErrNotFound)
	// A level is given as it is, but a mixture with a share of 0 is not.
	cold := levels(0, minus0, 5, 30, 20, 5)
	wantAirAt(t, "AirAt a level of -0", cold, 0, impl.Air{Heat: minus0, Vapour: 5}, impl.OK)
	wantAirAt(t, "AirAt a bit beside -0", cold, smallest, impl.Air{Heat: 0, Vapour: 5}, impl.OK)
}

// unfit is a sounding between whose levels, at a thousandth of the way, the roundings make the heat too much.
var unfit = levels(0, 60, 5, 1, 60, 5)

func TestAirAtErrors(t *testing.T) {
	for _, s := range notSoundings() {
		for _, height := range []float32{0, 5, -1, noNumber} {
			wantAirAt(t, "no sounding", s, height, impl.Air{}, impl.ErrInvalid)
		}
	}
	wantAirAt(t, "air that would not be valid", unfit, 0.001, impl.Air{}, impl.ErrState)
	wantAirAt(t, "air that is valid", unfit, 0.5, impl.Air{Heat: 60, Vapour: 5}, impl.OK)
}

func TestLiftOf(t *testing.T) {
	g := chance(223)
	for range 2000 {
		s, p := g.sounding(), g.parcel()
		air, wantCode := airAtModel(s, p.Height)
		want := float32(0)
		if wantCode == impl.OK {
			want = minus(p.Air.Heat, air.Heat)
		}
		got, code := impl.LiftOf(s, p)
		wantNumber(t, "LiftOf", got, code, want, wantCode)
	}
	s := levels(1, 20, 8, 3, 10, 4)
	for _, x := range []struct{ height, heat, lift float32 }{{1, 20, 0}, {1, 25, 5}, {2, 10, -5}, {3, 60, 50}, {3, -60, -70}} {
		got, code := impl.LiftOf(s, parcel(x.height, x.heat, 3))
		wantNumber(t, "LiftOf", got, code, x.lift, impl.OK)
	}
	for _, height := range []float32{0, math.Nextafter32(1, 0), math.Nextafter32(3, 4), 30} {
		got, code := impl.LiftOf(s, parcel(height, 20, 3))
		wantNumber(t, "LiftOf outside", got, code, 0, impl.ErrNotFound)
	}
	got, code := impl.LiftOf(unfit, parcel(0.001, 20, 3))
	wantNumber(t, "LiftOf in no valid air", got, code, 0, impl.ErrState)
}

func TestLiftOfErrors(t *testing.T) {
	for _, s := range notSoundings() {
		got, code := impl.LiftOf(s, parcel(5, 5, 5))
		wantNumber(t, "LiftOf in no sounding", got, code, 0, impl.ErrInvalid)
	}
	for _, p := range notParcels() {
		for _, s := range [][]impl.Level{levels(0, 20, 5, 30, 20, 5), levels(7, 20, 5, 8, 20, 5), unfit} {
			got, code := impl.LiftOf(s, p)
			wantNumber(t, "LiftOf no parcel", got, code, 0, impl.ErrInvalid)
		}
	}
}

func TestWarmLowest(t *testing.T) {
	g := chance(224)
	for range 1000 {
		s := g.sounding()
		by := float32(g.next(4000))/100 - 20
		want := append([]impl.Level{}, s...)
		want[0].Air.Heat = plus(s[0].Air.Heat, by)
		wantCode := int64(impl.OK)
		if !impl.ValidAir(want[0].Air) {
			want, wantCode = nil, impl.ErrState
		}
		got, code := impl.WarmLowest(s, by)
		wantSounding(t, "WarmLowest", got, code, want, wantCode)
	}
	s := levels(0, 20, 5, 1, 30, 4)
	for _, x := range []struct{ by, heat float32 }{{0, 20}, {minus0, 20}, {40, 60}, {-80, -60}, {smallest, 20}, {-20, 0}} {
		got, code := impl.WarmLowest(s, x.by)
		wantSounding(t, "WarmLowest", got, code, levels(0, x.heat, 5, 1, 30, 4), impl.OK)
	}
	got, code := impl.WarmLowest(levels(0, minus0, 5, 1, 30, 4), minus0)
	wantSounding(t, "WarmLowest -0 by -0", got, code, levels(0, minus0, 5, 1, 30, 4), impl.OK)
}

func TestWarmLowestErrors(t *testing.T) {
	s := levels(0, 20, 5, 1, 30, 4)
	for _, by := range []float32{infinite, -infinite, noNumber} {
		got, code := impl.WarmLowest(s, by)
		wantSounding(t, "WarmLowest by no number", got, code, nil, impl.ErrRange)
	}
	for _, by := range []float32{math.Nextafter32(40, 41), math.Nextafter32(-80, -81), greatest, -greatest} {
		got, code := impl.WarmLowest(s, by)
		wantSounding(t, "WarmLowest by too much", got, code, nil, impl.ErrState)
	}
	for _, s := range notSoundings() {
		for _, by := range []float32{0, 1, noNumber} {
			got, code := impl.WarmLowest(s, by)
			wantSounding(t, "WarmLowest of no sounding", got, code, nil, impl.ErrInvalid)
		}
	}
}

// aboveModel is VapourAbove of a valid sounding.
func aboveModel(s []impl.Level, height float32) (float32, int64) {
	air, code := airAtModel(s, height)
	if code != impl.OK {
		return 0, code
	}
	lower := impl.Level{Height: height, Air: air}
	sum := float32(0)
	for _, higher := range s {
		if higher.Height <= height {
			continue
		}
		mean := times(0.5, plus(lower.Air.Vapour, higher.Air.Vapour))
		sum = plus(sum, times(mean, minus(higher.Height, lower.Height)))
		lower = higher
	}
	return sum, impl.OK
}

func TestVapourAbove(t *testing.T) {
	want := func(s []impl.Level, height, want float32, wantCode int64) {
		t.Helper()
		got, code := impl.VapourAbove(s, height)
		wantNumber(t, "VapourAbove", got, code, want, wantCode)
	}
	for _, x := range heightBits {
		want(even(t, x.which), bitsNumber(x.height), bitsNumber(x.above), impl.OK)
	}
	g := chance(225)
	for range 1000 {
		s := g.sounding()
		for _, height := range []float32{s[0].Height, s[len(s)/2].Height, s[len(s)-1].Height, g.height(), times(s[len(s)-1].Height, g.share())} {
			sum, code := aboveModel(s, height)
			want(s, height, sum, code)
		}
	}
	s := levels(1, 20, 8, 3, 10, 4, 4, -10, 6)
	for _, x := range []struct{ height, above float32 }{{1, 17}, {2, 10}, {3, 5}, {3.5, 2.75}, {4, 0}} {
		want(s, x.height, x.above, impl.OK)
	}
	for _, height := range []float32{math.Nextafter32(1, 0), math.Nextafter32(4, 5), 0, minus0, -1, 31, infinite, -infinite, noNumber} {
		want(s, height, 0, impl.ErrNotFound)
	}
	want(levels(0, 20, 1000, 30, 20, 1000), 0, 30000, impl.OK)
	want(levels(0, 20, 1000, 30, 20, 1000), minus0, 30000, impl.OK)
	want(unfit, 0.001, 0, impl.ErrState)
	for _, s := range notSoundings() {
		want(s, 5, 0, impl.ErrInvalid)
		want(s, noNumber, 0, impl.ErrInvalid)
	}
}

// heightOfModel is HeightOfHeat of good arguments.
func heightOfModel(s []impl.Level, heat float32) (float32, int64) {
	for index := 1; index < len(s); index++ {
		one, two := s[index-1].Air.Heat, s[index].Air.Heat
		if (one > heat || two < heat) && (one < heat || two > heat) {
			continue
		}
		part := float32(0)
		if one != two {
			part = over(minus(heat, one), minus(two, one))
		}
		return plus(s[index-1].Height, times(minus(s[index].Height, s[index-1].Height), part)), impl.OK
	}
	return 0, impl.ErrNotFound
}

var heatBits = []struct {
	which        int
	heat, height uint32
}{
	{0, 0xc0a47177, 0x4095da51}, {0, 0x41ad95fa, 0x3f0ddab1}, {0, 0xc17f99d2, 0x40cb3344}, {0, 0x415390d4, 0x3fedd3a8}, {0, 0x415332a2, 0x3fee4796},
	{1, 0x425ed5ce, 0x3fa2916f}, {1, 0xc21b6f2a, 0x41ef6a29}, {1, 0xc153ae6f, 0x41b148fa}, {1, 0xc1d5d4cf, 0x41d2026e}, {1, 0xbf895be8, 0x4193d04a},
}

func TestHeightOfHeat(t *testing.T) {
	want := func(s []impl.Level, heat, want float32, wantCode int64) {
		t.Helper()
		got, code := impl.HeightOfHeat(s, heat)
		wantNumber(t, "HeightOfHeat", got, code, want, wantCode)
	}
	for _, x := range heatBits {
		want(even(t, x.which), bitsNumber(x.heat), bitsNumber(x.height), impl.OK)
	}
	g := chance(226)
	for range 1000 {
		s := g.sounding()
		for _, heat := range []float32{g.air().Heat, s[g.next(uint32(len(s)))].Air.Heat, 0} {
			height, code := heightOfModel(s, heat)
			want(s, heat, height, code)
		}
	}
	s := levels(1, 20, 5, 2, 10, 5, 4, 10, 5, 6, 18, 5, 7, -2, 5)
	for _, x := range []struct{ heat, height float32 }{{20, 1}, {15, 1.5}, {10, 2}, {5, 6.65}, {-2, 7}, {0, 6.9}, {18, 1.2}} {
		height, code := heightOfModel(s, x.heat)
		want(s, x.heat, height, code)
		if code != impl.OK || !nearly(height, x.height) {
			t.Errorf("the model has the heat %v at %v, %d", x.heat, height, code)
		}
	}
	for _, heat := range []float32{math.Nextafter32(20, 21), math.Nextafter32(-2, -3), 60, -60, greatest, -greatest} {
		want(s, heat, 0, impl.ErrNotFound)
	}
	for _, zero := range []float32{0, minus0} {
		want(levels(1, minus0, 5, 2, 0, 5), zero, 1, impl.OK)
		want(levels(1, 0, 5, 2, minus0, 5), zero, 1, impl.OK)
		want(levels(1, 10, 5, 2, 0, 5, 3, 10, 5), zero, 2, impl.OK)
		want(levels(0, zero, 5, 2, 10, 5), 0, 0, impl.OK)
		want(levels(0, 0, 5, 2, -10, 5), zero, 0, impl.OK)
	}
	want(levels(3, 10, 5, 4, 10, 5), 10, 3, impl.OK)
	want(levels(3, 10, 5, 4, 10, 5), math.Nextafter32(10, 11), 0, impl.ErrNotFound)
	want(levels(3, 10, 5, 4, 10, 5, 5, 20, 5), 20, 5, impl.OK)
}

func TestHeightOfHeatErrors(t *testing.T) {
	for _, heat := range []float32{infinite, -infinite, noNumber} {
		got, code := impl.HeightOfHeat(levels(0, 20, 5, 1, 10, 5), heat)
		wantNumber(t, "HeightOfHeat of no number", got, code, 0, impl.ErrRange)
	}
	for _, s := range notSoundings() {
		for _, heat := range []float32{20, 60, noNumber} {
			got, code := impl.HeightOfHeat(s, heat)
			wantNumber(t, "HeightOfHeat of no sounding", got, code, 0, impl.ErrInvalid)
		}
	}
}
