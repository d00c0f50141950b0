package tests

import (
	"math"
	"testing"

	"loop.example/g01224/impl"
)

type risen struct {
	parcel impl.Parcel
	energy float32
	steps  int64
}

// riseModel is RiseIn of good arguments.
func riseModel(s []impl.Level, p impl.Parcel, step, share float32, most int64) (risen, int64) {
	var energies []float32
	for {
		around, code := airAtModel(s, p.Height)
		if code != impl.OK {
			return risen{}, code
		}
		lift, height := minus(p.Air.Heat, around.Heat), plus(p.Height, step)
		if lift <= 0 || int64(len(energies)) == most || height > s[len(s)-1].Height {
			break
		}
		up, _, code := moistModel(p, height, 1)
		if code != impl.OK {
			return risen{}, code
		}
		around, code = airAtModel(s, height)
		if code != impl.OK {
			return risen{}, code
		}
		p = impl.Parcel{Height: height, Air: mixModel(up.Air, around, share)}
		if !impl.ValidAir(p.Air) {
			return risen{}, impl.ErrState
		}
		energies = append(energies, times(lift, step))
	}
	end := risen{parcel: p, steps: int64(len(energies))}
	if end.steps > 0 {
		end.energy = total(energies)
	}
	return end, impl.OK
}

func wantRisen(t *testing.T, what string, s []impl.Level, p impl.Parcel, step, share float32, most int64, want risen, wantCode int64) {
	t.Helper()
	end, energy, steps, code := impl.RiseIn(s, p, step, share, most)
	wantParcel(t, what, end, code, want.parcel, wantCode)
	wantNumber(t, what+", the energy", energy, code, want.energy, wantCode)
	wantInteger(t, what+", the steps", steps, code, want.steps, wantCode)
}

// riseBits have been found by another program.
var riseBits = []struct {
	which                             int
	height, heat, vapour, step, share uint32
	most                              int64
	height2, heat2, vapour2, energy   uint32
	steps                             int64
}{
	{0, 0x3dd15392, 0x41da22f5, 0x4147055b, 0x3d4ccccd, 0x3dcccccd, 1, 0x3e1bdcfc, 0x41d42be0, 0x4145e472, 0x3e06bac0, 1},
	{1, 0x40322a4c, 0x42595a7f, 0x415ccd18, 0x3e800000, 0x3e4ccccd, 50, 0x40522a4c, 0x4243e2af, 0x42bf6dc5, 0x3fa5ebd0, 2},
	{0, 0x3ee815fd, 0x41dd654c, 0x413bfa10, 0x3dcccccd, 0x00000000, 3, 0x3f40d7cc, 0x41c5654c, 0x413bfa10, 0x3fbee198, 3},
	{1, 0x4010eb8f, 0x426a1e9e, 0x41684e69, 0x3fd9999a, 0x00000000, 1, 0x407db85c, 0x42261e9e, 0x41684e69, 0x4125fbd2, 1},
	{0, 0x3fd71654, 0x4196cb0b, 0x411b3429, 0x3e800000, 0x3c23d70a, 200, 0x40f5c595, 0xc1c95921, 0x3f611598, 0x4164a000, 24},
	{1, 0x3f9d497c, 0x426b111d, 0x41348756, 0x3e99999a, 0x3dcccccd, 50, 0x3fea1648, 0x42532d8b, 0x42a4c5dc, 0x3f8fb4da, 2},
	{0, 0x3f9473aa, 0x418fcf16, 0x40153855, 0x3fd9999a, 0x3e4ccccd, 1, 0x403706a2, 0x4007e22a, 0x4021ea62, 0x3ebadcba, 1},
	{1, 0x3fbcc04f, 0x426dbfb3, 0x4195a29d, 0x3dcccccd, 0x3f000000, 200, 0x41abcc1d, 0x40d6a5b8, 0x420e273b, 0x435ec177, 200},
	{0, 0x3f74b766, 0x41d76962, 0x403455de, 0x3fd9999a, 0x3c23d70a, 10, 0x408b63ba, 0xc0e1a72d, 0x403484b1, 0x418411e4, 2},
	{0, 0x3f018e47, 0x41eb2a0f, 0x408b36e9, 0x3e99999a, 0x3dcccccd, 3, 0x3fb3fa56, 0x4197ddae, 0x409c5967, 0x40a5d204, 3},
	{1, 0x4003341b, 0x426a2b0b, 0x41b3bd52, 0x3dcccccd, 0x3e4ccccd, 3, 0x4016674d, 0x42566c02, 0x432362cb, 0x3f95aafa, 3},
	{0, 0x40389832, 0x41346b9a, 0x41b0a249, 0x3e99999a, 0x3f000000, 50, 0x408c4c19, 0xc06bf286, 0x403b1e78, 0x4099a70a, 5},
}

func TestRiseIn(t *testing.T) {
	for _, x := range riseBits {
		p := parcel(bitsNumber(x.height), bitsNumber(x.heat), bitsNumber(x.vapour))
		want := risen{parcel(bitsNumber(x.height2), bitsNumber(x.heat2), bitsNumber(x.vapour2)), bitsNumber(x.energy), x.steps}
		wantRisen(t, "RiseIn", even(t, x.which), p, bitsNumber(x.step), bitsNumber(x.share), x.most, want, impl.OK)
	}
	g := chance(230)
	steps, codes := map[int64]int{}, map[int64]int{}
	for range 1000 {
		s, p := g.sounding(), g.parcel()
		if g.next(8) > 0 {
			p.Height = between(plus(s[0].Height, times(s[len(s)-1].Height, g.share()*g.share())), s[0].Height, s[len(s)-1].Height)
		}
		if around, code := impl.AirAt(s, p.Height); code == impl.OK && g.next(4) > 0 {
			p.Air.Heat = between(plus(around.Heat, float32(g.next(100))/10), -60, 60)
		}
		step, share, most := float32(1+g.next(500))/500, g.share()*g.share(), int64(g.next(201))
		if g.next(4) == 0 {
			share, most = 0, 3
		}
		want, code := riseModel(s, p, step, share, most)
		wantRisen(t, "RiseIn", s, p, step, share, most, want, code)
		steps[want.steps]++
		codes[code]++
	}
	if steps[0] < 20 || steps[1] < 20 || steps[3] < 20 || len(steps) < 20 || codes[impl.ErrNotFound] < 20 || codes[impl.ErrState] < 20 {
		t.Errorf("so many steps %v, so many codes %v", steps, codes)
	}
}

// In air that gets cold quickly, dry parcels without a share of it get 10 degrees colder for each height, and rise on.
var quick = levels(0, 20, 0, 1, 5, 0, 2, -10, 0, 4, -40, 0)

func TestRiseInEnds(t *testing.T) {
	p := parcel(0, 22, 0)
	for _, x := range []struct {
		what string
		s    []impl.Level
		p    impl.Parcel
		step float32
		most int64
		want risen
	}{
		{"no steps", quick, p, 1, 0, risen{p, 0, 0}},
		{"one step", quick, p, 1, 1, risen{parcel(1, 12, 0), 2, 1}},
		{"two steps", quick, p, 1, 2, risen{parcel(2, 2, 0), 9, 2}},
		{"just to the last level", quick, p, 1, 4, risen{parcel(4, -18, 0), 2 + 7 + 12 + 17, 4}},
		{"just to the last level, which is before most", quick, p, 1, 200, risen{parcel(4, -18, 0), 2 + 7 + 12 + 17, 4}},
		{"just to the last level at once", quick, p, 4, 200, risen{parcel(4, -18, 0), 8, 1}},
		{"beyond the last level at once", quick, p, math.Nextafter32(4, 5), 200, risen{p, 0, 0}},
		{"beyond the last level behind a step", quick, p, 2.25, 200, risen{parcel(2.25, -0.5, 0), 4.5, 1}},
		{"a step that is far too great", quick, p, greatest, 200, risen{p, 0, 0}},
		{"from the last level", quick, parcel(4, 0, 0), 1, 200, risen{parcel(4, 0, 0), 0, 0}},
		{"from the last level by nothing", quick, parcel(4, 0, 0), smallest, 3, risen{parcel(4, 0, 0), 3 * 40 * smallest, 3}},
		{"a lift of 0", quick, parcel(0, 20, 0), 1, 200, risen{parcel(0, 20, 0), 0, 0}},
		{"a lift of -0", levels(0, 0, 0, 2, -60, 0), parcel(0, minus0, 0), 1, 200, risen{parcel(0, minus0, 0), 0, 0}},
		{"a lift of less than 0", quick, parcel(0, 19, 0), 1, 200, risen{parcel(0, 19, 0), 0, 0}},
		{"a bit of a lift", quick, parcel(1, math.Nextafter32(5, 6), 0), 1, 1, risen{parcel(2, math.Nextafter32(5, 6)-10, 0), 0x1p-21, 1}},
		{"a lift that becomes 0", levels(0, 20, 0, 1, 12, 0, 2, -20, 0), p, 1, 200, risen{parcel(1, 12, 0), 2, 1}},
		{"a lift that becomes less than 0", levels(0, 20, 0, 1, 12.5, 0, 2, -20, 0), p, 1, 200, risen{parcel(1, 12, 0), 2, 1}},
		{"just to the heat -60", levels(0, -60, 0, 30, -60, 0), parcel(0, -55, 0), 0.5, 200, risen{parcel(0.5, -60, 0), 2.5, 1}},
	} {
		wantRisen(t, x.what, x.s, x.p, x.step, 0, x.most, x.want, impl.OK)
		model, code := riseModel(x.s, x.p, x.step, 0, x.most)
		wantRisen(t, x.what+" as the model says", x.s, x.p, x.step, 0, x.most, model, code)
	}
	wantRisen(t, "all of the air is taken", quick, parcel(0, 30, 0), 1, 1, 200, risen{parcel(1, 5, 0), 10, 1}, impl.OK)
	wantRisen(t, "a half of the air is taken", quick, p, 1, 0.5, 1, risen{parcel(1, 8.5, 0), 2, 1}, impl.OK)
	wantRisen(t, "no step, whatever the share", quick, parcel(0, minus0, 3), 1, 0.5, 200, risen{parcel(0, minus0, 3), 0, 0}, impl.OK)
}

// Steps that are too small for the height are steps as well: they end behind most.
func TestRiseInMostSteps(t *testing.T) {
	p := parcel(2, 10, 0)
	for _, most := range []int64{0, 1, 199, 200} {
		energy := float32(0)
		for range most {
			energy = plus(energy, times(20, 1e-9))
		}
		wantRisen(t, "steps that do not rise", quick, p, 1e-9, 0, most, risen{p, energy, most}, impl.OK)
		want, code := riseModel(even(t, 1), parcel(1, 59, 3), 0.001, 0.01, most)
		wantRisen(t, "small steps", even(t, 1), parcel(1, 59, 3), 0.001, 0.01, most, want, code)
		if code != impl.OK || want.steps != most {
			t.Errorf("small steps: the model has %v, %d", want, code)
		}
	}
	for _, most := range []int64{-1, 201, math.MinInt64, math.MaxInt64} {
		wantRisen(t, "no such steps", quick, p, 1e-9, 0, most, risen{}, impl.ErrRange)
	}
}

func TestRiseInErrors(t *testing.T) {
	want := func(what string, s []impl.Level, p impl.Parcel, step, share float32, most, wantCode int64) {
		t.Helper()
		wantRisen(t, what, s, p, step, share, most, risen{}, wantCode)
	}
	good, outside := parcel(1, 20, 5), parcel(5, 20, 5)
	for _, step := range []float32{1, noNumber} {
		for _, s := range notSoundings() {
			want("no sounding", s, good, step, 0.5, 3, impl.ErrInvalid)
		}
		for _, p := range notParcels() {
			want("no parcel", quick, p, step, 0.5, 3, impl.ErrInvalid)
		}
		want("no sounding, invalid before range", nil, good, step, -1, -1, impl.ErrInvalid)
	}
	for _, p := range []impl.Parcel{good, outside} {
		for _, step := range []float32{0, minus0, -smallest, -1, -greatest, infinite, -infinite, noNumber} {
			want("no step", quick, p, step, 0.5, 3, impl.ErrRange)
		}
		for _, share := range notShares {
			want("no share", quick, p, 1, share, 3, impl.ErrRange)
		}
		for _, most := range []int64{-1, 201, math.MinInt64, math.MaxInt64} {
			want("no number of steps", quick, p, 1, 0.5, most, impl.ErrRange)
		}
	}
	for _, most := range []int64{0, 1, 200} {
		want("above the last level", quick, outside, 1, 0.5, most, impl.ErrNotFound)
		want("a bit above the last level", quick, parcel(math.Nextafter32(4, 5), 20, 5), 1, 0.5, most, impl.ErrNotFound)
		want("below the first level", levels(2, 20, 5, 3, 20, 5), parcel(math.Nextafter32(2, 1), 30, 5), 1, 0.5, most, impl.ErrNotFound)
	}
}

func TestRiseInAirThatWouldNotBeValid(t *testing.T) {
	want := func(what string, s []impl.Level, p impl.Parcel, step, share float32, most, wantCode int64) {
		t.Helper()
		model, code := riseModel(s, p, step, share, most)
		if code != wantCode {
			t.Errorf("%s: the model has the code %d", what, code)
		}
		wantRisen(t, what, s, p, step, share, most, model, wantCode)
	}
	cold := levels(0, -60, 0, 1, -60, 0, 2, -60, 0)
	want("the parcel gets too cold", cold, parcel(0, -55, 0), 0.6, 0, 3, impl.ErrState)
	want("the parcel gets too cold in the second step", cold, parcel(0, -50, 0), 0.6, 0, 3, impl.ErrState)
	want("the parcel does not come to the second step", cold, parcel(0, -50, 0), 0.6, 0, 1, impl.OK)
	want("the air of the next height", cold, parcel(0, 0, 0), 0.001, 0, 3, impl.ErrState)
	want("the air of the next height is not looked at", cold, parcel(0, 0, 0), 0.001, 0, 0, impl.OK)
	want("the air of the first height", cold, parcel(0.001, 0, 0), 1, 0, 3, impl.ErrState)
	want("the air of the first height without steps", cold, parcel(0.001, 0, 0), 1, 0, 0, impl.ErrState)
	want("the air of the first height, and the next one beyond the last level", cold, parcel(0.001, 0, 0), 2, 0, 3, impl.ErrState)
	falling := levels(0, -55, 0, 1, -60, 0)
	want("the mixture", falling, parcel(0, -50, 0), 1, 0.001, 3, impl.ErrState)
	want("another mixture", falling, parcel(0, -50, 0), 1, 0.5, 3, impl.OK)
}
