package tests

import (
	"math"
	"testing"

	"loop.example/g01224/impl"
)

func wantActive(t *testing.T, what string, c impl.Sizes, a impl.Air, nuclei float32, want impl.Sizes, wantLeft impl.Air, wantMade float32, wantCode int64) {
	t.Helper()
	got, left, made, code := impl.Activate(c, a, nuclei)
	wantSizes(t, what, got, code, want, wantCode)
	wantAir(t, what, left, code, wantLeft, wantCode)
	wantNumber(t, what, made, code, wantMade, wantCode)
}

// activateModel is Activate without its errors.
func activateModel(c impl.Sizes, a impl.Air, nuclei float32) (impl.Sizes, impl.Air, float32) {
	excess := minus(a.Vapour, saturationModel(a.Heat))
	if !(excess > 0) {
		return c, a, 0
	}
	made := times(nuclei, between(excess, 0, 1))
	c[0] = plus(c[0], made)
	a.Vapour = between(minus(a.Vapour, over(made, 65536)), 0, 1000)
	return c, a, made
}

func TestActivate(t *testing.T) {
	g := chance(40)
	made, none := 0, 0
	for range 3000 {
		c, a, nuclei := g.cloud(t), g.air(), g.amount()*float32(g.next(50))
		want, left, number := activateModel(c, a, nuclei)
		wantActive(t, "Activate", c, a, nuclei, want, left, number, impl.OK)
		if number > 0 {
			made++
		} else {
			none++
		}
	}
	if made < 500 || none < 500 {
		t.Errorf("nuclei make droplets %d times, and %d times none", made, none)
	}
}

func TestNucleiMakeDropletsJustInAirWithAnExcess(t *testing.T) {
	for heat := float32(-60); heat <= 60; heat += 0.9 {
		saturation, _ := impl.SaturationAt(heat)
		c := impl.Sizes{0: 3, 19: 0.5}
		for _, vapour := range []float32{0, saturation / 2, math.Nextafter32(saturation, 0), saturation} {
			air := impl.Air{Heat: heat, Vapour: vapour}
			wantActive(t, "air without an excess", c, air, 1000, c, air, 0, impl.OK)
		}
		for _, vapour := range []float32{math.Nextafter32(saturation, 1000), saturation + 0.5, 1000} {
			air := impl.Air{Heat: heat, Vapour: vapour}
			_, _, made, code := impl.Activate(c, air, 1000)
			if code != impl.OK || !(made > 0) || made > 1000 {
				t.Errorf("Activate 1000 nuclei in %v: got %v, %d", air, made, code)
			}
		}
	}
}

func TestActivateAtTheBounds(t *testing.T) {
	for _, x := range []struct {
		what        string
		vapour      float32
		nuclei      float32
		made, after float32
	}{
		{"an excess of a half", 5.5, 65536, 32768, 5},
		{"an excess of just 1", 6, 65536, 65536, 5},
		{"an excess of more than 1", 8, 65536, 65536, 7},
		{"an excess of a bit less than 1", math.Nextafter32(6, 0), 65536, 65536 - 0x1p-5, 5},
		{"all vapour is taken", 5.5, 720896, 360448, 0},
		{"more than all vapour is taken", 5.5, 720898, 360449, 0},
		{"nearly all vapour is taken", 5.5, 720894, 360447, 0x1p-16},
		{"no nuclei", 5.5, 0, 0, 5.5},
		{"hardly any nuclei", 5.5, smallest, 0, 5.5},
		{"the most nuclei", 5.5, greatest, greatest / 2, 0},
		{"the most nuclei and vapour", 1000, greatest, greatest, 0},
		{"a small excess", 5.0078125, 128, 1, 5.0078125 - 0x1p-16},
	} {
		for _, heat := range []float32{0, minus0} {
			air, left := impl.Air{Heat: heat, Vapour: x.vapour}, impl.Air{Heat: heat, Vapour: x.after}
			wantActive(t, x.what, impl.Sizes{}, air, x.nuclei, impl.Sizes{0: x.made}, left, x.made, impl.OK)
			wantActive(t, x.what+", beside others", impl.Sizes{1: 7, 19: 2}, air, x.nuclei, impl.Sizes{0: x.made, 1: 7, 19: 2}, left, x.made, impl.OK)
		}
	}
	full := fullSizes(greatest)
	for _, air := range []impl.Air{{Vapour: 4}, {Vapour: 5}} {
		wantActive(t, "many droplets without an excess", full, air, greatest, full, air, 0, impl.OK)
	}
	air := impl.Air{Vapour: 7}
	wantActive(t, "many droplets and no nuclei", full, air, 0, full, air, 0, impl.OK)
}

func TestActivateErrors(t *testing.T) {
	good := impl.Air{Vapour: 7}
	for _, number := range notAmounts {
		wantActive(t, "no amount of nuclei", impl.Sizes{1}, good, number, impl.Sizes{}, impl.Air{}, 0, impl.ErrRange)
		wantActive(t, "no amount of nuclei in dry air", impl.Sizes{1}, impl.Air{}, number, impl.Sizes{}, impl.Air{}, 0, impl.ErrRange)
		wantActive(t, "range before state", fullSizes(greatest), good, number, impl.Sizes{}, impl.Air{}, 0, impl.ErrRange)
		for _, nuclei := range []float32{0, 1, number} {
			wantActive(t, "invalid sizes", impl.Sizes{19: number}, good, nuclei, impl.Sizes{}, impl.Air{}, 0, impl.ErrInvalid)
			wantActive(t, "invalid sizes in dry air", impl.Sizes{0: number}, impl.Air{}, nuclei, impl.Sizes{}, impl.Air{}, 0, impl.ErrInvalid)
		}
	}
	for _, air := range notAirs() {
		for _, nuclei := range []float32{0, 1, -1, noNumber} {
			wantActive(t, "invalid air", impl.Sizes{1}, air, nuclei, impl.Sizes{}, impl.Air{}, 0, impl.ErrInvalid)
		}
	}
	wantActive(t, "too many droplets", impl.Sizes{greatest}, good, greatest, impl.Sizes{}, impl.Air{}, 0, impl.ErrState)
	wantActive(t, "too many droplets of a few", impl.Sizes{greatest}, good, 1e32, impl.Sizes{}, impl.Air{}, 0, impl.ErrState)
}

func TestWaterIn(t *testing.T) {
	g := chance(41)
	for range 2000 {
		c, a := g.sizes(), g.air()
		got, code := impl.WaterIn(c, a)
		wantNumber(t, "WaterIn", got, code, plus(a.Vapour, over(waterModel(c), 65536)), impl.OK)
	}
	for _, x := range []struct {
		c            impl.Sizes
		vapour, want float32
	}{
		{impl.Sizes{}, 0, 0}, {impl.Sizes{}, 1000, 1000}, {impl.Sizes{16: 1}, 1000, 1001}, {impl.Sizes{0: 65536, 15: 2, 19: 1}, 0.5, 10.5},
		{impl.Sizes{0: greatest}, 0, greatest / 65536}, {impl.Sizes{0: smallest}, 0, 0}, {impl.Sizes{0: 1}, 1000, 1000},
	} {
		got, code := impl.WaterIn(x.c, impl.Air{Heat: -3, Vapour: x.vapour})
		wantNumber(t, "WaterIn", got, code, x.want, impl.OK)
	}
}

func TestWaterInErrors(t *testing.T) {
	good := impl.Air{Vapour: 7}
	for _, number := range notAmounts {
		got, code := impl.WaterIn(impl.Sizes{19: number}, good)
		wantNumber(t, "WaterIn no sizes", got, code, 0, impl.ErrInvalid)
	}
	for _, air := range notAirs() {
		got, code := impl.WaterIn(impl.Sizes{1}, air)
		wantNumber(t, "WaterIn no air", got, code, 0, impl.ErrInvalid)
		got, code = impl.WaterIn(fullSizes(greatest), air)
		wantNumber(t, "WaterIn, invalid before state", got, code, 0, impl.ErrInvalid)
	}
	got, code := impl.WaterIn(impl.Sizes{1: greatest}, good)
	wantNumber(t, "WaterIn too much", got, code, 0, impl.ErrState)
}
