package tests

import (
	"math"
	"testing"

	"loop.example/g01224/impl"
)

// excessAtModel is the excess of a parcel at a height that it can reach.
func excessAtModel(p impl.Parcel, height float32) float32 {
	heat := minus(p.Air.Heat, times(10, minus(height, p.Height)))
	return minus(p.Air.Vapour, saturationModel(between(heat, -60, 60)))
}

// highestModel is the highest height that BaseOf looks at.
func highestModel(p impl.Parcel) float32 {
	return between(plus(p.Height, over(plus(p.Air.Heat, 60), 10)), 0, 30)
}

// baseModel is BaseOf of a valid parcel.
func baseModel(p impl.Parcel) (float32, int64) {
	if minus(p.Air.Vapour, saturationModel(p.Air.Heat)) >= 0 {
		return p.Height, impl.OK
	}
	low, high := p.Height, highestModel(p)
	if excessAtModel(p, high) < 0 {
		return 0, impl.ErrNotFound
	}
	for range 24 {
		middle := times(0.5, plus(low, high))
		if excessAtModel(p, middle) < 0 {
			low = middle
			continue
		}
		high = middle
	}
	return high, impl.OK
}

func wantBase(t *testing.T, what string, p impl.Parcel, want float32, wantCode int64) {
	t.Helper()
	got, code := impl.BaseOf(p)
	wantNumber(t, what, got, code, want, wantCode)
}

// baseBits have been found by another program.
var baseBits = []struct{ height, heat, vapour, base uint32 }{
	{0x4081a81b, 0x424aefb9, 0x418ed73e, 0x40e93e38},
	{0x414de814, 0x4204ed7a, 0x4196521c, 0x416484a0},
	{0x4155b4e0, 0x4238c48d, 0x405060b9, 0x4194c1ff},
	{0x40ae0773, 0x4234ab14, 0x3fd73264, 0x413870c5},
	{0x4171d937, 0x4242d4d5, 0x406862c3, 0x41a3953b},
	{0x41584fc3, 0x42197e3b, 0x4187ef1e, 0x417978b1},
	{0x412bb62e, 0x425614ac, 0x4101e73f, 0x41762772},
	{0x3eac5b5a, 0x423dbca6, 0x40ac1c6a, 0x409f317c},
	{0x3f5d3690, 0x424767a2, 0x4146f1f2, 0x40911e32},
	{0x419b12f5, 0x41c927be, 0x419619a3, 0x419fed40},
}

func TestBaseOf(t *testing.T) {
	for _, x := range baseBits {
		p := parcel(bitsNumber(x.height), bitsNumber(x.heat), bitsNumber(x.vapour))
		wantBase(t, "BaseOf", p, bitsNumber(x.base), impl.OK)
	}
	g := chance(210)
	found, own, none := 0, 0, 0
	for range 4000 {
		p := g.parcel()
		if g.next(2) == 0 {
			p.Air.Vapour = times(saturationModel(p.Air.Heat), g.share())
		}
		want, code := baseModel(p)
		wantBase(t, "BaseOf", p, want, code)
		switch {
		case code != impl.OK:
			none++
		case want == p.Height:
			own++
		default:
			found++
		}
	}
	for _, p := range parcelsAtTheEnds() {
		want, code := baseModel(p)
		wantBase(t, "BaseOf at the ends", p, want, code)
	}
	if found < 500 || own < 500 || none < 100 {
		t.Errorf("%d parcels have a base, %d at their own height, %d none", found, own, none)
	}
}

// A parcel that is raised dry to its base has nearly no excess there, and none a bit lower.
func TestExcessBeginsAtTheBase(t *testing.T) {
	g := chance(211)
	for range 1000 {
		p := g.parcel()
		base, code := impl.BaseOf(p)
		if code != impl.OK || base == p.Height {
			continue
		}
		at := excessAtModel(p, base)
		if at < 0 || float64(at) > 1e-4*math.Max(1, float64(p.Air.Vapour)) {
			t.Errorf("BaseOf %v: got %v with the excess %v", p, base, at)
		}
		if lower := excessAtModel(p, base-0.001); base-0.001 > p.Height && lower >= 0 {
			t.Errorf("BaseOf %v: got %v, but there is the excess %v below it", p, base, lower)
		}
	}
}

func TestBaseAtItsOwnHeight(t *testing.T) {
	for _, height := range heightsAtTheEnds {
		for _, heat := range heatsAtTheEnds {
			saturation := saturationModel(heat)
			wantBase(t, "no excess", parcel(height, heat, saturation), height, impl.OK)
			wantBase(t, "an excess", parcel(height, heat, math.Nextafter32(saturation, 1000)), height, impl.OK)
			wantBase(t, "much excess", parcel(height, heat, 1000), height, impl.OK)
			less := parcel(height, heat, math.Nextafter32(saturation, 0))
			want, code := baseModel(less)
			wantBase(t, "a bit less", less, want, code)
		}
	}
	wantBase(t, "a bit less at 0", parcel(0, 10, math.Nextafter32(10, 0)), bitsNumber(0x34e00000), impl.OK)
}

func TestParcelsWithoutABase(t *testing.T) {
	for _, x := range []struct {
		what string
		p    impl.Parcel
	}{
		{"no vapour", parcel(0, 20, 0)},
		{"no vapour, and too cold to rise", parcel(0, -60, 0)},
		{"too cold to rise", parcel(7, -60, math.Nextafter32(5.0/64, 0))},
		{"too dry at the heat -60", parcel(0, 0, math.Nextafter32(5.0/64, 0))},
		{"too dry at the height 30", parcel(29, 20, math.Nextafter32(10, 0))},
		{"at the height 30", parcel(30, 20, 19)},
		{"nearly at the height 30", parcel(math.Nextafter32(30, 0), 20, 19)},
	} {
		wantBase(t, x.what, x.p, 0, impl.ErrNotFound)
	}
	for _, x := range []struct {
		what string
		p    impl.Parcel
		base float32
	}{
		{"just at the heat -60", parcel(0, 0, 5.0/64), 6},
		{"just at the height 30", parcel(29, 20, 10), 30},
	} {
		want, code := baseModel(x.p)
		wantBase(t, x.what, x.p, want, code)
		if code != impl.OK || math.Abs(float64(want-x.base)) > 1e-4 {
			t.Errorf("%s: the model has %v, %d", x.what, want, code)
		}
	}
	for _, p := range notParcels() {
		wantBase(t, "an invalid parcel", p, 0, impl.ErrInvalid)
	}
}

// By roundings, the heat at the highest height can be a bit less than -60, and is held then.
func TestBaseHoldsTheHeat(t *testing.T) {
	for _, x := range []struct{ height, heat uint32 }{{0x40aec3f0, 0x4252a36e}, {0x40b8b948, 0x41c371b5}, {0x4128b09a, 0x4263e6dd}, {0x4117a5e5, 0x421bf6c7}} {
		p := parcel(bitsNumber(x.height), bitsNumber(x.heat), math.Nextafter32(5.0/64, 0))
		heat := minus(p.Air.Heat, times(10, minus(highestModel(p), p.Height)))
		if !(heat < -60) || twoModel(over(heat, 10))*5 > p.Air.Vapour {
			t.Errorf("the heat of %v is %v", p, heat)
		}
		wantBase(t, "a heat that is held", p, 0, impl.ErrNotFound)
		p.Air.Vapour = 5.0 / 64
		want, code := baseModel(p)
		wantBase(t, "just enough vapour", p, want, code)
		if code != impl.OK {
			t.Errorf("%v has no base", p)
		}
	}
}
