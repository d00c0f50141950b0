package tests

import (
	"math"
	"testing"

	"loop.example/g01224/impl"
)

// notHeights has a number for each way of being no height.
var notHeights = append([]float32{math.Nextafter32(30, 31), 31, greatest}, notAmounts...)

var heightsAtTheEnds = []float32{0, smallest, 1, math.Nextafter32(30, 0), 30}

func bitsNumber(bits uint32) float32 { return math.Float32frombits(bits) }

func wantParcel(t *testing.T, what string, got impl.Parcel, code int64, want impl.Parcel, wantCode int64) {
	t.Helper()
	if !sameNumbers(got.Height, want.Height) {
		t.Errorf("%s: got the height %v, want %v", what, got.Height, want.Height)
	}
	wantAir(t, what, got.Air, code, want.Air, wantCode)
}

// parcel makes a parcel of its three numbers.
func parcel(height, heat, vapour float32) impl.Parcel {
	return impl.Parcel{Height: height, Air: impl.Air{Heat: heat, Vapour: vapour}}
}

// notParcels has parcels that are not valid in each of their numbers.
func notParcels() []impl.Parcel {
	var list []impl.Parcel
	for _, height := range notHeights {
		list = append(list, parcel(height, 5, 5))
	}
	for _, air := range notAirs() {
		list = append(list, impl.Parcel{Height: 5, Air: air})
	}
	return list
}

// parcelsAtTheEnds has valid parcels.
func parcelsAtTheEnds() []impl.Parcel {
	var list []impl.Parcel
	for _, height := range heightsAtTheEnds {
		for _, air := range airsAtTheEnds() {
			list = append(list, impl.Parcel{Height: height, Air: air})
		}
	}
	return list
}

func (c *chance) height() float32 {
	if c.next(4) == 0 {
		return float32(c.next(31))
	}
	return between(float32(c.next(30001))/float32(1000+c.next(10)), 0, 30)
}

func (c *chance) parcel() impl.Parcel { return impl.Parcel{Height: c.height(), Air: c.air()} }

// settleModel is SettleAir of valid air, with the number of times that water falls out.
func settleModel(a impl.Air) (impl.Air, float32, int) {
	all := float32(0)
	for done := range 30 {
		excess := minus(a.Vapour, saturationModel(a.Heat))
		if !(excess > 0) {
			return a, all, done
		}
		quarter := times(0.25, excess)
		a.Vapour = minus(a.Vapour, quarter)
		a.Heat = between(plus(a.Heat, times(2, quarter)), -60, 60)
		all = plus(all, quarter)
	}
	return a, all, 30
}

// dryModel is RaiseDry without its errors.
func dryModel(p impl.Parcel, height float32) impl.Parcel {
	way := minus(height, p.Height)
	return parcel(height, minus(p.Air.Heat, times(10, way)), p.Air.Vapour)
}

func heatWithin(p impl.Parcel) bool { return p.Air.Heat >= -60 && p.Air.Heat <= 60 }

// moistModel is RaiseMoist of good arguments.
func moistModel(p impl.Parcel, height float32, parts int64) (impl.Parcel, float32, int64) {
	first, way := p.Height, minus(height, p.Height)
	var all []float32
	for i := int64(1); i <= parts; i++ {
		p = dryModel(p, plus(first, times(way, over(float32(i), float32(parts)))))
		if !heatWithin(p) {
			return impl.Parcel{}, 0, impl.ErrState
		}
		air, grams, _ := settleModel(p.Air)
		p.Air = air
		all = append(all, grams)
	}
	p.Height = height
	return p, total(all), impl.OK
}

func wantSettled(t *testing.T, what string, a impl.Air, want impl.Air, wantGrams float32, wantCode int64) {
	t.Helper()
	got, grams, code := impl.SettleAir(a)
	wantAir(t, what, got, code, want, wantCode)
	wantNumber(t, what, grams, code, wantGrams, wantCode)
}

func wantDry(t *testing.T, what string, p impl.Parcel, height float32, want impl.Parcel, wantCode int64) {
	t.Helper()
	got, code := impl.RaiseDry(p, height)
	wantParcel(t, what, got, code, want, wantCode)
}

func wantMoist(t *testing.T, what string, p impl.Parcel, height float32, parts int64, want impl.Parcel, wantGrams float32, wantCode int64) {
	t.Helper()
	got, grams, code := impl.RaiseMoist(p, height, parts)
	wantParcel(t, what, got, code, want, wantCode)
	wantNumber(t, what, grams, code, wantGrams, wantCode)
}

// The example of chapter 4.
func TestParcelsExample(t *testing.T) {
	wantDry(t, "RaiseDry from 0 to 2", parcel(0, 20, 3), 2, parcel(2, 0, 3), impl.OK)
	base, code := impl.BaseOf(parcel(0, 10, 5))
	if code != impl.OK || math.Abs(float64(base)-1) > 1e-5 {
		t.Errorf("BaseOf: got %v, %d", base, code)
	}
	s, code := impl.EvenSounding(20, 6, 10, 3)
	wantSounding(t, "EvenSounding", s, code, levels(0, 20, 10, 1, 14, 5, 2, 8, 10.0/3), impl.OK)
	air, code := impl.AirAt(s, 0.5)
	wantNumber(t, "AirAt 0.5", air.Heat, code, 17, impl.OK)
	warm, code := impl.WarmLowest(s, 10)
	wantSounding(t, "WarmLowest", warm, code, levels(0, 30, 10, 1, 14, 5, 2, 8, 10.0/3), impl.OK)
	first, code := impl.FirstUnsteady(warm)
	wantInteger(t, "FirstUnsteady", first, code, 0, impl.OK)
}

func TestValidParcel(t *testing.T) {
	for _, p := range parcelsAtTheEnds() {
		if !impl.ValidParcel(p) {
			t.Errorf("ValidParcel %v: got false", p)
		}
	}
	for _, p := range notParcels() {
		if impl.ValidParcel(p) {
			t.Errorf("ValidParcel %v: got true", p)
		}
	}
}

func TestSameParcel(t *testing.T) {
	odd := bitsNumber(0x7fc00001)
	numbers := []float32{0, minus0, 1, -smallest, 31, infinite, -infinite, noNumber, odd}
	for _, a := range numbers {
		for _, b := range numbers {
			want := sameNumbers(a, b)
			for _, other := range numbers {
				for _, pair := range [][2]impl.Parcel{
					{parcel(a, other, 1), parcel(b, other, 1)},
					{parcel(1, a, other), parcel(1, b, other)},
					{parcel(other, 1, a), parcel(other, 1, b)},
				} {
					if got := impl.SameParcel(pair[0], pair[1]); got != want {
						t.Errorf("SameParcel %v: got %v", pair, got)
					}
				}
			}
		}
	}
}

// settledBits have been found by another program.
var settledBits = []struct {
	heat, vapour, heat2, vapour2, grams uint32
	count                               int
}{
	{0xc1a91edc, 0x4290df61, 0x420be98e, 0x42318244, 0x41e078fc, 2},
	{0xc242d14d, 0x413a7dfe, 0xc1d784bb, 0x3f4601d4, 0x412e1de2, 30},
	{0xc0feccf2, 0x43d44275, 0x42700000, 0x439f8dfa, 0x42d2d1eb, 1},
	{0xc2349337, 0x446ced5f, 0x42700000, 0x43a00bea, 0x441ce76a, 30},
	{0xc1c9f99f, 0x439a3dac, 0x42700000, 0x4367941e, 0x4299ce74, 1},
	{0x41cba057, 0x43f8350e, 0x42700000, 0x43a001d1, 0x43306679, 30},
	{0xc10b05d4, 0x42ea3989, 0x4241fe4e, 0x42b10998, 0x41e4bfc3, 1},
	{0x40418258, 0x418c05a2, 0x415264aa, 0x41470939, 0x40a20414, 15},
	{0xc2375414, 0x43176d9e, 0x42700000, 0x42be210e, 0x4261745c, 2},
	{0xc11656d3, 0x417862b3, 0x40c7b05a, 0x40f69667, 0x40fa2eff, 30},
	// The excess becomes exactly 0 on the way.
	{0xc15a8dbe, 0x41b2463e, 0x41260c5b, 0x41243f6c, 0x41404d0e, 20},
	{0xc24c5085, 0x4228aa32, 0x41353b3e, 0x412f6a20, 0x41f99f57, 20},
	{0x41a07600, 0x41a0e59a, 0x41a098b6, 0x41a0d440, 0x3c0ada00, 5},
	{0xc03a236b, 0x4082c9c4, 0xc03a235f, 0x4082c9c0, 0x35c00000, 3},
	{0x416c6819, 0x415ec76e, 0x416c681a, 0x415ec76e, 0x34800000, 1},
}

func TestSettleAir(t *testing.T) {
	for _, x := range settledBits {
		air := impl.Air{Heat: bitsNumber(x.heat), Vapour: bitsNumber(x.vapour)}
		want := impl.Air{Heat: bitsNumber(x.heat2), Vapour: bitsNumber(x.vapour2)}
		wantSettled(t, "SettleAir", air, want, bitsNumber(x.grams), impl.OK)
		if _, _, count := settleModel(air); count != x.count {
			t.Errorf("water falls out of %v %d times, not %d", air, count, x.count)
		}
	}
	g := chance(200)
	counts := map[int]int{}
	for range 3000 {
		air := g.air()
		want, grams, count := settleModel(air)
		wantSettled(t, "SettleAir", air, want, grams, impl.OK)
		counts[count]++
	}
	for _, air := range airsAtTheEnds() {
		want, grams, _ := settleModel(air)
		wantSettled(t, "SettleAir at the ends", air, want, grams, impl.OK)
	}
	if counts[0] < 100 || counts[1] < 100 || counts[30] < 100 {
		t.Errorf("water falls out so many times: %v", counts)
	}
}

// Air with the heat 60 gets no warmer, so that a share of its excess is always left.
func TestSettleAirThirtyTimes(t *testing.T) {
	const ulp = 1.0 / 32768
	// A quarter of the least excess is too little for the vapour, but is added up.
	least := impl.Air{Heat: 60, Vapour: 320 + ulp}
	wantSettled(t, "the least excess", least, least, 30*ulp/4, impl.OK)
	left, grams := float32(1000), float32(0)
	for range 30 {
		quarter := times(0.25, minus(left, 320))
		left, grams = minus(left, quarter), plus(grams, quarter)
	}
	wantSettled(t, "the most excess", impl.Air{Heat: 60, Vapour: 1000}, impl.Air{Heat: 60, Vapour: left}, grams, impl.OK)
	if !(left > 320.1) {
		t.Errorf("behind 30 times there are %v grams", left)
	}
	wantSettled(t, "the heat just comes to 60", impl.Air{Heat: 59, Vapour: saturationModel(59) + 2}, impl.Air{Heat: 60, Vapour: saturationModel(59) + 1.5}, 0.5, impl.OK)
	wantSettled(t, "the heat would be more than 60", impl.Air{Heat: 59, Vapour: saturationModel(59) + 4}, impl.Air{Heat: 60, Vapour: saturationModel(59) + 3}, 1, impl.OK)
}

func TestSettleAirWithoutExcess(t *testing.T) {
	for heat := float32(-60); heat <= 60; heat += 0.37 {
		saturation := saturationModel(heat)
		for _, vapour := range []float32{0, saturation / 2, math.Nextafter32(saturation, 0), saturation} {
			air := impl.Air{Heat: heat, Vapour: vapour}
			wantSettled(t, "no excess", air, air, 0, impl.OK)
		}
		air := impl.Air{Heat: heat, Vapour: math.Nextafter32(saturation, 1000)}
		if _, grams, code := impl.SettleAir(air); !(grams > 0) || code != impl.OK {
			t.Errorf("SettleAir %v: got %v, %d", air, grams, code)
		}
	}
	for _, heat := range []float32{0, minus0} {
		air := impl.Air{Heat: heat, Vapour: 5}
		wantSettled(t, "a heat of 0 or -0", air, air, 0, impl.OK)
	}
	for _, air := range notAirs() {
		wantSettled(t, "invalid air", air, impl.Air{}, 0, impl.ErrInvalid)
	}
}

func TestWhatFallsOutIsWhatTheAirHasLess(t *testing.T) {
	g := chance(201)
	for range 2000 {
		air := g.air()
		after, grams, _ := impl.SettleAir(air)
		if !nearly(after.Vapour+grams, air.Vapour) {
			t.Errorf("SettleAir %v: got %v and %v", air, after, grams)
		}
		before, _ := impl.ExcessOf(air)
		if excess, _ := impl.ExcessOf(after); excess > 2e-4*before+1e-5 {
			t.Errorf("SettleAir %v: an excess of %v is left", air, excess)
		}
		p, height := g.parcel(), g.height()
		raised, grams, code := impl.RaiseMoist(p, height, 1+int64(g.next(20)))
		if code == impl.OK && !nearly(raised.Air.Vapour+grams, p.Air.Vapour) {
			t.Errorf("RaiseMoist %v %v: got %v and %v", p, height, raised, grams)
		}
	}
}

// dryBits have been found by another program.
var dryBits = []struct{ height, heat, vapour, height2, heat2 uint32 }{
	{0x41066515, 0xc1997b87, 0x40e01d3a, 0x41311591, 0xc23776fa},
	{0x40b8f15b, 0xc046ecbe, 0x442f5f7d, 0x40dbbd86, 0xc15fb806},
	{0x40637f3d, 0xc0d0bd4d, 0x43316877, 0x40870b89, 0xc152da3b},
	{0x410a3cce, 0xc249522b, 0x42dbc6a6, 0x40e9ee90, 0xc214245c},
	{0x4118092c, 0xc17b087c, 0x442c9f98, 0x4126e9a1, 0xc1c7e687},
	{0x40ff51c4, 0x41e63180, 0x446df8b8, 0x40eaa7f9, 0x420cecfe},
	{0x411d8bfc, 0xc141f5ed, 0x40048709, 0x4117d8d5, 0xc108f667},
}

func TestRaiseDry(t *testing.T) {
	for _, x := range dryBits {
		vapour, height := bitsNumber(x.vapour), bitsNumber(x.height2)
		wantDry(t, "RaiseDry", parcel(bitsNumber(x.height), bitsNumber(x.heat), vapour), height, parcel(height, bitsNumber(x.heat2), vapour), impl.OK)
	}
	g := chance(202)
	good := 0
	for range 5000 {
		p, height := g.parcel(), g.height()
		want, wantCode := dryModel(p, height), int64(impl.OK)
		if !heatWithin(want) {
			want, wantCode = impl.Parcel{}, impl.ErrState
		} else {
			good++
		}
		wantDry(t, "RaiseDry", p, height, want, wantCode)
	}
	if good < 1000 || good > 4500 {
		t.Errorf("%d parcels of 5000 could be raised", good)
	}
	for _, p := range parcelsAtTheEnds() {
		wantDry(t, "to its own height", p, p.Height, p, impl.OK)
	}
}

func TestParcelsThatAreRaisedDryComeBack(t *testing.T) {
	g := chance(203)
	back := 0
	for range 3000 {
		p := g.parcel()
		up, code := impl.RaiseDry(p, g.height())
		if code != impl.OK {
			continue
		}
		again, code := impl.RaiseDry(up, p.Height)
		if code == impl.ErrState && math.Abs(float64(p.Air.Heat)) > 59.99 {
			continue
		}
		back++
		if code != impl.OK || math.Abs(float64(again.Air.Heat-p.Air.Heat)) > 1e-4 || again.Height != p.Height || again.Air.Vapour != p.Air.Vapour {
			t.Errorf("%v comes back as %v, %d", p, again, code)
		}
	}
	if back < 500 {
		t.Errorf("just %d parcels come back", back)
	}
}

func TestRaiseDryAtTheBounds(t *testing.T) {
	none := impl.Parcel{}
	wantDry(t, "just to -60", parcel(0, 20, 3), 8, parcel(8, -60, 3), impl.OK)
	wantDry(t, "to less than -60", parcel(0, 19.99999, 3), 8, none, impl.ErrState)
	wantDry(t, "just to 60", parcel(4, 20, 3), 0, parcel(0, 60, 3), impl.OK)
	wantDry(t, "to more than 60", parcel(4, 20.00001, 3), 0, none, impl.ErrState)
	wantDry(t, "to the height 30", parcel(20, 50, 1000), 30, parcel(30, -50, 1000), impl.OK)
	wantDry(t, "nearly to the height 30", parcel(25, 0, 0), math.Nextafter32(30, 0), dryModel(parcel(25, 0, 0), math.Nextafter32(30, 0)), impl.OK)
	wantDry(t, "from the height 30", parcel(30, -50, 1000), 20, parcel(20, 50, 1000), impl.OK)
	wantDry(t, "a bit", parcel(0, 0, 0), smallest, parcel(smallest, -10*smallest, 0), impl.OK)
	wantDry(t, "a heat of -0", parcel(0, minus0, 0), 0, parcel(0, minus0, 0), impl.OK)
	wantDry(t, "from 0 to 30", parcel(0, 60, 5), 30, none, impl.ErrState)
	wantDry(t, "from 30 to 0", parcel(30, -60, 5), 0, none, impl.ErrState)
}

func TestRaiseErrors(t *testing.T) {
	none, good := impl.Parcel{}, parcel(5, 5, 5)
	for _, height := range append([]float32{5, 30}, notHeights...) {
		for _, p := range notParcels() {
			wantDry(t, "an invalid parcel", p, height, none, impl.ErrInvalid)
			wantMoist(t, "an invalid parcel", p, height, 3, none, 0, impl.ErrInvalid)
			wantMoist(t, "an invalid parcel in no parts", p, height, 0, none, 0, impl.ErrInvalid)
		}
	}
	for _, height := range notHeights {
		wantDry(t, "to no height", good, height, none, impl.ErrRange)
		wantDry(t, "to no height, range before state", parcel(0, -60, 5), height, none, impl.ErrRange)
		wantMoist(t, "to no height", good, height, 3, none, 0, impl.ErrRange)
		wantMoist(t, "to no height, range before state", parcel(0, -60, 5), height, 3, none, 0, impl.ErrRange)
	}
	for _, parts := range []int64{0, -1, 101, math.MinInt64, math.MaxInt64} {
		for _, height := range []float32{5, 6, 30, -1} {
			wantMoist(t, "in no such parts", good, height, parts, none, 0, impl.ErrRange)
		}
	}
	for parts := int64(1); parts <= 100; parts++ {
		wantMoist(t, "to a heat of less than -60", good, 30, parts, none, 0, impl.ErrState)
		wantMoist(t, "to a heat of more than 60", parcel(30, -59, 0), 0, parts, none, 0, impl.ErrState)
		want, grams, code := moistModel(good, 6, parts)
		wantMoist(t, "in parts", good, 6, parts, want, grams, code)
	}
}

// moistBits have been found by another program.
var moistBits = []struct {
	height, heat, vapour, height2 uint32
	parts                         int64
	heat2, vapour2, grams         uint32
}{
	{0x41908c09, 0xc24e3f9f, 0x42967de3, 0x416397bb, 2, 0x424da0c4, 0x422bec01, 0x42010fc5},
	{0x4178d49b, 0x41f7d137, 0x4300955b, 0x41d9fb68, 33, 0x421b5b54, 0x426ab924, 0x428bce26},
	{0x41932cbe, 0x420287bb, 0x412a6df8, 0x41bd3740, 7, 0xc0aecfc4, 0x405b2144, 0x40e74b59},
	{0x416c8908, 0x4212eaf0, 0x4362bd4f, 0x41af70e3, 1, 0x42700000, 0x432a2ac9, 0x42624a18},
	{0x4156ab56, 0x420b413a, 0x421aea7c, 0x41e0e295, 33, 0xc20e1384, 0x3eda4915, 0x421935ec},
	{0x413e00a2, 0xc028b562, 0x43a64234, 0x4140aa6a, 2, 0x426cabc6, 0x437a5eec, 0x42a44af7},
	{0x3f56fde7, 0x404c2477, 0x41956146, 0x40cc44c3, 7, 0xc18e7c82, 0x3fba3882, 0x4189bdbf},
	{0x407b10c2, 0x419bf9d0, 0x444ec8f1, 0x4091c34f, 1, 0x42700000, 0x43a00940, 0x43fd88a2},
	{0x4154c25d, 0xc1d628dc, 0x41771fa1, 0x419301b7, 7, 0xc23c2ffe, 0x3e445c8b, 0x41740e32},
	{0x41a7cff2, 0x41b90592, 0x4110c02b, 0x41d25e57, 10, 0xc1769019, 0x3fdbeece, 0x40ea84a1},
	// The last part ends beside the height, which has more digits.
	{0x3ea33842, 0xc1c14f25, 0x4140772b, 0x3a9a40b6, 15, 0xc057ef7e, 0x404e3a90, 0x410ce886},
	{0x402a52fd, 0xc1e26da1, 0x417befc6, 0x3d49ee99, 20, 0x41ab4866, 0x407cbf54, 0x413cbff3},
	{0x408c0be3, 0xc26cb222, 0x40d645f3, 0x3c7fbd4d, 11, 0xc02d324a, 0x3e886056, 0x40cdbfee},
}

func TestRaiseMoist(t *testing.T) {
	for _, x := range moistBits {
		height := bitsNumber(x.height2)
		p := parcel(bitsNumber(x.height), bitsNumber(x.heat), bitsNumber(x.vapour))
		want := parcel(height, bitsNumber(x.heat2), bitsNumber(x.vapour2))
		wantMoist(t, "RaiseMoist", p, height, x.parts, want, bitsNumber(x.grams), impl.OK)
	}
	g := chance(204)
	good := 0
	for range 1500 {
		p, height, parts := g.parcel(), g.height(), 1+int64(g.next(12))
		want, grams, code := moistModel(p, height, parts)
		wantMoist(t, "RaiseMoist", p, height, parts, want, grams, code)
		if code == impl.OK {
			good++
		}
	}
	if good < 300 || good > 1400 {
		t.Errorf("%d parcels of 1500 could be raised", good)
	}
}

func TestRaiseMoistInParts(t *testing.T) {
	dry := parcel(0, 20, 0)
	for _, parts := range []int64{1, 2, 4, 8, 64} {
		wantMoist(t, "dry air", dry, 4, parts, parcel(4, -20, 0), 0, impl.OK)
		wantMoist(t, "dry air just to -60", dry, 8, parts, parcel(8, -60, 0), 0, impl.OK)
		wantMoist(t, "dry air down", parcel(4, -20, 0), 0, parts, dry, 0, impl.OK)
	}
	for _, parts := range []int64{1, 2, 99, 100} {
		p := parcel(3, 10, 15)
		air, grams, _ := settleModel(p.Air)
		for part := int64(1); part < parts; part++ {
			more := float32(0)
			air, more, _ = settleModel(air)
			grams = plus(grams, more)
		}
		wantMoist(t, "to its own height", p, 3, parts, impl.Parcel{Height: 3, Air: air}, grams, impl.OK)
	}
	// Cold air with much vapour is warmed by what falls out, if it comes to the first part.
	cold := parcel(0, -59, 1000)
	wantMoist(t, "cold air in one part", cold, 0.25, 1, impl.Parcel{}, 0, impl.ErrState)
	want, grams, code := moistModel(cold, 0.25, 4)
	wantMoist(t, "cold air in parts", cold, 0.25, 4, want, grams, code)
	if code != impl.OK || !(grams > 100) {
		t.Errorf("cold air in parts: %v grams, %d", grams, code)
	}
	// The first part is good here, but air without vapour gets too cold in the second.
	wantMoist(t, "the second part", parcel(0, -54, 0), 1, 2, impl.Parcel{}, 0, impl.ErrState)
	wantMoist(t, "the way of the second part", parcel(0, -54, 0), 0.5, 1, parcel(0.5, -59, 0), 0, impl.OK)
}

func TestMixParcels(t *testing.T) {
	g := chance(205)
	for range 2000 {
		p, q, share := g.parcel(), g.parcel(), g.share()
		got, code := impl.MixParcels(p, q, share)
		wantParcel(t, "MixParcels", got, code, impl.Parcel{Height: p.Height, Air: mixModel(p.Air, q.Air, share)}, impl.OK)
	}
	got, code := impl.MixParcels(parcel(3, 20, 8), parcel(0, -20, 0), 0.25)
	wantParcel(t, "MixParcels", got, code, parcel(3, 10, 6), impl.OK)
	got, code = impl.MixParcels(parcel(30, 60, 1000), parcel(0, -60, 0), 0)
	wantParcel(t, "MixParcels of nothing", got, code, parcel(30, 60, 1000), impl.OK)
	got, code = impl.MixParcels(parcel(30, 60, 1000), parcel(0, -60, 0), 1)
	wantParcel(t, "MixParcels of all", got, code, parcel(30, -60, 0), impl.OK)
}

func TestMixParcelsErrors(t *testing.T) {
	good := parcel(5, 5, 5)
	for _, share := range append([]float32{0, 0.5}, notShares...) {
		for _, bad := range notParcels() {
			got, code := impl.MixParcels(bad, good, share)
			wantParcel(t, "MixParcels of no parcel", got, code, impl.Parcel{}, impl.ErrInvalid)
			got, code = impl.MixParcels(good, bad, share)
			wantParcel(t, "MixParcels with no parcel", got, code, impl.Parcel{}, impl.ErrInvalid)
		}
	}
	for _, share := range notShares {
		got, code := impl.MixParcels(good, parcel(0, 60, 5), share)
		wantParcel(t, "MixParcels of no share", got, code, impl.Parcel{}, impl.ErrRange)
	}
	for _, heat := range []float32{60, -60} {
		got, code := impl.MixParcels(parcel(5, heat, 5), parcel(7, heat, 5), 0.001)
		wantParcel(t, "MixParcels that would not be valid", got, code, impl.Parcel{}, impl.ErrState)
	}
}
