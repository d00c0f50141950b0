package tests

import (
	"math"
	"slices"
	"testing"

	"loop.example/g01224/impl"
)

var notLimits = []float32{0, minus0, -smallest, -1, -greatest, infinite, -infinite, noNumber}

// foldBits have been found by another program.
var foldBits = [][3]uint32{
	{0x41400000, 0x41200000, 0xc1000000}, {0x41200000, 0x41200000, 0x41200000}, {0xc1200000, 0x41200000, 0xc1200000},
	{0x41a00000, 0x41200000, 0x00000000}, {0x41f00000, 0x41200000, 0xc1200000}, {0xc1f00000, 0x41200000, 0x41200000},
	{0x42480000, 0x41200000, 0x41200000}, {0x411ffbe7, 0x41200000, 0x411ffbe7}, {0x41200001, 0x41200000, 0xc11fffff},
	{0xc1000000, 0x41200000, 0xc1000000}, {0x3e99999a, 0x3dcccccd, 0xbdcccccc}, {0x7149f2ca, 0x3f333333, 0x00000000},
	{0x4640e6b6, 0x40533333, 0xc03b0000}, {0xc640e6b6, 0x40533333, 0x403b0000}, {0x7f7fffff, 0x7f7fffff, 0x7f7fffff},
	{0x7f7fffff, 0x7effc99e, 0x7a598400}, {0x00000001, 0x00000001, 0x00000001}, {0x00000002, 0x00000001, 0x00000000},
	{0x42c80000, 0x3a83126f, 0xb7000000}, {0xc1f8fd36, 0x40507d7e, 0x3fb9fa80}, {0x409e1777, 0x40e0177c, 0x409e1777},
	{0xc29cc763, 0x40d85801, 0x402f53c0}, {0x426dc806, 0x40f80a7b, 0xc0242750}, {0xc2b958ed, 0x4108482e, 0xc0efeb30},
	// Quotients that are halfway between two integers as narrow numbers only.
	{0x432b9710, 0x41988647, 0x41988648}, {0x42f591aa, 0x4132987c, 0xc1329880}, {0x4092ecf4, 0x3fc3e69b, 0xbfc3e69c},
	{0x418e6a1b, 0x3fcf25f9, 0xbfcf2600}, {0x427f5a44, 0x40e2fae7, 0x40e2fae8}, {0x42a0f1ab, 0x4137ef9f, 0xc137efa0},
}

// nearestModel returns the integer that is nearest to a number, the even one of two.
func nearestModel(a float32) float32 {
	low := math.Floor(float64(a))
	part := float64(a) - low
	if part > 0.5 || part == 0.5 && math.Mod(low, 2) != 0 {
		low++
	}
	return float32(low)
}

func foldModel(speed, limit float32) float32 {
	twice := times(2, limit)
	whole := nearestModel(over(speed, twice))
	if whole == 0 {
		return speed
	}
	return minus(speed, times(twice, whole))
}

func TestFoldSpeed(t *testing.T) {
	for _, x := range foldBits {
		speed, code := impl.FoldSpeed(bitsNumber(x[0]), bitsNumber(x[1]))
		wantNumber(t, "FoldSpeed", speed, code, bitsNumber(x[2]), impl.OK)
	}
	g := chance(340)
	for range 10000 {
		speed, limit := g.signed(), g.amount()+0.1
		folded, code := impl.FoldSpeed(speed, limit)
		wantNumber(t, "FoldSpeed", folded, code, foldModel(speed, limit), impl.OK)
	}
	for range 10000 {
		limit := float32(1+g.next(30000)) / 1000
		half := math.Float32bits(times(float32(2*g.next(20)+1), limit))
		speed := bitsNumber(half - 2 + g.next(5))
		folded, code := impl.FoldSpeed(speed, limit)
		wantNumber(t, "FoldSpeed about halfway", folded, code, foldModel(speed, limit), impl.OK)
	}
	for whole := -20; whole <= 20; whole++ {
		speed, code := impl.FoldSpeed(float32(whole)*5, 10)
		wantNumber(t, "FoldSpeed", speed, code, foldModel(float32(whole)*5, 10), impl.OK)
	}
	// The speed itself where the integer is 0, also -0 and where twice the limit is infinite.
	for _, limit := range []float32{smallest, 10, 1e38, 1.7014118e38, 1.8e38, greatest} {
		for _, speed := range []float32{0, minus0, limit, -limit, smallest, limit / 2} {
			folded, code := impl.FoldSpeed(speed, limit)
			wantNumber(t, "FoldSpeed within the limit", folded, code, speed, impl.OK)
		}
	}
	for _, speed := range []float32{1e38, -1e38, greatest, -greatest} {
		folded, code := impl.FoldSpeed(speed, 1.8e38)
		wantNumber(t, "FoldSpeed where twice the limit is infinite", folded, code, speed, impl.OK)
	}
}

func TestFoldSpeedErrors(t *testing.T) {
	want := func(speed, limit float32, wantCode int64) {
		t.Helper()
		folded, code := impl.FoldSpeed(speed, limit)
		wantNumber(t, "FoldSpeed", folded, code, 0, wantCode)
	}
	for _, limit := range notLimits {
		for _, speed := range []float32{0, 1, -30, greatest, infinite, noNumber} {
			want(speed, limit, impl.ErrRange)
		}
	}
	for _, speed := range []float32{infinite, -infinite, noNumber} {
		for _, limit := range []float32{smallest, 1, greatest} {
			want(speed, limit, impl.ErrRange)
		}
	}
	// The quotient is infinite, or the product is.
	want(1e38, smallest, impl.ErrState)
	want(-1e38, smallest, impl.ErrState)
	want(greatest, 0.1, impl.ErrState)
	want(greatest, 1.1e38, impl.ErrState)
	want(-greatest, 1.1e38, impl.ErrState)
}

// unfoldBits have been found by another program.
var unfoldBits = []struct {
	limit        uint32
	list, speeds []uint32
}{
	{0x41200000, []uint32{0xc1c43bd1, 0xc118e39b, 0x40d4c9f4, 0x41c8ae8e, 0xc119a38c, 0x41cb9d67}, []uint32{0xc1c43bd1, 0xc1ec71ce, 0xc20566c2, 0xc20ba8b9, 0xc1ecd1c6, 0xc20a314c}},
	{0x40533333, []uint32{0x402d5a65, 0xc1340c32, 0xc12fdf3c, 0xc19acf88, 0xc1ca773f, 0xc1a88b18}, []uint32{0x402d5a65, 0x3ff93808, 0x400d4fdc, 0x3ee5b780, 0x3f8bbf40, 0xbfa24b20}},
	{0x3f333333, []uint32{0x41359b8c, 0x41ee6dca, 0xc1a27742, 0xc1d8b1e9, 0x41e99d96, 0x4000c20f}, []uint32{0x41359b8c, 0x4139a862, 0x413e44b0, 0x4141cf62, 0x41466e60, 0x413cfd51}},
}

func bitsNumbers(bits []uint32) []float32 {
	var list []float32
	for _, number := range bits {
		list = append(list, bitsNumber(number))
	}
	return list
}

func unfoldModel(list []float32, limit float32) []float32 {
	speeds := []float32{list[0]}
	for index, speed := range list[1:] {
		twice := times(2, limit)
		if whole := nearestModel(over(minus(speeds[index], speed), twice)); whole != 0 {
			speed = plus(speed, times(twice, whole))
		}
		speeds = append(speeds, speed)
	}
	return speeds
}

func TestUnfoldSpeeds(t *testing.T) {
	for _, x := range unfoldBits {
		speeds, code := impl.UnfoldSpeeds(bitsNumbers(x.list), bitsNumber(x.limit))
		wantNumbers(t, "UnfoldSpeeds", speeds, code, bitsNumbers(x.speeds), impl.OK)
	}
	g := chance(341)
	for range 2000 {
		limit := g.amount() + 0.1
		var list []float32
		for range 1 + g.next(32) {
			list = append(list, g.signed())
		}
		speeds, code := impl.UnfoldSpeeds(list, limit)
		wantNumbers(t, "UnfoldSpeeds", speeds, code, unfoldModel(list, limit), impl.OK)
	}
	for _, x := range []struct {
		list   []float32
		limit  float32
		speeds []float32
	}{
		{[]float32{8, -8}, 10, []float32{8, 12}}, {[]float32{-8, 8}, 10, []float32{-8, -12}}, {[]float32{50}, 10, []float32{50}}, {[]float32{minus0}, 10, []float32{minus0}},
		{[]float32{8, -8, -4, 3, -9}, 10, []float32{8, 12, 16, 23, 31}}, {[]float32{0, minus0, minus0}, 10, []float32{0, minus0, minus0}},
		// Halfway between two foldings: the even one.
		{[]float32{10, 0}, 10, []float32{10, 0}}, {[]float32{30, 0}, 10, []float32{30, 40}}, {[]float32{50, 0}, 10, []float32{50, 40}}, {[]float32{-10, 0}, 10, []float32{-10, 0}},
		{[]float32{-30, 0}, 10, []float32{-30, -40}}, {[]float32{20, 0}, 10, []float32{20, 20}}, {[]float32{20, -20}, 10, []float32{20, 20}},
		// Twice the limit is infinite.
		{[]float32{1, 2, -3}, greatest, []float32{1, 2, -3}}, {[]float32{greatest, 0, greatest, minus0}, 1.8e38, []float32{greatest, 0, greatest, minus0}},
	} {
		speeds, code := impl.UnfoldSpeeds(x.list, x.limit)
		wantNumbers(t, "UnfoldSpeeds", speeds, code, x.speeds, impl.OK)
	}
}

func TestUnfoldSpeedsErrors(t *testing.T) {
	want := func(list []float32, limit float32, wantCode int64) {
		t.Helper()
		speeds, code := impl.UnfoldSpeeds(list, limit)
		if code != wantCode || (speeds == nil) != (wantCode != impl.OK) {
			t.Errorf("UnfoldSpeeds %v, %v: got %v, %d", list, limit, speeds, code)
		}
	}
	for _, count := range []int{0, 33, 34, 100, 1000000} {
		want(make([]float32, count), 10, impl.ErrRange)
	}
	want(nil, 10, impl.ErrRange)
	for _, count := range []int{1, 2, 31, 32} {
		want(make([]float32, count), 10, impl.OK)
		for _, limit := range notLimits {
			want(make([]float32, count), limit, impl.ErrRange)
			want(slices.Repeat([]float32{noNumber}, count), limit, impl.ErrRange)
		}
		for _, odd := range []float32{infinite, -infinite, noNumber} {
			first, last := make([]float32, count), make([]float32, count)
			first[0], last[count-1] = odd, odd
			want(first, 10, impl.ErrRange)
			want(last, 10, impl.ErrRange)
		}
	}
	for _, list := range [][]float32{{greatest, -greatest}, {-greatest, greatest, 0}, {3e38, -3e38}} {
		want(list, 10, impl.ErrState)
		want(list, smallest, impl.ErrState)
	}
	want([]float32{greatest, -greatest}, greatest, impl.ErrState)
	want([]float32{0, greatest}, 1.1e38, impl.ErrState)
	want([]float32{0, 0, greatest, 0}, 1.1e38, impl.ErrState)
	want([]float32{1, -1, 1}, smallest, impl.ErrState)
}

// Promise 11: what is unfolded and folded again is as before, nearly.
func TestSpeedsAreUnfoldedAndFolded(t *testing.T) {
	g := chance(342)
	for range 1000 {
		limit := float32(1+g.next(300)) / 10
		var list []float32
		for range 1 + g.next(32) {
			list = append(list, limit*(float32(g.next(1981))/1000-0.99))
		}
		speeds, code := impl.UnfoldSpeeds(list, limit)
		wantInteger(t, "UnfoldSpeeds", code, 0, impl.OK, 0)
		for index, speed := range speeds {
			folded, code := impl.FoldSpeed(speed, limit)
			if math.Abs(float64(folded-list[index])) > 1e-4*float64(limit) || code != impl.OK {
				t.Errorf("UnfoldSpeeds %v, %v: got %v, folded %v", list, limit, speeds, folded)
			}
			if index > 0 && math.Abs(float64(speed-speeds[index-1])) > 1.00001*float64(limit) {
				t.Errorf("UnfoldSpeeds %v, %v: got %v", list, limit, speeds)
			}
			within, code := impl.FoldSpeed(speed*7, limit)
			if math.Abs(float64(within)) > 1.0001*float64(limit) || code != impl.OK {
				t.Errorf("FoldSpeed %v, %v: got %v, %d", speed*7, limit, within, code)
			}
		}
	}
}

// loudBits have been found by another program.
var loudBits = [][2]uint32{
	{0x3f800000, 0x00000000}, {0x40000000, 0x4040a8c1}, {0x41200000, 0x41200000}, {0x42c80000, 0x41a00000},
	{0x447a0000, 0x41f00000}, {0x3f000000, 0xc040a8c1}, {0x3dcccccd, 0xc1200000}, {0x00000001, 0xc3e04471},
	{0x007fffff, 0xc3bda61e}, {0x00800000, 0xc3bda61e}, {0x7f7fffff, 0x43c0a8c1}, {0x3f7fffff, 0xb48af968},
	{0x3f800001, 0x350af967}, {0x3fffffff, 0x4040a8c0}, {0x40400000, 0x4098adc6}, {0x40f66666, 0x410dd6a9},
	{0x49742400, 0x42700000}, {0x47f12065, 0x424ba91d}, {0x1aa2b8af, 0xc35db848}, {0x74065692, 0x439e254c},
	{0x1c76e41f, 0xc352e0db}, {0x5d02dda7, 0x4331b430}, {0x7110cb35, 0x4395470d}, {0x72835f26, 0x439994ee},
}

// loudModel is LoudnessOf a good power with wide numbers of another library, which rounds each operation once.
func loudModel(power float32) float32 {
	z, e := float64(power), 0.0
	for z >= 2 {
		z, e = z/2, e+1
	}
	for z < 1 {
		z, e = z*2, e-1
	}
	u := wide(0).Quo(wide(z-1), wide(0).Add(wide(z), wide(1)))
	v, s := wide(0).Mul(u, u), wide(0)
	for m := 14.0; m >= 0; m-- {
		s = wide(0).Add(wide(0).Quo(wide(1), wide(2*m+1)), wide(0).Mul(v, s))
	}
	part := wide(0).Quo(wide(0).Mul(wide(0).Mul(wide(2), u), s), wide(0.6931471805599453))
	bels := wide(0).Mul(wide(0).Add(wide(e), part), wide(0.3010299956639812))
	loudness, _ := wide(0).Mul(wide(10), bels).Float64()
	return float32(loudness)
}

func TestLoudnessOf(t *testing.T) {
	for _, x := range loudBits {
		loudness, code := impl.LoudnessOf(bitsNumber(x[0]))
		wantNumber(t, "LoudnessOf", loudness, code, bitsNumber(x[1]), impl.OK)
	}
	g := chance(343)
	for range 10000 {
		power := bitsNumber(1 + g.next(32640)<<16 + g.next(65536))
		loudness, code := impl.LoudnessOf(power)
		wantNumber(t, "LoudnessOf", loudness, code, loudModel(power), impl.OK)
		if math.Abs(float64(loudness)-10*math.Log10(float64(power))) > 1e-4 {
			t.Errorf("LoudnessOf %v: got %v", power, loudness)
		}
	}
	for _, power := range notAmounts {
		loudness, code := impl.LoudnessOf(power)
		wantNumber(t, "LoudnessOf no power", loudness, code, 0, impl.ErrRange)
	}
	loudness, code := impl.LoudnessOf(0)
	wantNumber(t, "LoudnessOf 0", loudness, code, 0, impl.ErrRange)
}
