package tests

import (
	"math"
	"testing"

	"loop.example/g01224/impl"
)

func powerModel(list []complex64) float32 {
	var squares []float32
	for _, pulse := range list {
		squares = append(squares, squareModel(pulse))
	}
	return over(total(squares), float32(len(list)))
}

// meanModel is the mean of complex numbers.
func meanModel(list []complex64) complex64 {
	var across, up []float32
	for _, z := range list {
		across, up = append(across, real(z)), append(up, imag(z))
	}
	return complex(over(total(across), float32(len(list))), over(total(up), float32(len(list))))
}

func lagModel(list []complex64, k int) complex64 {
	var products []complex64
	for index := range len(list) - k {
		z := list[index]
		products = append(products, productModel(complex(real(z), -imag(z)), list[index+k]))
	}
	return meanModel(products)
}

// widthModel is WidthOf two or more valid pulses, but for errors.
func widthModel(list []complex64) float32 {
	power := powerModel(list)
	if power == 0 {
		return 0
	}
	width := minus(1, over(sizeModel(lagModel(list, 1)), power))
	if width < 0 {
		return 0
	}
	return width
}

func wantFinite(t *testing.T, what string, got float32, code int64, want float32) {
	t.Helper()
	if !finiteResult(want) {
		wantNumber(t, what, got, code, 0, impl.ErrState)
		return
	}
	wantNumber(t, what, got, code, want, impl.OK)
}

// measureBits have been found by another program, of the sum of PulsesOf with the strength, 0.2 and the turns, and of NoisePulses with the seed and the other strength.
var measureBits = []struct {
	count                  int64
	seed                   uint32
	strength, turns, noise uint32
	power                  uint32
	lag1, lagHalf          [2]uint32
	speed, width           uint32
	firstLine, lastLine    uint32
	loudest                int64
	last                   [2]uint32
}{
	{2, 625784932, 0x3f800000, 0xbf0596ce, 0x3e800000, 0x3f8e7f46, [2]uint32{0xbf88dd52, 0x3e2aba76}, [2]uint32{0xbf88dd52, 0x3e2aba76}, 0x418395e9, 0x3ce4bc80, 0x3d343e7f, 0x400bae4c, 1, [2]uint32{0xbedd7674, 0xbf736c80}},
	{3, 1451255993, 0x3e99999a, 0xbe698611, 0x3d99999a, 0x3d9ed0dc, [2]uint32{0xbbb9621b, 0xbda19d62}, [2]uint32{0xbbb9621b, 0xbda19d62}, 0xc110b4b2, 0x00000000, 0x3cd0cc27, 0x3e4cfe40, 2, [2]uint32{0xbe1ce7e3, 0xbe82ffc7}},
	{5, 3515508378, 0x40f66666, 0xbcbd4853, 0x3ff66666, 0x4252388b, [2]uint32{0x423b67de, 0xc0b9155e}, [2]uint32{0x423b290c, 0xc12956cd}, 0xbf2d2819, 0x3dd06890, 0x4373ea60, 0x40285f6a, 0, [2]uint32{0x3f307074, 0x3f145ca8}},
	{8, 1356321087, 0x26901d7d, 0xbcb8a17b, 0x25901d7d, 0x0d9aa78c, [2]uint32{0x0d947f70, 0x8be5ef90}, [2]uint32{0x0d82f93e, 0x8d1194aa}, 0xbf080115, 0x3f800000, 0x0f0a1871, 0x0cfcbeb7, 0, [2]uint32{0x25084258, 0xa5afd53c}},
	{13, 3026530898, 0x5368d4a5, 0xbf0816dd, 0x5268d4a5, 0x674cd1d7, [2]uint32{0xe7455848, 0x66065cdf}, [2]uint32{0x66d0c683, 0xe72b7066}, 0x4182f8fc, 0x00000000, 0x630f7f5a, 0x653fb156, 6, [2]uint32{0x52bba86a, 0xd3411821}},
	{31, 3220345089, 0x40400000, 0x3ed3e513, 0x3f400000, 0x411f6140, [2]uint32{0xc101399b, 0x40a11b54}, [2]uint32{0x402bf180, 0x41147284}, 0x4163afde, 0x3d3691c0, 0x401c2db8, 0x3e2829e9, 13, [2]uint32{0xc02c4df0, 0xbfc55805}},
	{63, 3383310246, 0x3a83126f, 0xbe246eb9, 0x3983126f, 0x35919387, [2]uint32{0x35132dcc, 0xb56c8393}, [2]uint32{0x358a6bf2, 0x342a6bc7}, 0xc0b2b5d2, 0x3d310890, 0x319b8877, 0x33edf60b, 53, [2]uint32{0x3948714e, 0x3a967904}},
	{64, 38991381, 0x437a0000, 0xbf0b3ed4, 0x427a0000, 0x476f5a23, [2]uint32{0xc75e509d, 0x467e87a6}, [2]uint32{0xc73a9fda, 0xc7028f68}, 0x417c3cdf, 0x3d0ac820, 0x43ffdf1a, 0x443552c6, 29, [2]uint32{0x432a1814, 0xc25d85b5}},
}

func TestMeasures(t *testing.T) {
	for _, x := range measureBits {
		waves, code := impl.PulsesOf(bitsNumber(x.strength), 0.2, bitsNumber(x.turns), x.count)
		wantInteger(t, "PulsesOf", code, 0, impl.OK, 0)
		noise, _, code := impl.NoisePulses(x.seed, bitsNumber(x.noise), x.count)
		wantInteger(t, "NoisePulses", code, 0, impl.OK, 0)
		list, code := impl.AddPulses(waves, noise)
		wantInteger(t, "AddPulses", code, 0, impl.OK, 0)
		power, code := impl.PowerOf(list)
		wantNumber(t, "PowerOf", power, code, bitsNumber(x.power), impl.OK)
		lag, code := impl.LagOf(list, 1)
		wantComplex(t, "LagOf 1", lag, code, bitsComplex(x.lag1[0], x.lag1[1]), impl.OK)
		lag, code = impl.LagOf(list, x.count/2)
		wantComplex(t, "LagOf half of them", lag, code, bitsComplex(x.lagHalf[0], x.lagHalf[1]), impl.OK)
		speed, code := impl.SpeedOf(list, 17.3)
		wantNumber(t, "SpeedOf", speed, code, bitsNumber(x.speed), impl.OK)
		width, code := impl.WidthOf(list)
		wantNumber(t, "WidthOf", width, code, bitsNumber(x.width), impl.OK)
		lines, code := impl.LinesOf(list)
		wantNumber(t, "the first line", lines[0], code, bitsNumber(x.firstLine), impl.OK)
		wantNumber(t, "the last line", lines[x.count-1], code, bitsNumber(x.lastLine), impl.OK)
		loudest, code := impl.LoudestLine(list)
		wantInteger(t, "LoudestLine", loudest, code, x.loudest, impl.OK)
		without, code := impl.WithoutMean(list)
		wantComplex(t, "WithoutMean", without[x.count-1], code, bitsComplex(x.last[0], x.last[1]), impl.OK)
	}
}

func TestPowerOf(t *testing.T) {
	g := chance(320)
	list := pulsesAtTheEnds()
	for range 500 {
		list = append(list, g.somePulses())
	}
	for _, pulses := range list {
		power, code := impl.PowerOf(pulses)
		wantFinite(t, "PowerOf", power, code, powerModel(pulses))
	}
	for _, bad := range notPulses() {
		power, code := impl.PowerOf(bad)
		wantNumber(t, "PowerOf", power, code, 0, impl.ErrInvalid)
	}
	for _, pulses := range [][]complex64{reals(1e20), reals(1, 1e20), reals(greatest), {complex(0, -greatest)}, reals(1.8e19, 1.8e19), {complex(1.5e19, 1.5e19)}} {
		power, code := impl.PowerOf(pulses)
		wantNumber(t, "PowerOf", power, code, 0, impl.ErrState)
	}
	power, code := impl.PowerOf(reals(1.8e19))
	wantNumber(t, "PowerOf one pulse", power, code, times(1.8e19, 1.8e19), impl.OK)
}

func TestLagOf(t *testing.T) {
	g := chance(321)
	list := pulsesAtTheEnds()
	for range 300 {
		list = append(list, g.somePulses())
	}
	for _, pulses := range list {
		for k := range pulses {
			lag, code := impl.LagOf(pulses, int64(k))
			if want := lagModel(pulses, k); hasFiniteParts(want) {
				wantComplex(t, "LagOf", lag, code, want, impl.OK)
			} else {
				wantComplex(t, "LagOf", lag, code, 0, impl.ErrState)
			}
		}
	}
	lag, code := impl.LagOf([]complex64{complex(3, 4)}, 0)
	wantComplex(t, "LagOf one pulse", lag, code, 25, impl.OK)
	lag, code = impl.LagOf([]complex64{1, complex(0, 1)}, 1)
	wantComplex(t, "LagOf a quarter", lag, code, complex(0, 1), impl.OK)
	lag, code = impl.LagOf([]complex64{complex(minus0, 0), 1}, 1)
	wantComplex(t, "LagOf one product", lag, code, complex(0, minus0), impl.OK)
}

func TestLagOfErrors(t *testing.T) {
	lags := []int64{math.MinInt64, -1, 0, 1, 63, 64, math.MaxInt64}
	for _, bad := range notPulses() {
		for _, k := range lags {
			lag, code := impl.LagOf(bad, k)
			wantComplex(t, "LagOf", lag, code, 0, impl.ErrInvalid)
		}
	}
	for _, count := range []int{1, 2, 5, 63, 64} {
		for k := int64(0); k < int64(count); k++ {
			lag, code := impl.LagOf(equalPulses(count, complex(0, 2)), k)
			wantComplex(t, "LagOf equal pulses", lag, code, 4, impl.OK)
			lag, code = impl.LagOf(equalPulses(count, greatest), k)
			wantComplex(t, "LagOf great pulses", lag, code, 0, impl.ErrState)
		}
		for _, k := range []int64{math.MinInt64, -64, -1, int64(count), int64(count) + 1, 1000, math.MaxInt64} {
			lag, code := impl.LagOf(equalPulses(count, greatest), k)
			wantComplex(t, "LagOf", lag, code, 0, impl.ErrRange)
		}
	}
	// One part alone that is not finite: the squares of 1e20 take each other away, or are added.
	for _, list := range [][]complex64{{complex(1e20, 1), complex(1e20, 0)}, {complex(1e20, 0), complex(0, 1e20)}, {complex(1e20, 1e20), complex(1e20, 1e20)}} {
		lag, code := impl.LagOf(list, 1)
		wantComplex(t, "LagOf", lag, code, 0, impl.ErrState)
	}
}

func TestSpeedOf(t *testing.T) {
	g := chance(322)
	for range 500 {
		list, limit := append(g.pulses(1+int(g.next(63))), 1), g.amount()+0.1
		speed, code := impl.SpeedOf(list, limit)
		lag := lagModel(list, 1)
		if lag == 0 {
			wantNumber(t, "SpeedOf the lag 0", speed, code, 0, impl.ErrState)
			continue
		}
		wantNumber(t, "SpeedOf", speed, code, times(times(2, turnsModel(lag)), limit), impl.OK)
	}
	for _, x := range []struct {
		list        []complex64
		limit, want float32
	}{
		{reals(1, 1), 5, 0}, {reals(1, -1), 5, 5}, {[]complex64{1, complex(0, 1)}, 5, 2.5}, {[]complex64{1, complex(0, -1)}, 5, -2.5},
		{reals(1, -1), smallest, smallest}, {reals(1, -1), greatest, greatest}, {[]complex64{complex(0, 1), complex(0, -1)}, 3, 3},
		{[]complex64{1, complex(1, 1)}, 4, 1}, {[]complex64{complex(1, 1), 1}, 4, -1}, {[]complex64{1, complex(-1, minus0)}, 3, 3},
		{reals(1e-20, 1e-20), 5, 0},
	} {
		speed, code := impl.SpeedOf(x.list, x.limit)
		wantNumber(t, "SpeedOf", speed, code, x.want, impl.OK)
	}
}

func TestSpeedOfErrors(t *testing.T) {
	notLimits := []float32{0, minus0, -smallest, -1, -greatest, infinite, -infinite, noNumber}
	want := func(list []complex64, limit float32, wantCode int64) {
		t.Helper()
		speed, code := impl.SpeedOf(list, limit)
		wantNumber(t, "SpeedOf", speed, code, 0, wantCode)
	}
	for _, bad := range notPulses() {
		want(bad, 5, impl.ErrInvalid)
		want(bad, 0, impl.ErrInvalid)
	}
	for _, limit := range notLimits {
		want(reals(1, -1), limit, impl.ErrRange)
		want(reals(1), limit, impl.ErrRange)
		want(reals(0, 0), limit, impl.ErrRange)
		want(equalPulses(64, greatest), limit, impl.ErrRange)
	}
	for _, pulse := range []complex64{0, 1, complex(0, -1), greatest} {
		want([]complex64{pulse}, 5, impl.ErrRange)
	}
	for _, list := range [][]complex64{reals(0, 0), reals(1, 0), reals(0, 1), reals(1, 0, 1), reals(1e-30, 1e-30), reals(greatest, greatest), reals(1, 1e20, 1e20), {complex(1e20, 1), complex(1e20, 0)}} {
		want(list, 5, impl.ErrState)
	}
}

// Promise 10: pulses tell their speed, nearly, as long as it is less than the limit.
func TestPulsesTellTheirSpeed(t *testing.T) {
	g := chance(323)
	for range 2000 {
		turns := float32(g.next(981))/1000 - 0.49
		limit := g.amount() + 0.5
		list, code := impl.PulsesOf(g.amount()+0.5, g.share(), turns, 2+int64(g.next(63)))
		wantInteger(t, "PulsesOf", code, 0, impl.OK, 0)
		speed, code := impl.SpeedOf(list, limit)
		if math.Abs(float64(speed-2*turns*limit)) > 1e-4*float64(limit) || code != impl.OK {
			t.Errorf("SpeedOf %v turns and the limit %v: got %v, %d", turns, limit, speed, code)
		}
		turned, code := impl.TurnPulses(list, impl.UnitAt(g.share()))
		wantInteger(t, "TurnPulses", code, 0, impl.OK, 0)
		again, code := impl.SpeedOf(turned, limit)
		if math.Abs(float64(speed-again)) > 1e-4*float64(limit) || code != impl.OK {
			t.Errorf("SpeedOf pulses that are turned: got %v, %v", speed, again)
		}
		width, code := impl.WidthOf(list)
		if width > 1e-5 || code != impl.OK {
			t.Errorf("WidthOf pulses with one speed: got %v, %d", width, code)
		}
	}
}

func TestWidthOf(t *testing.T) {
	g := chance(324)
	var list [][]complex64
	for _, pulses := range pulsesAtTheEnds() {
		if len(pulses) > 1 {
			list = append(list, pulses)
		}
	}
	for range 1000 {
		list = append(list, append(g.pulses(1+int(g.next(62))), g.complex()))
	}
	for _, pulses := range list {
		width, code := impl.WidthOf(pulses)
		wantFinite(t, "WidthOf", width, code, widthModel(pulses))
	}
	for _, x := range []struct {
		list []complex64
		want uint32
	}{
		// Found by another program: a power, a size or both that are infinite or too small on the way.
		{reals(1e20, 0), 0x3f800000}, {reals(1e12, 1e12), 0}, {reals(1e-15, 1e-15), 0x3f800000}, {reals(1e-22, 1e-22), 0x3f800000},
		{reals(0.9, 1, 0.9), 0}, {reals(1, 1), 0}, {reals(1, -1), 0}, {reals(0, 1, 1, 0), 0x3eaaaaaa}, {reals(1e-45, 0), 0},
		{reals(1, 0.5, 0.25, 0.125), 0x3eaeaeae}, {reals(3, 1), 0x3ecccccc}, {reals(0, 0), 0}, {reals(1e-30, 1e-30), 0},
		{reals(minus0, minus0), 0}, {reals(1e20, 1e-20), 0x3f800000}, {reals(1, 0), 0x3f800000},
	} {
		width, code := impl.WidthOf(x.list)
		wantNumber(t, "WidthOf", width, code, bitsNumber(x.want), impl.OK)
	}
}

func TestWidthOfErrors(t *testing.T) {
	for _, bad := range notPulses() {
		width, code := impl.WidthOf(bad)
		wantNumber(t, "WidthOf", width, code, 0, impl.ErrInvalid)
	}
	for _, pulse := range []complex64{0, 1, complex(0, -1), greatest, complex(minus0, minus0)} {
		width, code := impl.WidthOf([]complex64{pulse})
		wantNumber(t, "WidthOf one pulse", width, code, 0, impl.ErrRange)
	}
	// The quotient of two that are infinite, or a lag whose parts are the difference of two that are infinite.
	for _, list := range [][]complex64{reals(1e20, 1e20), reals(greatest, greatest, 1), equalPulses(64, -greatest), {complex(1e20, 1e20), complex(1e20, 1e20)}} {
		width, code := impl.WidthOf(list)
		wantNumber(t, "WidthOf", width, code, 0, impl.ErrState)
	}
}

func TestWithoutMean(t *testing.T) {
	g := chance(325)
	list := pulsesAtTheEnds()
	for range 500 {
		list = append(list, g.somePulses())
	}
	for _, pulses := range list {
		mean := meanModel(pulses)
		var want []complex64
		for _, pulse := range pulses {
			want = append(want, complex(minus(real(pulse), real(mean)), minus(imag(pulse), imag(mean))))
		}
		without, code := impl.WithoutMean(pulses)
		wantFinitePulses(t, "WithoutMean", without, code, want)
	}
	for _, bad := range notPulses() {
		without, code := impl.WithoutMean(bad)
		wantPulses(t, "WithoutMean", without, code, nil, impl.ErrInvalid)
	}
	for _, pulses := range [][]complex64{reals(greatest, greatest), reals(1, -greatest, -greatest), {complex(1, greatest), complex(2, greatest)}, reals(greatest, -greatest, -greatest), reals(-greatest, greatest, greatest, 0)} {
		without, code := impl.WithoutMean(pulses)
		wantPulses(t, "WithoutMean", without, code, nil, impl.ErrState)
	}
	without, code := impl.WithoutMean(reals(1, 3))
	wantPulses(t, "WithoutMean", without, code, reals(-1, 1), impl.OK)
	without, code = impl.WithoutMean(reals(greatest, -greatest))
	wantPulses(t, "WithoutMean", without, code, reals(greatest, -greatest), impl.OK)
	without, code = impl.WithoutMean([]complex64{complex(minus0, 5)})
	wantPulses(t, "WithoutMean one pulse", without, code, []complex64{0}, impl.OK)
}
