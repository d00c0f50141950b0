package tests

import (
	"math"
	"slices"
	"strings"
	"testing"

	"loop.example/g01224/impl"
)

// pulsesText makes the text of pulses that need not be valid.
func pulsesText(list []complex64) string {
	var text strings.Builder
	for _, pulse := range list {
		text.WriteString(impl.NumberText(real(pulse)) + " " + impl.NumberText(imag(pulse)) + "\n")
	}
	return text.String()
}

func wantPulses(t *testing.T, what string, got []complex64, code int64, want []complex64, wantCode int64) {
	t.Helper()
	if pulsesText(got) != pulsesText(want) || code != wantCode {
		t.Errorf("%s: got %v, %d, want %v, %d", what, got, code, want, wantCode)
	}
}

// wantFinitePulses wants an error instead of pulses that are not finite.
func wantFinitePulses(t *testing.T, what string, got []complex64, code int64, want []complex64) {
	t.Helper()
	if slices.ContainsFunc(want, func(pulse complex64) bool { return !hasFiniteParts(pulse) }) {
		wantPulses(t, what, got, code, nil, impl.ErrState)
		return
	}
	wantPulses(t, what, got, code, want, impl.OK)
}

// reals has pulses whose imaginary parts are 0.
func reals(numbers ...float32) []complex64 {
	var list []complex64
	for _, number := range numbers {
		list = append(list, complex(number, 0))
	}
	return list
}

func equalPulses(count int, pulse complex64) []complex64 {
	return slices.Repeat([]complex64{pulse}, count)
}

// pulses returns valid pulses.
func (c *chance) pulses(count int) []complex64 {
	var list []complex64
	for range count {
		list = append(list, c.complex())
	}
	return list
}

// somePulses returns 1 to 64 valid pulses.
func (c *chance) somePulses() []complex64 { return c.pulses(1 + int(c.next(64))) }

// notPulses has pulses with one mistake.
func notPulses() [][]complex64 {
	list := [][]complex64{nil, {}, equalPulses(65, 1), equalPulses(66, 0), equalPulses(1000, 1)}
	for _, odd := range []float32{infinite, -infinite, noNumber, bitsNumber(0xff800001)} {
		for _, pulse := range []complex64{complex(odd, 1), complex(1, odd), complex(odd, odd), complex(odd, 0), complex(0, odd)} {
			list = append(list, []complex64{pulse}, []complex64{pulse, 1}, []complex64{1, pulse}, []complex64{1, pulse, 1})
			last := equalPulses(64, 1)
			last[63] = pulse
			list = append(list, last)
		}
	}
	return list
}

// pulsesAtTheEnds has valid pulses.
func pulsesAtTheEnds() [][]complex64 {
	list := [][]complex64{equalPulses(64, 1), equalPulses(63, complex(0, -1)), equalPulses(64, 0), reals(1, 0, 0, 0), reals(0, 0, 1), reals(1, -1, 1, -1)}
	for _, number := range []float32{0, minus0, 1, -1, 0.3, smallest, -smallest, 1e-30, 1e12, 1e20, greatest, -greatest} {
		list = append(list, reals(number), reals(number, number), []complex64{complex(0, number)}, []complex64{complex(number, number), complex(1, -number), 1})
	}
	return list
}

// The example of chapter 5.
func TestRadarExample(t *testing.T) {
	unit := impl.UnitAt(0.25)
	if !nearlyEqual(unit, complex(0, 1)) {
		t.Errorf("UnitAt 0.25: got %v", unit)
	}
	turns, code := impl.TurnsOf(unit)
	wantNumber(t, "TurnsOf UnitAt 0.25", turns, code, 0.25, impl.OK)
	list, code := impl.PulsesOf(2, 0, 0.125, 8)
	if len(list) != 8 || code != impl.OK {
		t.Fatalf("PulsesOf: got %v, %d", list, code)
	}
	power, code := impl.PowerOf(list)
	wantNumber(t, "PowerOf", power, code, 4, impl.OK)
	speed, code := impl.SpeedOf(list, 8)
	wantNearly(t, "SpeedOf", speed, 2)
	wantInteger(t, "SpeedOf", code, 0, impl.OK, 0)
	loudest, code := impl.LoudestLine(list)
	wantInteger(t, "LoudestLine", loudest, code, 1, impl.OK)
	folded, code := impl.FoldSpeed(12, 10)
	wantNumber(t, "FoldSpeed", folded, code, -8, impl.OK)
	speeds, code := impl.UnfoldSpeeds([]float32{8, -8}, 10)
	wantNumbers(t, "UnfoldSpeeds", speeds, code, []float32{8, 12}, impl.OK)
	loudness, code := impl.LoudnessOf(100)
	wantNearly(t, "LoudnessOf", loudness, 20)
	wantInteger(t, "LoudnessOf", code, 0, impl.OK, 0)
	spot, code := impl.SpotOf(0.25, 3)
	if spot != (impl.Spot{0, 3}) || code != impl.OK {
		t.Errorf("SpotOf: got %v, %d", spot, code)
	}
}

func TestEchoOf(t *testing.T) {
	g := chance(310)
	for range 200 {
		c := g.sizes()
		moment, code := impl.MomentOf(c, 6)
		wantInteger(t, "MomentOf", code, 0, impl.OK, 0)
		echo, code := impl.EchoOf(c)
		wantNumber(t, "EchoOf", echo, code, float32(math.Sqrt(float64(moment))), impl.OK)
	}
	for _, x := range []struct {
		c    impl.Sizes
		want float32
	}{{impl.Sizes{}, 0}, {impl.Sizes{4}, 2}, {impl.Sizes{0: 1, 3: 0.75}, 7}, {impl.Sizes{3: 1}, 8}, {impl.Sizes{6: 9}, 192}} {
		echo, code := impl.EchoOf(x.c)
		wantNumber(t, "EchoOf", echo, code, x.want, impl.OK)
	}
	for _, number := range notAmounts {
		echo, code := impl.EchoOf(impl.Sizes{7: number})
		wantNumber(t, "EchoOf no sizes", echo, code, 0, impl.ErrInvalid)
	}
	for _, c := range []impl.Sizes{{19: 1e30}, {0: greatest, 1: greatest}, fullSizes(greatest)} {
		echo, code := impl.EchoOf(c)
		wantNumber(t, "EchoOf too many", echo, code, 0, impl.ErrState)
	}
}

// pulseTexts have been found by another program.
var pulseTexts = []struct {
	strength, first, turns float32
	text                   string
}{
	{2, 0, 0.125, "40000000 00000000\n3fb504f3 3fb504f3\n00000000 40000000\nbfb504f3 3fb504f3\nc0000000 00000000\nbfb504f3 bfb504f3\n00000000 c0000000\n3fb504f3 bfb504f3\n"},
	{1.5, 0.1, 0.3, "3f9b54ce 3f61b5a4\nbf9b54ce 3f61b5a4\nbeed5328 bfb69a56\n3fc00000 00000000\nbeed534c 3fb69a52\n"},
	{0.7, -12.3, -0.77, "be5d8113 bf2a6de4\n3f222529 be989943\n3ec00a65 3f174db0\nbf0a1356 3ee4742e\nbf02a19a bef5576c\n3ed2a9b6 bf10f9c0\n3f1d08c1 3eaca90e\n"},
	{1000, 1e6, 0.1, "447a0000 00000000\n4430c6d5 4430c6d5\n43bf577b 4466f84a\n"},
}

func pulsesModel(strength, first, turns float32, count int) []complex64 {
	var list []complex64
	for k := range count {
		unit := impl.UnitAt(plus(first, times(float32(k), turns)))
		list = append(list, complex(times(real(unit), strength), times(imag(unit), strength)))
	}
	return list
}

func TestPulsesOf(t *testing.T) {
	for _, x := range pulseTexts {
		list, code := impl.PulsesOf(x.strength, x.first, x.turns, int64(len(x.text)/18))
		if text := pulsesText(list); text != x.text || code != impl.OK {
			t.Errorf("PulsesOf %v: got %q, %d", x, text, code)
		}
	}
	g := chance(311)
	for range 1000 {
		strength, first, turns, count := g.amount(), g.angle(), g.angle(), 1+int(g.next(64))
		list, code := impl.PulsesOf(strength, first, turns, int64(count))
		wantPulses(t, "PulsesOf", list, code, pulsesModel(strength, first, turns, count), impl.OK)
	}
	for _, strength := range []float32{0, smallest, 1, greatest} {
		for _, first := range []float32{0, 0.5, -0.5, 1e30, greatest, -greatest, smallest} {
			for _, turns := range []float32{0, 0.25, -0.25, 1e30, smallest, -smallest} {
				list, code := impl.PulsesOf(strength, first, turns, 5)
				wantPulses(t, "PulsesOf", list, code, pulsesModel(strength, first, turns, 5), impl.OK)
			}
		}
	}
}

// The imaginary part of a pulse at the angle -0 is -0, but a sum of -0 and 0 is the angle 0.
func TestPulsesOfSigns(t *testing.T) {
	up, down := complex(float32(2), 0), complex(2, minus0)
	for _, x := range []struct {
		first, turns float32
		want         []complex64
	}{
		{minus0, minus0, []complex64{down}}, {minus0, minus0, []complex64{down, down, down}}, {0, 0, []complex64{up, up}},
		{0, minus0, []complex64{up, up}}, {minus0, 0, []complex64{up, up}}, {minus0, -1, []complex64{down, up, up}}, {-1, 1, []complex64{up, up, up}},
	} {
		list, code := impl.PulsesOf(2, x.first, x.turns, int64(len(x.want)))
		wantPulses(t, "PulsesOf", list, code, x.want, impl.OK)
	}
}

func TestPulsesOfErrors(t *testing.T) {
	want := func(strength, first, turns float32, count, wantCode int64) {
		t.Helper()
		list, code := impl.PulsesOf(strength, first, turns, count)
		if code != wantCode || (list == nil) != (wantCode != impl.OK) {
			t.Errorf("PulsesOf %v, %v, %v, %d: got %v, %d", strength, first, turns, count, list, code)
		}
	}
	for _, count := range []int64{math.MinInt64, -1, 0, 65, 66, math.MaxInt64} {
		want(1, 0, 0.1, count, impl.ErrRange)
		want(1, greatest, greatest, count, impl.ErrRange)
	}
	for _, count := range []int64{1, 2, 63, 64} {
		want(1, 0, 0.1, count, impl.OK)
		for _, strength := range notAmounts {
			want(strength, 0, 0.1, count, impl.ErrRange)
			want(strength, greatest, greatest, count, impl.ErrRange)
		}
		for _, odd := range []float32{infinite, -infinite, noNumber} {
			want(1, odd, 0.1, count, impl.ErrRange)
			want(1, 0, odd, count, impl.ErrRange)
			want(1, greatest, odd, count, impl.ErrRange)
		}
	}
	want(1, greatest, greatest, 1, impl.OK)
	want(1, greatest, greatest, 2, impl.ErrState)
	want(0, greatest, greatest, 2, impl.ErrState)
	want(1, -greatest, -greatest, 2, impl.ErrState)
	want(1, 0, greatest, 2, impl.OK)
	want(1, 0, greatest, 3, impl.ErrState)
	want(1, -greatest, greatest, 2, impl.OK)
	want(1, -greatest, greatest, 3, impl.ErrState)
}

// noiseTexts have been found by another program.
var noiseTexts = []struct {
	seed     uint32
	strength float32
	last     uint32
	text     string
}{
	{1, 1, 2388811721, "bf06f000 be85e000\n3c0b0000 3ed1cc00\nbf662000 be85a000\n3f0cac00 3de62000\n"},
	{12345, 2.5, 483019191, "c01978c0 c01ab500\n3e5cf000 3f2cad00\n400334c0 bff80700\n"},
	{4294967295, 0.1, 2252062033, "bd58899a bd7fb667\nbd9594cd 3cd66000\n3d324333 3d99399a\n3da90800 3d376667\n3dcc699a 3b9f8000\n"},
}

func noiseModel(seed uint32, strength float32, count int) ([]complex64, uint32) {
	all := uint64(seed)
	part := func() float32 {
		all = (1664525*all + 1013904223) % 4294967296
		return times(strength, float32(float64(int64(all>>16)-32768)/32768))
	}
	var list []complex64
	for range count {
		across := part()
		up := part()
		list = append(list, complex(across, up))
	}
	return list, uint32(all)
}

func wantNoise(t *testing.T, seed uint32, strength float32, count int64, want []complex64, wantSeed uint32, wantCode int64) {
	t.Helper()
	list, last, code := impl.NoisePulses(seed, strength, count)
	wantPulses(t, "NoisePulses", list, code, want, wantCode)
	if last != wantSeed {
		t.Errorf("NoisePulses %d, %v, %d: got the seed %d, want %d", seed, strength, count, last, wantSeed)
	}
}

func TestNoisePulses(t *testing.T) {
	for _, x := range noiseTexts {
		list, last, code := impl.NoisePulses(x.seed, x.strength, int64(len(x.text)/18))
		if text := pulsesText(list); text != x.text || last != x.last || code != impl.OK {
			t.Errorf("NoisePulses %v: got %q, %d, %d", x, text, last, code)
		}
	}
	g := chance(312)
	for range 1000 {
		seed, strength, count := g.next(65536)<<16+g.next(65536), g.amount(), 1+int(g.next(64))
		want, last := noiseModel(seed, strength, count)
		wantNoise(t, seed, strength, int64(count), want, last, impl.OK)
	}
	for _, seed := range []uint32{0, 1, math.MaxUint32, 1 << 31, 634785765} {
		for _, strength := range []float32{0, smallest, 1, greatest} {
			want, last := noiseModel(seed, strength, 64)
			wantNoise(t, seed, strength, 64, want, last, impl.OK)
		}
	}
}

func TestNoisePulsesErrors(t *testing.T) {
	for _, count := range []int64{math.MinInt64, -1, 0, 65, 66, math.MaxInt64} {
		wantNoise(t, 1, 1, count, nil, 0, impl.ErrRange)
	}
	for _, strength := range notAmounts {
		wantNoise(t, 1, strength, 1, nil, 0, impl.ErrRange)
		wantNoise(t, 1, strength, 64, nil, 0, impl.ErrRange)
	}
}

func TestAddPulses(t *testing.T) {
	g := chance(313)
	for range 500 {
		a := g.somePulses()
		b := g.pulses(len(a))
		var want []complex64
		for index := range a {
			want = append(want, complex(plus(real(a[index]), real(b[index])), plus(imag(a[index]), imag(b[index]))))
		}
		sums, code := impl.AddPulses(a, b)
		wantPulses(t, "AddPulses", sums, code, want, impl.OK)
	}
	sums, code := impl.AddPulses([]complex64{complex(minus0, minus0), complex(0, minus0)}, []complex64{complex(minus0, 0), complex(minus0, minus0)})
	wantPulses(t, "AddPulses of -0", sums, code, []complex64{complex(minus0, 0), complex(0, minus0)}, impl.OK)
	for _, bad := range notPulses() {
		for _, good := range [][]complex64{{1}, {1, 2}, equalPulses(64, 1), equalPulses(len(bad), 1)} {
			sums, code = impl.AddPulses(bad, good)
			wantPulses(t, "AddPulses", sums, code, nil, impl.ErrInvalid)
			sums, code = impl.AddPulses(good, bad)
			wantPulses(t, "AddPulses", sums, code, nil, impl.ErrInvalid)
		}
	}
	for _, x := range [][2]int{{1, 2}, {2, 1}, {64, 63}, {1, 64}} {
		sums, code = impl.AddPulses(equalPulses(x[0], greatest), equalPulses(x[1], greatest))
		wantPulses(t, "AddPulses", sums, code, nil, impl.ErrRange)
	}
	for _, pulse := range []complex64{greatest, -greatest, complex(0, greatest), complex(1, -greatest)} {
		sums, code = impl.AddPulses([]complex64{1, pulse}, []complex64{1, pulse})
		wantPulses(t, "AddPulses", sums, code, nil, impl.ErrState)
		sums, code = impl.AddPulses([]complex64{pulse}, []complex64{-pulse})
		wantPulses(t, "AddPulses", sums, code, []complex64{pulse - pulse}, impl.OK)
	}
}

func TestTurnPulses(t *testing.T) {
	g := chance(314)
	for range 500 {
		list, by := g.somePulses(), g.complex()
		var want []complex64
		for _, pulse := range list {
			want = append(want, productModel(pulse, by))
		}
		turned, code := impl.TurnPulses(list, by)
		wantPulses(t, "TurnPulses", turned, code, want, impl.OK)
	}
	turned, code := impl.TurnPulses(pulsesModel(2, 0, 0.125, 8), complex(0, 1))
	for index, pulse := range pulsesModel(2, 0.25, 0.125, 8) {
		if code != impl.OK || !nearlyEqual(turned[index], pulse) {
			t.Errorf("TurnPulses by a quarter: got %v, %d", turned, code)
		}
	}
	for _, bad := range notPulses() {
		for _, by := range oddComplexes() {
			turned, code = impl.TurnPulses(bad, by)
			wantPulses(t, "TurnPulses", turned, code, nil, impl.ErrInvalid)
		}
	}
	for _, by := range oddComplexes() {
		turned, code = impl.TurnPulses([]complex64{1, greatest}, by)
		if !hasFiniteParts(by) {
			wantPulses(t, "TurnPulses by a number that is not finite", turned, code, nil, impl.ErrRange)
			continue
		}
		wantFinitePulses(t, "TurnPulses", turned, code, []complex64{productModel(1, by), productModel(greatest, by)})
	}
	for _, by := range []complex64{2, -2, complex(0, 2), complex(greatest, greatest)} {
		turned, code = impl.TurnPulses([]complex64{1, complex(greatest, 0)}, by)
		wantPulses(t, "TurnPulses", turned, code, nil, impl.ErrState)
		turned, code = impl.TurnPulses([]complex64{complex(1, greatest)}, by)
		wantPulses(t, "TurnPulses", turned, code, nil, impl.ErrState)
	}
}
