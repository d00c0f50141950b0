package tests

import (
	"math"
	"testing"

	"loop.example/g01224/impl"
)

// rootBits has the bits of the third roots of the masses of the first three classes; each third class has twice the root.
var rootBits = [3]uint32{0x3f800000, 0x3fa14518, 0x3fcb2ff5}

func radius(class int) float32 {
	return math.Float32frombits(rootBits[class%3]) * float32(math.Exp2(float64(class/3)))
}

func TestMassesDouble(t *testing.T) {
	want := float32(1)
	for class := range int64(impl.Classes) {
		mass, code := impl.MassOf(class)
		wantNumber(t, "MassOf", mass, code, want, impl.OK)
		edge, code := impl.EdgeOf(class)
		wantNumber(t, "EdgeOf", edge, code, want+want/2, impl.OK)
		want *= 2
	}
	for _, class := range notClasses {
		mass, code := impl.MassOf(class)
		wantNumber(t, "MassOf no class", mass, code, 0, impl.ErrRange)
		edge, code := impl.EdgeOf(class)
		wantNumber(t, "EdgeOf no class", edge, code, 0, impl.ErrRange)
		r, code := impl.RadiusOf(class)
		wantNumber(t, "RadiusOf no class", r, code, 0, impl.ErrRange)
	}
}

func TestRadiiGrow(t *testing.T) {
	before := float32(0)
	for class := range impl.Classes {
		got, code := impl.RadiusOf(int64(class))
		wantNumber(t, "RadiusOf", got, code, radius(class), impl.OK)
		if got <= before {
			t.Errorf("RadiusOf %d: %v is not more than %v", class, got, before)
		}
		before = got
	}
}

func TestThirdRoot(t *testing.T) {
	list := []struct{ number, root uint32 }{
		{0, 0}, {1, 0x26a14518}, {2, 0x26cb2ff5}, {7, 0x271a3fc5}, {8, 0x27214518}, {0x7fffff, 0x2a7fffff}, {0x800000, 0x2a800000},
		{0x3dcccccd, 0x3eeda63c}, {0x3f7fffff, 0x3f800000}, {0x3f800000, 0x3f800000}, {0x3f800001, 0x3f800000},
		{0x40490fdb, 0x3fbb77bf}, {0x40ffffff, 0x40000000}, {0x41000000, 0x40000000}, {0x41000001, 0x40000000}, {0x41d80000, 0x40400000},
		{0x42c80000, 0x409487e5}, {0x447a0000, 0x41200000}, {0x49742400, 0x42c80000}, {0x7e800000, 0x54800000}, {0x7f7fffff, 0x54cb2ff5},
	}
	for _, x := range list {
		got, code := impl.ThirdRoot(math.Float32frombits(x.number))
		wantNumber(t, "ThirdRoot", got, code, math.Float32frombits(x.root), impl.OK)
	}
	for _, number := range notAmounts {
		got, code := impl.ThirdRoot(number)
		wantNumber(t, "ThirdRoot of no amount", got, code, 0, impl.ErrRange)
	}
	for bits := uint32(1); bits < 0x7f800000; bits += 99991 {
		number := math.Float32frombits(bits)
		got, code := impl.ThirdRoot(number)
		if want := float32(math.Cbrt(float64(number))); code != impl.OK || !nearly(got, want) {
			t.Fatalf("ThirdRoot %v: got %v, %d, want nearly %v", number, got, code, want)
		}
	}
}

// sumTest is one of the functions that sum over the classes, and the factors with which the numbers are summed.
type sumTest struct {
	name   string
	of     func(c impl.Sizes) (float32, int64)
	factor func(class int) float32
}

func momentFactor(power int) func(class int) float32 {
	return func(class int) float32 {
		p := float32(1)
		for range power {
			p = times(p, radius(class))
		}
		return p
	}
}

func massFrom(first int) func(class int) float32 {
	return func(class int) float32 {
		if class < first {
			return 0
		}
		return float32(math.Exp2(float64(class)))
	}
}

func sumTests() []sumTest {
	list := []sumTest{
		{"CountOf", impl.CountOf, func(class int) float32 { return 1 }},
		{"WaterOf", impl.WaterOf, massFrom(0)},
	}
	for power := range impl.MaxMoment + 1 {
		of := func(c impl.Sizes) (float32, int64) { return impl.MomentOf(c, int64(power)) }
		list = append(list, sumTest{"MomentOf", of, momentFactor(power)})
	}
	for class := range impl.Classes {
		of := func(c impl.Sizes) (float32, int64) { return impl.AtLeast(c, int64(class)) }
		list = append(list, sumTest{"AtLeast", of, massFrom(class)})
	}
	return list
}

func (x sumTest) want(c impl.Sizes) float32 {
	var list []float32
	for class, number := range c {
		list = append(list, times(number, x.factor(class)))
	}
	return total(list)
}

func TestSums(t *testing.T) {
	g := chance(2)
	for _, x := range sumTests() {
		for range 100 {
			c := g.sizes()
			got, code := x.of(c)
			wantNumber(t, x.name, got, code, x.want(c), impl.OK)
		}
		got, code := x.of(impl.Sizes{})
		wantNumber(t, x.name+" of nothing", got, code, 0, impl.OK)
		got, code = x.of(impl.Sizes{19: smallest})
		wantNumber(t, x.name+" of the smallest", got, code, times(smallest, x.factor(19)), impl.OK)
		got, code = x.of(fullSizes(greatest))
		wantNumber(t, x.name+" that is not finite", got, code, 0, impl.ErrState)
		for _, number := range notAmounts {
			got, code := x.of(impl.Sizes{18: number})
			wantNumber(t, x.name+" of invalid sizes", got, code, 0, impl.ErrInvalid)
		}
	}
}

func TestSumsAreMadeFromTheClass0On(t *testing.T) {
	c := impl.Sizes{0: 16777216, 1: 1, 2: 1, 3: 1}
	got, code := impl.CountOf(c)
	wantNumber(t, "CountOf", got, code, 16777216, impl.OK)
	got, code = impl.CountOf(impl.Sizes{16: 1, 17: 1, 18: 1, 19: 16777216})
	wantNumber(t, "CountOf, the great one last", got, code, 16777220, impl.OK)
	got, code = impl.WaterOf(impl.Sizes{0: 16777216, 1: 0.5, 2: 0.25})
	wantNumber(t, "WaterOf", got, code, 16777216, impl.OK)
	got, code = impl.WaterOf(impl.Sizes{0: 1, 1: 0.5, 2: 4194304})
	wantNumber(t, "WaterOf, the great one last", got, code, 16777218, impl.OK)
}

func TestSumsMayBeTheGreatest(t *testing.T) {
	got, code := impl.CountOf(impl.Sizes{19: greatest})
	wantNumber(t, "CountOf the greatest", got, code, greatest, impl.OK)
	got, code = impl.WaterOf(impl.Sizes{0: greatest})
	wantNumber(t, "WaterOf the greatest", got, code, greatest, impl.OK)
	got, code = impl.WaterOf(impl.Sizes{1: greatest})
	wantNumber(t, "WaterOf more", got, code, 0, impl.ErrState)
	got, code = impl.MomentOf(impl.Sizes{19: greatest}, 0)
	wantNumber(t, "MomentOf the greatest and 0", got, code, greatest, impl.OK)
	got, code = impl.MomentOf(impl.Sizes{19: greatest}, 1)
	wantNumber(t, "MomentOf more", got, code, 0, impl.ErrState)
	got, code = impl.AtLeast(impl.Sizes{0: greatest, 5: greatest, 6: 1}, 6)
	wantNumber(t, "AtLeast 6, much being less", got, code, 64, impl.OK)
}

func TestMomentRange(t *testing.T) {
	for _, power := range []int64{-1, 7, math.MinInt64, math.MaxInt64} {
		got, code := impl.MomentOf(impl.Sizes{1}, power)
		wantNumber(t, "MomentOf", got, code, 0, impl.ErrRange)
		got, code = impl.MomentOf(fullSizes(greatest), power)
		wantNumber(t, "MomentOf, range before state", got, code, 0, impl.ErrRange)
		got, code = impl.MomentOf(impl.Sizes{-1}, power)
		wantNumber(t, "MomentOf, invalid before range", got, code, 0, impl.ErrInvalid)
	}
}

func TestAtLeastRange(t *testing.T) {
	for _, class := range notClasses {
		got, code := impl.AtLeast(impl.Sizes{1}, class)
		wantNumber(t, "AtLeast", got, code, 0, impl.ErrRange)
		got, code = impl.AtLeast(fullSizes(greatest), class)
		wantNumber(t, "AtLeast, range before state", got, code, 0, impl.ErrRange)
		got, code = impl.AtLeast(impl.Sizes{noNumber}, class)
		wantNumber(t, "AtLeast, invalid before range", got, code, 0, impl.ErrInvalid)
	}
}

func TestMeanMass(t *testing.T) {
	list := []struct {
		c    impl.Sizes
		want float32
		code int64
	}{
		{impl.Sizes{3: 3, 4: 1}, 10, impl.OK},
		{impl.Sizes{0: 1, 1: 2}, 1.6666666, impl.OK},
		{impl.Sizes{19: smallest}, 524288, impl.OK},
		{impl.Sizes{0: greatest}, 1, impl.OK},
		{impl.Sizes{}, 0, impl.ErrNotFound},
		{impl.Sizes{1: greatest}, 0, impl.ErrState},
		{fullSizes(greatest), 0, impl.ErrState},
		{impl.Sizes{minus0}, 0, impl.ErrInvalid},
		{impl.Sizes{19: infinite}, 0, impl.ErrInvalid},
	}
	for _, x := range list {
		got, code := impl.MeanMass(x.c)
		wantNumber(t, "MeanMass", got, code, x.want, x.code)
	}
	g := chance(3)
	for range 200 {
		c := g.sizes()
		water, _ := impl.WaterOf(c)
		count, _ := impl.CountOf(c)
		got, code := impl.MeanMass(c)
		wantNumber(t, "MeanMass", got, code, over(water, count), impl.OK)
	}
}

func TestMiddleClass(t *testing.T) {
	list := []struct {
		c          impl.Sizes
		want, code int64
	}{
		{impl.Sizes{0: 1}, 0, impl.OK},
		{impl.Sizes{19: 1}, 19, impl.OK},
		{impl.Sizes{3: 3, 4: 1}, 3, impl.OK},
		{impl.Sizes{0: 2, 1: 1}, 0, impl.OK}, // just a half is enough
		{impl.Sizes{0: 2, 1: 1, 2: smallest}, 0, impl.OK},
		{impl.Sizes{0: 1.9999999, 1: 1}, 1, impl.OK},
		{impl.Sizes{0: 1, 5: 1, 19: 1}, 19, impl.OK},
		{impl.Sizes{0: 1, 18: 2, 19: 1}, 18, impl.OK},
		{impl.Sizes{0: smallest}, 0, impl.OK}, // half of it is rounded to 0, but there is water
		{impl.Sizes{7: smallest}, 7, impl.OK},
		{impl.Sizes{0: greatest}, 0, impl.OK},
		{impl.Sizes{}, 0, impl.ErrNotFound},
		{impl.Sizes{2: greatest}, 0, impl.ErrState},
		{fullSizes(greatest), 0, impl.ErrState},
		{impl.Sizes{2: -1}, 0, impl.ErrInvalid},
		{impl.Sizes{19: minus0}, 0, impl.ErrInvalid},
	}
	for _, x := range list {
		got, code := impl.MiddleClass(x.c)
		wantInteger(t, "MiddleClass", got, code, x.want, x.code)
	}
}

func TestMiddleClassHalvesTheWater(t *testing.T) {
	g := chance(4)
	for range 300 {
		c := g.sizes()
		all, _ := impl.WaterOf(c)
		want := int64(0)
		for below := (impl.Sizes{c[0]}); ; below[want] = c[want] {
			if water, _ := impl.WaterOf(below); water >= all/2 {
				break
			}
			want++
		}
		got, code := impl.MiddleClass(c)
		wantInteger(t, "MiddleClass", got, code, want, impl.OK)
	}
}

func TestClassFor(t *testing.T) {
	for class := range int64(impl.Classes) {
		mass := float32(math.Exp2(float64(class)))
		got, code := impl.ClassFor(mass)
		wantInteger(t, "ClassFor a mass", got, code, class, impl.OK)
		got, code = impl.ClassFor(math.Nextafter32(mass, infinite))
		wantInteger(t, "ClassFor a bit more", got, code, class, impl.OK)
		got, code = impl.ClassFor(1.5 * mass)
		wantInteger(t, "ClassFor an edge", got, code, class, impl.OK)
		got, code = impl.ClassFor(math.Nextafter32(2*mass, 0))
		wantInteger(t, "ClassFor a bit less than the next", got, code, class, impl.OK)
	}
	for _, mass := range []float32{524288, 1048575, 1048576, 1e30, greatest} {
		got, code := impl.ClassFor(mass)
		wantInteger(t, "ClassFor a great mass", got, code, 19, impl.OK)
	}
	for _, mass := range append([]float32{0, smallest, 0.5, math.Nextafter32(1, 0)}, notAmounts...) {
		got, code := impl.ClassFor(mass)
		wantInteger(t, "ClassFor what has none", got, code, 0, impl.ErrRange)
	}
}
