package tests

import (
	"math"
	"math/big"
	"testing"

	"loop.example/g01224/impl"
)

func sameComplexes(a, b complex64) bool {
	return sameNumbers(real(a), real(b)) && sameNumbers(imag(a), imag(b))
}

func wantComplex(t *testing.T, what string, got complex64, code int64, want complex64, wantCode int64) {
	t.Helper()
	if !sameComplexes(got, want) || code != wantCode {
		t.Errorf("%s: got %v, %d, want %v, %d", what, got, code, want, wantCode)
	}
}

func bitsComplex(across, up uint32) complex64 { return complex(bitsNumber(across), bitsNumber(up)) }

// partsAtTheEnds has what the part of a complex number can be.
var partsAtTheEnds = []float32{0, minus0, 1, -1, 0.3, smallest, -smallest, greatest, -greatest, infinite, -infinite, noNumber}

// oddComplexes has each pair of parts.
func oddComplexes() []complex64 {
	var list []complex64
	for _, across := range partsAtTheEnds {
		for _, up := range partsAtTheEnds {
			list = append(list, complex(across, up))
		}
	}
	return list
}

func hasFiniteParts(z complex64) bool { return finiteResult(z) }

// signed returns a number of any sign and many digits.
func (c *chance) signed() float32 {
	a := c.amount()
	if c.next(2) == 0 {
		return -a
	}
	return a
}

func (c *chance) complex() complex64 {
	across := c.signed()
	return complex(across, c.signed())
}

func TestSameComplex(t *testing.T) {
	list := oddComplexes()
	for i, a := range list {
		for j, b := range list {
			if got := impl.SameComplex(a, b); got != (i == j) {
				t.Errorf("SameComplex %v %v: got %v", a, b, got)
			}
		}
	}
	odd := bitsNumber(0xff800001)
	for _, x := range []struct {
		a, b complex64
		want bool
	}{
		{complex(odd, 1), complex(noNumber, 1), true}, {complex(1, odd), complex(1, noNumber), true}, {complex(odd, noNumber), complex(noNumber, odd), true},
		{complex(odd, 1), complex(1, odd), false}, {complex(1, 2), complex(2, 1), false}, {complex(odd, 0), complex(odd, minus0), false},
	} {
		if got := impl.SameComplex(x.a, x.b); got != x.want {
			t.Errorf("SameComplex %v %v: got %v", x.a, x.b, got)
		}
	}
}

// productBits have been found by another program; the first ones differ in both parts from products whose parts are rounded at the end only.
var productBits = [][6]uint32{
	{0x40559229, 0x3e0f9132, 0x3d8d2071, 0x408b4cf6, 0xbec2bf6b, 0x416894b5},
	{0xbdeaf6da, 0xbe0e48e5, 0xbd733b29, 0x3e76f664, 0x3d252ad2, 0xbc9f1350},
	{0x3d5fc712, 0xc16585b8, 0x417ddd25, 0xbd903bf7, 0xbe12e3a8, 0xc3639c68},
	{0xbf2849ee, 0x3e85d766, 0xbf518632, 0xbf32889c, 0x3f38682c, 0x3e7a5ed0},
	{0xbf7a3c73, 0x3eee16d2, 0xc122d36b, 0xc00d6c5f, 0x412f99d4, 0xc024a0e8},
	{0x3fb317ad, 0x41819235, 0x41270b30, 0xc124a291, 0x4335436d, 0x431ab277},
	{0x3d6ee8f7, 0x40c78bb7, 0x403e4a16, 0x3ff6bae6, 0xc13d8b99, 0x419539b3},
	{0x3def5fe7, 0xbd55424b, 0x3fbfb5e2, 0xc01aef12, 0x3d48c658, 0xbeb8cc3a},
	{0x7f800000, 0x3f800000, 0x00000000, 0x3f800000, 0x7fc00000, 0x7f800000},
	{0x7f800000, 0x7f800000, 0x3f800000, 0x3f800000, 0x7fc00000, 0x7f800000},
	{0x7f800000, 0x00000000, 0x40000000, 0x00000000, 0x7f800000, 0x7fc00000},
	{0x7fc00000, 0x3f800000, 0x3f800000, 0x3f800000, 0x7fc00000, 0x7fc00000},
	{0x3f800000, 0x7fc00000, 0x3f800000, 0x00000000, 0x7fc00000, 0x7fc00000},
	{0x7f61b1e6, 0x7f61b1e6, 0x40000000, 0x40000000, 0x7fc00000, 0x7f800000},
	{0x7f61b1e6, 0x00000000, 0x40000000, 0xbf800000, 0x7f800000, 0xff61b1e6},
	{0x00000000, 0x80000000, 0x3f800000, 0x3f800000, 0x00000000, 0x00000000},
	{0x80000000, 0x80000000, 0x3f800000, 0x3f800000, 0x00000000, 0x80000000},
	{0x0da24260, 0x0da24260, 0x26901d7d, 0x27101d7d, 0x00000000, 0x00000002},
}

func productModel(a, b complex64) complex64 {
	return complex(
		minus(times(real(a), real(b)), times(imag(a), imag(b))),
		plus(times(real(a), imag(b)), times(imag(a), real(b))))
}

func TestMulComplex(t *testing.T) {
	wantComplex(t, "MulComplex", impl.MulComplex(complex(1, 2), complex(3, 4)), 0, complex(-5, 10), 0)
	for _, x := range productBits {
		a, b, want := bitsComplex(x[0], x[1]), bitsComplex(x[2], x[3]), bitsComplex(x[4], x[5])
		wantComplex(t, "MulComplex", impl.MulComplex(a, b), 0, want, 0)
		wantComplex(t, "MulComplex", impl.MulComplex(b, a), 0, want, 0)
	}
	for _, a := range oddComplexes() {
		for _, b := range oddComplexes() {
			wantComplex(t, "MulComplex of odd parts", impl.MulComplex(a, b), 0, productModel(a, b), 0)
		}
	}
	g := chance(300)
	for range 10000 {
		a, b := g.complex(), g.complex()
		wantComplex(t, "MulComplex", impl.MulComplex(a, b), 0, productModel(a, b), 0)
	}
}

// sizeBits have been found by another program; the last ones differ from sizes that are rounded at the end only.
var sizeBits = [][3]uint32{
	{0x40400000, 0x40800000, 0x40a00000}, {0xc0400000, 0x40800000, 0x40a00000}, {0x00000000, 0x00000000, 0x00000000},
	{0x80000000, 0x80000000, 0x00000000}, {0x3f800000, 0x3f800000, 0x3fb504f3}, {0x60ad78ec, 0x00000000, 0x7f800000},
	{0x5f0ac723, 0x5f0ac723, 0x5f4442f5}, {0x19416d9a, 0x19416d9a, 0x00000000}, {0x1af1c901, 0x1af1c901, 0x1b2953fd},
	{0x7f800000, 0x3f800000, 0x7f800000}, {0xff800000, 0x00000000, 0x7f800000}, {0x7fc00000, 0x3f800000, 0x7fc00000},
	{0x3f800000, 0x7fc00000, 0x7fc00000}, {0x7f800000, 0x7fc00000, 0x7fc00000}, {0x3e99999a, 0xbf333333, 0x3f42f6bb},
	{0xbe282fd9, 0xc02cbcd0, 0x402d0e9e}, {0x4089796e, 0x3e9a1491, 0x4089cfab}, {0x3e3a10ee, 0x3f48ce31, 0x3f4e1f71},
	{0xbfdd34bc, 0x3e25d859, 0x3fde2cde}, {0xbf355c20, 0xbfc79fdd, 0x3fdb414a}, {0x41680fac, 0xbe3c5156, 0x41681472},
}

func squareModel(z complex64) float32 {
	return plus(times(real(z), real(z)), times(imag(z), imag(z)))
}

func sizeModel(z complex64) float32 { return float32(math.Sqrt(float64(squareModel(z)))) }

func TestSizeOf(t *testing.T) {
	for _, x := range sizeBits {
		wantNumber(t, "SizeOf", impl.SizeOf(bitsComplex(x[0], x[1])), 0, bitsNumber(x[2]), 0)
		wantNumber(t, "SizeOf", impl.SizeOf(bitsComplex(x[1], x[0])), 0, bitsNumber(x[2]), 0)
	}
	g := chance(301)
	list := oddComplexes()
	for range 10000 {
		list = append(list, g.complex())
	}
	for _, z := range list {
		wantNumber(t, "SizeOf", impl.SizeOf(z), 0, sizeModel(z), 0)
	}
}

// unitBits have been found by another program.
var unitBits = [][3]uint32{
	{0x00000000, 0x3f800000, 0x00000000}, {0x3e800000, 0x00000000, 0x3f800000}, {0x3f000000, 0xbf800000, 0x00000000},
	{0x3f400000, 0x00000000, 0xbf800000}, {0x3f800000, 0x3f800000, 0x00000000}, {0xbe800000, 0x00000000, 0xbf800000},
	{0xbf000000, 0xbf800000, 0x80000000}, {0xbf400000, 0x00000000, 0x3f800000}, {0xbf800000, 0x3f800000, 0x00000000},
	{0x3fc00000, 0xbf800000, 0x80000000}, {0x40200000, 0xbf800000, 0x00000000}, {0xbfc00000, 0xbf800000, 0x00000000},
	{0xc0200000, 0xbf800000, 0x80000000}, {0x40600000, 0xbf800000, 0x80000000}, {0x3e000000, 0x3f3504f3, 0x3f3504f3},
	{0x3ec00000, 0xbf3504f3, 0x3f3504f3}, {0x3d800000, 0x3f6c835e, 0x3ec3ef15}, {0xbdcccccd, 0x3f4f1bbd, 0xbf167918},
	{0x00000001, 0x3f800000, 0x00000006}, {0x80000001, 0x3f800000, 0x80000006}, {0x006ce3ee, 0x3f800000, 0x01ab0b68},
	{0x3effffff, 0xbf800000, 0x34490fdb}, {0x3f000001, 0xbf800000, 0xb4c90fdb}, {0x3fbfffff, 0xbf800000, 0x35490fdb},
	{0x3fc00001, 0xbf800000, 0xb5490fdb}, {0x4affffff, 0xbf800000, 0x80000000}, {0x4afffffd, 0xbf800000, 0x00000000},
	{0x4a7fffff, 0x00000000, 0xbf800000}, {0x4b800000, 0x3f800000, 0x00000000}, {0x7f7fffff, 0x3f800000, 0x00000000},
	{0xff7fffff, 0x3f800000, 0x00000000}, {0x47f12065, 0x3e78cfcc, 0xbf7853f8}, {0xc47a1333, 0xbe9e2dea, 0xbf7379fe},
	{0x3e99999a, 0xbe9e377c, 0x3f737870}, {0x3f333333, 0xbe9e377c, 0xbf737870}, {0x3eaaaaab, 0xbf000001, 0x3f5db3d7},
	{0x3e7bb3e2, 0x3cd7fb83, 0x3f7fe938}, {0x3ef79702, 0xbf7ea345, 0x3dd2fe95}, {0x3f17239c, 0xbf57d04d, 0xbf09b26d},
	{0x3f6288d8, 0x3f3fec32, 0xbf296a70}, {0x3ef5a7f9, 0xbf7df0b5, 0x3e01a2cd}, {0x3f583afb, 0x3f0f6d66, 0xbf540c70},
	{0xbf71263a, 0x3f6f2ea5, 0x3eb683aa}, {0xbd8ccf42, 0x3f687b43, 0xbed65e13}, {0x3f62ffa7, 0x3f41d703, 0xbf2737fd},
	{0x3e988cc9, 0xbe97edcf, 0x3f74783a}, {0x3f4d42d4, 0x3ea3b772, 0xbf728f4a}, {0xbf4609de, 0x3e1735cd, 0x3f7d318c},
	{0xc0c5f546, 0x3ec7d1a4, 0xbf6bb2fd}, {0xc24abde2, 0xbeca0ff0, 0x3f6b3877}, {0x410c08e5, 0x3c5f897a, 0xbf7ff9e6},
	{0x416c9c9f, 0x3e73a8ed, 0xbf78a5a7}, {0xc2c2c11b, 0xbf377556, 0xbf328c0a}, {0xc2629dbd, 0xbf112a89, 0x3f52dcad},
}

// unitModel is UnitAt with wide numbers of another library, which rounds each operation once.
func unitModel(turns float32) complex64 {
	whole := math.Floor(float64(turns))
	switch part := float64(turns) - whole; {
	case part > 0.5, part == 0.5 && math.Mod(whole, 2) != 0:
		whole++
	}
	// An integer of the library has no sign where it is 0.
	integer, _ := wide(whole).Int(nil)
	x := wide(0).Mul(wide(6.283185307179586), wide(0).Sub(wide(float64(turns)), wide(0).SetInt(integer)))
	y := wide(0).Mul(x, x)
	c, s := wide(1), wide(1)
	for m := 14.0; m > 0; m-- {
		c = wide(0).Sub(wide(1), wide(0).Mul(wide(0).Quo(y, wide((2*m-1)*(2*m))), c))
		s = wide(0).Sub(wide(1), wide(0).Mul(wide(0).Quo(y, wide((2*m)*(2*m+1))), s))
	}
	across, _ := c.Float64()
	up, _ := wide(0).Mul(x, s).Float64()
	return complex(float32(across), float32(up))
}

// angle returns an angle of some turns of any sign.
func (c *chance) angle() float32 {
	return float32(int64(c.next(65536))-32768) / float32(1+c.next(30000))
}

func TestUnitAt(t *testing.T) {
	for _, x := range unitBits {
		wantComplex(t, "UnitAt", impl.UnitAt(bitsNumber(x[0])), 0, bitsComplex(x[1], x[2]), 0)
	}
	for _, turns := range []float32{infinite, -infinite, noNumber, bitsNumber(0xffc00001)} {
		wantComplex(t, "UnitAt no finite angle", impl.UnitAt(turns), 0, complex(noNumber, noNumber), 0)
	}
	wantComplex(t, "UnitAt 0", impl.UnitAt(0), 0, complex(1, 0), 0)
	// The integer that is nearest to -0 is 0, and -0 less 0 is -0.
	wantComplex(t, "UnitAt -0", impl.UnitAt(minus0), 0, complex(1, minus0), 0)
	for _, turns := range []float32{0, minus0, smallest, -smallest, 0.3, -0.3, 0.5, -0.5, 1, -1, 2, -2, 1 << 24, -1 << 24, greatest, -greatest} {
		wantComplex(t, "UnitAt", impl.UnitAt(turns), 0, unitModel(turns), 0)
	}
	g := chance(302)
	for range 3000 {
		turns := g.angle()
		wantComplex(t, "UnitAt", impl.UnitAt(turns), 0, unitModel(turns), 0)
	}
	for whole := float32(-40); whole <= 40; whole++ {
		for _, part := range []float32{0, 0.125, 0.25, 0.375, 0.5, 0.625, 0.75, 0.875} {
			wantComplex(t, "UnitAt eighths", impl.UnitAt(whole+part), 0, unitModel(whole+part), 0)
		}
	}
}

// nearlyEqual allows for some roundings of parts of the size 1.
func nearlyEqual(a, b complex64) bool {
	return math.Abs(float64(real(a)-real(b))) < 2e-6 && math.Abs(float64(imag(a)-imag(b))) < 2e-6
}

// Promise 10: units have the size 1, nearly, and products of units turn by the sum.
func TestUnitsTurn(t *testing.T) {
	g := chance(303)
	for range 10000 {
		a, b := float32(g.next(4001))/1000-2, float32(g.next(4001))/1000-2
		one, two := impl.UnitAt(a), impl.UnitAt(b)
		wantNearly(t, "the size of a unit", impl.SizeOf(one), 1)
		sin, cos := math.Sincos(2 * math.Pi * float64(a))
		if !nearlyEqual(one, complex(float32(cos), float32(sin))) {
			t.Errorf("UnitAt %v: got %v", a, one)
		}
		if product := impl.MulComplex(one, two); !nearlyEqual(product, impl.UnitAt(a+b)) {
			t.Errorf("the units at %v and %v have the product %v", a, b, product)
		}
		turns, code := impl.TurnsOf(one)
		if code != impl.OK || !nearlyEqual(impl.UnitAt(turns), one) {
			t.Errorf("TurnsOf UnitAt %v: got %v, %d", a, turns, code)
		}
	}
}

// turnBits have been found by another program.
var turnBits = [][3]uint32{
	{0x3f800000, 0x00000000, 0x00000000}, {0x00000000, 0x3f800000, 0x3e800000}, {0xbf800000, 0x00000000, 0x3f000000},
	{0x00000000, 0xbf800000, 0xbe800000}, {0x3f800000, 0x80000000, 0x00000000}, {0xbf800000, 0x80000000, 0x3f000000},
	{0x80000000, 0x3f800000, 0x3e800000}, {0x80000000, 0xbf800000, 0xbe800000}, {0x3f800000, 0x3f800000, 0x3e000000},
	{0x3f800000, 0xbf800000, 0xbe000000}, {0xbf800000, 0x3f800000, 0x3ec00000}, {0xbf800000, 0xbf800000, 0xbec00000},
	{0x40400000, 0x40800000, 0x3e172029}, {0x40800000, 0x40400000, 0x3dd1bfae}, {0xc0400000, 0x40800000, 0x3eb46fec},
	{0xc0800000, 0x40400000, 0x3ecb9014}, {0x40400000, 0xc0800000, 0xbe172029}, {0x40800000, 0xc0400000, 0xbdd1bfae},
	{0xc0400000, 0xc0800000, 0xbeb46fec}, {0xc0800000, 0xc0400000, 0xbecb9014}, {0x3f800000, 0x3f800001, 0x3e000001},
	{0x3f800001, 0x3f800000, 0x3dffffff}, {0x00000001, 0x00000001, 0x3e000000}, {0x00000001, 0x7f7fc99e, 0x3e800000},
	{0x7f7fc99e, 0x00000001, 0x00000000}, {0x7f7fc99e, 0x80000001, 0x80000000}, {0xff7fc99e, 0x00000001, 0x3f000000},
	{0x7f7fffff, 0x7f7fffff, 0x3e000000}, {0xff7fffff, 0x806ce3ee, 0xbf000000}, {0x3f800000, 0x3ed413cd, 0x3d800000},
	{0x000116c2, 0x3f800000, 0x3e800000}, {0xbee1cf60, 0x3f552b38, 0x3ea7b0fb}, {0x3f080d2b, 0xbf2e485b, 0xbe13fa0f},
	{0x3f1823a7, 0xbf38f37a, 0xbe0fd059}, {0x3e708af2, 0xbf3f2147, 0xbe4e522f}, {0xbf7f175e, 0x3f3e28c3, 0x3ecbcce2},
	{0xbf14c222, 0xbf11ac74, 0xbec0da8b}, {0x3f76ffe6, 0x3f3eac3b, 0x3dd647e5}, {0xbed7c063, 0x3f6c46d8, 0x3ea2e6ab},
	{0x3da0a8ca, 0x3eb61931, 0x3e5c9ea6}, {0xbf172724, 0x3f61c79b, 0x3eb0129f}, {0x3ec337a4, 0x3f6ee184, 0x3e40c804},
	{0x3f499882, 0xbece0a48, 0xbd99fcc1}, {0xbe8e243a, 0xbf2b07cf, 0xbea017af},
}

func wideRoot(x *big.Float) *big.Float {
	a, _ := x.Float64()
	return wide(math.Sqrt(a))
}

// turnsModel is TurnsOf with wide numbers of another library, for parts that are finite and not both 0.
func turnsModel(z complex64) float32 {
	across, up := math.Abs(float64(real(z))), math.Abs(float64(imag(z)))
	q := wide(0).Quo(wide(math.Min(across, up)), wide(math.Max(across, up)))
	for range 3 {
		root := wideRoot(wide(0).Add(wide(1), wide(0).Mul(q, q)))
		q = wide(0).Quo(q, wide(0).Add(wide(1), root))
	}
	y, s := wide(0).Mul(q, q), wide(0)
	for m := 12.0; m >= 0; m-- {
		s = wide(0).Sub(wide(0).Quo(wide(1), wide(2*m+1)), wide(0).Mul(y, s))
	}
	angle, _ := wide(0).Quo(wide(0).Mul(wide(0).Mul(wide(8), q), s), wide(6.283185307179586)).Float64()
	if up > across {
		angle = 0.25 - angle
	}
	if real(z) < 0 {
		angle = 0.5 - angle
	}
	if imag(z) < 0 {
		angle = -angle
	}
	return float32(angle)
}

func TestTurnsOf(t *testing.T) {
	for _, x := range turnBits {
		got, code := impl.TurnsOf(bitsComplex(x[0], x[1]))
		wantNumber(t, "TurnsOf", got, code, bitsNumber(x[2]), impl.OK)
	}
	g := chance(304)
	var list []complex64
	for range 5000 {
		z := g.complex()
		list = append(list, z, complex(real(z), real(z)), complex(-real(z), real(z)), complex(real(z), 0), complex(minus0, imag(z)))
	}
	for _, z := range append(list, oddComplexes()...) {
		got, code := impl.TurnsOf(z)
		switch {
		case !hasFiniteParts(z):
			wantNumber(t, "TurnsOf a part that is not finite", got, code, 0, impl.ErrRange)
		case z == 0:
			wantNumber(t, "TurnsOf 0", got, code, 0, impl.ErrState)
		default:
			wantNumber(t, "TurnsOf", got, code, turnsModel(z), impl.OK)
			wantNearly(t, "TurnsOf", got, float32(math.Atan2(float64(imag(z)+0), float64(real(z)))/(2*math.Pi)))
		}
	}
}

func TestTurnsOfErrors(t *testing.T) {
	for _, odd := range []float32{infinite, -infinite, noNumber} {
		for _, other := range []float32{0, minus0, 1, -1, infinite, -infinite, noNumber} {
			got, code := impl.TurnsOf(complex(odd, other))
			wantNumber(t, "TurnsOf", got, code, 0, impl.ErrRange)
			got, code = impl.TurnsOf(complex(other, odd))
			wantNumber(t, "TurnsOf", got, code, 0, impl.ErrRange)
		}
	}
	for _, z := range []complex64{0, complex(0, minus0), complex(minus0, 0), complex(minus0, minus0)} {
		got, code := impl.TurnsOf(z)
		wantNumber(t, "TurnsOf 0", got, code, 0, impl.ErrState)
	}
	// The angle of a number with the imaginary part -0 is that of the one with 0.
	for _, across := range []float32{1, smallest, greatest} {
		got, code := impl.TurnsOf(complex(across, minus0))
		wantNumber(t, "TurnsOf a real number", got, code, 0, impl.OK)
		got, code = impl.TurnsOf(complex(-across, minus0))
		wantNumber(t, "TurnsOf a negative number", got, code, 0.5, impl.OK)
	}
}
