package tests

import (
	"math"
	"testing"

	"loop.example/g01224/impl"
)

var (
	infinite = float32(math.Inf(1))
	noNumber = float32(math.NaN())
	minus0   = float32(math.Copysign(0, -1))
)

const (
	greatest = math.MaxFloat32
	smallest = math.SmallestNonzeroFloat32
)

// notAmounts has a number for each way of being no amount.
var notAmounts = []float32{minus0, -1, -smallest, -greatest, infinite, -infinite, noNumber}

// notShares adds what is too much for a share.
var notShares = append([]float32{math.Nextafter32(1, 2), 2, greatest}, notAmounts...)

// notClasses has the numbers beside the classes, and the ones far away.
var notClasses = []int64{-1, 20, math.MinInt64, math.MaxInt64}

// oddNumbers has what a caller might hand in.
var oddNumbers = []float32{
	0, minus0, 1, -1, 0.5, 0.25, 3, 10, 0.1, smallest, -smallest, 1e-38,
	math.Nextafter32(1, 0), math.Nextafter32(1, 2), 262144, 524288, 1048576,
	1e30, greatest, -greatest, infinite, -infinite, noNumber,
}

var oddClasses = []int64{math.MinInt64, -1, 0, 1, 6, 7, 18, 19, 20, 21, 64, math.MaxInt64}

// oddSizes has valid and invalid sizes.
func oddSizes() []impl.Sizes {
	list := []impl.Sizes{{}, {19: 1}, {0: 1}, {3: 1}, {5: 0.1, 6: 7, 18: 3, 19: 0.3}}
	for _, number := range oddNumbers {
		list = append(list, impl.Sizes{0: number}, impl.Sizes{19: number})
		list = append(list, fullSizes(number))
	}
	return list
}

func fullSizes(number float32) impl.Sizes {
	var c impl.Sizes
	for class := range c {
		c[class] = number
	}
	return c
}

// Operations of two narrow numbers, calculated wide and then narrowed: a second way to the one rounding that is asked for.
func plus(a, b float32) float32  { return float32(float64(a) + float64(b)) }
func minus(a, b float32) float32 { return float32(float64(a) - float64(b)) }
func times(a, b float32) float32 { return float32(float64(a) * float64(b)) }
func over(a, b float32) float32  { return float32(float64(a) / float64(b)) }

func total(list []float32) float32 {
	sum := list[0]
	for _, number := range list[1:] {
		sum = plus(sum, number)
	}
	return sum
}

// chance makes the same numbers in each run.
type chance uint32

func (c *chance) next(below uint32) uint32 {
	*c = *c*1664525 + 1013904223
	return uint32(*c) >> 16 % below
}

// amount returns an amount that may be 0, whole, or have many digits.
func (c *chance) amount() float32 {
	switch c.next(5) {
	case 0:
		return 0
	case 1:
		return float32(c.next(100))
	default:
		return float32(c.next(65536))/float32(1+c.next(1000)) + float32(c.next(65536))/65536
	}
}

func (c *chance) share() float32 { return float32(c.next(1001)) / 1000 }

func (c *chance) sizes() impl.Sizes {
	var sizes impl.Sizes
	for class := range sizes {
		sizes[class] = c.amount()
	}
	return sizes
}

func sameNumbers(a, b float32) bool {
	if a != a || b != b {
		return a != a && b != b
	}
	return math.Float32bits(a) == math.Float32bits(b)
}

func wantNumber(t *testing.T, what string, got float32, code int64, want float32, wantCode int64) {
	t.Helper()
	if !sameNumbers(got, want) || code != wantCode {
		t.Errorf("%s: got %v (%08x), %d, want %v (%08x), %d", what, got, math.Float32bits(got), code, want, math.Float32bits(want), wantCode)
	}
}

func wantInteger(t *testing.T, what string, got, code, want, wantCode int64) {
	t.Helper()
	if got != want || code != wantCode {
		t.Errorf("%s: got %d, %d, want %d, %d", what, got, code, want, wantCode)
	}
}

func wantSizes(t *testing.T, what string, got impl.Sizes, code int64, want impl.Sizes, wantCode int64) {
	t.Helper()
	if code != wantCode {
		t.Errorf("%s: got the code %d, want %d", what, code, wantCode)
	}
	for class := range got {
		if !sameNumbers(got[class], want[class]) {
			t.Errorf("%s: class %d: got %v, want %v", what, class, got[class], want[class])
		}
	}
}

// nearly allows for some roundings of narrow numbers.
func nearly(a, b float32) bool {
	return math.Abs(float64(a)-float64(b)) <= 1e-5*math.Max(math.Abs(float64(a)), math.Abs(float64(b)))
}

func wantNearly(t *testing.T, what string, got, want float32) {
	t.Helper()
	if !nearly(got, want) {
		t.Errorf("%s: got %v, want nearly %v", what, got, want)
	}
}
