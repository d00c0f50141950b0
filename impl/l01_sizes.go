package impl

import (
	"math"
	"strconv"
	"strings"
)

// Codes of errors.
const (
	OK          = 0
	ErrInvalid  = 1
	ErrRange    = 2
	ErrLimit    = 3
	ErrState    = 4
	ErrSyntax   = 5
	ErrNotFound = 6
	ErrBudget   = 7
	ErrProof    = 8
)

// Limits of sizes.
const (
	Classes   = 20
	MaxMoment = 6
)

const (
	lastClass   = Classes - 1
	nanBits     = 0x7fc00000
	numberChars = 8
	rootRounds  = 6
)

// Sizes tell how many droplets of each class there are.
type Sizes [20]float32

// CodeName returns the name of an error code.
func CodeName(code int64) string {
	names := [...]string{
		OK:          "ok",
		ErrInvalid:  "invalid",
		ErrRange:    "range",
		ErrLimit:    "limit",
		ErrState:    "state",
		ErrSyntax:   "syntax",
		ErrNotFound: "notfound",
		ErrBudget:   "budget",
		ErrProof:    "proof",
	}
	if code < 0 || code >= int64(len(names)) {
		return ""
	}
	return names[code]
}

// bitsOf gives every NaN the same bits, so that numbers are the same just if
// their bits are equal.
func bitsOf(a float32) uint32 {
	if math.IsNaN(float64(a)) {
		return nanBits
	}
	return math.Float32bits(a)
}

// SameNumber reports whether two numbers are the same.
func SameNumber(a, b float32) bool { return bitsOf(a) == bitsOf(b) }

func isFinite(a float32) bool {
	return !math.IsNaN(float64(a)) && !math.IsInf(float64(a), 0)
}

func isAmount(a float32) bool {
	return isFinite(a) && !math.Signbit(float64(a))
}

func isShare(a float32) bool { return isAmount(a) && a <= 1 }

func isClass(class int64) bool { return class >= 0 && class < Classes }

// finiteNumber returns a result with OK, or ErrState if it is not finite.
func finiteNumber(a float32) (float32, int64) {
	if !isFinite(a) {
		return 0, ErrState
	}
	return a, OK
}

// finiteSizes returns a result with OK, or ErrState if it is not finite.
func finiteSizes(c Sizes) (Sizes, int64) {
	for _, number := range c {
		if !isFinite(number) {
			return Sizes{}, ErrState
		}
	}
	return c, OK
}

// ValidSizes reports whether sizes are valid.
func ValidSizes(c Sizes) bool {
	for _, number := range c {
		if !isAmount(number) {
			return false
		}
	}
	return true
}

func bitsOfSizes(c Sizes) [Classes]uint32 {
	var bits [Classes]uint32
	for class, number := range c {
		bits[class] = bitsOf(number)
	}
	return bits
}

// SameSizes reports whether two sizes are the same.
func SameSizes(c, d Sizes) bool { return bitsOfSizes(c) == bitsOfSizes(d) }

// massOf is MassOf for a class that is known to exist.
func massOf(class int64) float32 { return float32(int64(1) << uint64(class)) }

// MassOf returns the mass of a droplet of a class.
func MassOf(class int64) (float32, int64) {
	if !isClass(class) {
		return 0, ErrRange
	}
	return massOf(class), OK
}

// EdgeOf returns the mass from which on a droplet is nearer to the next class.
func EdgeOf(class int64) (float32, int64) {
	if !isClass(class) {
		return 0, ErrRange
	}
	return 1.5 * massOf(class), OK
}

// nearerRoot takes one step towards the third root of b. The conversions keep
// a compiler from joining a product and a sum into one rounding.
func nearerRoot(r, b float64) float64 {
	cube := float64(float64(r*r) * r)
	slope := float64(float64(3*r) * r)
	return r - (cube-b)/slope
}

// ThirdRoot returns the third root of a number.
func ThirdRoot(a float32) (float32, int64) {
	if !isAmount(a) {
		return 0, ErrRange
	}
	if a == 0 {
		return 0, OK
	}
	b, x := float64(a), 1.0
	for b >= 8 {
		b, x = b/8, x*2
	}
	for b < 1 {
		b, x = b*8, x/2
	}
	r := 1.5
	for range rootRounds {
		r = nearerRoot(r, b)
	}
	return float32(r * x), OK
}

// RadiusOf returns the radius of a droplet of a class.
func RadiusOf(class int64) (float32, int64) {
	if !isClass(class) {
		return 0, ErrRange
	}
	return ThirdRoot(massOf(class))
}

func sumOf(numbers [Classes]float32) float32 {
	sum := numbers[0]
	for class := 1; class < Classes; class++ {
		sum = sum + numbers[class]
	}
	return sum
}

// watersOf returns the water of each class.
func watersOf(c Sizes) [Classes]float32 {
	var waters [Classes]float32
	for class, number := range c {
		waters[class] = float32(number * massOf(int64(class)))
	}
	return waters
}

// CountOf returns how many droplets there are.
func CountOf(c Sizes) (float32, int64) {
	if !ValidSizes(c) {
		return 0, ErrInvalid
	}
	return finiteNumber(sumOf(c))
}

// WaterOf returns the mass of all droplets.
func WaterOf(c Sizes) (float32, int64) {
	if !ValidSizes(c) {
		return 0, ErrInvalid
	}
	return finiteNumber(sumOf(watersOf(c)))
}

// powerOf multiplies again and again, since the order of the roundings is told.
func powerOf(radius float32, power int64) float32 {
	product := float32(1)
	for range power {
		product = float32(product * radius)
	}
	return product
}

// MomentOf returns the sum of powers of all radii.
func MomentOf(c Sizes, power int64) (float32, int64) {
	if !ValidSizes(c) {
		return 0, ErrInvalid
	}
	if power < 0 || power > MaxMoment {
		return 0, ErrRange
	}
	var moments [Classes]float32
	for class, number := range c {
		radius, code := RadiusOf(int64(class))
		if code != OK {
			return 0, code
		}
		moments[class] = float32(number * powerOf(radius, power))
	}
	return finiteNumber(sumOf(moments))
}

// MeanMass returns the mean mass of a droplet.
func MeanMass(c Sizes) (float32, int64) {
	count, code := CountOf(c)
	if code != OK {
		return 0, code
	}
	if count == 0 {
		return 0, ErrNotFound
	}
	water, code := WaterOf(c)
	if code != OK {
		return 0, code
	}
	return finiteNumber(water / count)
}

// ClassFor returns the class for a mass.
func ClassFor(mass float32) (int64, int64) {
	if !isFinite(mass) || mass < 1 {
		return 0, ErrRange
	}
classes:
	for class := int64(lastClass); class > 0; class-- {
		if massOf(class) > mass {
			continue classes
		}
		return class, OK
	}
	return 0, OK
}

// PutDroplets adds droplets of a mass.
func PutDroplets(c Sizes, mass, count float32) (Sizes, int64) {
	if !ValidSizes(c) {
		return Sizes{}, ErrInvalid
	}
	if !isFinite(mass) || mass <= 0 || !isAmount(count) {
		return Sizes{}, ErrRange
	}
	sizes := c
	put := func(class int64, number float32) {
		sizes[class] = sizes[class] + number
	}
	if mass < 1 {
		put(0, float32(count*mass))
		return finiteSizes(sizes)
	}
	class, code := ClassFor(mass)
	if code != OK {
		return Sizes{}, code
	}
	least := massOf(class)
	if class == lastClass {
		put(class, float32(count*(mass/least)))
		return finiteSizes(sizes)
	}
	share := (mass - least) / least
	put(class, float32(count*(1-share)))
	put(class+1, float32(count*share))
	return finiteSizes(sizes)
}

// TakeShare takes a share of the droplets of a class away.
func TakeShare(c Sizes, class int64, share float32) (Sizes, float32, int64) {
	if !ValidSizes(c) {
		return Sizes{}, 0, ErrInvalid
	}
	if !isClass(class) || !isShare(share) {
		return Sizes{}, 0, ErrRange
	}
	left := c
	taken := float32(share * c[class])
	left[class] = c[class] - taken
	return left, taken, OK
}

// AddSizes returns the sums.
func AddSizes(c, d Sizes) (Sizes, int64) {
	if !ValidSizes(c) || !ValidSizes(d) {
		return Sizes{}, ErrInvalid
	}
	var sums Sizes
	for class := range sums {
		sums[class] = c[class] + d[class]
	}
	return finiteSizes(sums)
}

// ScaleSizes returns the products with an amount.
func ScaleSizes(c Sizes, by float32) (Sizes, int64) {
	if !ValidSizes(c) {
		return Sizes{}, ErrInvalid
	}
	if !isAmount(by) {
		return Sizes{}, ErrRange
	}
	var products Sizes
	for class := range products {
		products[class] = float32(c[class] * by)
	}
	return finiteSizes(products)
}

// MixSizes returns sizes between two others.
func MixSizes(c, d Sizes, share float32) (Sizes, int64) {
	if !ValidSizes(c) || !ValidSizes(d) {
		return Sizes{}, ErrInvalid
	}
	if !isShare(share) {
		return Sizes{}, ErrRange
	}
	var mixed Sizes
	for class := range mixed {
		mixed[class] = float32(c[class]*(1-share)) + float32(d[class]*share)
	}
	return finiteSizes(mixed)
}

// shiftEach puts the droplets of each class with their new mass into sizes
// without droplets.
func shiftEach(c Sizes, gain [Classes]float32) (Sizes, int64) {
	var shifted Sizes
	for class, number := range c {
		mass := massOf(int64(class)) + gain[class]
		if number == 0 || mass <= 0 {
			continue
		}
		next, code := PutDroplets(shifted, mass, number)
		if code != OK {
			return Sizes{}, code
		}
		shifted = next
	}
	return shifted, OK
}

// ShiftMasses lets each droplet gain a mass.
func ShiftMasses(c Sizes, gain [20]float32) (Sizes, float32, int64) {
	if !ValidSizes(c) {
		return Sizes{}, 0, ErrInvalid
	}
	for _, mass := range gain {
		if !isFinite(mass) {
			return Sizes{}, 0, ErrRange
		}
	}
	shifted, code := shiftEach(c, gain)
	if code != OK {
		return Sizes{}, 0, code
	}
	before, code := WaterOf(c)
	if code != OK {
		return Sizes{}, 0, code
	}
	after, code := WaterOf(shifted)
	if code != OK {
		return Sizes{}, 0, code
	}
	return shifted, after - before, OK
}

// weightsAround returns how much of a spectrum each class has.
func weightsAround(middle int64) [Classes]float32 {
	var weights [Classes]float32
	for class := range weights {
		y := float32(int64(class)-middle) / 2
		z := 1 + float32(y*y)
		weights[class] = 1 / float32(z*z)
	}
	return weights
}

// Spectrum returns sizes around a mean mass.
func Spectrum(count, mean float32) (Sizes, int64) {
	middle, code := ClassFor(mean)
	if code != OK || !isAmount(count) {
		return Sizes{}, ErrRange
	}
	weights := weightsAround(middle)
	all := sumOf(weights)
	var sizes Sizes
	for class, weight := range weights {
		sizes[class] = float32(count*weight) / all
	}
	return finiteSizes(sizes)
}

// AtLeast returns the water of a class and of all that are greater.
func AtLeast(c Sizes, class int64) (float32, int64) {
	if !ValidSizes(c) {
		return 0, ErrInvalid
	}
	if !isClass(class) {
		return 0, ErrRange
	}
	large := c
	for small := range class {
		large[small] = 0
	}
	return WaterOf(large)
}

// MiddleClass returns the class in the middle of the water.
func MiddleClass(c Sizes) (int64, int64) {
	all, code := WaterOf(c)
	if code != OK {
		return 0, code
	}
	if all == 0 {
		return 0, ErrNotFound
	}
	half := 0.5 * all
	water := float32(0)
	for class, more := range watersOf(c) {
		water = water + more
		if water >= half {
			return int64(class), OK
		}
	}
	return lastClass, OK
}

// NumberText returns the text of a number.
func NumberText(a float32) string {
	digits := strconv.FormatUint(uint64(bitsOf(a)), 16)
	return strings.Repeat("0", numberChars-len(digits)) + digits
}

// ReadNumber returns the number with a text.
func ReadNumber(text string) (float32, int64) {
	if len(text) != numberChars {
		return 0, ErrSyntax
	}
	bits, err := strconv.ParseUint(text, 16, 32)
	if err != nil {
		return 0, ErrSyntax
	}
	number := math.Float32frombits(uint32(bits))
	// Capital digits and the other patterns of NaN can be parsed, but are the
	// text of no number.
	if NumberText(number) != text {
		return 0, ErrSyntax
	}
	return number, OK
}

// SizesText returns the text of sizes.
func SizesText(c Sizes) string {
	if !ValidSizes(c) {
		return ""
	}
	words := make([]string, Classes)
	for class, number := range c {
		words[class] = NumberText(number)
	}
	return strings.Join(words, " ")
}

// ReadSizes returns the sizes with a text.
func ReadSizes(text string) (Sizes, int64) {
	words := strings.Split(text, " ")
	if len(words) != Classes {
		return Sizes{}, ErrSyntax
	}
	var sizes Sizes
	for class, word := range words {
		number, code := ReadNumber(word)
		// Only valid sizes have a text.
		if code != OK || !isAmount(number) {
			return Sizes{}, ErrSyntax
		}
		sizes[class] = number
	}
	return sizes, OK
}
