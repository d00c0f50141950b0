package tests

import (
	"fmt"
	"math"
	"reflect"
	"slices"
	"testing"

	"loop.example/g01224/impl"
)

// callChecker calls a function twice, and looks at what each function promises.
type callChecker struct {
	t     *testing.T
	calls int
}

// bitsText tells -0 from 0, and NaN from NaN, if they are not the same.
func bitsText(list []any) string {
	text := ""
	for _, x := range list {
		switch y := x.(type) {
		case float32:
			text += impl.NumberText(y) + " "
		case impl.Sizes:
			for _, number := range y {
				text += impl.NumberText(number) + " "
			}
		case impl.Kernel:
			text += textOf(y)
		case []impl.Level:
			text += soundingText(y)
		case complex64:
			text += pulsesText([]complex64{y})
		case []complex64:
			text += pulsesText(y)
		default:
			text += fmt.Sprint(y) + " "
		}
	}
	return text
}

func finiteResult(x any) bool {
	switch y := x.(type) {
	case float32:
		return !math.IsNaN(float64(y)) && !math.IsInf(float64(y), 0)
	case impl.Sizes:
		return impl.ValidSizes(y)
	case impl.Air:
		return impl.ValidAir(y)
	case impl.Kernel:
		return impl.ValidKernel(y)
	case impl.Parcel:
		return impl.ValidParcel(y)
	case []impl.Level:
		return y == nil || impl.ValidSounding(y)
	case impl.Box:
		return impl.ValidBox(y)
	case complex64:
		return finiteResult(real(y)) && finiteResult(imag(y))
	case []complex64:
		return y == nil || impl.PulsesText(y) != ""
	case []float32:
		return !slices.ContainsFunc(y, func(number float32) bool { return !finiteResult(number) })
	case []impl.EchoCell:
		return impl.ValidEchoMap(y)
	case impl.Column:
		return impl.ValidColumn(y)
	case [20]float32:
		for _, number := range y {
			if !finiteResult(number) {
				return false
			}
		}
	}
	return true
}

// check calls a function of the chapter, whose last result is a code.
func (k *callChecker) check(name string, call func() []any) {
	k.t.Helper()
	k.calls++
	one, two := call(), call()
	if bitsText(one) != bitsText(two) {
		k.t.Errorf("%s: %v and then %v", name, one, two)
	}
	code, _ := one[len(one)-1].(int64)
	if impl.CodeName(code) == "" {
		k.t.Errorf("%s: the code %d", name, code)
	}
	for _, x := range one[:len(one)-1] {
		if code != impl.OK && !reflect.ValueOf(x).IsZero() {
			k.t.Errorf("%s: %v with the code %d", name, one, code)
		}
		if !finiteResult(x) {
			k.t.Errorf("%s: %v is not finite", name, one)
		}
	}
}

// results makes a list of all results of a call.
func results(list ...any) []any { return list }

func TestFunctionsOfNumbersReturn(t *testing.T) {
	k := &callChecker{t: t}
	for _, class := range oddClasses {
		k.check("MassOf", func() []any { return results(impl.MassOf(class)) })
		k.check("EdgeOf", func() []any { return results(impl.EdgeOf(class)) })
		k.check("RadiusOf", func() []any { return results(impl.RadiusOf(class)) })
	}
	for _, a := range oddNumbers {
		k.check("ThirdRoot", func() []any { return results(impl.ThirdRoot(a)) })
		k.check("ClassFor", func() []any { return results(impl.ClassFor(a)) })
		for _, b := range oddNumbers {
			k.check("Spectrum", func() []any { return results(impl.Spectrum(a, b)) })
		}
	}
}

func TestFunctionsOfSizesReturn(t *testing.T) {
	k := &callChecker{t: t}
	for _, c := range oddSizes() {
		was := c
		k.check("CountOf", func() []any { return results(impl.CountOf(c)) })
		k.check("WaterOf", func() []any { return results(impl.WaterOf(c)) })
		k.check("MeanMass", func() []any { return results(impl.MeanMass(c)) })
		k.check("MiddleClass", func() []any { return results(impl.MiddleClass(c)) })
		for _, class := range oddClasses {
			k.check("MomentOf", func() []any { return results(impl.MomentOf(c, class)) })
			k.check("AtLeast", func() []any { return results(impl.AtLeast(c, class)) })
			for _, a := range oddNumbers {
				k.check("TakeShare", func() []any { return results(impl.TakeShare(c, class, a)) })
			}
		}
		for _, a := range oddNumbers {
			k.check("ScaleSizes", func() []any { return results(impl.ScaleSizes(c, a)) })
			for _, b := range oddNumbers {
				k.check("PutDroplets", func() []any { return results(impl.PutDroplets(c, a, b)) })
			}
		}
		if bitsText(results(c)) != bitsText(results(was)) {
			t.Errorf("%v has been modified to %v", was, c)
		}
	}
}

func TestFunctionsOfTwoSizesReturn(t *testing.T) {
	k := &callChecker{t: t}
	for _, c := range oddSizes() {
		for _, d := range oddSizes() {
			wasC, wasD := c, d
			k.check("AddSizes", func() []any { return results(impl.AddSizes(c, d)) })
			k.check("MixSizes", func() []any { return results(impl.MixSizes(c, d, 0.3)) })
			gain := [20]float32(d)
			k.check("ShiftMasses", func() []any { return results(impl.ShiftMasses(c, gain)) })
			if impl.SameSizes(c, d) != impl.SameSizes(d, c) {
				t.Errorf("SameSizes %v %v depends on the order", c, d)
			}
			if bitsText(results(c, d, impl.Sizes(gain))) != bitsText(results(wasC, wasD, wasD)) {
				t.Errorf("%v or %v has been modified", wasC, wasD)
			}
		}
	}
}
