package tests

import (
	"math"
	"strings"
	"testing"

	"loop.example/g01224/impl"
)

func wantKernel(t *testing.T, what string, got impl.Kernel, code int64, want impl.Kernel, wantCode int64) {
	t.Helper()
	if code != wantCode {
		t.Errorf("%s: got the code %d, want %d", what, code, wantCode)
	}
	for i := range got {
		for j := range got[i] {
			if !sameNumbers(got[i][j], want[i][j]) {
				t.Errorf("%s: row %d, column %d: got %v, want %v", what, i, j, got[i][j], want[i][j])
			}
		}
	}
}

func wantText(t *testing.T, what, got, want string) {
	t.Helper()
	if got != want {
		t.Errorf("%s: got %q, want %q", what, got, want)
	}
}

func kernelOf(number func(i, j int) float32) impl.Kernel {
	var k impl.Kernel
	for i := range k {
		for j := range k[i] {
			k[i][j] = number(i, j)
		}
	}
	return k
}

func flatKernel(number float32) impl.Kernel {
	return kernelOf(func(i, j int) float32 { return number })
}

// with returns the kernel with another number for two classes, in both orders.
func with(k impl.Kernel, i, j int, number float32) impl.Kernel {
	k[i][j], k[j][i] = number, number
	return k
}

// kernel returns a kernel whose numbers have many digits, and some of which are 0.
func (c *chance) kernel(scale float32) impl.Kernel {
	var k impl.Kernel
	for i := range k {
		for j := range i + 1 {
			k = with(k, i, j, times(c.amount(), scale))
		}
	}
	return k
}

func massModel(class int) float32 { return float32(math.Exp2(float64(class))) }

func fallModel(class int) float32 {
	return over(times(radius(class), radius(class)), plus(1, times(0.5, radius(class))))
}

func fallKernelModel(scale float32) impl.Kernel {
	return kernelOf(func(i, j int) float32 {
		s := plus(radius(i), radius(j))
		d := minus(fallModel(max(i, j)), fallModel(min(i, j)))
		return times(times(scale, times(s, s)), d)
	})
}

// notKernels has kernels that are wrong in one place, at the ends and between.
func notKernels() []impl.Kernel {
	var list []impl.Kernel
	for _, place := range [][2]int{{0, 0}, {0, 1}, {0, 19}, {3, 7}, {18, 19}, {19, 19}} {
		i, j := place[0], place[1]
		for _, number := range notAmounts {
			list = append(list, with(flatKernel(0.5), i, j, number))
		}
		if i == j {
			continue
		}
		for _, number := range []float32{0, 2, math.Nextafter32(0.5, 1), minus0, noNumber} {
			upper, lower := flatKernel(0.5), flatKernel(0.5)
			upper[i][j], lower[j][i] = number, number
			list = append(list, upper, lower)
		}
		zeros := impl.Kernel{}
		zeros[i][j] = minus0
		list = append(list, zeros)
	}
	return list
}

func TestValidKernel(t *testing.T) {
	g := chance(60)
	good := []impl.Kernel{{}, flatKernel(0.01), flatKernel(greatest), flatKernel(smallest), fallKernelModel(3), g.kernel(1)}
	for place := range 20 {
		good = append(good, with(flatKernel(1), place, 19-place, 2), with(impl.Kernel{}, place, place, greatest))
	}
	for _, k := range good {
		if !impl.ValidKernel(k) {
			t.Errorf("ValidKernel %v: got false", k)
		}
	}
	for _, k := range notKernels() {
		if impl.ValidKernel(k) {
			t.Errorf("ValidKernel %v: got true", k)
		}
	}
	for i := range 20 {
		for j := range i {
			k := flatKernel(1)
			k[i][j] = 2
			if impl.ValidKernel(k) {
				t.Errorf("a kernel that is not symmetric in %d, %d: got true", i, j)
			}
		}
	}
}

func TestSameKernel(t *testing.T) {
	for i := range 20 {
		for j := range 20 {
			for a, one := range oddNumbers {
				for b, two := range oddNumbers {
					k, l := flatKernel(noNumber), flatKernel(noNumber)
					k[i][j], l[i][j] = one, two
					if got := impl.SameKernel(k, l); got != (a == b) {
						t.Errorf("SameKernel with %v and %v in %d, %d: got %v", one, two, i, j, got)
					}
				}
			}
		}
	}
	other := math.Float32frombits(0xff800001)
	if !impl.SameKernel(flatKernel(noNumber), flatKernel(other)) {
		t.Error("SameKernel of two kinds of NaN: got false")
	}
}

// fallsText has been found by another program.
const fallsText = "3f2aaaab 3f7950cf 3fb3d16f 40000000 4033d16e 407950d0 40aaaaab 40e6e7b3 411a8475 414ccccd 41869175 41af8a94 41e38e39 4212b6ca 423c5af4 4270f0f1 4299a5e3 42c37d8a 42f83e10 431d5de1"

func TestFallOf(t *testing.T) {
	var falls impl.Sizes
	for class := range falls {
		fall, code := impl.FallOf(int64(class))
		wantNumber(t, "FallOf", fall, code, fallModel(class), impl.OK)
		falls[class] = fall
		if class > 0 && fall <= falls[class-1] {
			t.Errorf("the class %d does not fall faster than the one before it", class)
		}
	}
	wantText(t, "FallOf all classes", impl.SizesText(falls), fallsText)
	wantNumber(t, "FallOf 3", falls[3], impl.OK, 2, impl.OK)
	for _, class := range notClasses {
		fall, code := impl.FallOf(class)
		wantNumber(t, "FallOf no class", fall, code, 0, impl.ErrRange)
	}
}

func TestKernelsOfOneNumber(t *testing.T) {
	g := chance(61)
	list := []float32{0, 0.01, 0.3, 1, smallest, 1e25}
	for range 20 {
		list = append(list, g.amount())
	}
	for _, number := range list {
		k, code := impl.FlatKernel(number)
		wantKernel(t, "FlatKernel", k, code, flatKernel(number), impl.OK)
		k, code = impl.SumKernel(number)
		want := kernelOf(func(i, j int) float32 { return times(number, plus(massModel(i), massModel(j))) })
		wantKernel(t, "SumKernel", k, code, want, impl.OK)
		k, code = impl.FallKernel(number)
		wantKernel(t, "FallKernel", k, code, fallKernelModel(number), impl.OK)
		for class := range k {
			wantNumber(t, "FallKernel of a class and itself", k[class][class], impl.OK, 0, impl.OK)
		}
	}
	for _, number := range notAmounts {
		k, code := impl.FlatKernel(number)
		wantKernel(t, "FlatKernel", k, code, impl.Kernel{}, impl.ErrRange)
		k, code = impl.SumKernel(number)
		wantKernel(t, "SumKernel", k, code, impl.Kernel{}, impl.ErrRange)
		k, code = impl.FallKernel(number)
		wantKernel(t, "FallKernel", k, code, impl.Kernel{}, impl.ErrRange)
	}
}

// rowTexts have been found by another program.
var rowTexts = []struct {
	scale float32
	row   int
	text  string
}{
	{0.001, 0, "00000000 3acda8ef 3ba1ee43 3c449ba6 3cd97faa 3d6681eb 3deeeef0 3e74a17f 3ef8a6a0 3f7b98c8 3ffdd280 407f8a8a 410071c7 4180fa4d 420166eb 4281bd90 430202c1 43823a01 4402661d 4482894d"},
	{0.001, 7, "3e74a17f 3e7da7a0 3e82aa7e 3e84576a 3e80eb33 3e656b23 3e1d8496 00000000 3ea2279b 3f7312a5 400c850e 40944a68 41165b29 4195a94b 4213c417 42917aa0 430f33f9 438d1f5e 440b4e8b 4489c424"},
	{0.001, 19, "4482894d 44831c80 4483cc40 44849daa 44859700 4486bfc6 448820d9 4489c424 448bb3b1 448df7a1 44909201 449376e0 44967d55 449943b5 449afb9a 449a08a9 44934990 4480bd77 442dde2d 00000000"},
	{0.3, 0, "00000000 3ef101fa 3fbdc336 40666666 40fee19c 4187101f 420c0001 428f56a0 4311b1a2 43936b85 4414b957 4495bb2d 45168556 45972553 4617a49b 46980a24 47185b3a 47989bf9 4818cfa9 4898f8e5"},
	{0.3, 7, "428f56a0 4294a038 42991fcc 429b1670 429713a0 42866cc7 42389760 00000000 42be0669 438e6cec 4424abed 44adc730 453032d3 45af6264 462d29ca 46aa7bb3 4727d0e7 47a560c2 4823400b 48a171da"},
	{0.3, 19, "4898f8e5 4899a565 489a735a 489b68c4 489c8cf4 489de8bc 489f867f 48a171da 48a3b693 48a65e31 48a96b19 48accf4f 48b05ae0 48b39b59 48b59ed9 48b48227 48ac9a34 4896de08 484bc05d 00000000"},
}

func TestRowsOfKernels(t *testing.T) {
	for _, x := range rowTexts {
		k, code := impl.FallKernel(x.scale)
		if code != impl.OK {
			t.Errorf("FallKernel %v: got %d", x.scale, code)
		}
		wantText(t, "a row of FallKernel", impl.SizesText(impl.Sizes(k[x.row])), x.text)
	}
	k, code := impl.SumKernel(0.3)
	if code != impl.OK {
		t.Errorf("SumKernel: got %d", code)
	}
	wantText(t, "a row of SumKernel", impl.SizesText(impl.Sizes(k[4])), "40a33334 40accccd 40c00000 40e66667 4119999a 41666667 41c00000 422ccccd 42a33334 431e6667 439c0000 441acccd 449a3334 4519e667 4599c000 4619accd 4699a334 47199e67 47999c00 48199acd")
}

func TestKernelsAreSymmetric(t *testing.T) {
	g := chance(62)
	check := func(what string, k impl.Kernel, code int64) {
		t.Helper()
		if code != impl.OK || !impl.ValidKernel(k) {
			t.Errorf("%s: got %v, %d", what, k, code)
		}
		for i := range k {
			for j := range k[i] {
				if !sameNumbers(k[i][j], k[j][i]) {
					t.Errorf("%s: not symmetric in %d, %d", what, i, j)
				}
			}
		}
	}
	for range 50 {
		a, b := g.amount(), g.amount()
		flat, code := impl.FlatKernel(a)
		check("FlatKernel", flat, code)
		sum, code := impl.SumKernel(b)
		check("SumKernel", sum, code)
		fall, code := impl.FallKernel(a)
		check("FallKernel", fall, code)
		both, code := impl.AddKernels(sum, fall)
		check("AddKernels", both, code)
		scaled, code := impl.ScaleKernel(both, b)
		check("ScaleKernel", scaled, code)
		events, code := impl.EventsOf(g.sizes(), scaled, g.share())
		check("EventsOf", events, code)
	}
}

func TestGreatestKernels(t *testing.T) {
	k, code := impl.FlatKernel(greatest)
	wantKernel(t, "FlatKernel", k, code, flatKernel(greatest), impl.OK)
	most := float32(greatest) / 1048576
	k, code = impl.SumKernel(most)
	wantNumber(t, "the greatest number of SumKernel", k[19][19], code, greatest, impl.OK)
	for _, scale := range []float32{math.Nextafter32(most, 1e38), 1e35, greatest} {
		k, code = impl.SumKernel(scale)
		wantKernel(t, "SumKernel of too much", k, code, impl.Kernel{}, impl.ErrState)
	}
	k, code = impl.FallKernel(1e32)
	wantKernel(t, "FallKernel of much", k, code, fallKernelModel(1e32), impl.OK)
	for _, scale := range []float32{1e33, 1e35, greatest} {
		k, code = impl.FallKernel(scale)
		wantKernel(t, "FallKernel of too much", k, code, impl.Kernel{}, impl.ErrState)
	}
}

func TestAddKernels(t *testing.T) {
	g := chance(63)
	for range 50 {
		k, l := g.kernel(1), g.kernel(0.01)
		got, code := impl.AddKernels(k, l)
		wantKernel(t, "AddKernels", got, code, kernelOf(func(i, j int) float32 { return plus(k[i][j], l[i][j]) }), impl.OK)
	}
	full := flatKernel(greatest)
	got, code := impl.AddKernels(full, impl.Kernel{})
	wantKernel(t, "AddKernels and nothing", got, code, full, impl.OK)
	got, code = impl.AddKernels(full, full)
	wantKernel(t, "AddKernels of too much", got, code, impl.Kernel{}, impl.ErrState)
	got, code = impl.AddKernels(full, with(impl.Kernel{}, 19, 3, greatest))
	wantKernel(t, "AddKernels of too much for two classes", got, code, impl.Kernel{}, impl.ErrState)
	for _, bad := range notKernels() {
		got, code = impl.AddKernels(bad, full)
		wantKernel(t, "AddKernels, the first one invalid", got, code, impl.Kernel{}, impl.ErrInvalid)
		got, code = impl.AddKernels(full, bad)
		wantKernel(t, "AddKernels, the second one invalid", got, code, impl.Kernel{}, impl.ErrInvalid)
	}
}

func TestScaleKernel(t *testing.T) {
	g := chance(64)
	for range 50 {
		k, by := g.kernel(1), g.amount()
		got, code := impl.ScaleKernel(k, by)
		wantKernel(t, "ScaleKernel", got, code, kernelOf(func(i, j int) float32 { return times(k[i][j], by) }), impl.OK)
	}
	full := flatKernel(greatest)
	got, code := impl.ScaleKernel(full, 0)
	wantKernel(t, "ScaleKernel by 0", got, code, impl.Kernel{}, impl.OK)
	got, code = impl.ScaleKernel(full, 1)
	wantKernel(t, "ScaleKernel by 1", got, code, full, impl.OK)
	got, code = impl.ScaleKernel(with(impl.Kernel{}, 19, 19, greatest), math.Nextafter32(1, 2))
	wantKernel(t, "ScaleKernel to too much", got, code, impl.Kernel{}, impl.ErrState)
	for _, by := range notAmounts {
		got, code = impl.ScaleKernel(full, by)
		wantKernel(t, "ScaleKernel by no amount", got, code, impl.Kernel{}, impl.ErrRange)
	}
	for _, bad := range notKernels() {
		for _, by := range []float32{1, -1, noNumber} {
			got, code = impl.ScaleKernel(bad, by)
			wantKernel(t, "ScaleKernel, invalid before range", got, code, impl.Kernel{}, impl.ErrInvalid)
		}
	}
}

func TestKernelsAreReadFromTheirTexts(t *testing.T) {
	flat := strings.Repeat(strings.Repeat("3c23d70a ", 19)+"3c23d70a\n", 20)
	wantText(t, "KernelText", impl.KernelText(flatKernel(0.01)), flat)
	first := "3f800000 " + strings.Repeat("00000000 ", 18) + "40000000\n"
	between := strings.Repeat(strings.Repeat("00000000 ", 19)+"00000000\n", 18)
	last := "40000000 " + strings.Repeat("00000000 ", 18) + "7f7fffff\n"
	corners := with(with(with(impl.Kernel{}, 0, 0, 1), 0, 19, 2), 19, 19, greatest)
	wantText(t, "KernelText of corners", impl.KernelText(corners), first+between+last)
	g := chance(65)
	list := []impl.Kernel{{}, corners, flatKernel(0.01), flatKernel(smallest), flatKernel(greatest), fallKernelModel(0.3)}
	for range 50 {
		list = append(list, g.kernel(g.share()))
	}
	for _, k := range list {
		got, code := impl.ReadKernel(impl.KernelText(k))
		wantKernel(t, "ReadKernel", got, code, k, impl.OK)
	}
	for _, bad := range notKernels() {
		wantText(t, "KernelText of no kernel", impl.KernelText(bad), "")
	}
}

// textOf writes a kernel, valid or not.
func textOf(k impl.Kernel) string {
	text := ""
	for _, row := range k {
		var words []string
		for _, number := range row {
			words = append(words, impl.NumberText(number))
		}
		text += strings.Join(words, " ") + "\n"
	}
	return text
}

func TestReadKernelSyntax(t *testing.T) {
	good := impl.KernelText(fallKernelModel(0.3))
	row := strings.Repeat("00000000 ", 19) + "00000000\n"
	zeros := strings.Repeat(row, 20)
	list := []string{
		"", "x", "\n", " ", row, strings.Repeat(row, 19), strings.Repeat(row, 21), strings.Repeat(row, 40),
		good[:len(good)-1], good[1:], good + "\n", "\n" + good, good + " ", " " + good, good + "0", "0" + good, good + good,
		strings.Replace(good, "\n", " \n", 1), strings.Replace(good, "\n", "\n ", 1), strings.Replace(good, "\n", "\n\n", 1),
		strings.Replace(good, "\n", "\r\n", 1), strings.ReplaceAll(good, "\n", "\r\n"), strings.Replace(good, "\n", " ", 1),
		strings.Replace(good, " ", "  ", 1), strings.Replace(good, " ", "\t", 1), strings.Replace(good, " ", "\n", 1), strings.Replace(good, " ", "", 1),
		strings.ToUpper(good), strings.Replace(zeros, "0", "g", 1), strings.Replace(zeros, "0", "", 1), strings.Replace(zeros, "0", "00", 1),
		strings.Replace(zeros, "0", "+", 1), strings.Replace(zeros, "00000000", "0x000000", 1), strings.Replace(zeros, "00000000", "0", 1),
		strings.Replace(zeros, "00000000 ", "", 1), strings.Replace(zeros, "00000000", "00000000 00000000", 1), zeros[:len(zeros)-10] + "\n",
	}
	for _, bad := range notKernels() {
		list = append(list, textOf(bad))
	}
	for _, text := range list {
		got, code := impl.ReadKernel(text)
		wantKernel(t, "ReadKernel", got, code, impl.Kernel{}, impl.ErrSyntax)
	}
	k, code := impl.ReadKernel(zeros)
	wantKernel(t, "ReadKernel of zeros", k, code, impl.Kernel{}, impl.OK)
}

// A text with one letter less, more or another one is that of another kernel, or of none.
func TestReadKernelWithAnotherLetter(t *testing.T) {
	g := chance(66)
	good := impl.KernelText(flatKernel(0.01))
	for range 3000 {
		at := int(g.next(uint32(len(good))))
		letter := string(" \n0123456789abcdefgAF-x"[g.next(23)])
		for _, text := range []string{good[:at] + good[at+1:], good[:at] + letter + good[at:], good[:at] + letter + good[at+1:]} {
			k, code := impl.ReadKernel(text)
			if code == impl.OK && impl.KernelText(k) != text || code != impl.OK && code != impl.ErrSyntax {
				t.Errorf("ReadKernel %q: got %d", text, code)
			}
		}
	}
}
