package tests

import (
	"math"
	"slices"
	"sync"
	"testing"

	"loop.example/g01224/impl"
)

func sameLists(a, b []float32) bool { return slices.EqualFunc(a, b, sameNumbers) }

func wantNumbers(t *testing.T, what string, got []float32, code int64, want []float32, wantCode int64) {
	t.Helper()
	if !sameLists(got, want) || code != wantCode {
		t.Errorf("%s: got %v, %d, want %v, %d", what, got, code, want, wantCode)
	}
}

// linesModel is LinesOf valid pulses, but for errors.
func linesModel(list []complex64) []float32 {
	n := float32(len(list))
	var lines []float32
	for k := range list {
		var across, up []float32
		for j, pulse := range list {
			product := productModel(pulse, impl.UnitAt(-over(float32(j*k), n)))
			across, up = append(across, real(product)), append(up, imag(product))
		}
		lines = append(lines, over(squareModel(complex(total(across), total(up))), n))
	}
	return lines
}

func TestLinesOf(t *testing.T) {
	g := chance(330)
	list := pulsesAtTheEnds()
	for count := 1; count <= 64; count++ {
		list = append(list, g.pulses(count))
	}
	for range 100 {
		list = append(list, g.somePulses())
	}
	for _, pulses := range list {
		lines, code := impl.LinesOf(pulses)
		loudest, loudCode := impl.LoudestLine(pulses)
		want := linesModel(pulses)
		if !finiteResult(want) {
			wantNumbers(t, "LinesOf", lines, code, nil, impl.ErrState)
			wantInteger(t, "LoudestLine", loudest, loudCode, 0, impl.ErrState)
			continue
		}
		wantNumbers(t, "LinesOf", lines, code, want, impl.OK)
		wantInteger(t, "LoudestLine", loudest, loudCode, int64(slices.Index(want, slices.Max(want))), impl.OK)
	}
}

func TestLinesOfFewPulses(t *testing.T) {
	for _, x := range []struct {
		list    []complex64
		lines   []float32
		loudest int64
	}{
		{reals(3), []float32{9}, 0}, {[]complex64{complex(3, 4)}, []float32{25}, 0}, {reals(minus0), []float32{0}, 0},
		{reals(1, 1), []float32{2, 0}, 0}, {reals(1, -1), []float32{0, 2}, 1}, {reals(2, 0), []float32{2, 2}, 0}, {reals(0, 2), []float32{2, 2}, 0},
		{reals(0, 0, 0, 0), []float32{0, 0, 0, 0}, 0}, {reals(1, 0, 0, 0), []float32{0.25, 0.25, 0.25, 0.25}, 0},
		{reals(1, 0, -1, 0), []float32{0, 1, 0, 1}, 1}, {[]complex64{1, complex(0, 1), -1, complex(0, -1)}, []float32{0, 4, 0, 0}, 1},
		{[]complex64{1, complex(0, -1), -1, complex(0, 1)}, []float32{0, 0, 0, 4}, 3}, {reals(1, -1, 1, -1), []float32{0, 0, 4, 0}, 2},
	} {
		lines, code := impl.LinesOf(x.list)
		wantNumbers(t, "LinesOf", lines, code, x.lines, impl.OK)
		loudest, code := impl.LoudestLine(x.list)
		wantInteger(t, "LoudestLine", loudest, code, x.loudest, impl.OK)
	}
}

func TestLinesOfErrors(t *testing.T) {
	want := func(list []complex64, wantCode int64) {
		t.Helper()
		lines, code := impl.LinesOf(list)
		wantNumbers(t, "LinesOf", lines, code, nil, wantCode)
		loudest, code := impl.LoudestLine(list)
		wantInteger(t, "LoudestLine", loudest, code, 0, wantCode)
	}
	for _, bad := range notPulses() {
		want(bad, impl.ErrInvalid)
	}
	for _, list := range [][]complex64{reals(1e20), reals(greatest), reals(greatest, greatest), reals(1, 1e20), reals(1e20, 1e20, 1e20), reals(greatest, -greatest), equalPulses(64, 1e18), {complex(0, 1e20)}} {
		want(list, impl.ErrState)
	}
	lines, code := impl.LinesOf(equalPulses(64, 1e17))
	if len(lines) != 64 || code != impl.OK {
		t.Errorf("LinesOf: got %v, %d", lines, code)
	}
}

// Promise 11: the lines of pulses are in sum their power times their number, nearly.
func TestLinesHaveThePowerOfPulses(t *testing.T) {
	g := chance(331)
	for range 300 {
		list := g.somePulses()
		lines, code := impl.LinesOf(list)
		wantInteger(t, "LinesOf", code, 0, impl.OK, 0)
		power, code := impl.PowerOf(list)
		wantInteger(t, "PowerOf", code, 0, impl.OK, 0)
		sum := 0.0
		for _, line := range lines {
			sum += float64(line)
		}
		if math.Abs(sum-float64(power)*float64(len(list))) > 1e-4*sum {
			t.Errorf("the power %v of %d pulses has the lines %v", power, len(list), sum)
		}
	}
}

// The loudest line tells how pulses turn.
func TestTheLoudestLineTurnsAsPulses(t *testing.T) {
	for _, count := range []int64{1, 2, 3, 8, 31, 64} {
		for line := range count {
			list, code := impl.PulsesOf(3, 0.3, float32(line)/float32(count), count)
			wantInteger(t, "PulsesOf", code, 0, impl.OK, 0)
			loudest, code := impl.LoudestLine(list)
			wantInteger(t, "LoudestLine", loudest, code, line, impl.OK)
		}
	}
}

// Lines do not depend on what is called at the same time.
func TestLinesOfAtTheSameTime(t *testing.T) {
	g := chance(332)
	list := g.pulses(64)
	want := linesModel(list)
	var group sync.WaitGroup
	found := make([][]float32, 50)
	for index := range found {
		group.Go(func() { found[index], _ = impl.LinesOf(list) })
	}
	group.Wait()
	for _, lines := range found {
		wantNumbers(t, "LinesOf", lines, impl.OK, want, impl.OK)
	}
}
