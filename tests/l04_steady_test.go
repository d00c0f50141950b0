package tests

import (
	"math"
	"slices"
	"testing"

	"loop.example/g01224/impl"
)

// unsteadyModel is the index of the first of two levels that are unsteady, or -1.
func unsteadyModel(s []impl.Level) int {
	for index := 1; index < len(s); index++ {
		fall := minus(s[index-1].Air.Heat, s[index].Air.Heat)
		if fall > times(10, minus(s[index].Height, s[index-1].Height)) {
			return index - 1
		}
	}
	return -1
}

// steadyModel is SteadySounding of a valid sounding, without its limit of rounds if most is greater.
func steadyModel(s []impl.Level, most int) ([]impl.Level, int, int64) {
	s = slices.Clone(s)
	for rounds := 0; ; rounds++ {
		index := unsteadyModel(s)
		if index < 0 {
			return s, rounds, impl.OK
		}
		if rounds == most {
			return nil, 0, impl.ErrBudget
		}
		low, high := &s[index], &s[index+1]
		depth := minus(high.Height, low.Height)
		middle := times(0.5, plus(low.Air.Heat, high.Air.Heat))
		vapour := times(0.5, plus(low.Air.Vapour, high.Air.Vapour))
		low.Air = impl.Air{Heat: plus(middle, times(5, depth)), Vapour: vapour}
		high.Air = impl.Air{Heat: minus(middle, times(5, depth)), Vapour: vapour}
	}
}

func wantSteady(t *testing.T, what string, s, want []impl.Level, wantRounds, wantCode int64) {
	t.Helper()
	got, rounds, code := impl.SteadySounding(s)
	wantSounding(t, what, got, code, want, wantCode)
	wantInteger(t, what+", the rounds", rounds, code, wantRounds, wantCode)
}

func wantUnsteady(t *testing.T, what string, s []impl.Level, want, wantCode int64) {
	t.Helper()
	got, code := impl.FirstUnsteady(s)
	wantInteger(t, what, got, code, want, wantCode)
}

func TestFirstUnsteady(t *testing.T) {
	g := chance(240)
	found, none := 0, 0
	for range 2000 {
		s := g.sounding()
		if want := unsteadyModel(s); want >= 0 {
			wantUnsteady(t, "FirstUnsteady", s, int64(want), impl.OK)
			found++
			continue
		}
		wantUnsteady(t, "FirstUnsteady of a steady one", s, 0, impl.ErrNotFound)
		none++
	}
	if found < 500 || none < 20 {
		t.Errorf("%d soundings are unsteady, %d not", found, none)
	}
	long := manyLevels(32, 0.5)
	long[31].Air.Heat = 14
	wantUnsteady(t, "the last two of many", long, 30, impl.OK)
	long[0].Air.Heat = 26
	wantUnsteady(t, "the first two of many", long, 0, impl.OK)
	for _, s := range notSoundings() {
		wantUnsteady(t, "no sounding", s, 0, impl.ErrInvalid)
	}
}

func TestJustUnsteady(t *testing.T) {
	for _, x := range []struct{ low, depth, high float32 }{{20, 1, 10}, {20, 0.5, 15}, {60, 12, -60}, {0, 6, -60}, {5, 0.5, 0}} {
		just := levels(0, x.low, 8, x.depth, x.high, 4)
		wantUnsteady(t, "just steady", just, 0, impl.ErrNotFound)
		wantSteady(t, "just steady", just, just, 0, impl.OK)
		just[1].Air.Heat = math.Nextafter32(x.high, 60)
		wantUnsteady(t, "a bit warmer than just steady", just, 0, impl.ErrNotFound)
		just[1] = impl.Level(parcel(math.Nextafter32(x.depth, 0), x.high, 4))
		wantUnsteady(t, "just unsteady", just, 0, impl.OK)
		made, rounds, code := steadyModel(just, 200)
		wantSteady(t, "just unsteady", just, made, int64(rounds), code)
	}
	wantUnsteady(t, "just unsteady", levels(0, 20, 8, 1, math.Nextafter32(10, 0), 4), 0, impl.OK)
	wantUnsteady(t, "just unsteady", levels(0, math.Nextafter32(20, 21), 8, 1, 10, 4), 0, impl.OK)
	wantUnsteady(t, "just steady behind", levels(0, 20, 8, 1, 10, 4, 2, 0, 4, 3, math.Nextafter32(-10, 0), 2), 0, impl.ErrNotFound)
	wantUnsteady(t, "just unsteady behind", levels(0, 20, 8, 1, 10, 4, 2, 0, 4, 3, math.Nextafter32(-10, -11), 2), 2, impl.OK)
	wantUnsteady(t, "levels of the same heat", levels(0, 20, 8, smallest, 20, 4), 0, impl.ErrNotFound)
	wantUnsteady(t, "levels of nearly the same height", levels(0, 20, 8, smallest, math.Nextafter32(20, 0), 4), 0, impl.OK)
	wantUnsteady(t, "levels that get warmer", levels(0, -60, 8, smallest, 60, 4), 0, impl.ErrNotFound)
}

func TestSteadySounding(t *testing.T) {
	wantSteady(t, "two levels", levels(0, 40, 8, 2, 0, 4), levels(0, 30, 6, 2, 10, 6), 1, impl.OK)
	wantSteady(t, "two levels behind two", levels(0, 10, 8, 1, 40, 8, 3, 0, 4), levels(0, 10, 8, 1, 30, 6, 3, 10, 6), 1, impl.OK)
	wantSteady(t, "the ends", levels(0, 60, 1000, 1, -60, 1000), levels(0, 5, 1000, 1, -5, 1000), 1, impl.OK)
	wantSteady(t, "at the heat 60", levels(0, 60, 1000, 11.5, -60, 0), levels(0, 57.5, 500, 11.5, -57.5, 500), 1, impl.OK)
	g := chance(241)
	codes := map[int64]int{}
	for range 2500 {
		s := g.sounding()
		if count := 2 + int(g.next(6)); g.next(2) == 0 && count < len(s) {
			s = s[:count]
		}
		want, rounds, code := steadyModel(s, 200)
		wantSteady(t, "SteadySounding", s, want, int64(rounds), code)
		codes[code]++
		if code != impl.OK {
			continue
		}
		wantUnsteady(t, "a sounding that has been made steady", want, 0, impl.ErrNotFound)
		wantSteady(t, "a sounding that has been made steady", want, want, 0, impl.OK)
	}
	if codes[impl.OK] < 200 || codes[impl.ErrBudget] < 200 {
		t.Errorf("so many codes: %v", codes)
	}
}

func TestSteadySoundingIsNowhereUnsteady(t *testing.T) {
	g := chance(242)
	for range 1000 {
		s := g.sounding()
		steady, _, code := impl.SteadySounding(s)
		if code != impl.OK {
			continue
		}
		wantUnsteady(t, "SteadySounding", steady, 0, impl.ErrNotFound)
		for index := range s {
			if steady[index].Height != s[index].Height {
				t.Errorf("SteadySounding %v: got other heights, %v", s, steady)
			}
		}
	}
}

// roundTexts have been found by another program, with the numbers of rounds beside the limit.
var roundTexts = []struct {
	s      []impl.Level
	rounds int64
	text   string
}{
	{levels(0, 60, 10, 1, 49, 5, 2, 38, 10.0/3, 3, 27, 2.5), 166, "00000000 426a0000 40a6aab8\n3f800000 42420000 40a6aaaa\n40000000 421a0000 40a6aaa3\n40400000 41e40000 40a6aaa3\n"},
	{levels(9, 15, 12, 18, 58, 15, 19, 25, 20, 20, -21, 12, 24, -32, 4), 198, "41100000 41700000 41400000\n41900000 41f00002 414c0006\n41980000 41a00002 414bffff\n41a00000 41200004 414bffff\n41c00000 c1efffff 414bfff8\n"},
	{levels(4, 45, 0, 10, 60, 25, 12, 40, 5, 14, 55, 8, 16, -52, 26), 199, "40800000 42340000 00000000\n41200000 425f0004 41800000\n41400000 420f0004 41800000\n41600000 417c000f 41800000\n41800000 c087ffe2 41800000\n"},
	{levels(19, 45, 0, 23, 5, 21, 24, -47, 5, 25, -36, 26, 29, 9, 18), 200, "41980000 41ea0000 414ffffe\n41b80000 c12c0000 414ffffe\n41c00000 c1a60000 41500002\n41c80000 c1f60000 41500002\n41e80000 41100000 41900000\n"},
}

func TestSteadySoundingRounds(t *testing.T) {
	for _, x := range roundTexts {
		want, code := impl.ReadSounding(x.text)
		if code != impl.OK {
			t.Fatalf("ReadSounding: got %d", code)
		}
		wantSteady(t, "many rounds", x.s, want, x.rounds, impl.OK)
	}
	for _, x := range []struct {
		s      []impl.Level
		rounds int
	}{
		{levels(3, 59, 24, 6, 58, 7, 8, -58, 12, 12, -47, 25), 201},
		{levels(22, 49, 20, 23, 1, 24, 25, 28, 16, 27, 6, 6, 28, 20, 28, 29, -51, 9), 202},
	} {
		wantSteady(t, "too many rounds", x.s, nil, 0, impl.ErrBudget)
		if _, rounds, code := steadyModel(x.s, 1000); rounds != x.rounds || code != impl.OK {
			t.Errorf("%v needs %d rounds, %d", x.s, rounds, code)
		}
	}
	// By roundings, two levels can stay a bit too different for ever.
	never := levels(9.943764686584473, -1.6713151931762695, 54.22937774658203, 12.586074829101562, -35.24374008178711, 81.18878936767578)
	wantSteady(t, "levels that stay unsteady", never, nil, 0, impl.ErrBudget)
	if _, _, code := steadyModel(never, 10000); code != impl.ErrBudget {
		t.Error("levels that stay unsteady become steady")
	}
	for _, s := range notSoundings() {
		wantSteady(t, "no sounding", s, nil, 0, impl.ErrInvalid)
	}
}
