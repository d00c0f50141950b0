package tests

import (
	"math"
	"slices"
	"testing"

	"loop.example/g01224/impl"
)

// notCounts are numbers that no box has.
var notCounts = []int64{-1, impl.MaxDroplets + 1, math.MinInt64, math.MaxInt64}

func wantBox(t *testing.T, what string, got impl.Box, code int64, want impl.Box, wantCode int64) {
	t.Helper()
	if got != want || code != wantCode {
		t.Errorf("%s: got %v, %d, want %v, %d", what, got, code, want, wantCode)
	}
}

func wantPairsDone(t *testing.T, what string, b impl.Box, list []impl.Pair, want impl.Box, wantDone, wantCode int64) {
	t.Helper()
	got, done, code := impl.CollidePairs(b, list)
	wantBox(t, what, got, code, want, wantCode)
	wantInteger(t, what+", how many", done, code, wantDone, wantCode)
}

func fullBox(number int64) impl.Box {
	b := impl.Box{Dust: number}
	for class := range b.Counts {
		b.Counts[class] = number
	}
	return b
}

// notBoxes has boxes with one number that is wrong.
func notBoxes() []impl.Box {
	var list []impl.Box
	for _, number := range notCounts {
		list = append(list, impl.Box{Dust: number}, impl.Box{Counts: impl.Counts{5: 2}, Dust: number})
		for class := range 20 {
			b := fullBox(2)
			b.Counts[class] = number
			list = append(list, b)
		}
	}
	return list
}

// box returns a box with a few droplets of some classes.
func (c *chance) box() impl.Box {
	b := impl.Box{Dust: int64(c.next(5000))}
	for range 1 + c.next(20) {
		b.Counts[c.next(20)] = int64(c.next(8))
	}
	return b
}

// pairs returns pairs of which a few are no classes, and many come again and again.
func (c *chance) pairs(count int) []impl.Pair {
	var list []impl.Pair
	for range count {
		p := impl.Pair{I: int64(c.next(22)) - 1, J: int64(c.next(22)) - 1}
		if c.next(3) == 0 {
			p.J = p.I
		}
		if c.next(3) == 0 && len(list) > 0 {
			p = list[c.next(uint32(len(list)))]
		}
		list = append(list, p)
	}
	return list
}

// unitsModel counts the units of a box.
func unitsModel(b impl.Box) int64 {
	units := b.Dust
	mass := int64(1)
	for _, count := range b.Counts {
		units += count * mass
		mass *= 2
	}
	return units
}

// pairModel is CollidePair of a box that is valid: the greater droplet stays, the lesser one is dust, and two of one class are one of the next.
func pairModel(b impl.Box, p impl.Pair) (impl.Box, int64) {
	low, high := min(p.I, p.J), max(p.I, p.J)
	if low < 0 || high > 19 {
		return impl.Box{}, impl.ErrRange
	}
	if b.Counts[low] < 1 || b.Counts[high] < 1 || low == high && b.Counts[low] < 2 {
		return impl.Box{}, impl.ErrNotFound
	}
	b.Counts[low]--
	if low == high && low < 19 {
		b.Counts[low]--
		b.Counts[low+1]++
	} else {
		b.Dust += 1 << low
	}
	if slices.Max(append(b.Counts[:], b.Dust)) > 1000000000 {
		return impl.Box{}, impl.ErrLimit
	}
	return b, impl.OK
}

func pairsModel(b impl.Box, list []impl.Pair) (impl.Box, int64) {
	done := int64(0)
	for _, p := range list {
		if next, code := pairModel(b, p); code == impl.OK {
			b = next
			done++
		}
	}
	return b, done
}

// The example of chapter 3 for boxes.
func TestBoxesExample(t *testing.T) {
	b := impl.Box{Counts: impl.Counts{0: 3, 1: 1}}
	wantPairsDone(t, "the example", b, []impl.Pair{{I: 0, J: 0}, {I: 0, J: 1}}, impl.Box{Counts: impl.Counts{1: 2}, Dust: 1}, 2, impl.OK)
}

func TestValidBox(t *testing.T) {
	good := []impl.Box{{}, fullBox(0), fullBox(1), fullBox(impl.MaxDroplets), {Dust: impl.MaxDroplets}}
	for class := range 20 {
		b := impl.Box{}
		b.Counts[class] = impl.MaxDroplets
		good = append(good, b)
	}
	for _, b := range good {
		if !impl.ValidBox(b) {
			t.Errorf("ValidBox %v: got false", b)
		}
	}
	for _, b := range notBoxes() {
		if impl.ValidBox(b) {
			t.Errorf("ValidBox %v: got true", b)
		}
	}
}

func TestMassAndSizesOfBox(t *testing.T) {
	g := chance(90)
	list := []impl.Box{{}, {Dust: 7}, fullBox(impl.MaxDroplets), {Counts: impl.Counts{19: 1}}, {Counts: impl.Counts{0: 16777217, 3: 16777219, 19: 999999999}}}
	for range 200 {
		list = append(list, g.box())
	}
	for _, b := range list {
		mass, code := impl.MassOfBox(b)
		wantInteger(t, "MassOfBox", mass, code, unitsModel(b), impl.OK)
		var want impl.Sizes
		for class, count := range b.Counts {
			want[class] = float32(float64(count))
		}
		sizes, code := impl.SizesOfBox(b)
		wantSizes(t, "SizesOfBox", sizes, code, want, impl.OK)
	}
	mass, code := impl.MassOfBox(fullBox(impl.MaxDroplets))
	wantInteger(t, "the greatest mass", mass, code, impl.MaxDroplets*1048576, impl.OK)
	sizes, code := impl.SizesOfBox(list[4])
	wantSizes(t, "counts that are rounded", sizes, code, impl.Sizes{0: 16777216, 3: 16777220, 19: 1e9}, impl.OK)
	for _, b := range notBoxes() {
		mass, code := impl.MassOfBox(b)
		wantInteger(t, "MassOfBox", mass, code, 0, impl.ErrInvalid)
		sizes, code := impl.SizesOfBox(b)
		wantSizes(t, "SizesOfBox", sizes, code, impl.Sizes{}, impl.ErrInvalid)
	}
}

func TestCollidePairOfEachTwoClasses(t *testing.T) {
	for i := range int64(20) {
		for j := range int64(20) {
			for _, b := range []impl.Box{{Dust: 3}, fullBox(1), fullBox(2), fullBox(impl.MaxDroplets - 524288), fullBox(impl.MaxDroplets)} {
				p := impl.Pair{I: i, J: j}
				want, wantCode := pairModel(b, p)
				got, code := impl.CollidePair(b, p)
				wantBox(t, "CollidePair", got, code, want, wantCode)
				if code == impl.OK && unitsModel(got) != unitsModel(b) {
					t.Errorf("CollidePair %v: the mass is %d and then %d", p, unitsModel(b), unitsModel(got))
				}
			}
		}
	}
}

func TestCollidePair(t *testing.T) {
	const most = impl.MaxDroplets
	list := []struct {
		what string
		box  impl.Box
		i, j int64
		want impl.Box
		code int64
	}{
		{"two of the class 0", impl.Box{Counts: impl.Counts{0: 2}}, 0, 0, impl.Box{Counts: impl.Counts{1: 1}}, impl.OK},
		{"two of the class 18", impl.Box{Counts: impl.Counts{18: 2}}, 18, 18, impl.Box{Counts: impl.Counts{19: 1}}, impl.OK},
		{"two of the class 19", impl.Box{Counts: impl.Counts{19: 2}}, 19, 19, impl.Box{Counts: impl.Counts{19: 1}, Dust: 524288}, impl.OK},
		{"the classes 18 and 19", impl.Box{Counts: impl.Counts{18: 1, 19: 1}}, 18, 19, impl.Box{Counts: impl.Counts{19: 1}, Dust: 262144}, impl.OK},
		{"the classes 0 and 19", impl.Box{Counts: impl.Counts{0: 1, 19: 1}, Dust: 5}, 0, 19, impl.Box{Counts: impl.Counts{19: 1}, Dust: 6}, impl.OK},
		{"the classes 19 and 0", impl.Box{Counts: impl.Counts{0: 1, 19: 1}, Dust: 5}, 19, 0, impl.Box{Counts: impl.Counts{19: 1}, Dust: 6}, impl.OK},
		{"one of the class 0", impl.Box{Counts: impl.Counts{0: 1}}, 0, 0, impl.Box{}, impl.ErrNotFound},
		{"one of the class 19", impl.Box{Counts: impl.Counts{19: 1}}, 19, 19, impl.Box{}, impl.ErrNotFound},
		{"none of the first class", impl.Box{Counts: impl.Counts{3: 9}}, 2, 3, impl.Box{}, impl.ErrNotFound},
		{"none of the second class", impl.Box{Counts: impl.Counts{3: 9}}, 3, 4, impl.Box{}, impl.ErrNotFound},
		{"none at all", impl.Box{Dust: most}, 5, 5, impl.Box{}, impl.ErrNotFound},
		{"just the most of the next class", impl.Box{Counts: impl.Counts{3: 2, 4: most - 1}}, 3, 3, impl.Box{Counts: impl.Counts{4: most}}, impl.OK},
		{"too many of the next class", impl.Box{Counts: impl.Counts{3: 2, 4: most}}, 3, 3, impl.Box{}, impl.ErrLimit},
		{"the most of both classes", impl.Box{Counts: impl.Counts{3: most, 4: most}}, 3, 4, impl.Box{Counts: impl.Counts{3: most - 1, 4: most}, Dust: 8}, impl.OK},
		{"the most of the class 19", impl.Box{Counts: impl.Counts{19: most}}, 19, 19, impl.Box{Counts: impl.Counts{19: most - 1}, Dust: 524288}, impl.OK},
		{"just the most dust", impl.Box{Counts: impl.Counts{3: 1, 7: 1}, Dust: most - 8}, 7, 3, impl.Box{Counts: impl.Counts{7: 1}, Dust: most}, impl.OK},
		{"too much dust", impl.Box{Counts: impl.Counts{3: 1, 7: 1}, Dust: most - 7}, 7, 3, impl.Box{}, impl.ErrLimit},
		{"no dust where there is the most", impl.Box{Counts: impl.Counts{7: 2}, Dust: most}, 7, 7, impl.Box{Counts: impl.Counts{8: 1}, Dust: most}, impl.OK},
		{"not found before limit", impl.Box{Counts: impl.Counts{3: 1, 4: most}, Dust: most}, 3, 3, impl.Box{}, impl.ErrNotFound},
		{"range before not found", impl.Box{}, -1, 5, impl.Box{}, impl.ErrRange},
		{"range before not found", impl.Box{}, 5, 20, impl.Box{}, impl.ErrRange},
		{"range before limit", fullBox(most), 20, 3, impl.Box{}, impl.ErrRange},
	}
	for _, x := range list {
		got, code := impl.CollidePair(x.box, impl.Pair{I: x.i, J: x.j})
		wantBox(t, "CollidePair: "+x.what, got, code, x.want, x.code)
		done := int64(1)
		if x.code != impl.OK {
			x.want, done = x.box, 0
		}
		wantPairsDone(t, "CollidePairs: "+x.what, x.box, []impl.Pair{{I: x.i, J: x.j}}, x.want, done, impl.OK)
	}
	for _, class := range notClasses {
		for _, p := range []impl.Pair{{I: class, J: 3}, {I: 3, J: class}, {I: class, J: class}} {
			got, code := impl.CollidePair(fullBox(5), p)
			wantBox(t, "CollidePair of no class", got, code, impl.Box{}, impl.ErrRange)
		}
	}
	for _, b := range notBoxes() {
		for _, p := range []impl.Pair{{I: 3, J: 4}, {I: 3, J: 3}, {I: -1, J: 3}, {I: 3, J: 20}} {
			got, code := impl.CollidePair(b, p)
			wantBox(t, "CollidePair, invalid first", got, code, impl.Box{}, impl.ErrInvalid)
		}
	}
}

func TestCollidePairs(t *testing.T) {
	g := chance(91)
	all, none := int64(0), int64(0)
	for range 1000 {
		b, list := g.box(), g.pairs(int(g.next(150)))
		if g.next(4) == 0 {
			b.Dust = impl.MaxDroplets - int64(g.next(2000))
		}
		was := slices.Clone(list)
		want, done := pairsModel(b, list)
		wantPairsDone(t, "CollidePairs", b, list, want, done, impl.OK)
		if unitsModel(want) != unitsModel(b) {
			t.Errorf("CollidePairs %v: the mass is %d and then %d", b, unitsModel(b), unitsModel(want))
		}
		if !slices.Equal(list, was) {
			t.Errorf("%v has been modified to %v", was, list)
		}
		all, none = all+done, none+int64(len(list))-done
	}
	if all < 3000 || none < 3000 {
		t.Errorf("just %d pairs collide, and %d are left out", all, none)
	}
}

func TestCollidePairsInOrder(t *testing.T) {
	// A pair that is left out at first collides when there are such droplets.
	b := impl.Box{Counts: impl.Counts{0: 4}}
	again := []impl.Pair{{I: 1, J: 1}, {I: 1, J: 1}, {I: 0, J: 0}, {I: 1, J: 1}, {I: 0, J: 0}, {I: 0, J: 0}, {I: 1, J: 1}, {I: 1, J: 1}, {I: 2, J: 20}}
	wantPairsDone(t, "a pair again and again", b, again, impl.Box{Counts: impl.Counts{2: 1}}, 3, impl.OK)
	// What is made by the first pair is taken by the second one.
	b = impl.Box{Counts: impl.Counts{0: 2, 1: 1}}
	wantPairsDone(t, "the same first", b, []impl.Pair{{I: 0, J: 0}, {I: 0, J: 1}}, impl.Box{Counts: impl.Counts{1: 2}}, 1, impl.OK)
	wantPairsDone(t, "the same behind", b, []impl.Pair{{I: 0, J: 1}, {I: 0, J: 0}}, impl.Box{Counts: impl.Counts{0: 1, 1: 1}, Dust: 1}, 1, impl.OK)
	// Too much dust is left out, less is not.
	b = impl.Box{Counts: impl.Counts{0: 1, 3: 1, 7: 1}, Dust: impl.MaxDroplets - 2}
	wantPairsDone(t, "dust", b, []impl.Pair{{I: 3, J: 7}, {I: 0, J: 7}, {I: 3, J: 7}}, impl.Box{Counts: impl.Counts{3: 1, 7: 1}, Dust: impl.MaxDroplets - 1}, 1, impl.OK)
}

func TestHowManyPairs(t *testing.T) {
	b := impl.Box{Counts: impl.Counts{0: 2000}}
	wantPairsDone(t, "no pairs", b, nil, b, 0, impl.OK)
	wantPairsDone(t, "no pairs", b, []impl.Pair{}, b, 0, impl.OK)
	wantPairsDone(t, "the most pairs", b, make([]impl.Pair, impl.MaxPairs), impl.Box{Counts: impl.Counts{1: 1000}}, 1000, impl.OK)
	b.Counts[0] = 1999
	wantPairsDone(t, "a pair too many for the box", b, make([]impl.Pair, impl.MaxPairs), impl.Box{Counts: impl.Counts{0: 1, 1: 999}}, 999, impl.OK)
	for _, count := range []int{impl.MaxPairs + 1, 1000000} {
		list := make([]impl.Pair, count)
		wantPairsDone(t, "too many pairs", b, list, impl.Box{}, 0, impl.ErrRange)
		for _, bad := range notBoxes() {
			wantPairsDone(t, "invalid before range", bad, list, impl.Box{}, 0, impl.ErrInvalid)
			wantPairsDone(t, "invalid, and no pairs", bad, nil, impl.Box{}, 0, impl.ErrInvalid)
		}
	}
}

// drawModel is DrawPairs of a box with droplets: it looks for the next class in a list of those that there are, and of the first one again.
func drawModel(b impl.Box, seed uint32, count int64) ([]impl.Pair, uint32) {
	var there []int64
	for class := range int64(40) {
		if b.Counts[class%20] > 0 {
			there = append(there, class)
		}
	}
	draw := func() int64 {
		seed = uint32((1664525*uint64(seed) + 1013904223) % (1 << 32))
		from := int64(seed>>16) % 20
		at := slices.IndexFunc(there, func(class int64) bool { return class >= from })
		return there[at] % 20
	}
	var list []impl.Pair
	for range count {
		i := draw()
		list = append(list, impl.Pair{I: i, J: draw()})
	}
	return list, seed
}

func wantDrawn(t *testing.T, what string, b impl.Box, seed uint32, count int64, want []impl.Pair, wantSeed uint32, wantCode int64) {
	t.Helper()
	got, last, code := impl.DrawPairs(b, seed, count)
	if !slices.Equal(got, want) || last != wantSeed || code != wantCode {
		t.Errorf("%s: got %v, %d, %d, want %v, %d, %d", what, got, last, code, want, wantSeed, wantCode)
	}
}

// drawnPairs have been found by another program.
var drawnPairs = []struct {
	counts impl.Counts
	seed   uint32
	pairs  []impl.Pair
	last   uint32
}{
	{fullBox(1).Counts, 1, []impl.Pair{{I: 16, J: 0}, {I: 6, J: 15}, {I: 12, J: 16}, {I: 14, J: 10}, {I: 0, J: 13}, {I: 13, J: 0}}, 1814098701},
	{fullBox(1).Counts, 0, []impl.Pair{{I: 10, J: 16}, {I: 8, J: 9}, {I: 10, J: 10}, {I: 6, J: 5}, {I: 17, J: 8}, {I: 14, J: 17}}, 3167820124},
	{fullBox(1).Counts, 12345, []impl.Pair{{I: 17, J: 4}, {I: 16, J: 9}, {I: 19, J: 10}, {I: 18, J: 16}, {I: 6, J: 4}, {I: 11, J: 5}}, 3194601925},
	{fullBox(1).Counts, math.MaxUint32, []impl.Pair{{I: 5, J: 11}, {I: 15, J: 3}, {I: 9, J: 4}, {I: 13, J: 0}, {I: 14, J: 3}, {I: 18, J: 17}}, 226574251},
	{impl.Counts{2: 3, 6: 1}, 1, []impl.Pair{{I: 2, J: 2}, {I: 6, J: 2}, {I: 2, J: 2}, {I: 2, J: 2}, {I: 2, J: 2}, {I: 2, J: 2}}, 1814098701},
	{impl.Counts{2: 3, 6: 1}, 0, []impl.Pair{{I: 2, J: 2}, {I: 2, J: 2}, {I: 2, J: 2}, {I: 6, J: 6}, {I: 2, J: 2}, {I: 2, J: 2}}, 3167820124},
	{impl.Counts{2: 3, 6: 1}, 12345, []impl.Pair{{I: 2, J: 6}, {I: 2, J: 2}, {I: 2, J: 2}, {I: 2, J: 2}, {I: 6, J: 6}, {I: 2, J: 6}}, 3194601925},
	{impl.Counts{2: 3, 6: 1}, math.MaxUint32, []impl.Pair{{I: 6, J: 2}, {I: 2, J: 6}, {I: 2, J: 6}, {I: 2, J: 2}, {I: 2, J: 6}, {I: 2, J: 2}}, 226574251},
}

func TestDrawPairs(t *testing.T) {
	for _, x := range drawnPairs {
		wantDrawn(t, "pairs of another program", impl.Box{Counts: x.counts}, x.seed, 6, x.pairs, x.last, impl.OK)
	}
	g := chance(92)
	for range 300 {
		b, seed, count := g.box(), g.next(65536)<<16|g.next(65536), int64(g.next(40))
		b.Counts[g.next(20)]++
		want, last := drawModel(b, seed, count)
		wantDrawn(t, "DrawPairs", b, seed, count, want, last, impl.OK)
		rest, end := drawModel(b, last, 1000-count)
		wantDrawn(t, "the rest of the pairs", b, last, 1000-count, rest, end, impl.OK)
		wantDrawn(t, "the most pairs at once", b, seed, impl.MaxPairs, append(want, rest...), end, impl.OK)
	}
}

func TestDrawPairsOfOneClass(t *testing.T) {
	for class := range int64(20) {
		for _, count := range []int64{1, 2, impl.MaxDroplets} {
			b := impl.Box{}
			b.Counts[class] = count
			want := slices.Repeat([]impl.Pair{{I: class, J: class}}, 50)
			_, last := drawModel(b, 7, 50)
			wantDrawn(t, "one class alone", b, 7, 50, want, last, impl.OK)
		}
	}
}

func TestDrawPairsAtTheEnds(t *testing.T) {
	for _, b := range []impl.Box{{}, {Dust: impl.MaxDroplets}, fullBox(3)} {
		for _, seed := range []uint32{0, 1, math.MaxUint32} {
			wantDrawn(t, "no pairs", b, seed, 0, nil, seed, impl.OK)
			for _, count := range []int64{-1, impl.MaxPairs + 1, math.MinInt64, math.MaxInt64} {
				wantDrawn(t, "too many pairs", b, seed, count, nil, 0, impl.ErrRange)
			}
		}
	}
	for _, count := range []int64{1, impl.MaxPairs} {
		wantDrawn(t, "no droplets", impl.Box{}, 1, count, nil, 0, impl.ErrNotFound)
		wantDrawn(t, "dust alone", impl.Box{Dust: impl.MaxDroplets}, 1, count, nil, 0, impl.ErrNotFound)
	}
	for _, bad := range notBoxes() {
		for _, count := range []int64{-1, 0, 1, impl.MaxPairs + 1} {
			wantDrawn(t, "invalid first", bad, 1, count, nil, 0, impl.ErrInvalid)
		}
	}
	one, _, _ := impl.DrawPairs(fullBox(1), 5, 10)
	two, _, _ := impl.DrawPairs(fullBox(1), 5, 10)
	one[0].I = 77
	if two[0].I == 77 {
		t.Error("two lists of pairs share their memory")
	}
}

func wantGathered(t *testing.T, what string, b, want impl.Box, wantCode int64) {
	t.Helper()
	got, code := impl.GatherDust(b)
	wantBox(t, what, got, code, want, wantCode)
}

func TestGatherDust(t *testing.T) {
	for class := range 20 {
		mass := int64(1) << class
		one, all := impl.Box{}, impl.Box{}
		one.Counts[class] = 1
		wantGathered(t, "just enough for a droplet", impl.Box{Dust: mass}, one, impl.OK)
		for less := range class {
			all.Counts[less] = 1
		}
		wantGathered(t, "one unit less", impl.Box{Dust: mass - 1}, all, impl.OK)
		one.Counts[0] = 1
		wantGathered(t, "one unit more", impl.Box{Dust: mass | 1}, one, impl.OK)
	}
	wantGathered(t, "nothing", impl.Box{}, impl.Box{}, impl.OK)
	full := impl.Box{Counts: fullBox(impl.MaxDroplets).Counts}
	wantGathered(t, "no dust", full, full, impl.OK)
	wantGathered(t, "dust for several ones", impl.Box{Counts: impl.Counts{0: 2, 19: 5}, Dust: 3*524288 + 5}, impl.Box{Counts: impl.Counts{0: 3, 2: 1, 19: 8}}, impl.OK)
	g := chance(93)
	for range 500 {
		b := g.box()
		b.Dust = int64(g.next(65536)) * int64(g.next(15000))
		want := impl.Box{Counts: b.Counts}
		want.Counts[19] += b.Dust >> 19
		for class := range 19 {
			want.Counts[class] += b.Dust >> class & 1
		}
		wantGathered(t, "GatherDust", b, want, impl.OK)
		if unitsModel(b) != unitsModel(want) {
			t.Errorf("GatherDust %v: the mass is %d and then %d", b, unitsModel(b), unitsModel(want))
		}
	}
}

func TestGatherDustLimits(t *testing.T) {
	const most = impl.MaxDroplets
	for class := range 20 {
		b := impl.Box{Dust: 1 << class}
		b.Counts[class] = most - 1
		want := impl.Box{}
		want.Counts[class] = most
		wantGathered(t, "just the most", b, want, impl.OK)
		b.Counts[class] = most
		wantGathered(t, "too many", b, impl.Box{}, impl.ErrLimit)
		wantGathered(t, "too many everywhere", fullBox(most), impl.Box{}, impl.ErrLimit)
	}
	wantGathered(t, "the most of another class", impl.Box{Counts: impl.Counts{4: most}, Dust: 8}, impl.Box{Counts: impl.Counts{3: 1, 4: most}}, impl.OK)
	var rest impl.Counts
	for class := range 20 {
		rest[class] = most >> class & 1
	}
	rest[19] = most >> 19
	wantGathered(t, "the most dust", impl.Box{Dust: most}, impl.Box{Counts: rest}, impl.OK)
	for _, bad := range notBoxes() {
		wantGathered(t, "invalid", bad, impl.Box{}, impl.ErrInvalid)
	}
	wantGathered(t, "invalid before limit", impl.Box{Counts: impl.Counts{0: most, 1: -1}, Dust: 1}, impl.Box{}, impl.ErrInvalid)
}
