package tests

import (
	"math"
	"slices"
	"testing"

	"loop.example/g01224/impl"
)

func echo(x, y int16, power float32, seen int64) impl.EchoCell {
	return impl.EchoCell{At: impl.Spot{x, y}, Power: power, Seen: seen}
}

func sameCells(a, b impl.EchoCell) bool {
	return a.At == b.At && sameNumbers(a.Power, b.Power) && a.Seen == b.Seen
}

func wantCell(t *testing.T, what string, got impl.EchoCell, code int64, want impl.EchoCell, wantCode int64) {
	t.Helper()
	if !sameCells(got, want) || code != wantCode {
		t.Errorf("%s: got %v, %d, want %v, %d", what, got, code, want, wantCode)
	}
}

func wantMap(t *testing.T, what string, got []impl.EchoCell, code int64, want []impl.EchoCell, wantCode int64) {
	t.Helper()
	if !slices.EqualFunc(got, want, sameCells) || code != wantCode {
		t.Errorf("%s: got %v, %d, want %v, %d", what, got, code, want, wantCode)
	}
}

// rowOfCells has so many cells beside each other, from a first coordinate on.
func rowOfCells(first int16, count int) []impl.EchoCell {
	var list []impl.EchoCell
	for index := range count {
		list = append(list, echo(first+int16(index), 0, 1, 1))
	}
	return list
}

// notMaps has maps with one mistake.
func notMaps() [][]impl.EchoCell {
	list := [][]impl.EchoCell{
		rowOfCells(0, 401), rowOfCells(-500, 1000),
		{echo(1, 0, 1, 1), echo(0, 0, 1, 1)}, {echo(0, 1, 1, 1), echo(0, 0, 1, 1)}, {echo(0, 0, 1, 1), echo(0, 0, 1, 1)}, {echo(0, 0, 1, 1), echo(0, 0, 2, 3)},
		{echo(1, 0, 1, 1), echo(0, 9, 1, 1)}, {echo(-1, 0, 1, 1), echo(-2, 0, 1, 1)}, {echo(0, -1, 1, 1), echo(0, -2, 1, 1)},
		{echo(0, 0, 1, 1), echo(1, 0, 1, 1), echo(1, 0, 1, 1)}, {echo(0, 0, 1, 1), echo(2, 0, 1, 1), echo(1, 0, 1, 1)},
	}
	var bad []impl.EchoCell
	for _, far := range []int16{1001, -1001, math.MaxInt16, math.MinInt16} {
		bad = append(bad, echo(far, 0, 1, 1), echo(0, far, 1, 1), echo(far, far, 1, 1))
	}
	for _, power := range notAmounts {
		bad = append(bad, echo(0, 0, power, 1))
	}
	for _, seen := range []int64{math.MinInt64, -1, 0, 1000001, math.MaxInt64} {
		bad = append(bad, echo(0, 0, 1, seen))
	}
	for _, cell := range bad {
		list = append(list, []impl.EchoCell{cell})
		three := []impl.EchoCell{echo(-1000, -1000, 1, 1), cell, echo(1000, 1000, 1, 1)}
		slices.SortFunc(three, func(a, b impl.EchoCell) int { return slices.Compare(a.At[:], b.At[:]) })
		list = append(list, three)
	}
	return list
}

// mapsAtTheEnds has valid maps.
func mapsAtTheEnds() [][]impl.EchoCell {
	return [][]impl.EchoCell{
		nil, {}, {echo(0, 0, 0, 1)}, rowOfCells(-200, 400), rowOfCells(601, 400), rowOfCells(-1000, 400),
		{echo(-1000, -1000, smallest, 1), echo(-1000, 1000, greatest, 1000000), echo(1000, -1000, 1, 999999), echo(1000, 1000, 0, 2)},
		{echo(-1, 5, 1, 1), echo(0, -5, 1, 1), echo(0, 5, 1, 1), echo(1, -5, 1, 1)}, {echo(5, 5, 1, 1000000)},
		{echo(-2, 0, 1, 1), echo(-1, 0, 1, 1), echo(0, -2, 1, 1), echo(0, -1, 1, 1), echo(0, 0, 1, 1), echo(0, 1, 1, 1)},
	}
}

func TestValidEchoMap(t *testing.T) {
	for _, list := range mapsAtTheEnds() {
		if !impl.ValidEchoMap(list) {
			t.Errorf("ValidEchoMap %v: got false", list)
		}
	}
	for _, list := range notMaps() {
		if impl.ValidEchoMap(list) {
			t.Errorf("ValidEchoMap %v: got true", list)
		}
	}
}

// spotBits have been found by another program.
var spotBits = []struct {
	turns uint32
	gate  int64
	at    impl.Spot
}{
	{0x00000000, 3, impl.Spot{3, 0}}, {0x3e800000, 3, impl.Spot{0, 3}}, {0x3f000000, 32, impl.Spot{-32, 0}}, {0x3e000000, 32, impl.Spot{23, 23}},
	{0x3e000000, 1, impl.Spot{1, 1}}, {0x3daaaaa6, 1, impl.Spot{1, 0}}, {0x3daaaab4, 1, impl.Spot{1, 1}}, {0x3e2aaaa6, 1, impl.Spot{1, 1}},
	{0x3e2aaaad, 1, impl.Spot{0, 1}}, {0x3f666666, 17, impl.Spot{14, -10}}, {0xbebd70a4, 29, impl.Spot{-20, -21}}, {0x447a2ccd, 31, impl.Spot{-10, -29}},
	{0xbec0bdc8, 15, impl.Spot{-11, -11}}, {0x3f7654f7, 22, impl.Spot{21, -5}}, {0x3fa71035, 29, impl.Spot{-10, 27}}, {0x3f1a96f2, 9, impl.Spot{-7, -5}},
	{0xbfe37a58, 2, impl.Spot{0, 2}}, {0x3f9a73c3, 21, impl.Spot{6, 20}}, {0x3fad469a, 8, impl.Spot{-5, 6}}, {0x3ff66d04, 8, impl.Spot{7, -4}},
	{0x3f058764, 26, impl.Spot{-26, -4}}, {0xbfc967b6, 27, impl.Spot{-24, 12}}, {0xbf020ce9, 3, impl.Spot{-3, 0}}, {0x3fb080f6, 18, impl.Spot{-13, 12}},
	// Products that are halfway between two integers, and others that are so as narrow numbers only.
	{0x3e00ea48, 32, impl.Spot{22, 23}}, {0x3e1f05f3, 32, impl.Spot{18, 26}}, {0x3ca366ef, 20, impl.Spot{20, 2}}, {0x3d24b8d0, 2, impl.Spot{2, 0}},
	{0x3ddc0f04, 4, impl.Spot{3, 2}}, {0x3e11f87e, 4, impl.Spot{2, 3}}, {0x3e0d1412, 27, impl.Spot{18, 21}}, {0x3ce88cca, 31, impl.Spot{31, 6}},
	{0x3e14d9a0, 9, impl.Spot{6, 7}}, {0x3d082d83, 23, impl.Spot{22, 5}}, {0x3d029914, 25, impl.Spot{24, 5}}, {0x3e3e3381, 14, impl.Spot{6, 13}},
}

func spotModel(turns float32, gate int64) impl.Spot {
	unit := impl.UnitAt(turns)
	return impl.Spot{int16(nearestModel(times(float32(gate), real(unit)))), int16(nearestModel(times(float32(gate), imag(unit))))}
}

func wantSpot(t *testing.T, turns float32, gate int64, want impl.Spot, wantCode int64) {
	t.Helper()
	at, code := impl.SpotOf(turns, gate)
	if at != want || code != wantCode {
		t.Errorf("SpotOf %v, %d: got %v, %d, want %v, %d", turns, gate, at, code, want, wantCode)
	}
}

func TestSpotOf(t *testing.T) {
	for _, x := range spotBits {
		wantSpot(t, bitsNumber(x.turns), x.gate, x.at, impl.OK)
	}
	for gate := int64(0); gate <= 32; gate++ {
		for eighth := float32(-20); eighth <= 20; eighth++ {
			wantSpot(t, eighth/8, gate, spotModel(eighth/8, gate), impl.OK)
		}
		for turns, at := range map[float32]impl.Spot{0: {int16(gate), 0}, 0.25: {0, int16(gate)}, 0.5: {-int16(gate), 0}, -0.25: {0, -int16(gate)}, greatest: {int16(gate), 0}} {
			wantSpot(t, turns, gate, at, impl.OK)
		}
	}
	g := chance(350)
	for range 5000 {
		turns, gate := g.angle(), int64(g.next(33))
		wantSpot(t, turns, gate, spotModel(turns, gate), impl.OK)
	}
	wantSpot(t, minus0, 5, impl.Spot{5, 0}, impl.OK)
}

func TestSpotOfErrors(t *testing.T) {
	for _, gate := range []int64{math.MinInt64, -32, -1, 33, 34, 1000, 1 << 32, math.MaxInt64} {
		for _, turns := range []float32{0, 0.3, noNumber} {
			wantSpot(t, turns, gate, impl.Spot{}, impl.ErrRange)
		}
	}
	for _, gate := range []int64{0, 1, 32} {
		for _, turns := range []float32{infinite, -infinite, noNumber} {
			wantSpot(t, turns, gate, impl.Spot{}, impl.ErrRange)
		}
	}
}

// beamModel is AddBeam of good arguments, but for ErrLimit: each cell that is made is put before the first greater one.
func beamModel(list []impl.EchoCell, turns float32, powers []float32) []impl.EchoCell {
	cells := slices.Clone(list)
	for index, power := range powers {
		at := spotModel(turns, int64(index+1))
		place := 0
		for place < len(cells) && (cells[place].At[0] < at[0] || cells[place].At[0] == at[0] && cells[place].At[1] < at[1]) {
			place++
		}
		if place == len(cells) || cells[place].At != at {
			cells = slices.Insert(cells, place, impl.EchoCell{At: at, Power: power, Seen: 1})
			continue
		}
		cell := &cells[place]
		if cell.Seen < 1000000 {
			cell.Seen++
		}
		cell.Power = plus(cell.Power, over(minus(power, cell.Power), float32(cell.Seen)))
	}
	return cells
}

func (c *chance) powers() []float32 {
	var powers []float32
	for range c.next(33) {
		powers = append(powers, c.amount())
	}
	return powers
}

func TestAddBeam(t *testing.T) {
	g := chance(351)
	for range 200 {
		var list []impl.EchoCell
		for range 1 + g.next(12) {
			turns, powers := g.share(), g.powers()
			want := beamModel(list, turns, powers)
			if len(want) > 400 {
				break
			}
			got, code := impl.AddBeam(list, turns, powers)
			wantMap(t, "AddBeam", got, code, want, impl.OK)
			if !impl.ValidEchoMap(got) {
				t.Errorf("AddBeam: %v is not valid", got)
			}
			list = got
		}
	}
	for _, list := range mapsAtTheEnds() {
		got, code := impl.AddBeam(list, 0.3, nil)
		wantMap(t, "AddBeam of no powers", got, code, list, impl.OK)
		got, code = impl.AddBeam(list, 0.3, []float32{})
		wantMap(t, "AddBeam of no powers", got, code, list, impl.OK)
	}
}

// The cells of five beams have been found by another program.
func TestFiveBeams(t *testing.T) {
	var list []impl.EchoCell
	for _, x := range []struct {
		turns  float32
		powers []float32
	}{
		{0.1, []float32{1, 2, 3, 4}}, {0.12, []float32{0.5, 0.25, 0.3, 0.7, 9}}, {0.1, []float32{3.3, 4.4}}, {0.6, []float32{1, 1, 1}},
		{0.11, []float32{7.7, 7.7, 7.7, 7.7, 7.7, 7.7}},
	} {
		next, code := impl.AddBeam(list, x.turns, x.powers)
		wantInteger(t, "AddBeam", code, 0, impl.OK, 0)
		list = next
	}
	wantMap(t, "AddBeam", list, impl.OK, []impl.EchoCell{
		echo(-2, -2, 1, 1), echo(-2, -1, 1, 1), echo(-1, -1, 1, 1), echo(1, 1, bitsNumber(0x40233334), 5), echo(2, 1, bitsNumber(0x40966666), 3),
		echo(2, 2, bitsNumber(0x406aaaaa), 3), echo(3, 2, 4, 1), echo(3, 3, bitsNumber(0x40866666), 2), echo(4, 3, bitsNumber(0x4105999a), 2), echo(5, 4, bitsNumber(0x40f66666), 1),
	}, impl.OK)
}

func TestAddBeamToCells(t *testing.T) {
	for _, x := range []struct {
		list   []impl.EchoCell
		turns  float32
		powers []float32
		want   []impl.EchoCell
	}{
		{nil, 0, []float32{1, 5}, []impl.EchoCell{echo(1, 0, 1, 1), echo(2, 0, 5, 1)}},
		{[]impl.EchoCell{echo(1, 0, 1, 1)}, 0, []float32{3}, []impl.EchoCell{echo(1, 0, 2, 2)}},
		{[]impl.EchoCell{echo(1, 0, 4, 3)}, 0, []float32{0}, []impl.EchoCell{echo(1, 0, 3, 4)}},
		{nil, 0.5, []float32{1, 5, 0}, []impl.EchoCell{echo(-3, 0, 0, 1), echo(-2, 0, 5, 1), echo(-1, 0, 1, 1)}},
		{nil, 0.75, []float32{1, 5}, []impl.EchoCell{echo(0, -2, 5, 1), echo(0, -1, 1, 1)}},
		// Several powers come to one cell: the gates 1 and 2, and 5 and 6.
		{nil, 0.125, []float32{1, 5}, []impl.EchoCell{echo(1, 1, 3, 2)}},
		{nil, 0.125, []float32{1, 5, 7, 8, 9, 11}, []impl.EchoCell{echo(1, 1, 3, 2), echo(2, 2, 7, 1), echo(3, 3, 8, 1), echo(4, 4, 10, 2)}},
		{[]impl.EchoCell{echo(1, 1, 6, 2)}, 0.125, []float32{3, 1}, []impl.EchoCell{echo(1, 1, 4, 4)}},
		// As often as can be.
		{[]impl.EchoCell{echo(1, 0, 4, 999998)}, 0, []float32{4}, []impl.EchoCell{echo(1, 0, 4, 999999)}},
		{[]impl.EchoCell{echo(1, 0, 0, 999999)}, 0, []float32{1000000}, []impl.EchoCell{echo(1, 0, 1, 1000000)}},
		{[]impl.EchoCell{echo(1, 0, 0, 1000000)}, 0, []float32{1000000}, []impl.EchoCell{echo(1, 0, 1, 1000000)}},
		{[]impl.EchoCell{echo(1, 1, 1, 1000000)}, 0.125, []float32{1000001, 2}, []impl.EchoCell{echo(1, 1, 2, 1000000)}},
		// Cells around stay, and come before or behind.
		{[]impl.EchoCell{echo(-1000, 5, 1, 7), echo(0, 1, 2, 1), echo(0, 3, 4, 1), echo(1000, 0, 5, 9)}, 0.25, []float32{4, 4}, []impl.EchoCell{echo(-1000, 5, 1, 7), echo(0, 1, 3, 2), echo(0, 2, 4, 1), echo(0, 3, 4, 1), echo(1000, 0, 5, 9)}},
		{[]impl.EchoCell{echo(1, 0, greatest, 1)}, 0, []float32{greatest}, []impl.EchoCell{echo(1, 0, greatest, 2)}},
		{[]impl.EchoCell{echo(1, 0, greatest, 1)}, 0, []float32{0}, []impl.EchoCell{echo(1, 0, greatest/2, 2)}},
		{[]impl.EchoCell{echo(1, 0, 0, 1)}, 0, []float32{greatest}, []impl.EchoCell{echo(1, 0, greatest/2, 2)}},
		{[]impl.EchoCell{echo(1, 0, smallest, 1)}, 0, []float32{0}, []impl.EchoCell{echo(1, 0, smallest, 2)}},
	} {
		got, code := impl.AddBeam(x.list, x.turns, x.powers)
		wantMap(t, "AddBeam", got, code, x.want, impl.OK)
	}
}

func TestAddBeamErrors(t *testing.T) {
	want := func(list []impl.EchoCell, turns float32, powers []float32, wantCode int64) {
		t.Helper()
		got, code := impl.AddBeam(list, turns, powers)
		if code != wantCode || code != impl.OK && got != nil {
			t.Errorf("AddBeam %v, %v, %v: got %v, %d, want %d", list, turns, powers, got, code, wantCode)
		}
	}
	for _, bad := range notMaps() {
		want(bad, 0, []float32{1}, impl.ErrInvalid)
		want(bad, noNumber, nil, impl.ErrInvalid)
		want(bad, 0, make([]float32, 33), impl.ErrInvalid)
	}
	full := rowOfCells(100, 400)
	for _, list := range [][]impl.EchoCell{nil, rowOfCells(0, 3), full} {
		for _, turns := range []float32{infinite, -infinite, noNumber} {
			want(list, turns, nil, impl.ErrRange)
			want(list, turns, []float32{1}, impl.ErrRange)
		}
		for _, count := range []int{33, 34, 1000000} {
			want(list, 0, make([]float32, count), impl.ErrRange)
		}
		for _, power := range notAmounts {
			want(list, 0, []float32{power}, impl.ErrRange)
			want(list, 0, []float32{1, power, 1}, impl.ErrRange)
			want(list, 0, append(make([]float32, 31), power), impl.ErrRange)
		}
	}
	want(nil, 0.3, make([]float32, 32), impl.OK)
	want(full, 0, nil, impl.OK)
	want(full, 0, []float32{1}, impl.ErrLimit)
	want(rowOfCells(1, 400), 0, make([]float32, 32), impl.OK)
	want(rowOfCells(2, 400), 0, make([]float32, 32), impl.ErrLimit)
	want(rowOfCells(2, 399), 0, make([]float32, 32), impl.OK)
	want(rowOfCells(100, 368), 0, make([]float32, 32), impl.OK)
	want(rowOfCells(100, 369), 0, make([]float32, 32), impl.ErrLimit)
	// Two powers that come to the same new cell make one cell.
	want(rowOfCells(100, 399), 0.125, make([]float32, 2), impl.OK)
	want(rowOfCells(100, 399), 0.125, make([]float32, 3), impl.ErrLimit)
}

// Promise 12: beams come to their cells, each power once.
func TestBeamsComeToTheirCells(t *testing.T) {
	g := chance(352)
	for range 300 {
		turns, powers := g.angle(), g.powers()
		list, code := impl.AddBeam(nil, turns, powers)
		wantInteger(t, "AddBeam", code, 0, impl.OK, 0)
		seen := int64(0)
		for _, cell := range list {
			seen += cell.Seen
			found, code := impl.EchoAt(list, cell.At)
			wantCell(t, "EchoAt", found, code, cell, impl.OK)
		}
		if seen != int64(len(powers)) {
			t.Errorf("AddBeam %v, %v: got %v", turns, powers, list)
		}
		for index := range powers {
			at, code := impl.SpotOf(turns, int64(index+1))
			wantInteger(t, "SpotOf", code, 0, impl.OK, 0)
			if _, code = impl.EchoAt(list, at); code != impl.OK {
				t.Errorf("there is no cell at %v", at)
			}
		}
	}
}

func TestEchoAt(t *testing.T) {
	for _, list := range mapsAtTheEnds() {
		for _, cell := range list {
			found, code := impl.EchoAt(list, cell.At)
			wantCell(t, "EchoAt", found, code, cell, impl.OK)
		}
		for _, at := range []impl.Spot{{3, 3}, {-999, 1}, {1001, 0}, {0, -1001}, {math.MinInt16, math.MaxInt16}} {
			found, code := impl.EchoAt(list, at)
			wantCell(t, "EchoAt", found, code, impl.EchoCell{}, impl.ErrNotFound)
		}
	}
	list := []impl.EchoCell{echo(1, 2, 3, 4), echo(2, 1, 5, 6)}
	found, code := impl.EchoAt(list, impl.Spot{2, 1})
	wantCell(t, "EchoAt", found, code, list[1], impl.OK)
	found, code = impl.EchoAt(list, impl.Spot{2, 2})
	wantCell(t, "EchoAt", found, code, impl.EchoCell{}, impl.ErrNotFound)
	for _, bad := range notMaps() {
		for _, at := range []impl.Spot{bad[0].At, {500, -500}} {
			found, code = impl.EchoAt(bad, at)
			wantCell(t, "EchoAt", found, code, impl.EchoCell{}, impl.ErrInvalid)
		}
	}
}

func TestStrongestCell(t *testing.T) {
	want := func(list []impl.EchoCell, want impl.EchoCell, wantCode int64) {
		t.Helper()
		found, code := impl.StrongestCell(list)
		wantCell(t, "StrongestCell", found, code, want, wantCode)
	}
	want(nil, impl.EchoCell{}, impl.ErrNotFound)
	want([]impl.EchoCell{}, impl.EchoCell{}, impl.ErrNotFound)
	for _, bad := range notMaps() {
		want(bad, impl.EchoCell{}, impl.ErrInvalid)
	}
	want([]impl.EchoCell{echo(0, 0, 0, 1), echo(0, 1, 0, 2)}, echo(0, 0, 0, 1), impl.OK)
	want([]impl.EchoCell{echo(0, 0, 1, 1), echo(0, 1, 3, 2), echo(1, 0, 3, 1), echo(2, 0, 2, 1)}, echo(0, 1, 3, 2), impl.OK)
	want([]impl.EchoCell{echo(0, 0, 1, 1), echo(0, 1, 3, 2), echo(1, 0, greatest, 1)}, echo(1, 0, greatest, 1), impl.OK)
	want([]impl.EchoCell{echo(0, 0, smallest, 1), echo(0, 1, 0, 1000000)}, echo(0, 0, smallest, 1), impl.OK)
	g := chance(353)
	for range 200 {
		list := beamModel(beamModel(nil, g.share(), g.powers()), g.share(), g.powers())
		best := impl.EchoCell{}
		for _, cell := range list {
			if cell.Power > best.Power || best.Seen == 0 {
				best = cell
			}
		}
		if len(list) > 0 {
			want(list, best, impl.OK)
		}
	}
}
