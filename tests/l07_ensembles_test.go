package tests

import (
	"math"
	"slices"
	"testing"

	"loop.example/g01224/impl"
)

// compiled returns the acts of a text.
func compiled(t *testing.T, text string) []impl.Act {
	t.Helper()
	acts, _, code := impl.CompileWeather(text)
	if code != impl.OK {
		t.Fatalf("CompileWeather %q: got the code %d", text, code)
	}
	return acts
}

// exampleEnsemble is the one of the example of chapter 7.
func exampleEnsemble(t *testing.T) impl.Ensemble {
	t.Helper()
	base, _ := impl.StillColumn(10, 0)
	return impl.Ensemble{Base: base, Members: [][]impl.Act{compiled(t, "seed 0 1 262144\nwait 1\n"), {}}, Clerks: 1}
}

// rainyEnsemble has members with 4, 2, 0 and 1 acts and different rains, and as many clerks as are asked for.
func rainyEnsemble(t *testing.T, clerks int64) impl.Ensemble {
	t.Helper()
	base := evenColumn(impl.Sizes{2: 100, 9: 3}, impl.Air{Heat: 12, Vapour: 14})
	base.Gauge, base.Ticks = 0.75, 40
	return impl.Ensemble{Base: base, Clerks: clerks, Members: [][]impl.Act{
		compiled(t, "seed 1 20 65536\nwait 2\nstir 1/8\nwait 3\n"), compiled(t, "heat 0 -3\nwait 1\n"), nil, compiled(t, "wait 4\n"),
	}}
}

// gauges returns an ensemble whose members have no acts, and a rain that is told.
func gauges(gauge float32, members int) impl.Ensemble {
	return impl.Ensemble{Base: impl.Column{Gauge: gauge}, Members: make([][]impl.Act, members), Clerks: 1}
}

// acts returns a list of so many acts that can be done.
func (c *chance) acts(base impl.Column, count uint32) []impl.Act {
	for {
		var list []impl.Act
		for range count {
			list = append(list, c.act())
		}
		if _, _, code := runModel(base, list); code == impl.OK {
			return list
		}
	}
}

// ensemble returns a valid ensemble.
func (c *chance) ensemble(t *testing.T) impl.Ensemble {
	t.Helper()
	e := impl.Ensemble{Base: c.column(t), Clerks: int64(1 + c.next(3))}
	for range 1 + c.next(4) {
		e.Members = append(e.Members, c.acts(e.Base, c.next(5)))
	}
	return e
}

// goodEnsembles has valid ensembles, some of them at the ends.
func goodEnsembles(t *testing.T) []impl.Ensemble {
	t.Helper()
	g := chance(500)
	hot := evenColumn(impl.Sizes{}, impl.Air{Heat: 60})
	hot.Ticks = mostTicks - 200
	list := []impl.Ensemble{
		exampleEnsemble(t), gauges(0, 1), gauges(greatest, 1), gauges(greatest, 4), gauges(smallest, 4), {Base: goodColumn(), Members: [][]impl.Act{goodActs, goodActs}, Clerks: 3},
		{Base: evenColumn(impl.Sizes{}, impl.Air{Heat: -60}), Members: [][]impl.Act{heats(12), heats(12), heats(12), heats(12)}, Clerks: 2},
		{Base: hot, Members: [][]impl.Act{{waitAct(200)}, {waitAct(199), waitAct(1)}}, Clerks: 2},
	}
	for clerks := range int64(3) {
		list = append(list, rainyEnsemble(t, clerks+1))
	}
	for range 10 {
		list = append(list, g.ensemble(t))
	}
	return list
}

// notEnsembles has ensembles that are not valid in just one way.
func notEnsembles(t *testing.T) []impl.Ensemble {
	t.Helper()
	var list []impl.Ensemble
	add := func(change func(e *impl.Ensemble)) {
		e := rainyEnsemble(t, 2)
		change(&e)
		list = append(list, e)
	}
	for index, x := range notColumns() {
		if index%9 == 0 || x.Ticks < 0 || x.Ticks > mostTicks {
			add(func(e *impl.Ensemble) { e.Base = x })
			add(func(e *impl.Ensemble) { e.Base, e.Members = x, [][]impl.Act{nil} })
		}
	}
	for _, members := range [][][]impl.Act{nil, {}, make([][]impl.Act, 5), make([][]impl.Act, 6), make([][]impl.Act, 100000)} {
		add(func(e *impl.Ensemble) { e.Members = members })
	}
	for _, clerks := range []int64{0, -1, 4, 5, math.MinInt64, math.MaxInt64} {
		add(func(e *impl.Ensemble) { e.Clerks = clerks })
	}
	for member := range 4 {
		for _, count := range []int{13, 14, 120, 121, 5000} {
			add(func(e *impl.Ensemble) { e.Members[member] = slices.Repeat([]impl.Act{waitAct(0)}, count) })
		}
		for index, act := range append(notActs(), stirAct(0.75), waitAct(math.Nextafter32(200, 300)), heatAct(3, 100), heatAct(3, -100), impl.Act{Kind: impl.AcWet, A: -15}, impl.Act{Kind: impl.AcSeed, A: -1, B: 8}) {
			place := index % (len(goodActs) + 1)
			add(func(e *impl.Ensemble) { e.Members[member] = slices.Insert(slices.Clone(goodActs), place, act) })
		}
	}
	add(func(e *impl.Ensemble) { e.Base.Ticks = mostTicks })
	add(func(e *impl.Ensemble) { e.Base.Ticks = mostTicks - 4 })
	add(func(e *impl.Ensemble) { e.Base.Drops[7][19] = greatest })
	return list
}

func TestStationsExample(t *testing.T) {
	e := exampleEnsemble(t)
	plan, code := impl.FinishDeeds(e, nil)
	wantInteger(t, "how many deeds FinishDeeds has", int64(len(plan)), code, 11, impl.OK)
	answer, code := impl.AnswerAfter(e, plan, 1)
	wantAnswer(t, "AnswerAfter", answer, code, impl.Answer{Known: true}, impl.OK)
	wantDeeds(t, "FinishDeeds", plan, deedsOf(t, "give 0 0", "deliver 0", "work 0", "work 0", "work 0", "deliver 0", "give 0 1", "deliver 0", "work 0", "deliver 0", "save"))
}

func TestConstantsOfStations(t *testing.T) {
	limits := []int64{impl.MaxMembers, impl.MaxMemberActs, impl.MaxClerks, impl.MaxWire, impl.MaxDeeds, impl.MaxScriptText, impl.MaxScriptLines}
	if !slices.Equal(limits, []int64{4, 12, 3, 8, 300, 10000, 150}) {
		t.Errorf("the limits are %v", limits)
	}
	kinds := []int64{impl.DdGive, impl.DdWork, impl.DdHand, impl.DdDeliver, impl.DdCopy, impl.DdDrop, impl.DdSave, impl.DdCrash}
	if !slices.Equal(kinds, []int64{1, 2, 3, 4, 5, 6, 7, 8}) {
		t.Errorf("the kinds of deeds are %v", kinds)
	}
}

func TestValidEnsemble(t *testing.T) {
	for index, e := range goodEnsembles(t) {
		if !impl.ValidEnsemble(e) {
			t.Errorf("ValidEnsemble of the good one %d: got false", index)
		}
	}
	for index, e := range notEnsembles(t) {
		if impl.ValidEnsemble(e) {
			t.Errorf("ValidEnsemble of the bad one %d: got true", index)
		}
	}
	if impl.ValidEnsemble(impl.Ensemble{}) {
		t.Error("ValidEnsemble of the ensemble that has only 0: got true")
	}
}

// rainsModel returns the rains of whole runs.
func rainsModel(e impl.Ensemble) []float32 {
	var rains []float32
	for _, acts := range e.Members {
		last, _, _ := runModel(e.Base, acts)
		rains = append(rains, last.Gauge)
	}
	return rains
}

func TestRainsOf(t *testing.T) {
	for index, e := range goodEnsembles(t) {
		rains, code := impl.RainsOf(e)
		wantNumbers(t, "RainsOf", rains, code, rainsModel(e), impl.OK)
		for member, acts := range e.Members {
			last, _, _ := impl.RunActs(e.Base, acts)
			wantNumber(t, "the rain of a member", rains[member], impl.OK, last.Gauge, impl.OK)
		}
		if e.Members = slices.Repeat(e.Members[:1], 4); index > 5 {
			rains, code = impl.RainsOf(e)
			wantNumbers(t, "RainsOf equal members", rains, code, rainsModel(e), impl.OK)
		}
	}
	rains, _ := impl.RainsOf(rainyEnsemble(t, 1))
	if len(rains) != 4 || rains[0] <= 1 || rains[1] <= 0.75 || rains[2] != 0.75 || rains[3] <= rains[1] {
		t.Errorf("RainsOf: got %v", rains)
	}
}

func wantMean(t *testing.T, what string, e impl.Ensemble, mean, spread float32, wantCode int64) {
	t.Helper()
	gotMean, gotSpread, code := impl.MeanRain(e)
	wantNumber(t, what, gotMean, code, mean, wantCode)
	wantNumber(t, what+", the spread", gotSpread, code, spread, wantCode)
}

func TestMeanRain(t *testing.T) {
	g := chance(501)
	list := []impl.Ensemble{exampleEnsemble(t), rainyEnsemble(t, 3)}
	for range 200 {
		list = append(list, g.ensemble(t))
	}
	otherOrder := 0
	for _, e := range list {
		rains := rainsModel(e)
		mean := over(total(rains), float32(len(rains)))
		wantMean(t, "MeanRain", e, mean, minus(slices.Max(rains), slices.Min(rains)), impl.OK)
		slices.Reverse(rains)
		if over(total(rains), float32(len(rains))) != mean {
			otherOrder++
		}
	}
	if otherOrder < 5 {
		t.Errorf("just %d sums depend on their order", otherOrder)
	}
	for members := 1; members <= 4; members++ {
		wantMean(t, "MeanRain of no rain", gauges(0, members), 0, 0, impl.OK)
		wantMean(t, "MeanRain of equal rains", gauges(0.75, members), 0.75, 0, impl.OK)
		wantMean(t, "MeanRain of the least rain", gauges(smallest, members), smallest, 0, impl.OK)
	}
}

func TestMeanRainThatIsInfinite(t *testing.T) {
	wantMean(t, "MeanRain of the greatest rain", gauges(greatest, 1), greatest, 0, impl.OK)
	for members := 2; members <= 4; members++ {
		wantMean(t, "MeanRain of the greatest rains", gauges(greatest, members), 0, 0, impl.ErrState)
	}
	wantMean(t, "MeanRain of two halves of the greatest rain", gauges(greatest/2, 2), greatest/2, 0, impl.OK)
	wantMean(t, "MeanRain of four quarters of the greatest rain", gauges(greatest/4, 4), greatest/4, 0, impl.OK)
	wantMean(t, "MeanRain of three halves of the greatest rain", gauges(greatest/2, 3), 0, 0, impl.ErrState)
}

func TestErrorsOfEnsembles(t *testing.T) {
	for _, e := range notEnsembles(t) {
		rains, code := impl.RainsOf(e)
		wantNumbers(t, "RainsOf no ensemble", rains, code, nil, impl.ErrInvalid)
		wantMean(t, "MeanRain of no ensemble", e, 0, 0, impl.ErrInvalid)
	}
	e := gauges(greatest, 2)
	e.Clerks = 0
	wantMean(t, "MeanRain of no ensemble with an infinite sum", e, 0, 0, impl.ErrInvalid)
}
