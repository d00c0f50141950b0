package tests

import (
	"math"
	"runtime"
	"slices"
	"strings"
	"sync"
	"testing"
	"time"

	"loop.example/g01224/impl"
)

// withRoom returns an ensemble whose lists have other elements behind them, in their capacity.
func withRoom(e impl.Ensemble) impl.Ensemble {
	lists := make([][]impl.Act, 0, len(e.Members)+1)
	for _, acts := range e.Members {
		part, _ := before(acts, impl.Act{Kind: 77})
		lists = append(lists, part)
	}
	e.Members, _ = before(lists, []impl.Act{{Kind: 78}})
	return e
}

// copyOf returns an ensemble that shares no memory, with all that is behind its lists.
func copyOf(e impl.Ensemble) impl.Ensemble {
	count := len(e.Members)
	lists := slices.Clone(e.Members[:cap(e.Members)])
	for index, acts := range lists {
		lists[index] = slices.Clone(acts[:cap(acts)])[:len(acts)]
	}
	e.Members = lists[:count]
	return e
}

func sameEnsembles(a, b impl.Ensemble) bool {
	same := func(c, d []impl.Act) bool {
		return len(c) == len(d) && slices.EqualFunc(c[:cap(c)], d[:cap(d)], sameActs)
	}
	return a.Clerks == b.Clerks && len(a.Members) == len(b.Members) && len(differences(a.Base, b.Base)) == 0 &&
		slices.EqualFunc(a.Members[:cap(a.Members)], b.Members[:cap(b.Members)], same)
}

// oddDeeds has lists of deeds, some of which are not valid.
func oddDeeds(t *testing.T) [][]impl.Deed {
	t.Helper()
	g := chance(560)
	list := [][]impl.Deed{nil, {}, notDeeds()[:1], repeat(t, "work 0", 300), repeat(t, "give 0 0", 301), answered(t)}
	for range 6 {
		list = append(list, g.deeds(rainyEnsemble(t, 2), g.next(100)))
	}
	return list
}

func TestFunctionsOfStationsReturn(t *testing.T) {
	k := &callChecker{t: t}
	ensembles := goodEnsembles(t)
	for index, e := range notEnsembles(t) {
		if index%9 == 0 {
			ensembles = append(ensembles, e)
		}
	}
	for _, odd := range ensembles {
		e := withRoom(odd)
		was := copyOf(e)
		k.check("RainsOf", func() []any { return results(impl.RainsOf(e)) })
		k.check("MeanRain", func() []any { return results(impl.MeanRain(e)) })
		for _, list := range oddDeeds(t) {
			deeds, all := before(list, impl.Deed{Kind: 77})
			k.check("StationAfter", func() []any { return results(impl.StationAfter(e, deeds)) })
			k.check("RefusedDeed", func() []any { return results(impl.RefusedDeed(e, deeds)) })
			k.check("FinishDeeds", func() []any { return results(impl.FinishDeeds(e, deeds)) })
			for _, member := range []int64{math.MinInt64, -1, 0, 1, 4, math.MaxInt64} {
				k.check("AnswerAfter", func() []any { return results(impl.AnswerAfter(e, deeds, member)) })
			}
			wantDeeds(t, "deeds that have been looked at", all, append(slices.Clone(list), impl.Deed{Kind: 77}, impl.Deed{Kind: 77}))
		}
		for _, text := range []string{"", "\n", "what", "give 0 0\ndeliver 0\nwork 0\nbench 0\nrain 0\nsave\ncrash", strings.Repeat("\n", 151), strings.Repeat("x", 1000000)} {
			k.check("RunScript", func() []any { return results(impl.RunScript(e, text)) })
		}
		if impl.ValidEnsemble(e) != impl.ValidEnsemble(odd) || !sameEnsembles(e, was) {
			t.Errorf("an ensemble has been modified to %v", e)
		}
	}
}

func TestFunctionsOfDeedsReturn(t *testing.T) {
	k := &callChecker{t: t}
	deeds := notDeeds()
	for d := range goodDeeds() {
		deeds = append(deeds, d)
	}
	for _, d := range deeds {
		if text := impl.DeedText(d); impl.ValidDeed(d) != (text != "") || text != impl.DeedText(d) {
			t.Errorf("the deed %v has the text %q", d, text)
		}
	}
	for _, text := range badDeedTexts() {
		k.check("ReadDeed", func() []any { return results(impl.ReadDeed(text)) })
	}
}

func TestVeryManyElements(t *testing.T) {
	e, deeds := rainyEnsemble(t, 2), slices.Repeat([]impl.Deed{{Kind: impl.DdSave}}, 999000)
	wantStation(t, "very many deeds", e, deeds, impl.Station{}, 0, impl.ErrRange)
	deeds[len(deeds)-1].Kind = 9
	wantStation(t, "very many deeds, the last of which is none", e, deeds, impl.Station{}, 0, impl.ErrInvalid)
	e.Members[3] = slices.Repeat([]impl.Act{waitAct(200)}, 900000)
	wantStation(t, "very many acts", e, nil, impl.Station{}, 0, impl.ErrInvalid)
}

func TestResultsOfStationsAreNew(t *testing.T) {
	e := rainyEnsemble(t, 2)
	deeds := then(t, answered(t), "save", "give 0 0", "deliver 0", "give 1 1", "drop 0", "give 1 1", "give 1 3", "work 0", "hand 0 1")
	after := func() impl.Station { s, _, _ := impl.StationAfter(e, deeds); return s }
	wantNew(t, "RainsOf", func() []float32 { rains, _ := impl.RainsOf(e); return rains }, sameNumbers, nil)
	wantNew(t, "FinishDeeds", func() []impl.Deed { plan, _ := impl.FinishDeeds(e, deeds); return plan }, func(a, b impl.Deed) bool { return a == b }, deeds)
	wantNew(t, "StationAfter", func() []impl.Answer { return after().Answers }, sameAnswers, nil)
	wantNew(t, "StationAfter", func() []impl.Answer { return after().Saved }, sameAnswers, nil)
	wantNew(t, "StationAfter", func() []impl.Bench { return after().Benches }, sameBenches, nil)
	wantNew(t, "StationAfter", func() []impl.Packet { return after().Wire }, samePackets, nil)
	for _, texts := range [][]string{{}, {"save"}, {"crash"}, {"save", "crash"}, {"crash", "save"}} {
		s, _, _ := impl.StationAfter(e, then(t, answered(t), texts...))
		saved := slices.Clone(s.Saved)
		clear(s.Answers)
		s.Answers[0].Rain = 7
		if !slices.EqualFunc(s.Saved, saved, sameAnswers) {
			t.Errorf("the answers and what has been saved share memory behind %v", texts)
		}
	}
	if s := after(); len(s.Answers) != 4 || len(s.Benches) != 2 || len(s.Wire) != 3 {
		t.Errorf("the station is %v", s)
	}
}

// Stations of several calls at once do not meet.
func TestStationsAtOnce(t *testing.T) {
	g := chance(561)
	e := rainyEnsemble(t, 3)
	deeds := g.deeds(e, 200)
	want, done, _ := impl.StationAfter(e, deeds)
	var all sync.WaitGroup
	for range 20 {
		all.Go(func() { wantStation(t, "at once", e, deeds, want, done, impl.OK) })
	}
	all.Wait()
}

func TestNoGoroutineIsLeft(t *testing.T) {
	e := rainyEnsemble(t, 3)
	// Goroutines of other tests may be about to end.
	time.Sleep(10 * time.Millisecond)
	was := runtime.NumGoroutine()
	for range 50 {
		impl.StationAfter(e, deedsOf(t, "give 0 0", "deliver 0", "work 0", "work 1"))
		impl.RefusedDeed(e, deedsOf(t, "give 0 0", "deliver 0", "work 0", "work 1", "save"))
		impl.FinishDeeds(e, nil)
		impl.RunScript(e, "give 0 0\ndeliver 0\nwork 0")
		impl.RunScript(e, strings.Repeat("\n", 151))
		impl.StationAfter(e, repeat(t, "save", 301))
	}
	// A goroutine that has told that it is done may not have ended yet.
	for range 100 {
		if runtime.NumGoroutine() <= was {
			return
		}
		time.Sleep(10 * time.Millisecond)
	}
	t.Errorf("there were %d goroutines, and there are %d", was, runtime.NumGoroutine())
}

// A call that ends while clerks are at work waits for them.
func TestNoClerkWorksBehindACall(t *testing.T) {
	long := []impl.Act{waitAct(200)}
	e := impl.Ensemble{Base: goodColumn(), Members: [][]impl.Act{long, long, long}, Clerks: 3}
	deeds := deedsOf(t, "give 0 0", "give 1 1", "give 2 2", "deliver 0", "deliver 0", "deliver 0", "work 0", "work 1", "work 2")
	time.Sleep(10 * time.Millisecond)
	was, left := runtime.NumGoroutine(), 0
	for range 40 {
		wantRefused(t, "clerks at work", e, deeds, 0, 0, impl.ErrNotFound)
		// An act takes longer than a goroutine that is done needs to end.
		time.Sleep(50 * time.Microsecond)
		if runtime.NumGoroutine() > was {
			left++
		}
	}
	if left > 20 {
		t.Errorf("clerks are at work behind %d of 40 calls", left)
	}
}
