package tests

import (
	"fmt"
	"slices"
	"testing"

	"loop.example/g01224/impl"
)

func wantDeeds(t *testing.T, what string, got, want []impl.Deed) {
	t.Helper()
	if !slices.Equal(got, want) {
		t.Errorf("%s: got the deeds %v, want %v", what, got, want)
	}
}

// planModel returns the texts of the deeds by which all answers become known.
func planModel(s *stationModel) []string {
	var texts []string
	for range s.Wire {
		texts = append(texts, "drop 0")
	}
	for member, answer := range s.Answers {
		if answer.Known {
			continue
		}
		clerk := int64(member) % s.e.Clerks
		texts = append(texts, fmt.Sprint("give ", clerk, " ", member), "deliver 0", fmt.Sprint("work ", clerk))
		for range s.e.Members[member] {
			texts = append(texts, fmt.Sprint("work ", clerk))
		}
		texts = append(texts, "deliver 0")
	}
	return append(texts, "save")
}

// wantPlan looks at the plan behind deeds, and at what it comes to.
func wantPlan(t *testing.T, what string, e impl.Ensemble, deeds []impl.Deed) {
	t.Helper()
	s, _, refused := modelAfter(e, deeds)
	want := deedsOf(t, planModel(s)...)
	plan, code := impl.FinishDeeds(e, deeds)
	if len(deeds)+len(want) > 300 {
		wantInteger(t, what+": how many deeds FinishDeeds has", int64(len(plan)), code, 0, impl.ErrLimit)
		return
	}
	wantInteger(t, what+": the code of FinishDeeds", code, code, impl.OK, impl.OK)
	wantDeeds(t, what, plan, want)
	all := slices.Concat(deeds, plan)
	after, _, refusedAfter := modelAfter(e, all)
	if len(refusedAfter) != len(refused) {
		t.Errorf("%s: planned deeds are left out: %v", what, refusedAfter[len(refused):])
	}
	wantStation(t, what, e, all, after.Station, int64(len(all)-len(refused)), impl.OK)
	rains, _ := impl.RainsOf(e)
	for member, rain := range rains {
		known := impl.Answer{Known: true, Rain: rain}
		for _, last := range []string{"save", "crash"} {
			answer, code := impl.AnswerAfter(e, append(slices.Clone(all[:min(len(all), 299)]), deedsOf(t, last)...), int64(member))
			wantAnswer(t, what+": an answer behind the plan and "+last, answer, code, known, impl.OK)
		}
	}
}

func TestPlansFromTheBeginning(t *testing.T) {
	for _, e := range goodEnsembles(t) {
		wantPlan(t, "from the beginning", e, nil)
	}
	plan, code := impl.FinishDeeds(rainyEnsemble(t, 3), nil)
	wantInteger(t, "how many deeds FinishDeeds has", int64(len(plan)), code, 24, impl.OK)
	wantDeeds(t, "from the beginning", plan, deedsOf(t,
		"give 0 0", "deliver 0", "work 0", "work 0", "work 0", "work 0", "work 0", "deliver 0",
		"give 1 1", "deliver 0", "work 1", "work 1", "work 1", "deliver 0",
		"give 2 2", "deliver 0", "work 2", "deliver 0",
		"give 0 3", "deliver 0", "work 0", "work 0", "deliver 0", "save"))
}

func TestPlansBehindDeeds(t *testing.T) {
	e := rainyEnsemble(t, 2)
	known := answered(t)
	for _, x := range []struct {
		what  string
		deeds []impl.Deed
		first string
	}{
		{"with a packet on the wire", then(t, nil, "give 0 0"), "drop 0"},
		{"with a full wire", wireWith(t, 8), "drop 0"},
		{"with work on all benches", then(t, nil, "give 0 0", "give 1 1", "deliver 0", "deliver 0", "work 0"), "give 0 0"},
		{"with an answer known", known, "give 0 0"},
		{"with an answer lost", then(t, known, "crash"), "give 0 0"},
		{"with an answer on the wire", known[:3], "drop 0"},
		{"with a deed that is left out", then(t, nil, "work 0"), "give 0 0"},
	} {
		wantPlan(t, x.what, e, x.deeds)
		plan, _ := impl.FinishDeeds(e, x.deeds)
		wantDeeds(t, x.what+", at first", plan[:1], deedsOf(t, x.first))
	}
	all, _ := impl.FinishDeeds(e, nil)
	wantPlan(t, "with all answers known", e, all)
	plan, _ := impl.FinishDeeds(e, all)
	wantDeeds(t, "with all answers known", plan, deedsOf(t, "save"))
	wantPlan(t, "with all answers lost", e, then(t, all[:len(all)-1], "crash"))
	wantPlan(t, "with the first answer lost", e, then(t, all, "crash"))
	late := then(t, nil, "give 0 0", "give 1 1")
	late = append(late, then(t, nil, "give 0 2", "deliver 2", "work 0", "deliver 2")...)
	wantPlan(t, "with packets on the wire and an answer known", e, late)
}

func TestPlansByChance(t *testing.T) {
	g := chance(530)
	lengths, limits := map[int]bool{}, 0
	for range 100 {
		e := g.ensemble(t)
		deeds := g.deeds(e, g.next(g.next(280)+1))
		wantPlan(t, "by chance", e, deeds)
		plan, code := impl.FinishDeeds(e, deeds)
		lengths[len(plan)] = true
		if code == impl.ErrLimit {
			limits++
		}
	}
	if len(lengths) < 10 || limits > 50 {
		t.Errorf("%d plans are too long, and the others have %d lengths", limits, len(lengths))
	}
}

func TestPlansOfMostDeeds(t *testing.T) {
	for _, e := range []impl.Ensemble{exampleEnsemble(t), rainyEnsemble(t, 2)} {
		plan, _ := impl.FinishDeeds(e, nil)
		for _, text := range []string{"save", "work 0"} {
			most := repeat(t, text, 300-len(plan))
			got, code := impl.FinishDeeds(e, most)
			wantInteger(t, "the code of the longest plan", code, code, impl.OK, impl.OK)
			wantDeeds(t, "the longest plan", got, plan)
			for count := 301 - len(plan); count <= 300; count += 7 {
				got, code = impl.FinishDeeds(e, repeat(t, text, count))
				wantInteger(t, "how many deeds a plan that is too long has", int64(len(got)), code, 0, impl.ErrLimit)
			}
			got, code = impl.FinishDeeds(e, repeat(t, text, 301))
			wantInteger(t, "how many deeds a plan behind too many has", int64(len(got)), code, 0, impl.ErrRange)
		}
	}
	e := gauges(1, 1)
	done := append(deedsOf(t, "give 0 0", "deliver 0", "work 0", "deliver 0"), repeat(t, "save", 295)...)
	plan, code := impl.FinishDeeds(e, done)
	wantInteger(t, "the code of a plan for the last deed", code, code, impl.OK, impl.OK)
	wantDeeds(t, "a plan for the last deed", plan, deedsOf(t, "save"))
	plan, code = impl.FinishDeeds(e, append(done, deedsOf(t, "save")...))
	wantInteger(t, "how many deeds a plan behind the last deed has", int64(len(plan)), code, 0, impl.ErrLimit)
}

// The longest plan that there can be.
func TestThePlanOfTheLargestEnsemble(t *testing.T) {
	e := impl.Ensemble{Base: evenColumn(impl.Sizes{12: 1}, impl.Air{Heat: -60}), Clerks: 3}
	for range 4 {
		e.Members = append(e.Members, append(heats(11), waitAct(2)))
	}
	wantPlan(t, "the largest ensemble", e, repeat(t, "give 2 3", 8))
	plan, code := impl.FinishDeeds(e, repeat(t, "give 2 3", 227))
	wantInteger(t, "how many deeds the longest plan has", int64(len(plan)), code, 73, impl.OK)
}
