package tests

import (
	"fmt"
	"slices"
	"testing"

	"loop.example/g01224/impl"
)

// wantHandedOn lets a member go from clerk to clerk before each of the acts that are told, and looks at the column behind each deed.
func wantHandedOn(t *testing.T, e impl.Ensemble, member int64, hands func(done int) int) {
	t.Helper()
	acts, clerk := e.Members[member], int64(0)
	deeds := deedsOf(t, fmt.Sprint("give 0 ", member), "deliver 0")
	for done := range len(acts) + 1 {
		at, _, _ := impl.RunActs(e.Base, acts[:done])
		for range hands(done) {
			next := (clerk + 1) % e.Clerks
			deeds = append(deeds, deedsOf(t, fmt.Sprint("hand ", clerk, " ", next), "deliver 0")...)
			clerk = next
		}
		s, _, code := impl.StationAfter(e, deeds)
		wantColumn(t, "a column that is handed on", s.Benches[clerk].Column, code, at, impl.OK)
		wantInteger(t, "the member and its acts that are handed on", s.Benches[clerk].Member, s.Benches[clerk].Done, member, int64(done))
		deeds = append(deeds, deedsOf(t, fmt.Sprint("work ", clerk))...)
	}
	last, _, _ := impl.RunActs(e.Base, acts)
	answer, code := impl.AnswerAfter(e, append(deeds, deedsOf(t, "deliver 0")...), member)
	wantAnswer(t, "the answer of a member that is handed on", answer, code, impl.Answer{Known: true, Rain: last.Gauge}, impl.OK)
}

func TestColumnsThatAreHandedOn(t *testing.T) {
	g := chance(550)
	e := rainyEnsemble(t, 2)
	list := []impl.Ensemble{e, rainyEnsemble(t, 3), {Base: goodColumn(), Members: [][]impl.Act{goodActs}, Clerks: 2}}
	for range 10 {
		e := impl.Ensemble{Base: g.column(t), Clerks: int64(2 + g.next(2))}
		e.Members = append(e.Members, g.acts(e.Base, 12), g.acts(e.Base, g.next(6)))
		list = append(list, e)
	}
	for _, e := range list {
		for member := range e.Members {
			wantHandedOn(t, e, int64(member), func(done int) int { return 0 })
			wantHandedOn(t, e, int64(member), func(done int) int { return 1 })
			wantHandedOn(t, e, int64(member), func(done int) int { return int(g.next(4)) })
		}
	}
}

// Signs of 0, the least numbers and the greatest ones are handed on as well.
func TestAllBitsAreHandedOn(t *testing.T) {
	for _, base := range columnsAtTheEnds() {
		for cell := range base.Airs {
			if base.Airs[cell].Heat == 0 {
				base.Airs[cell].Heat = minus0
			}
		}
		e := impl.Ensemble{Base: base, Members: [][]impl.Act{{waitAct(0), waitAct(0)}}, Clerks: 2}
		if !impl.ValidEnsemble(e) {
			t.Fatalf("the ensemble with the base %v is not valid", base)
		}
		wantHandedOn(t, e, 0, func(done int) int { return 2 })
	}
}

// Whatever is lost, comes twice or late, answers are those of whole runs, and in the end all of them are known.
func TestAnswersOverALossyLine(t *testing.T) {
	g := chance(551)
	early := 0
	for range 60 {
		e := g.ensemble(t)
		e.Members = append(e.Members[:min(len(e.Members), 3)], g.acts(e.Base, 6))
		rains, _ := impl.RainsOf(e)
		deeds := g.deeds(e, 120)
		for _, count := range []int{30, 60, 90, 120} {
			s, _, _ := impl.StationAfter(e, deeds[:count])
			for member, answer := range slices.Concat(s.Answers, s.Saved) {
				want := impl.Answer{}
				if answer.Known {
					want = impl.Answer{Known: true, Rain: rains[member%len(rains)]}
					early++
				}
				wantAnswer(t, "an answer over a lossy line", answer, impl.OK, want, impl.OK)
			}
		}
		plan, code := impl.FinishDeeds(e, deeds)
		wantInteger(t, "the code of the plan", code, code, impl.OK, impl.OK)
		for member, rain := range rains {
			answer, code := impl.AnswerAfter(e, append(slices.Clone(deeds), plan...), int64(member))
			wantAnswer(t, "an answer in the end", answer, code, impl.Answer{Known: true, Rain: rain}, impl.OK)
		}
	}
	if early < 100 {
		t.Errorf("just %d answers are known before the end", early)
	}
}

// A member that one clerk has begun, another one has begun again, and a third one has got by hand has one answer.
func TestAnswersOfSeveralClerks(t *testing.T) {
	e := rainyEnsemble(t, 3)
	rains, _ := impl.RainsOf(e)
	begun := deedsOf(t, "give 0 0", "copy 0", "work 0", "work 0", "give 1 0", "deliver 1", "work 1", "hand 1 2", "deliver 1", "work 2")
	for _, texts := range [][]string{
		{"work 0", "work 0", "work 0", "deliver 1"}, {"work 2", "work 2", "work 2", "deliver 1"}, {"deliver 0", "work 0", "work 0", "work 0", "work 0", "work 0", "deliver 0"},
		{"hand 0 2", "deliver 1", "work 2", "work 2", "work 2", "deliver 1", "crash", "deliver 0", "work 0", "work 0", "work 0", "work 0", "work 0", "deliver 0"},
		{"work 0", "work 0", "work 0", "work 2", "work 2", "work 2", "deliver 2", "deliver 1"},
	} {
		deeds := then(t, begun, texts...)
		wantLast(t, "several clerks", e, deeds, impl.OK)
		answer, code := impl.AnswerAfter(e, deeds, 0)
		wantAnswer(t, "the answer of several clerks", answer, code, impl.Answer{Known: true, Rain: rains[0]}, impl.OK)
	}
}
