package tests

import (
	"fmt"
	"math"
	"slices"
	"testing"

	"loop.example/g01224/impl"
)

func sameAnswers(a, b impl.Answer) bool { return a.Known == b.Known && sameNumbers(a.Rain, b.Rain) }

func samePackets(a, b impl.Packet) bool {
	return a.Back == b.Back && a.Clerk == b.Clerk && a.Member == b.Member && a.Done == b.Done && a.Text == b.Text && sameNumbers(a.Rain, b.Rain)
}

func sameBenches(a, b impl.Bench) bool {
	return a.Member == b.Member && a.Done == b.Done && len(differences(a.Column, b.Column)) == 0
}

func sameStations(a, b impl.Station) bool {
	return slices.EqualFunc(a.Answers, b.Answers, sameAnswers) && slices.EqualFunc(a.Saved, b.Saved, sameAnswers) &&
		slices.EqualFunc(a.Benches, b.Benches, sameBenches) && slices.EqualFunc(a.Wire, b.Wire, samePackets)
}

func wantAnswer(t *testing.T, what string, got impl.Answer, code int64, want impl.Answer, wantCode int64) {
	t.Helper()
	if !sameAnswers(got, want) || code != wantCode {
		t.Errorf("%s: got %v, %d, want %v, %d", what, got, code, want, wantCode)
	}
}

// stationModel has the columns of the whole runs, so that an act is done by going on to the next one of these.
type stationModel struct {
	e       impl.Ensemble
	columns [][]impl.Column
	impl.Station
}

func newModel(e impl.Ensemble) *stationModel {
	s := &stationModel{e: e}
	for _, acts := range e.Members {
		list := []impl.Column{e.Base}
		for count := range acts {
			last, _, _ := runModel(e.Base, acts[:count+1])
			list = append(list, last)
		}
		s.columns = append(s.columns, list)
		s.Answers, s.Saved = append(s.Answers, impl.Answer{}), append(s.Saved, impl.Answer{})
	}
	for range e.Clerks {
		s.Benches = append(s.Benches, impl.Bench{Member: -1})
	}
	return s
}

func (s *stationModel) isClerk(number int64) bool  { return number < s.e.Clerks }
func (s *stationModel) isMember(number int64) bool { return number < int64(len(s.e.Members)) }
func (s *stationModel) isPacket(number int64) bool { return number < int64(len(s.Wire)) }

func (s *stationModel) packetWith(clerk, member, done int64) impl.Packet {
	return impl.Packet{Clerk: clerk, Member: member, Done: done, Text: columnText(s.columns[member][done])}
}

func (s *stationModel) comeIn(p impl.Packet) {
	switch {
	case !p.Back:
		s.Benches[p.Clerk] = impl.Bench{Member: p.Member, Done: p.Done, Column: s.columns[p.Member][p.Done]}
	case !s.Answers[p.Member].Known:
		s.Answers[p.Member] = impl.Answer{Known: true, Rain: p.Rain}
	}
}

// errorOf returns the error of a valid deed.
func (s *stationModel) errorOf(d impl.Deed) int64 {
	within, fit, adds := true, true, false
	switch d.Kind {
	case impl.DdGive:
		within, adds = s.isClerk(d.A) && s.isMember(d.B), true
		fit = within && !s.Answers[d.B].Known
	case impl.DdWork:
		within = s.isClerk(d.A)
		fit = within && s.Benches[d.A].Member >= 0
		adds = fit && s.Benches[d.A].Done == int64(len(s.e.Members[s.Benches[d.A].Member]))
	case impl.DdHand:
		within, adds = s.isClerk(d.A) && s.isClerk(d.B) && d.A != d.B, true
		fit = within && s.Benches[d.A].Member >= 0
	case impl.DdDeliver, impl.DdCopy, impl.DdDrop:
		within = s.isPacket(d.A)
	}
	switch {
	case !within:
		return impl.ErrRange
	case !fit:
		return impl.ErrState
	case adds && len(s.Wire) == 8:
		return impl.ErrLimit
	}
	return impl.OK
}

// do does a valid deed that has no error.
func (s *stationModel) do(d impl.Deed) {
	switch d.Kind {
	case impl.DdGive:
		s.Wire = append(s.Wire, s.packetWith(d.A, d.B, 0))
	case impl.DdWork:
		b := &s.Benches[d.A]
		if columns := s.columns[b.Member]; int(b.Done) < len(columns)-1 {
			*b = impl.Bench{Member: b.Member, Done: b.Done + 1, Column: columns[b.Done+1]}
			break
		}
		s.Wire = append(s.Wire, impl.Packet{Back: true, Clerk: d.A, Member: b.Member, Rain: b.Column.Gauge})
		*b = impl.Bench{Member: -1}
	case impl.DdHand:
		s.Wire = append(s.Wire, s.packetWith(d.B, s.Benches[d.A].Member, s.Benches[d.A].Done))
		s.Benches[d.A] = impl.Bench{Member: -1}
	case impl.DdDeliver, impl.DdCopy, impl.DdDrop:
		if d.Kind != impl.DdDrop {
			s.comeIn(s.Wire[d.A])
		}
		if d.Kind != impl.DdCopy {
			s.Wire = append(s.Wire[:d.A:d.A], s.Wire[d.A+1:]...)
		}
	case impl.DdSave:
		s.Saved = slices.Clone(s.Answers)
	case impl.DdCrash:
		s.Answers = slices.Clone(s.Saved)
	}
}

// refusal is a deed that is left out.
type refusal struct {
	index int
	deed  impl.Deed
	code  int64
}

// modelAfter returns the station after deeds, how many are done, and those that are left out.
func modelAfter(e impl.Ensemble, deeds []impl.Deed) (*stationModel, int64, []refusal) {
	s := newModel(e)
	var refused []refusal
	for index, d := range deeds {
		if code := s.errorOf(d); code != impl.OK {
			refused = append(refused, refusal{index, d, code})
			continue
		}
		s.do(d)
	}
	return s, int64(len(deeds) - len(refused)), refused
}

func wantStation(t *testing.T, what string, e impl.Ensemble, deeds []impl.Deed, want impl.Station, wantDone, wantCode int64) {
	t.Helper()
	got, done, code := impl.StationAfter(e, deeds)
	if !sameStations(got, want) {
		t.Errorf("%s: StationAfter %v: got %v, want %v", what, deeds, got, want)
	}
	wantInteger(t, what+": how many deeds are done", done, code, wantDone, wantCode)
}

func wantRefused(t *testing.T, what string, e impl.Ensemble, deeds []impl.Deed, wantIndex, wantError, wantCode int64) {
	t.Helper()
	index, refused, code := impl.RefusedDeed(e, deeds)
	if index != wantIndex || refused != wantError || code != wantCode {
		t.Errorf("%s: RefusedDeed %v: got %d, %d, %d, want %d, %d, %d", what, deeds, index, refused, code, wantIndex, wantError, wantCode)
	}
}

// wantModel looks at all that is told of the station after deeds.
func wantModel(t *testing.T, what string, e impl.Ensemble, deeds []impl.Deed) (*stationModel, []refusal) {
	t.Helper()
	s, done, refused := modelAfter(e, deeds)
	wantStation(t, what, e, deeds, s.Station, done, impl.OK)
	if len(refused) == 0 {
		wantRefused(t, what, e, deeds, 0, 0, impl.ErrNotFound)
	} else {
		wantRefused(t, what, e, deeds, int64(refused[0].index), refused[0].code, impl.OK)
	}
	for member, want := range s.Answers {
		got, code := impl.AnswerAfter(e, deeds, int64(member))
		wantAnswer(t, what, got, code, want, impl.OK)
	}
	return s, refused
}

// wantLast looks at the error of the last one of some deeds, the others of which are done.
func wantLast(t *testing.T, what string, e impl.Ensemble, deeds []impl.Deed, wantError int64) {
	t.Helper()
	_, refused := wantModel(t, what, e, deeds)
	last := len(deeds) - 1
	switch {
	case wantError == impl.OK && len(refused) > 0:
		t.Errorf("%s: the deeds %v are left out", what, refused)
	case wantError != impl.OK && (len(refused) != 1 || refused[0].index != last || refused[0].code != wantError):
		t.Errorf("%s: the deeds %v are left out, and not just the last one with the error %d", what, refused, wantError)
	}
}

// below returns a number that is nearly always less than a limit.
func (c *chance) below(limit int64) int64 {
	if c.next(12) == 0 {
		return limit + int64(c.next(2))
	}
	return int64(c.next(uint32(limit)))
}

// deeds returns so many valid deeds that can often be done, with many packets or with few of them.
func (c *chance) deeds(e impl.Ensemble, count uint32) []impl.Deed {
	gives, works := 1+c.next(4), 1+c.next(12)
	kinds := slices.Concat(slices.Repeat([]int64{impl.DdGive}, int(gives)), slices.Repeat([]int64{impl.DdWork}, int(works)),
		[]int64{impl.DdHand, impl.DdDeliver, impl.DdDeliver, impl.DdCopy, impl.DdDrop, impl.DdSave, impl.DdCrash})
	var list []impl.Deed
	for range count {
		x := deedWords[kinds[c.next(uint32(len(kinds)))]-1]
		d := impl.Deed{Kind: x.kind}
		switch {
		case x.kind <= impl.DdHand:
			d.A = c.below(e.Clerks)
		case x.numbers > 0:
			d.A = int64(c.next(1 + c.next(1+c.next(9))))
		}
		switch x.kind {
		case impl.DdGive:
			d.B = c.below(int64(len(e.Members)))
		case impl.DdHand:
			d.B = c.below(e.Clerks)
		}
		list = append(list, d)
	}
	return list
}

func TestStationAfterManyDeeds(t *testing.T) {
	g := chance(520)
	ensembles := append(goodEnsembles(t), rainyEnsemble(t, 2), rainyEnsemble(t, 3))
	done, refusals, answers := map[int64]int{}, map[string]int{}, 0
	for range 400 {
		e := ensembles[g.next(uint32(len(ensembles)))]
		deeds := g.deeds(e, g.next(g.next(300)+1))
		s, refused := wantModel(t, "deeds by chance", e, deeds)
		left := map[int]bool{}
		for _, x := range refused {
			left[x.index] = true
			refusals[fmt.Sprint(x.deed.Kind, " ", x.code)]++
		}
		for index, d := range deeds {
			if !left[index] {
				done[d.Kind]++
			}
		}
		for member, answer := range s.Answers {
			if last := s.columns[member][len(s.columns[member])-1]; answer.Known {
				answers++
				wantNumber(t, "an answer that is known", answer.Rain, impl.OK, last.Gauge, impl.OK)
			}
		}
	}
	for _, x := range deedWords {
		if done[x.kind] < 100 {
			t.Errorf("just %d deeds %q are done", done[x.kind], x.word)
		}
	}
	for _, x := range []string{"1 2", "1 3", "1 4", "2 2", "2 4", "3 2", "3 4", "4 2", "5 2", "6 2"} {
		if refusals[x] < 5 {
			t.Errorf("just %d deeds have the kind and the error %s", refusals[x], x)
		}
	}
	if answers < 100 {
		t.Errorf("just %d answers are known", answers)
	}
}

func TestStationWithoutDeeds(t *testing.T) {
	for _, e := range goodEnsembles(t) {
		want := impl.Station{Answers: make([]impl.Answer, len(e.Members)), Saved: make([]impl.Answer, len(e.Members))}
		for range e.Clerks {
			want.Benches = append(want.Benches, impl.Bench{Member: -1})
		}
		wantStation(t, "no deeds", e, nil, want, 0, impl.OK)
		wantStation(t, "no deeds", e, []impl.Deed{}, want, 0, impl.OK)
		wantRefused(t, "no deeds", e, nil, 0, 0, impl.ErrNotFound)
	}
}

// Each step of a member that is given, worked on and answered, in full.
func TestStationAfterEachStep(t *testing.T) {
	e := rainyEnsemble(t, 2)
	acts := e.Members[1]
	one, _, _ := impl.RunActs(e.Base, acts[:1])
	two, _, _ := impl.RunActs(e.Base, acts)
	none, rain := impl.Bench{Member: -1}, impl.Answer{Known: true, Rain: two.Gauge}
	unknown, known := make([]impl.Answer, 4), []impl.Answer{{}, rain, {}, {}}
	back := impl.Packet{Back: true, Clerk: 1, Member: 1, Rain: two.Gauge}
	var deeds []impl.Deed
	for index, x := range []struct {
		deed string
		want impl.Station
	}{
		{"give 1 1", impl.Station{Answers: unknown, Saved: unknown, Benches: []impl.Bench{none, none}, Wire: []impl.Packet{{Clerk: 1, Member: 1, Text: impl.ColumnText(e.Base)}}}},
		{"deliver 0", impl.Station{Answers: unknown, Saved: unknown, Benches: []impl.Bench{none, {Member: 1, Column: e.Base}}}},
		{"work 1", impl.Station{Answers: unknown, Saved: unknown, Benches: []impl.Bench{none, {Member: 1, Done: 1, Column: one}}}},
		{"hand 1 0", impl.Station{Answers: unknown, Saved: unknown, Benches: []impl.Bench{none, none}, Wire: []impl.Packet{{Clerk: 0, Member: 1, Done: 1, Text: impl.ColumnText(one)}}}},
		{"deliver 0", impl.Station{Answers: unknown, Saved: unknown, Benches: []impl.Bench{{Member: 1, Done: 1, Column: one}, none}}},
		{"work 0", impl.Station{Answers: unknown, Saved: unknown, Benches: []impl.Bench{{Member: 1, Done: 2, Column: two}, none}}},
		{"hand 0 1", impl.Station{Answers: unknown, Saved: unknown, Benches: []impl.Bench{none, none}, Wire: []impl.Packet{{Clerk: 1, Member: 1, Done: 2, Text: impl.ColumnText(two)}}}},
		{"deliver 0", impl.Station{Answers: unknown, Saved: unknown, Benches: []impl.Bench{none, {Member: 1, Done: 2, Column: two}}}},
		{"work 1", impl.Station{Answers: unknown, Saved: unknown, Benches: []impl.Bench{none, none}, Wire: []impl.Packet{back}}},
		{"copy 0", impl.Station{Answers: known, Saved: unknown, Benches: []impl.Bench{none, none}, Wire: []impl.Packet{back}}},
		{"save", impl.Station{Answers: known, Saved: known, Benches: []impl.Bench{none, none}, Wire: []impl.Packet{back}}},
		{"drop 0", impl.Station{Answers: known, Saved: known, Benches: []impl.Bench{none, none}}},
	} {
		deeds = append(deeds, deedsOf(t, x.deed)...)
		wantStation(t, x.deed, e, deeds, x.want, int64(index+1), impl.OK)
		wantLast(t, x.deed, e, deeds, impl.OK)
	}
}

func TestErrorsOfStations(t *testing.T) {
	good, fine := rainyEnsemble(t, 2), deedsOf(t, "give 0 0", "deliver 0")
	wantInvalid := func(what string, e impl.Ensemble, deeds []impl.Deed, want int64) {
		t.Helper()
		wantStation(t, what, e, deeds, impl.Station{}, 0, want)
		wantRefused(t, what, e, deeds, 0, 0, want)
		for _, member := range []int64{0, 3, 4, -1} {
			answer, code := impl.AnswerAfter(e, deeds, member)
			wantAnswer(t, what, answer, code, impl.Answer{}, want)
		}
		plan, code := impl.FinishDeeds(e, deeds)
		wantInteger(t, what+": how many deeds FinishDeeds has", int64(len(plan)), code, 0, want)
	}
	long := repeat(t, "save", 301)
	for index, e := range notEnsembles(t) {
		if index%5 == 0 {
			wantInvalid("no ensemble", e, fine, impl.ErrInvalid)
			wantInvalid("no ensemble and too many deeds", e, long, impl.ErrInvalid)
		}
	}
	for index, bad := range notDeeds() {
		if index%9 == 0 {
			wantInvalid("a deed that is not valid", good, append([]impl.Deed{bad}, fine...), impl.ErrInvalid)
			wantInvalid("a last deed that is not valid", good, append(slices.Clone(fine), bad), impl.ErrInvalid)
			wantInvalid("too many deeds, the last of which is not valid", good, append(slices.Clone(long), bad), impl.ErrInvalid)
		}
	}
	wantInvalid("too many deeds", good, long, impl.ErrRange)
	wantInvalid("too many deeds that are left out", good, repeat(t, "work 0", 301), impl.ErrRange)
	wantInvalid("far too many deeds", good, slices.Repeat(long, 1000), impl.ErrRange)
}

func TestMostDeeds(t *testing.T) {
	e := rainyEnsemble(t, 2)
	wantModel(t, "the most deeds", e, repeat(t, "save", 300))
	wantModel(t, "the most deeds, all left out", e, repeat(t, "work 0", 300))
	deeds := append(repeat(t, "crash", 290), deedsOf(t, "give 0 1", "deliver 0", "work 0", "work 0", "work 0", "deliver 0", "save", "crash", "work 1", "give 1 2")...)
	s, refused := wantModel(t, "the most deeds", e, deeds)
	if len(deeds) != 300 || len(refused) != 1 || refused[0].index != 298 || !s.Answers[1].Known || len(s.Wire) != 1 {
		t.Errorf("of the most deeds, %v are left out", refused)
	}
}

func TestAnswerAfter(t *testing.T) {
	e := rainyEnsemble(t, 1)
	deeds := deedsOf(t, "give 0 2", "deliver 0", "work 0", "deliver 0")
	for member, want := range []impl.Answer{{}, {}, {Known: true, Rain: 0.75}, {}} {
		answer, code := impl.AnswerAfter(e, deeds, int64(member))
		wantAnswer(t, "AnswerAfter", answer, code, want, impl.OK)
	}
	for _, member := range []int64{-1, 4, 5, math.MinInt64, math.MaxInt64} {
		answer, code := impl.AnswerAfter(e, deeds, member)
		wantAnswer(t, "AnswerAfter of no member", answer, code, impl.Answer{}, impl.ErrRange)
		answer, code = impl.AnswerAfter(e, append(slices.Clone(deeds), impl.Deed{}), member)
		wantAnswer(t, "AnswerAfter of no member and no deed", answer, code, impl.Answer{}, impl.ErrInvalid)
	}
	answer, code := impl.AnswerAfter(gauges(3, 1), deedsOf(t, "give 0 0", "deliver 0", "work 0", "deliver 0"), 0)
	wantAnswer(t, "AnswerAfter", answer, code, impl.Answer{Known: true, Rain: 3}, impl.OK)
	answer, code = impl.AnswerAfter(gauges(3, 1), nil, 1)
	wantAnswer(t, "AnswerAfter of no member", answer, code, impl.Answer{}, impl.ErrRange)
}

func TestDeedsThatAreLeftOut(t *testing.T) {
	e := rainyEnsemble(t, 2)
	deeds := deedsOf(t, "give 1 1", "deliver 0", "work 1", "work 1", "work 1", "copy 0", "save")
	want, _, _ := impl.StationAfter(e, deeds)
	for _, bad := range []string{"work 0", "deliver 7", "hand 0 0", "give 2 0", "give 0 4", "drop 5"} {
		for index := range len(deeds) + 1 {
			more := slices.Insert(slices.Clone(deeds), index, deedsOf(t, bad)...)
			wantStation(t, "one deed more", e, more, want, int64(len(deeds)), impl.OK)
			code := int64(impl.ErrRange)
			if bad == "work 0" {
				code = impl.ErrState
			}
			wantRefused(t, "one deed more", e, more, int64(index), code, impl.OK)
			more = append(more, deedsOf(t, "give 999 999", "hand 0 1", bad)...)
			wantStation(t, "four deeds more", e, more, want, int64(len(deeds)), impl.OK)
			wantRefused(t, "four deeds more", e, more, int64(index), code, impl.OK)
		}
	}
	wantRefused(t, "all deeds are done", e, deeds, 0, 0, impl.ErrNotFound)
}
