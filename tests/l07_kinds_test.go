package tests

import (
	"slices"
	"testing"

	"loop.example/g01224/impl"
)

// answered returns deeds by which the member 2 of rainyEnsemble, who has no acts, has an answer.
func answered(t *testing.T) []impl.Deed {
	t.Helper()
	return deedsOf(t, "give 0 2", "deliver 0", "work 0", "deliver 0")
}

// wireWith returns deeds behind which there are so many packets more on the wire.
func wireWith(t *testing.T, count int) []impl.Deed {
	t.Helper()
	return repeat(t, "give 0 3", count)
}

// then returns deeds with others behind them.
func then(t *testing.T, deeds []impl.Deed, texts ...string) []impl.Deed {
	t.Helper()
	return append(slices.Clone(deeds), deedsOf(t, texts...)...)
}

func TestGive(t *testing.T) {
	e := rainyEnsemble(t, 2)
	for _, text := range []string{"give 0 0", "give 1 0", "give 0 3", "give 1 2"} {
		wantLast(t, text, e, deedsOf(t, text), impl.OK)
		wantLast(t, text+" twice", e, repeat(t, text, 2), impl.OK)
		wantLast(t, text+" for the last packet", e, then(t, wireWith(t, 7), text), impl.OK)
		wantLast(t, text+" for one packet more", e, then(t, wireWith(t, 8), text), impl.ErrLimit)
		wantLast(t, text+" for one packet more, when one has gone", e, then(t, wireWith(t, 8), "drop 3", text), impl.OK)
	}
	full := append(answered(t), wireWith(t, 8)...)
	for _, text := range []string{"give 2 0", "give 3 0", "give 999 0", "give 0 4", "give 0 5", "give 0 999", "give 2 4", "give 2 2"} {
		wantLast(t, text, e, deedsOf(t, text), impl.ErrRange)
		wantLast(t, text+" when the wire is full and an answer known", e, then(t, full, text), impl.ErrRange)
	}
	for _, text := range []string{"give 0 2", "give 1 2"} {
		wantLast(t, text+" when the answer is known", e, then(t, answered(t), text), impl.ErrState)
		wantLast(t, text+" when the wire is full and the answer known", e, then(t, full, text), impl.ErrState)
		wantLast(t, text+" when the answer has been lost", e, then(t, answered(t), "crash", text), impl.OK)
		wantLast(t, text+" when the answer has been lost and the wire is full", e, then(t, full, "crash", text), impl.ErrLimit)
		wantLast(t, text+" when the answer has been saved", e, then(t, answered(t), "save", "crash", text), impl.ErrState)
	}
	wantLast(t, "give while the answer is on its way", e, then(t, nil, "give 0 2", "deliver 0", "work 0", "give 1 2"), impl.OK)
	wantLast(t, "give to a clerk at work", e, then(t, nil, "give 0 0", "deliver 0", "work 0", "give 0 0"), impl.OK)
}

func TestWork(t *testing.T) {
	e := rainyEnsemble(t, 2)
	full := wireWith(t, 8)
	for _, text := range []string{"work 2", "work 3", "work 999"} {
		wantLast(t, text, e, deedsOf(t, text), impl.ErrRange)
		wantLast(t, text+" when the wire is full", e, then(t, full, text), impl.ErrRange)
	}
	for _, text := range []string{"work 0", "work 1"} {
		wantLast(t, text+" on an empty bench", e, deedsOf(t, text), impl.ErrState)
		wantLast(t, text+" on an empty bench when the wire is full", e, then(t, full, text), impl.ErrState)
	}
	wantLast(t, "work before the packet has come", e, deedsOf(t, "give 0 0", "work 0"), impl.ErrState)
	wantLast(t, "work of another clerk", e, deedsOf(t, "give 0 0", "deliver 0", "work 1"), impl.ErrState)
	wantLast(t, "work of a member without acts", e, deedsOf(t, "give 1 2", "deliver 0", "work 1"), impl.OK)
	wantLast(t, "work behind the last act", e, deedsOf(t, "give 0 3", "deliver 0", "work 0", "work 0"), impl.OK)
	wantLast(t, "work behind the answer", e, deedsOf(t, "give 0 3", "deliver 0", "work 0", "work 0", "work 0"), impl.ErrState)
	deeds := deedsOf(t, "give 0 0", "deliver 0")
	for range 5 {
		deeds = then(t, deeds, "work 0")
		wantLast(t, "work again and again", e, deeds, impl.OK)
	}
	wantLast(t, "work again and again", e, then(t, deeds, "work 0"), impl.ErrState)
	wantLast(t, "work of a member whose answer is known", e, then(t, nil, "give 0 2", "give 1 2", "deliver 0", "deliver 0", "work 0", "deliver 0", "work 1", "deliver 0"), impl.OK)
}

func TestWorkWithAFullWire(t *testing.T) {
	e := rainyEnsemble(t, 2)
	begun := append(deedsOf(t, "give 1 1", "deliver 0"), wireWith(t, 8)...)
	wantLast(t, "the first act", e, then(t, begun, "work 1"), impl.OK)
	wantLast(t, "the last act", e, then(t, begun, "work 1", "work 1"), impl.OK)
	wantLast(t, "behind the last act", e, then(t, begun, "work 1", "work 1", "work 1"), impl.ErrLimit)
	s, refused := wantModel(t, "behind the last act, in the end", e, then(t, begun, "work 1", "work 1", "work 1", "work 1", "drop 7", "work 1"))
	if last := s.Wire[7]; len(refused) != 2 || !last.Back || last.Member != 1 || last.Clerk != 1 {
		t.Errorf("the last packet is %v, and %v are left out", last, refused)
	}
	wantLast(t, "the last packet", e, then(t, begun[:9], "work 1", "work 1", "work 1"), impl.OK)
}

func TestHand(t *testing.T) {
	e := rainyEnsemble(t, 3)
	begun := deedsOf(t, "give 0 0", "deliver 0", "work 0")
	full := append(slices.Clone(begun), wireWith(t, 8)...)
	for _, text := range []string{"hand 0 0", "hand 1 1", "hand 2 2", "hand 3 3", "hand 0 3", "hand 3 0", "hand 1 3", "hand 999 0", "hand 0 999", "hand 998 999"} {
		wantLast(t, text, e, deedsOf(t, text), impl.ErrRange)
		wantLast(t, text, e, then(t, begun, text), impl.ErrRange)
		wantLast(t, text+" when the wire is full", e, then(t, full, text), impl.ErrRange)
	}
	for _, text := range []string{"hand 1 0", "hand 1 2", "hand 2 0", "hand 2 1"} {
		wantLast(t, text+" of an empty bench", e, then(t, begun, text), impl.ErrState)
		wantLast(t, text+" of an empty bench when the wire is full", e, then(t, full, text), impl.ErrState)
	}
	for _, text := range []string{"hand 0 1", "hand 0 2"} {
		wantLast(t, text, e, then(t, begun, text), impl.OK)
		wantLast(t, text+" for the last packet", e, then(t, full[:10], text), impl.OK)
		wantLast(t, text+" for one packet more", e, then(t, full, text), impl.ErrLimit)
		wantLast(t, text+" twice", e, then(t, begun, text, text), impl.ErrState)
		s, _ := wantModel(t, text+" for one packet more, and then again", e, then(t, full, text, "work 0", "drop 0", text))
		if last := s.Wire[7]; last.Done != 2 || last.Back {
			t.Errorf("what is handed on with a full wire is %v", last)
		}
	}
	wantLast(t, "hand to oneself", rainyEnsemble(t, 1), then(t, begun, "hand 0 0"), impl.ErrRange)
	wantLast(t, "hand to a clerk that there is not", rainyEnsemble(t, 1), then(t, begun, "hand 0 1"), impl.ErrRange)
	wantLast(t, "hand behind the last act", e, then(t, begun, "work 0", "work 0", "work 0", "hand 0 2", "deliver 0", "work 2", "deliver 0"), impl.OK)
	wantLast(t, "hand without an act done", e, deedsOf(t, "give 0 2", "deliver 0", "hand 0 1", "deliver 0", "work 1", "deliver 0"), impl.OK)
	wantLast(t, "hand to a clerk at work", e, then(t, begun, "give 1 1", "deliver 0", "work 1", "hand 0 1", "deliver 0", "work 1"), impl.OK)
}

func TestPacketsThatThereAreNot(t *testing.T) {
	e := rainyEnsemble(t, 2)
	for _, word := range []string{"deliver", "copy", "drop"} {
		for _, number := range []int64{0, 1, 7, 8, 999} {
			wantLast(t, "of an empty wire", e, deedsOf(t, deedText(word, number)), impl.ErrRange)
		}
		for count := range int64(8) {
			deeds := deedsOf(t, "give 0 0", "give 1 1", "give 0 2", "give 1 3", "give 1 0", "give 0 1", "give 1 2", "give 0 3")[:count+1]
			for number := range count + 1 {
				wantLast(t, "of a wire", e, then(t, deeds, deedText(word, number)), impl.OK)
			}
			wantLast(t, "beyond a wire", e, then(t, deeds, deedText(word, count+1)), impl.ErrRange)
			wantLast(t, "far beyond a wire", e, then(t, deeds, deedText(word, 999)), impl.ErrRange)
		}
	}
	wantLast(t, "the same packet twice", e, deedsOf(t, "give 0 0", "deliver 0", "deliver 0"), impl.ErrRange)
	wantLast(t, "a packet that has gone", e, deedsOf(t, "give 0 0", "drop 0", "copy 0"), impl.ErrRange)
}

func TestPacketsThatComeIn(t *testing.T) {
	e := rainyEnsemble(t, 2)
	both := deedsOf(t, "give 0 0", "give 0 1")
	wantLast(t, "over a bench with another member", e, then(t, both, "deliver 0", "work 0", "work 0", "deliver 0", "work 0"), impl.OK)
	wantLast(t, "over a bench with the same member", e, then(t, nil, "give 0 0", "give 0 0", "deliver 0", "work 0", "work 0", "deliver 0", "work 0"), impl.OK)
	wantLast(t, "twice", e, then(t, both, "copy 0", "work 0", "work 0", "copy 0", "work 0", "deliver 0"), impl.OK)
	wantLast(t, "in another order", e, then(t, both, "deliver 1", "work 0", "deliver 0", "work 0"), impl.OK)
	wantLast(t, "handed on twice", e, then(t, both, "deliver 0", "work 0", "hand 0 1", "copy 1", "work 1", "work 1", "copy 1", "work 1", "work 1", "work 1", "work 1", "deliver 2", "copy 1", "work 1", "work 1", "work 1", "work 1", "deliver 2"), impl.OK)
	late := then(t, answered(t), "crash", "give 1 2", "give 0 2", "deliver 0", "work 1", "copy 1")
	wantLast(t, "behind the answer", e, late, impl.OK)
	wantLast(t, "back twice", e, then(t, late, "deliver 1", "deliver 0", "work 0", "deliver 0", "save"), impl.OK)
	s, _ := wantModel(t, "late packets of both ways", e, then(t, nil, "give 0 2", "give 0 2", "deliver 0", "work 0", "copy 1", "copy 1", "deliver 0", "work 0", "deliver 0", "deliver 0"))
	if !s.Answers[2].Known || len(s.Wire) != 0 || s.Benches[0].Member != -1 {
		t.Errorf("late packets make %v", s.Station)
	}
}

func TestCrashes(t *testing.T) {
	e := rainyEnsemble(t, 2)
	busy := then(t, answered(t), "give 1 0", "deliver 0", "work 1", "give 0 1")
	for _, texts := range [][]string{
		{"crash"}, {"save"}, {"crash", "crash"}, {"save", "crash"}, {"crash", "save"}, {"save", "save", "crash", "crash"},
		{"save", "deliver 0", "work 0", "work 0", "work 0", "deliver 0", "crash"}, {"deliver 0", "work 0", "work 0", "work 0", "crash", "deliver 0"},
		{"deliver 0", "work 0", "work 0", "work 0", "copy 0", "crash", "deliver 0", "save", "crash"},
		{"save", "deliver 0", "work 0", "work 0", "work 0", "copy 0", "crash", "give 0 1", "deliver 0", "save", "deliver 0", "crash"},
	} {
		wantLast(t, "crashes", e, then(t, busy, texts...), impl.OK)
	}
	none, rain := impl.Answer{}, impl.Answer{Known: true, Rain: 0.75}
	for _, x := range []struct {
		texts          []string
		answers, saved impl.Answer
	}{
		{nil, rain, none}, {[]string{"crash"}, none, none}, {[]string{"save"}, rain, rain}, {[]string{"save", "crash"}, rain, rain}, {[]string{"crash", "save"}, none, none},
	} {
		s, _, code := impl.StationAfter(e, then(t, busy, x.texts...))
		wantAnswer(t, "the answer behind a crash", s.Answers[2], code, x.answers, impl.OK)
		wantAnswer(t, "what has been saved before a crash", s.Saved[2], code, x.saved, impl.OK)
		if s.Benches[1].Member != 0 || s.Benches[1].Done != 1 || len(s.Wire) != 1 || s.Wire[0].Member != 1 {
			t.Errorf("behind a crash there are the benches %v and the wire %v", s.Benches, s.Wire)
		}
	}
}
