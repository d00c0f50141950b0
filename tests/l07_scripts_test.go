package tests

import (
	"fmt"
	"slices"
	"strings"
	"testing"

	"loop.example/g01224/impl"
)

func wantScript(t *testing.T, what string, e impl.Ensemble, text, want string, wantCode int64) {
	t.Helper()
	got, code := impl.RunScript(e, text)
	if got != want || code != wantCode {
		t.Errorf("%s: RunScript %.300q: got %.300q, %d, want %.300q, %d", what, text, got, code, want, wantCode)
	}
}

// wantAnswers looks at the answers to lines, with a newline at the end and without one.
func wantAnswers(t *testing.T, what string, e impl.Ensemble, lines, answers []string) {
	t.Helper()
	want := strings.Join(answers, "\n") + "\n"
	wantScript(t, what, e, strings.Join(lines, "\n")+"\n", want, impl.OK)
	if lines[len(lines)-1] != "" {
		wantScript(t, what, e, strings.Join(lines, "\n"), want, impl.OK)
	}
}

// scriptModel returns the answers to lines.
func scriptModel(e impl.Ensemble, lines []string) []string {
	s := newModel(e)
	questions := map[string]func() string{}
	for member := range e.Members {
		questions[fmt.Sprint("rain ", member)] = func() string {
			if !s.Answers[member].Known {
				return "unknown"
			}
			return impl.NumberText(s.Answers[member].Rain)
		}
	}
	for clerk := range e.Clerks {
		questions[fmt.Sprint("bench ", clerk)] = func() string {
			if s.Benches[clerk].Member < 0 {
				return "empty"
			}
			return fmt.Sprint(s.Benches[clerk].Member, " ", s.Benches[clerk].Done)
		}
	}
	var answers []string
	for _, line := range lines {
		answer := "what"
		if d, code := impl.ReadDeed(line); code == impl.OK {
			answer = "ok"
			if code := s.errorOf(d); code != impl.OK {
				answer = "error " + impl.CodeName(code)
			} else {
				s.do(d)
			}
		} else if question := questions[line]; question != nil {
			answer = question()
		}
		answers = append(answers, answer)
	}
	return answers
}

func TestScriptOfEachKindOfLine(t *testing.T) {
	e := rainyEnsemble(t, 2)
	rains, _ := impl.RainsOf(e)
	var lines, answers []string
	for _, x := range [][2]string{
		{"bench 0", "empty"}, {"bench 1", "empty"}, {"bench 2", "what"}, {"rain 0", "unknown"}, {"rain 3", "unknown"}, {"rain 4", "what"},
		{"work 0", "error state"}, {"work 2", "error range"}, {"give 1 1", "ok"}, {"give 2 1", "error range"}, {"give 0 4", "error range"}, {"bench 1", "empty"},
		{"copy 0", "ok"}, {"bench 1", "1 0"}, {"work 1", "ok"}, {"bench 1", "1 1"}, {"hand 1 1", "error range"}, {"hand 1 0", "ok"}, {"bench 1", "empty"},
		{"drop 2", "error range"}, {"deliver 1", "ok"}, {"bench 0", "1 1"}, {"work 0", "ok"}, {"bench 0", "1 2"}, {"rain 1", "unknown"}, {"work 0", "ok"}, {"bench 0", "empty"},
		{"rain 1", "unknown"}, {"deliver 1", "ok"}, {"rain 1", impl.NumberText(rains[1])}, {"give 0 1", "error state"}, {"crash", "ok"}, {"rain 1", "unknown"},
		{"deliver 0", "ok"}, {"bench 1", "1 0"}, {"give 0 2", "ok"}, {"deliver 0", "ok"}, {"bench 0", "2 0"}, {"work 0", "ok"}, {"deliver 0", "ok"}, {"save", "ok"}, {"crash", "ok"},
		{"rain 2", "3f400000"}, {"bench 1", "1 0"}, {"drop 0", "error range"}, {"rain", "what"}, {"bench", "what"}, {"", "what"}, {"hello", "what"}, {"save 0", "what"}, {"give 0", "what"},
	} {
		lines, answers = append(lines, x[0]), append(answers, x[1])
		wantAnswers(t, "each kind of line", e, lines, answers)
	}
	long := impl.Ensemble{Base: goodColumn(), Members: [][]impl.Act{nil, nil, nil, slices.Repeat([]impl.Act{waitAct(0)}, 12)}, Clerks: 3}
	wantScript(t, "many acts", long, "give 2 3\ndeliver 0\n"+strings.Repeat("work 2\nbench 2\n", 13),
		"ok\nok\nok\n3 1\nok\n3 2\nok\n3 3\nok\n3 4\nok\n3 5\nok\n3 6\nok\n3 7\nok\n3 8\nok\n3 9\nok\n3 10\nok\n3 11\nok\n3 12\nok\nempty\n", impl.OK)
	full := strings.Repeat("give 0 0\n", 8)
	wantScript(t, "a full wire", e, full+"give 0 0\nrain 0\n", strings.Repeat("ok\n", 8)+"error limit\nunknown\n", impl.OK)
}

func TestLinesOfScripts(t *testing.T) {
	e := gauges(1, 1)
	for text, want := range map[string]string{
		"": "", "\n": "what\n", "\n\n": "what\nwhat\n", "\n\n\n": "what\nwhat\nwhat\n", "save": "ok\n", "save\n": "ok\n", "save\n\n": "ok\nwhat\n", "\nsave": "what\nok\n",
		"save\nsave": "ok\nok\n", "save\n\nsave\n": "ok\nwhat\nok\n", "save\r\nsave\r\n": "what\nwhat\n", "save save": "what\n", " save": "what\n", "save ": "what\n", " ": "what\n", " \n": "what\n",
		"\r": "what\n", "save\x00": "what\n", "\xff\n\xff": "what\nwhat\n", "rain 0": "unknown\n", "rain 0\n\n": "unknown\nwhat\n", "bench 0": "empty\n", "what": "what\n", "ok": "what\n",
	} {
		wantScript(t, "lines", e, text, want, impl.OK)
	}
}

func TestStrangeLines(t *testing.T) {
	e := rainyEnsemble(t, 2)
	var lines []string
	for _, word := range []string{"rain", "bench"} {
		lines = append(lines, word, word+"s 0", " "+word+" 0", word+"  0", word+" 0 ", word+" 0 0", word+"0", word+"\t0", strings.ToUpper(word)+" 0", word+" 0\r", word[1:]+" 0", word+" 4", word+" 5", word+" 999", word+" 999999")
		for _, number := range badNumbers {
			lines = append(lines, word+" "+number)
		}
	}
	lines = append(lines, "bench 2", "bench 3", "rain 0/1", "bench -1", "rain -1", "", "what", "wait 1", "heat 0 1", "times 2", "end", "column", "0", "rain 0 rain 0", "rains", "bench 9223372036854775808", "rain 18446744073709551616")
	for _, text := range badDeedTexts() {
		if len(text) < 100 && !strings.HasPrefix(text, "rain ") && !strings.HasPrefix(text, "bench ") {
			if _, code := impl.ReadDeed(text); code != impl.OK && !strings.Contains(text, "\n") {
				lines = append(lines, text)
			}
		}
	}
	for part := range slices.Chunk(lines, 150) {
		if len(strings.Join(part, "\n")) > 9000 {
			t.Fatal("the lines are too long")
		}
		wantAnswers(t, "strange lines", e, part, slices.Repeat([]string{"what"}, len(part)))
	}
}

// lines returns lines, many of which are executed.
func (c *chance) lines(e impl.Ensemble, count uint32) []string {
	strange := []string{"", "rain", "bench 01", "rain 00", "give 0", "work 0 0", "drop -1", "hello", "save 0"}
	var list []string
	for _, d := range c.deeds(e, count) {
		line := impl.DeedText(d)
		switch c.next(12) {
		case 0:
			line = fmt.Sprint("rain ", c.below(int64(len(e.Members))))
		case 1:
			line = fmt.Sprint("bench ", c.below(e.Clerks))
		case 2:
			line = strange[c.next(uint32(len(strange)))]
		}
		list = append(list, line)
	}
	return list
}

func TestScriptsByChance(t *testing.T) {
	g := chance(540)
	ensembles := append(goodEnsembles(t), rainyEnsemble(t, 2), rainyEnsemble(t, 3))
	met := map[string]int{}
	for range 200 {
		e := ensembles[g.next(uint32(len(ensembles)))]
		lines := g.lines(e, 1+g.next(150))
		answers := scriptModel(e, lines)
		wantAnswers(t, "by chance", e, lines, answers)
		for _, answer := range answers {
			met[answer]++
		}
	}
	for _, answer := range []string{"ok", "what", "unknown", "empty", "error range", "error state", "error limit", "0 0", "0 1", "1 0", "2 0", "3 1", "3f400000"} {
		if met[answer] < 10 {
			t.Errorf("just %d lines have the answer %q", met[answer], answer)
		}
	}
}

// A script ends as the deeds in it do.
func TestScriptsOfPlans(t *testing.T) {
	for _, e := range goodEnsembles(t) {
		plan, _ := impl.FinishDeeds(e, nil)
		rains, _ := impl.RainsOf(e)
		var lines, answers []string
		for _, d := range plan {
			lines, answers = append(lines, impl.DeedText(d)), append(answers, "ok")
		}
		for member, rain := range rains {
			lines, answers = append(lines, fmt.Sprint("rain ", member)), append(answers, impl.NumberText(rain))
		}
		wantAnswers(t, "a plan", e, lines, answers)
	}
}

func TestMostOfScripts(t *testing.T) {
	e := gauges(1, 1)
	for _, x := range [][2]string{{"", "what\n"}, {"save", "ok\n"}, {"rain 0", "unknown\n"}, {"work 0", "error state\n"}} {
		text, want := strings.Repeat(x[0]+"\n", 150), strings.Repeat(x[1], 150)
		wantScript(t, "the most lines", e, text, want, impl.OK)
		if x[0] != "" {
			wantScript(t, "the most lines, without a newline at the end", e, text[:len(text)-1], want, impl.OK)
		}
		wantScript(t, "one line more", e, text+"\n", "", impl.ErrRange)
		wantScript(t, "one line more", e, text+"save", "", impl.ErrRange)
		wantScript(t, "one line more, with a newline at the end", e, text+"save\n", "", impl.ErrRange)
		wantScript(t, "far too many lines", e, strings.Repeat(text, 7), "", impl.ErrRange)
	}
	for _, letter := range []string{"a", " ", "é", "\x00"} {
		most := strings.Repeat(letter, 10000/len(letter))
		wantScript(t, "the most bytes", e, most, "what\n", impl.OK)
		wantScript(t, "one byte more", e, most+"a", "", impl.ErrRange)
		wantScript(t, "a newline more", e, most+"\n", "", impl.ErrRange)
		wantScript(t, "far too many bytes", e, strings.Repeat(most, 90), "", impl.ErrRange)
	}
	long := strings.Repeat(strings.Repeat("x", 65)+"\n", 149)
	wantScript(t, "the most lines and bytes", e, long+strings.Repeat("y", 10000-len(long)), strings.Repeat("what\n", 150), impl.OK)
	wantScript(t, "the most lines, and one byte more", e, long+strings.Repeat("y", 10001-len(long)), "", impl.ErrRange)
	wantScript(t, "far too many newlines", e, strings.Repeat("\n", 1000000), "", impl.ErrRange)
}

func TestErrorsOfScripts(t *testing.T) {
	for index, e := range notEnsembles(t) {
		if index%3 == 0 {
			for _, text := range []string{"", "save", strings.Repeat("\n", 151), strings.Repeat("a", 10001)} {
				wantScript(t, "no ensemble", e, text, "", impl.ErrInvalid)
			}
		}
	}
}
