package tests

import (
	"strings"
	"testing"

	"loop.example/g01224/impl"
)

// soundingText makes the text of levels that need not be valid.
func soundingText(s []impl.Level) string {
	text := ""
	for _, level := range s {
		text += impl.NumberText(level.Height) + " " + impl.NumberText(level.Air.Heat) + " " + impl.NumberText(level.Air.Vapour) + "\n"
	}
	return text
}

func wantRead(t *testing.T, what, text string, want []impl.Level, wantCode int64) {
	t.Helper()
	got, code := impl.ReadSounding(text)
	wantSounding(t, what, got, code, want, wantCode)
}

func TestSoundingsAreReadFromTheirTexts(t *testing.T) {
	g := chance(250)
	list := soundingsAtTheEnds()
	for range 500 {
		list = append(list, g.sounding())
	}
	for _, s := range list {
		text := impl.SoundingText(s)
		if text != soundingText(s) {
			t.Errorf("SoundingText %v: got %q", s, text)
		}
		wantRead(t, "ReadSounding", text, s, impl.OK)
	}
	for _, s := range notSoundings() {
		if text := impl.SoundingText(s); text != "" {
			t.Errorf("SoundingText %v: got %q", s, text)
		}
		text := soundingText(s)
		code := int64(impl.ErrSyntax)
		if len(text) > 4000 {
			code = impl.ErrRange
		}
		wantRead(t, "ReadSounding of no valid sounding", text, nil, code)
	}
	s := levels(0, -60, 1000, 30, minus0, 0.5)
	const text = "00000000 c2700000 447a0000\n41f00000 80000000 3f000000\n"
	if got := impl.SoundingText(s); got != text {
		t.Errorf("SoundingText: got %q", got)
	}
	wantRead(t, "ReadSounding", text, s, impl.OK)
}

func TestReadSoundingErrors(t *testing.T) {
	const one, two = "00000000 c2700000 447a0000", "41f00000 80000000 3f000000"
	wantRead(t, "a good text", one+"\n"+two+"\n", levels(0, -60, 1000, 30, minus0, 0.5), impl.OK)
	for _, text := range []string{
		"", "\n", "\n\n", " ", one, one + "\n", one + "\n" + two, one + two + "\n", one + " " + two + "\n",
		"\n" + one + "\n" + two + "\n", one + "\n\n" + two + "\n", one + "\n" + two + "\n\n", one + "\n" + two + "\n ", one + "\n" + two + " \n",
		" " + one + "\n" + two + "\n", one + "\n " + two + "\n", one + " \n" + two + "\n", one + "\r\n" + two + "\r\n", one + "\n" + two + "\r",
		"00000000  c2700000 447a0000\n" + two + "\n", "00000000 c2700000\n" + two + "\n", "00000000 c2700000 447a0000 00000000\n" + two + "\n",
		"00000000 c2700000 447a0000\n41f00000 80000000\n", "00000000\tc2700000 447a0000\n" + two + "\n", "00000000 c2700000 \n" + two + "\n",
		"0000000 c2700000 447a0000\n" + two + "\n", "000000000 c2700000 447a0000\n" + two + "\n", "00000000 C2700000 447a0000\n" + two + "\n",
		"00000000 c2700000 447A0000\n" + two + "\n", "00000000 c270000g 447a0000\n" + two + "\n", "00000000 c2700000 447a000\n" + two + "\n",
		"sounding\n" + one + "\n" + two + "\n", "air c2700000 447a0000\nair 80000000 3f000000\n", one + "\n" + two + "\nx", one + "\n" + two + "\nx\n",
		"80000000 c2700000 447a0000\n" + two + "\n", "00000000 7fc00000 447a0000\n" + two + "\n", "00000000 7fc00001 447a0000\n" + two + "\n",
		"00000000 c2700000 7f800000\n" + two + "\n", "00000000 c2700001 447a0000\n" + two + "\n", "00000000 c2700000 447a0001\n" + two + "\n",
		one + "\n41f00001 80000000 3f000000\n", two + "\n" + one + "\n", one + "\n" + one + "\n", one + "\n" + two + "\n" + two + "\n",
		"0 -60 1000\n30 0 0.5\n",
	} {
		wantRead(t, "ReadSounding "+text, text, nil, impl.ErrSyntax)
	}
}

// Each letter of a text that is taken away, comes twice or is another one makes the text of another sounding, or of none.
func TestReadSoundingOfOtherLetters(t *testing.T) {
	text := impl.SoundingText(levels(0.5, 20.25, 5, 1.75, -3, 4, 3, -20, 0.125))
	for index := range text {
		for _, other := range []string{"", text[index:index+1] + text[index:index+1], "0", "f", "A", " ", "\n", "-", "\x00"} {
			changed := text[:index] + other + text[index+1:]
			got, code := impl.ReadSounding(changed)
			if code == impl.OK && (impl.SoundingText(got) != changed || !impl.ValidSounding(got)) || code != impl.OK && (code != impl.ErrSyntax || got != nil) {
				t.Errorf("ReadSounding %q: got %v, %d", changed, got, code)
			}
			if code == impl.OK && len(changed) != len(text) {
				t.Errorf("ReadSounding %q: got %v", changed, got)
			}
		}
	}
}

func TestReadSoundingLimits(t *testing.T) {
	full := impl.SoundingText(manyLevels(32, 0.5))
	wantRead(t, "the most levels", full, manyLevels(32, 0.5), impl.OK)
	wantRead(t, "one level more", soundingText(manyLevels(33, 0.5)), nil, impl.ErrSyntax)
	for _, letter := range []string{"0", " ", "\n", "x"} {
		wantRead(t, "the most bytes", strings.Repeat(letter, 4000), nil, impl.ErrSyntax)
		wantRead(t, "one byte more", strings.Repeat(letter, 4001), nil, impl.ErrRange)
		wantRead(t, "far too many bytes", strings.Repeat(letter, 1000000), nil, impl.ErrRange)
		wantRead(t, "the most bytes, with a good beginning", full+strings.Repeat(letter, 4000-len(full)), nil, impl.ErrSyntax)
		wantRead(t, "one byte more, with a good beginning", full+strings.Repeat(letter, 4001-len(full)), nil, impl.ErrRange)
	}
	// Letters of more than one byte count as their bytes.
	wantRead(t, "letters of two bytes", strings.Repeat("é", 2000), nil, impl.ErrSyntax)
	wantRead(t, "letters of two bytes", strings.Repeat("é", 2001), nil, impl.ErrRange)
}
