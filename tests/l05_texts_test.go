package tests

import (
	"strings"
	"testing"

	"loop.example/g01224/impl"
)

func wantPulsesRead(t *testing.T, what, text string, want []complex64, wantCode int64) {
	t.Helper()
	got, code := impl.ReadPulses(text)
	wantPulses(t, what, got, code, want, wantCode)
}

func TestPulsesAreReadFromTheirTexts(t *testing.T) {
	g := chance(360)
	list := pulsesAtTheEnds()
	for range 500 {
		list = append(list, g.somePulses())
	}
	for _, pulses := range list {
		text := impl.PulsesText(pulses)
		if text != pulsesText(pulses) {
			t.Errorf("PulsesText %v: got %q", pulses, text)
		}
		wantPulsesRead(t, "ReadPulses", text, pulses, impl.OK)
	}
	for _, bad := range notPulses() {
		if text := impl.PulsesText(bad); text != "" {
			t.Errorf("PulsesText %v: got %q", bad, text)
		}
		wantPulsesRead(t, "ReadPulses of no valid pulses", pulsesText(bad), nil, impl.ErrSyntax)
	}
	pulses := []complex64{complex(1, minus0), complex(-0.5, greatest)}
	const text = "3f800000 80000000\nbf000000 7f7fffff\n"
	if got := impl.PulsesText(pulses); got != text {
		t.Errorf("PulsesText: got %q", got)
	}
	wantPulsesRead(t, "ReadPulses", text, pulses, impl.OK)
}

func TestReadPulsesErrors(t *testing.T) {
	const one, two = "3f800000 80000000", "bf000000 7f7fffff"
	wantPulsesRead(t, "a good text", one+"\n"+two+"\n", []complex64{complex(1, minus0), complex(-0.5, greatest)}, impl.OK)
	wantPulsesRead(t, "one line", two+"\n", []complex64{complex(-0.5, greatest)}, impl.OK)
	for _, text := range []string{
		"", "\n", "\n\n", " ", " \n", "x", one, one + "\n" + two, one + two + "\n", one + " " + two + "\n", one + " \n", " " + one + "\n",
		"\n" + one + "\n", one + "\n\n", one + "\n\n" + two + "\n", one + "\n" + two + "\n\n", one + "\n ", one + "\n" + two + "\n ", one + "\n x\n",
		one + "\r\n", one + "\r", one + "\n" + two + "\r\n", one + "\x00", one + "\n\x00",
		"3f800000\n", "3f800000 \n", " 3f800000\n", "3f800000  80000000\n", "3f80000080000000\n", "3f800000\t80000000\n", "3f800000\n80000000\n",
		"3f800000 80000000 00000000\n", "3f80000 80000000\n", "3f800000 8000000\n", "3f8000000 80000000\n", "3f800000 800000000\n",
		"3F800000 80000000\n", "3f800000 8000000G\n", "3f80000g 80000000\n", "3f800000,80000000\n", "1 0\n", "0x3f8000 80000000\n", "(1+0i)\n",
		"7f800000 00000000\n", "00000000 7f800000\n", "ff800000 00000000\n", "7fc00000 00000000\n", "00000000 7fc00000\n", "00000000 7fc00001\n", "ffc00000 00000000\n",
		one + "\n00000000 ff800000\n", "pulses\n" + one + "\n", one + "\nend\n",
	} {
		wantPulsesRead(t, "ReadPulses "+text, text, nil, impl.ErrSyntax)
	}
}

// Each letter of a text that is taken away, comes twice or is another one makes the text of other pulses, or of none.
func TestReadPulsesOfOtherLetters(t *testing.T) {
	text := impl.PulsesText([]complex64{complex(0.5, 20.25), complex(-5, 1.75), complex(minus0, 0.125)})
	for index := range text {
		for _, other := range []string{"", text[index:index+1] + text[index:index+1], "0", "f", "A", " ", "\n", "-", "\x00"} {
			changed := text[:index] + other + text[index+1:]
			got, code := impl.ReadPulses(changed)
			if code == impl.OK && impl.PulsesText(got) != changed || code != impl.OK && (code != impl.ErrSyntax || got != nil) {
				t.Errorf("ReadPulses %q: got %v, %d", changed, got, code)
			}
			if code == impl.OK && len(changed) != len(text) {
				t.Errorf("ReadPulses %q: got %v", changed, got)
			}
		}
	}
}

func TestReadPulsesLimits(t *testing.T) {
	const line = "3f800000 80000000\n"
	for _, count := range []int{1, 2, 63, 64} {
		wantPulsesRead(t, "many lines", strings.Repeat(line, count), equalPulses(count, complex(1, minus0)), impl.OK)
	}
	for _, count := range []int{65, 66, 1000, 50000} {
		wantPulsesRead(t, "too many lines", strings.Repeat(line, count), nil, impl.ErrSyntax)
	}
	for _, letter := range []string{"0", " ", "\n", "x", "é"} {
		wantPulsesRead(t, "a long text", strings.Repeat(letter, 500000), nil, impl.ErrSyntax)
		wantPulsesRead(t, "a long text", strings.Repeat(line, 64)+strings.Repeat(letter, 500000), nil, impl.ErrSyntax)
	}
}
