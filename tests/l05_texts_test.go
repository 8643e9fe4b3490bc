package tests

import (
	"strconv"
	"strings"
	"testing"

	"loop.example/g01367/impl"
)

func TestStatesAreReadFromTheirTexts(t *testing.T) {
	for want, s := range map[string]impl.State{
		"0 0 0": {}, "-24 1 0": {Tilt: -24, Wait: 1}, "-64 20 0": {Tilt: -64, Wait: 20}, "64 0 20": {Tilt: 64, Storm: 20}, "7 8 9": {Tilt: 7, Wait: 8, Storm: 9},
	} {
		if got := impl.StateText(s); got != want {
			t.Errorf("%v: got %q, want %q", s, got, want)
		}
	}
	for tilt := int64(-64); tilt <= 64; tilt++ {
		for wait := range int64(21) {
			for storm := range int64(21) {
				s := stateOf(tilt, wait, storm)
				if read, code := impl.ReadState(impl.StateText(s)); read != s || code != impl.OK {
					t.Errorf("%v is read as %v with %d", s, read, code)
				}
			}
		}
	}
	for _, s := range badStates() {
		if text := impl.StateText(s); text != "" {
			t.Errorf("%v has the text %q", s, text)
		}
	}
}

func TestControlsAreReadFromTheirTexts(t *testing.T) {
	for want, c := range map[string]impl.Control{
		"3e800000 3f000000 3f000000 8 1 2":   exampleControl(),
		"80000000 00000001 3f800000 64 20 1": {Low: minus0, High: tiniest, Wind: 1, Step: 64, Delay: 20, Calm: 1},
		"00000000 80000000 80000000 1 0 20":  {High: minus0, Wind: minus0, Step: 1, Calm: 20},
	} {
		if got := impl.ControlText(c); got != want {
			t.Errorf("%v: got %q, want %q", c, got, want)
		}
	}
	for _, c := range someControls() {
		read, code := impl.ReadControl(impl.ControlText(c))
		if code != impl.OK || !impl.SameControl(read, c) {
			t.Errorf("%v is read as %v with %d", c, read, code)
		}
	}
	for _, c := range badControls() {
		if text := impl.ControlText(c); text != "" {
			t.Errorf("%v has the text %q", c, text)
		}
	}
}

func wantNoState(t *testing.T, text string) {
	t.Helper()
	if s, code := impl.ReadState(text); code != impl.ErrSyntax || s != (impl.State{}) {
		t.Errorf("%.80q is read as %v with %d", text, s, code)
	}
}

func wantNoControl(t *testing.T, text string) {
	t.Helper()
	if c, code := impl.ReadControl(text); code != impl.ErrSyntax || !impl.SameControl(c, impl.Control{}) {
		t.Errorf("%.80q is read as %v with %d", text, c, code)
	}
}

// almostWholes are spellings of no number, or of one that is too small or too great for all of a state or a control.
func almostWholes() []string {
	return []string{"", "-", "+1", "01", "00", "-0", "-01", "--1", "1.0", "1e1", "0x1", "1_0", "a", "\u0661", "1\n", "\t1",
		"65", "-65", "127", "128", "256", "257", "-255", "65537", "65536", "-65535", "32768", "-32769", "4294967297", "9223372036854775808",
		"-9223372036854775809", "18446744073709551617", strings.Repeat("9", 100000), strings.Repeat("0", 100000) + "1"}
}

func TestTextsOfNoStates(t *testing.T) {
	whole := "-24 1 2"
	for _, text := range []string{
		"", " ", "  ", "   ", "1", "1 1", "1 1 1 1", whole + " ", " " + whole, whole + "\n", whole + "\x00", whole + " 0", whole + " " + whole,
		strings.ReplaceAll(whole, " ", "  "), strings.ReplaceAll(whole, " ", "\t"), strings.ReplaceAll(whole, " ", ""),
		strings.ReplaceAll(whole, " ", ","), "-24  1 2", "-24 1  2", "-24 1", "- 24 1 2", "\u221224 1 2",
		strings.Repeat(" ", 1000000), strings.Repeat("0", 1000000), strings.Repeat("1 ", 500000),
	} {
		wantNoState(t, text)
	}
	ticks := append([]string{"-1", "-20", "21", "-128", "266"}, almostWholes()...)
	for place, list := range [][]string{almostWholes(), ticks, ticks} {
		for _, part := range list {
			changed := strings.Split(whole, " ")
			changed[place] = part
			wantNoState(t, strings.Join(changed, " "))
		}
	}
}

func TestTextsOfNoControls(t *testing.T) {
	whole := impl.ControlText(exampleControl())
	for _, text := range []string{
		"", " ", "     ", "      ", "1 1 1 1 1 1", whole + " ", " " + whole, whole + "\n", whole + "\x00", whole + " 0", whole + " " + whole,
		whole[:len(whole)-2], whole[9:], strings.ReplaceAll(whole, " ", "  "), strings.ReplaceAll(whole, " ", "\t"),
		strings.ReplaceAll(whole, " ", ""), strings.Replace(whole, " ", "  ", 1), strings.Replace(whole, " 8", "  8", 1), strings.ToUpper(whole),
		"3f000000 3e800000 3f000000 8 1 2", "00000001 80000000 3f000000 8 1 2", "00000001 00000000 3f000000 8 1 2",
		strings.Repeat(" ", 1000000), strings.Repeat("0", 1000000), strings.Repeat("00000000 ", 110000),
	} {
		wantNoControl(t, text)
	}
	parts := []string{"80000001", "3f800001", "bf800000", "40000000", "7f800000", "ff800000", "7fc00000", "7fc00001", "ffc00000",
		"", "0", "1", "0.5", "3f00000", "3f0000000", "3E800000", "3f00000g", "+3f00000", "-3f00000", "0x3f0000", "3f00_000", " 3f000000", "3f000000 "}
	steps := append([]string{"0", "-1", "-64"}, almostWholes()...)
	delays := append([]string{"-1", "-20", "21", "64"}, almostWholes()...)
	calms := append([]string{"0", "-1", "-20", "21", "64"}, almostWholes()...)
	for place, list := range [][]string{parts, parts, parts, steps, delays, calms} {
		for _, part := range list {
			changed := strings.Split(whole, " ")
			changed[place] = part
			wantNoControl(t, strings.Join(changed, " "))
		}
	}
}

// A text with a byte changed, left out or put in is either no state's, or that of the state that is read.
func TestAlmostTextsOfStates(t *testing.T) {
	others := 0
	for _, whole := range []string{"-24 1 2", "64 20 20", "-64 0 0", "0 19 1", "5 5 5"} {
		eachAlmostText(whole, func(text string) {
			s, code := impl.ReadState(text)
			if code == impl.OK {
				others++
				if !impl.ValidState(s) || impl.StateText(s) != text {
					t.Errorf("%q is read as the state with the text %q", text, impl.StateText(s))
				}
			} else if code != impl.ErrSyntax || s != (impl.State{}) {
				t.Errorf("%q is read as %v with %d", text, s, code)
			}
		})
	}
	if others == 0 {
		t.Error("no changed text was that of another state")
	}
}

// A text with a byte changed, left out or put in is either no control's, or that of the control that is read.
func TestAlmostTextsOfControls(t *testing.T) {
	others := 0
	for _, whole := range []string{impl.ControlText(exampleControl()), "80000000 00000001 3f800000 64 20 1"} {
		eachAlmostText(whole, func(text string) {
			c, code := impl.ReadControl(text)
			if code == impl.OK {
				others++
				if !impl.ValidControl(c) || impl.ControlText(c) != text {
					t.Errorf("%q is read as the control with the text %q", text, impl.ControlText(c))
				}
			} else if code != impl.ErrSyntax || !impl.SameControl(c, impl.Control{}) {
				t.Errorf("%q is read as %v with %d", text, c, code)
			}
		})
	}
	if others == 0 {
		t.Error("no changed text was that of another control")
	}
}

func TestEachWholeNumberIsRead(t *testing.T) {
	check := func(text string, isState, isControl bool) {
		if isState {
			if s, code := impl.ReadState(text); code != impl.OK || impl.StateText(s) != text {
				t.Errorf("%q is read as %v with %d", text, s, code)
			}
		} else {
			wantNoState(t, text)
		}
		whole := "00000000 3f800000 3f000000 " + text
		if isControl {
			if c, code := impl.ReadControl(whole); code != impl.OK || impl.ControlText(c) != whole {
				t.Errorf("%q is read as %v with %d", whole, c, code)
			}
		} else {
			wantNoControl(t, whole)
		}
	}
	for number := int64(-300); number <= 300; number++ {
		digits := strconv.FormatInt(number, 10)
		isTicks := number >= 0 && number <= 20
		check(digits+" 2 3", number >= -64 && number <= 64, number >= 1 && number <= 64)
		check("1 "+digits+" 3", isTicks, isTicks)
		check("1 2 "+digits, isTicks, isTicks && number > 0)
	}
}
