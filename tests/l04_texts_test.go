package tests

import (
	"strings"
	"testing"

	"loop.example/g01367/impl"
)

func TestAwningsAreReadFromTheirTexts(t *testing.T) {
	for want, a := range map[string]impl.Awning{
		"3f800000 00000000 00000000 40000000": exampleAwning(),
		"41000000 40000000 40000000 40800000": {Out: 8, Drop: 2, Gap: 2, Tall: 4},
		"00000000 00000001 3f000000 3e000000": {Drop: tiniest, Gap: 0.5, Tall: 0.125},
		"80000000 80000000 80000000 3f800000": {Out: minus0, Drop: minus0, Gap: minus0, Tall: 1},
	} {
		if got := impl.AwningText(a); got != want {
			t.Errorf("%v: got %q, want %q", a, got, want)
		}
	}
	for _, a := range someAwnings() {
		read, code := impl.ReadAwning(impl.AwningText(a))
		if code != impl.OK || !impl.SameAwning(read, a) {
			t.Errorf("%v is read as %v with %d", a, read, code)
		}
	}
	for i, a := range badAwnings() {
		if text := impl.AwningText(a); text != "" {
			t.Errorf("bad awning %d has the text %q", i, text)
		}
	}
}

func wantNoAwning(t *testing.T, text string) {
	t.Helper()
	if a, code := impl.ReadAwning(text); code != impl.ErrSyntax || !impl.SameAwning(a, impl.Awning{}) {
		t.Errorf("%.80q is read as %v with %d", text, a, code)
	}
}

func TestTextsOfNoAwnings(t *testing.T) {
	whole := impl.AwningText(exampleAwning())
	for _, text := range []string{
		"", " ", "   ", "    ", "x", "3f800000", whole + " ", " " + whole, whole + "\n", whole + "\x00", whole + " 00000000",
		whole + " " + whole, whole[9:], whole[:26], strings.ToUpper(whole), "00000000 00000000 00000000 00000000",
		strings.ReplaceAll(whole, " ", "  "), strings.ReplaceAll(whole, " ", "\t"), strings.ReplaceAll(whole, " ", ""),
		strings.Replace(whole, " ", "  ", 1), strings.Replace(whole, " ", ",", 1), strings.Replace(whole, " 00000000", "", 1),
		strings.Repeat(" ", 1000000), strings.Repeat("0", 1000000), strings.Repeat("3f800000 ", 110000),
	} {
		wantNoAwning(t, text)
	}
	numbers := []string{"", "0", "1", "0.5", "00000000 ", " 00000000", "0000000", "000000000", "0000000g", "+0000000", "-0000000",
		"3F800000", "0x3f8000", "3f80_000", "80000001", "bf800000", "7f800000", "ff800000", "7fc00000", "7fc00001", "ffc00000"}
	outs := append([]string{"41000001", "41800000"}, numbers...)
	downs := append([]string{"40000001", "40400000"}, numbers...)
	talls := append([]string{"00000000", "80000000", "00000001", "3dffffff", "40800001", "41000000"}, numbers...)
	for place, list := range [][]string{outs, downs, downs, talls} {
		for _, number := range list {
			changed := strings.Split(whole, " ")
			changed[place] = number
			wantNoAwning(t, strings.Join(changed, " "))
		}
	}
}

// A text with a byte changed, left out or put in is either no awning's, or that of the awning that is read.
func TestAlmostTextsOfAwnings(t *testing.T) {
	others := 0
	check := func(text string) {
		a, code := impl.ReadAwning(text)
		if code == impl.OK {
			others++
			if !impl.ValidAwning(a) || impl.AwningText(a) != text {
				t.Errorf("%q is read as the awning with the text %q", text, impl.AwningText(a))
			}
		} else if code != impl.ErrSyntax || !impl.SameAwning(a, impl.Awning{}) {
			t.Errorf("%q is read as %v with %d", text, a, code)
		}
	}
	for _, whole := range []string{impl.AwningText(exampleAwning()), "80000000 00000001 40000000 3e000000"} {
		eachAlmostText(whole, check)
	}
	if others == 0 {
		t.Error("no changed text was that of another awning")
	}
}
