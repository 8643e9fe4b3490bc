package tests

import (
	"fmt"
	"slices"
	"strings"
	"testing"

	"loop.example/g01367/impl"
)

func TestListsAreReadFromTheirTexts(t *testing.T) {
	for want, list := range map[string][]float32{
		"":                           nil,
		"3f800000 c0000000":          {1, -2},
		"80000000 00000000 00000001": {minus0, 0, tiniest},
		"49800000":                   {maxSize},
		"c9800000 497fffff":          {-maxSize, below(maxSize)},
		strings.Repeat("3dcccccd ", 47) + "3dcccccd": slices.Repeat([]float32{0.1}, 48),
	} {
		if got := impl.ListText(list); got != want {
			t.Errorf("%v: got %q, want %q", list, got, want)
		}
	}
	for _, list := range append(someLists(), highLists()[:200]...) {
		read, code := impl.ReadList(impl.ListText(list))
		if code != impl.OK || !slices.EqualFunc(read, list, identical) {
			t.Errorf("%v is read as %v with %d", list, read, code)
		}
	}
	for _, list := range badLists() {
		if text := impl.ListText(list); text != "" {
			t.Errorf("%d numbers that begin with %v have the text %q", len(list), list[:1], text)
		}
	}
}

func wantNoList(t *testing.T, text string) {
	t.Helper()
	if list, code := impl.ReadList(text); code != impl.ErrSyntax || len(list) != 0 {
		t.Errorf("%.80q is read as %v with %d", text, list, code)
	}
}

func TestTextsOfNoLists(t *testing.T) {
	whole := "3f800000 c0000000 00000000"
	for _, text := range []string{
		" ", "  ", "x", "0", "\n", "\x00", whole + " ", " " + whole, whole + "\n", whole + "\x00", whole + " x", whole + " 0", whole + "  " + whole,
		strings.ReplaceAll(whole, " ", "  "), strings.ReplaceAll(whole, " ", "\t"), strings.ReplaceAll(whole, " ", ""), strings.ReplaceAll(whole, " ", ","),
		strings.Replace(whole, " ", "  ", 1), strings.Repeat(" ", 47), strings.Repeat(" ", 1000000), strings.Repeat("0", 1000000),
		strings.Repeat("00000000 ", 48), strings.Repeat("00000000 ", 48) + "00000000", strings.Repeat("00000000 ", 48) + "x",
		strings.Repeat("00000000 ", 111110) + "00000000", strings.Repeat("00000000 ", 47), " " + strings.Repeat("00000000 ", 46) + "00000000",
	} {
		wantNoList(t, text)
	}
	// As many numbers as there may be are still read.
	if list, code := impl.ReadList(strings.Repeat("00000000 ", 47) + "80000000"); code != impl.OK || len(list) != 48 || !identical(list[47], minus0) {
		t.Errorf("48 numbers are read as %v with %d", list, code)
	}
	parts := []string{"", "0", "1", "0.5", "-1", "3f80000", "3f8000000", "3F800000", "3f80000g", "+3f80000", "-3f80000", "0x3f8000", "3f_80000", "3f80000\n",
		"7f800000", "ff800000", "7fc00000", "7fc00001", "ffc00000", "49800001", "c9800001", "7f7fffff", "ff7fffff", "49800008", "ffffffff", "\u0661f80000"}
	for place := range 3 {
		for _, part := range parts {
			changed := strings.Split(whole, " ")
			changed[place] = part
			wantNoList(t, strings.Join(changed, " "))
			if part != "" {
				wantNoList(t, part)
			}
		}
	}
	// A number that is not plain is refused wherever it is.
	for _, bad := range badNumbers() {
		for _, place := range []int{0, 20, 47} {
			texts := slices.Repeat([]string{"3f800000"}, 48)
			texts[place] = impl.NumberText(bad)
			wantNoList(t, strings.Join(texts, " "))
		}
	}
}

// A text with a byte changed, left out or put in is either no list's, or that of the list that is read.
func TestAlmostTextsOfLists(t *testing.T) {
	codes := map[int64]int{}
	check := func(text string) {
		list, code := impl.ReadList(text)
		codes[code]++
		if code == impl.OK {
			if !impl.ValidList(list) || impl.ListText(list) != text {
				t.Errorf("%q is read as %v", text, list)
			}
		} else if code != impl.ErrSyntax || len(list) != 0 {
			t.Errorf("%q is read as %v with %d", text, list, code)
		}
	}
	for _, whole := range []string{"3f800000", "c0000000 49800000", "80000000 00000001 c9800000"} {
		eachAlmostText(whole, check)
	}
	if codes[impl.OK] == 0 || codes[impl.ErrSyntax] == 0 {
		t.Errorf("codes %v", codes)
	}
}

// Each list has one text, and each text one list.
func TestTextsOfListsDiffer(t *testing.T) {
	texts := map[string]string{}
	for _, list := range someLists() {
		text := impl.ListText(list)
		var bits []string
		for _, x := range list {
			bits = append(bits, fmt.Sprintf("%v/%s", x, impl.NumberText(x)))
		}
		numbers := strings.Join(bits, ";")
		if other, known := texts[text]; known && other != numbers {
			t.Errorf("%q is the text of %s and of %s", text, numbers, other)
		}
		texts[text] = numbers
	}
}
