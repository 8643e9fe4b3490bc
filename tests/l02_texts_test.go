package tests

import (
	"strconv"
	"strings"
	"testing"

	"loop.example/g01367/impl"
)

func TestBlindsAreReadFromTheirTexts(t *testing.T) {
	for want, b := range map[string]impl.Blind{
		"10 40000000 40000000 0 3f000000":  tenSlats(),
		"1 3d800000 42800000 -64 80000000": {Slats: 1, Wide: 0.0625, Gap: 64, Tilt: -64, Shine: minus0},
		"60 42800000 3d800000 64 00000000": {Slats: 60, Wide: 64, Gap: 0.0625, Tilt: 64},
		"9 3fc00000 3fa00000 -1 00000001":  {Slats: 9, Wide: 1.5, Gap: 1.25, Tilt: -1, Shine: tiniest},
	} {
		if got := impl.BlindText(b); got != want {
			t.Errorf("%v: got %q, want %q", b, got, want)
		}
	}
	for _, b := range someBlinds() {
		read, code := impl.ReadBlind(impl.BlindText(b))
		if code != impl.OK || !impl.SameBlind(read, b) {
			t.Errorf("%v is read as %v with %d", b, read, code)
		}
	}
	for i, b := range badBlinds() {
		if text := impl.BlindText(b); text != "" {
			t.Errorf("bad blind %d has the text %q", i, text)
		}
	}
}

func wantNoBlind(t *testing.T, text string) {
	t.Helper()
	if b, code := impl.ReadBlind(text); code != impl.ErrSyntax || !impl.SameBlind(b, impl.Blind{}) {
		t.Errorf("%.80q is read as %v with %d", text, b, code)
	}
}

func TestTextsOfNoBlinds(t *testing.T) {
	whole := impl.BlindText(tenSlats())
	for _, text := range []string{
		"", " ", "    ", "     ", "10", whole + " ", " " + whole, whole + "\n", whole + "\x00", whole + " 0", whole + " " + whole,
		strings.ReplaceAll(whole, " ", "  "), strings.ReplaceAll(whole, " ", "\t"), strings.ReplaceAll(whole, " ", ""),
		strings.Replace(whole, " ", "  ", 1), strings.Replace(whole, " 0 ", " ", 1), strings.Replace(whole, " 0 ", "  ", 1),
		strings.Repeat(" ", 1000000), strings.Repeat("0", 1000000), strings.Repeat("1 ", 500000),
	} {
		wantNoBlind(t, text)
	}
	lengths := []string{"00000000", "80000000", "3d7fffff", "42800001", "c0000000", "7f800000", "ff800000", "7fc00000", "7fc00001",
		"", "0", "2", "4000000", "400000000", "040000000", "4000000g", "+4000000", "-4000000", "3FC00000", "0x400000", "4000_000"}
	parts := []string{"80000001", "3f800001", "bf800000", "40000000", "7f800000", "ff800000", "7fc00000", "ffc00000",
		"", "0", "1", "0.5", "3f00000", "3f0000000", "3F000000", "3f00000g", "+3f00000", "-3f00000"}
	wholes := []string{"", "-", "+1", "01", "00", "-0", "-01", "--1", "1.0", "1e1", "0x1", "1_0", "a", "\u0661", "1\n", "\t1",
		"65", "-65", "266", "65546", "-32769", "32768", "9223372036854775808", "-9223372036854775809", strings.Repeat("9", 100000)}
	slats := append([]string{"0", "-1", "61", "127", "128", "257", "-246", "-255"}, wholes...)
	for place, list := range [][]string{slats, lengths, lengths, wholes, parts} {
		for _, part := range list {
			changed := strings.Split(whole, " ")
			changed[place] = part
			wantNoBlind(t, strings.Join(changed, " "))
		}
	}
}

// eachAlmostText tries a text with each of its bytes left out, or with another one put in its place or before it.
func eachAlmostText(whole string, try func(text string)) {
	for i := range len(whole) {
		try(whole[:i] + whole[i+1:])
		for _, b := range []string{"0", "1", "5", "9", "-", "+", " ", "a", "F", "\x00"} {
			try(whole[:i] + b + whole[i+1:])
			try(whole[:i] + b + whole[i:])
		}
	}
}

// A text with a byte changed, left out or put in is either no blind's, or that of the blind that is read.
func TestAlmostTextsOfBlinds(t *testing.T) {
	others := 0
	check := func(text string) {
		b, code := impl.ReadBlind(text)
		if code == impl.OK {
			others++
			if !impl.ValidBlind(b) || impl.BlindText(b) != text {
				t.Errorf("%q is read as the blind with the text %q", text, impl.BlindText(b))
			}
		} else if code != impl.ErrSyntax || !impl.SameBlind(b, impl.Blind{}) {
			t.Errorf("%q is read as %v with %d", text, b, code)
		}
	}
	for _, whole := range []string{impl.BlindText(tenSlats()), "1 3d800000 42800000 -64 80000000"} {
		eachAlmostText(whole, check)
	}
	if others == 0 {
		t.Error("no changed text was that of another blind")
	}
}

func TestEachWholeNumberOfABlindIsRead(t *testing.T) {
	check := func(text string, want impl.Blind, isOne bool) {
		if !isOne {
			wantNoBlind(t, text)
		} else if b, code := impl.ReadBlind(text); code != impl.OK || !impl.SameBlind(b, want) {
			t.Errorf("%q is read as %v with %d, want %v", text, b, code, want)
		}
	}
	for number := int64(-300); number <= 300; number++ {
		digits := strconv.FormatInt(number, 10)
		slats, tilt := tenSlats(), tenSlats()
		slats.Slats, tilt.Tilt = int8(number), int16(number)
		check(digits+" 40000000 40000000 0 3f000000", slats, number >= 1 && number <= 60)
		check("10 40000000 40000000 "+digits+" 3f000000", tilt, number >= -64 && number <= 64)
	}
}
