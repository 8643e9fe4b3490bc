package tests

import (
	"math"
	"strconv"
	"strings"
	"testing"

	"loop.example/g01367/impl"
)

func TestTextsOfNumbers(t *testing.T) {
	for number, want := range map[float32]string{
		0: "00000000", minus0: "80000000", 0.5: "3f000000", 1: "3f800000", -1: "bf800000",
		infinite: "7f800000", -infinite: "ff800000", math.Float32frombits(1): "00000001",
		math.Float32frombits(0x0abcdef9): "0abcdef9", math.MaxFloat32: "7f7fffff",
	} {
		if got := impl.NumberText(number); got != want && number != 0 {
			t.Errorf("%v: got %q, want %q", number, got, want)
		}
	}
	// 0 and -0 are one key of a map, so both are asked for here.
	if impl.NumberText(0) != "00000000" || impl.NumberText(minus0) != "80000000" {
		t.Errorf("0 is %q, -0 is %q", impl.NumberText(0), impl.NumberText(minus0))
	}
	for _, bits := range []uint32{0x7fc00000, 0x7fc00001, 0xffc00000, 0x7f800001, 0xff800001, 0x7fffffff, 0xffffffff} {
		if got := impl.NumberText(math.Float32frombits(bits)); got != "7fc00000" {
			t.Errorf("NaN %08x: got %q", bits, got)
		}
	}
}

func TestNumbersAreReadFromTheirTexts(t *testing.T) {
	for high := range uint32(1 << 16) {
		for _, low := range []uint32{0, 1, 0x8000, 0xabcd, 0xffff} {
			number := math.Float32frombits(high<<16 | low)
			text := impl.NumberText(number)
			read, code := impl.ReadNumber(text)
			if code != impl.OK || !identical(read, number) {
				t.Fatalf("%08x has the text %q, read as %v with %d", high<<16|low, text, read, code)
			}
		}
	}
}

func TestTextsOfNoNumbers(t *testing.T) {
	for _, text := range []string{
		"", "0", "3f00000", "3f0000000", "3F000000", "3f0000A0", " 3f000000", "3f000000 ", "3f000000\n", " 3f00000", "3f00000 ",
		"+3f00000", "-3f00000", "0x3f0000", "3f_00000", "3f00000g", "3f00000/", "3f00000:", "3f00000`", "3f00000\x00", "3f00000é",
		"7fc00001", "ffc00000", "7f800001", "ff800001", "7fffffff", "ffffffff", "1.000000", "00000nan", "0003f800000",
		strings.Repeat("0", 1000000), strings.Repeat("f", 1000000), "\xff\xff\xff\xff\xff\xff\xff\xff",
	} {
		if number, code := impl.ReadNumber(text); code != impl.ErrSyntax || !identical(number, 0) {
			t.Errorf("%.40q is read as %v with %d", text, number, code)
		}
	}
}

func TestSunsAreReadFromTheirTexts(t *testing.T) {
	if got, want := impl.SunText(southSun()), strings.Repeat("0@0 ", 12)+"32@128"+strings.Repeat(" 0@0", 11); got != want {
		t.Errorf("got %q, want %q", got, want)
	}
	if got, want := impl.SunText(evenSun(-64, 255)), strings.Repeat("-64@255 ", 23)+"-64@255"; got != want {
		t.Errorf("got %q, want %q", got, want)
	}
	for i, s := range someSuns() {
		read, code := impl.ReadSun(impl.SunText(s))
		if read != s || code != impl.OK {
			t.Errorf("sun %d is read as %v with %d", i, read, code)
		}
	}
	for i, s := range badSuns() {
		if text := impl.SunText(s); text != "" {
			t.Errorf("bad sun %d has the text %q", i, text)
		}
	}
}

func wantNoSun(t *testing.T, text string) {
	t.Helper()
	if s, code := impl.ReadSun(text); code != impl.ErrSyntax || s != (impl.Sun{}) {
		t.Errorf("%.80q is read as %v with %d", text, s, code)
	}
}

func TestTextsOfNoSuns(t *testing.T) {
	hours := strings.Split(impl.SunText(arcSun()), " ")
	whole := strings.Join(hours, " ")
	for _, text := range []string{
		"", " ", "0@0", strings.Join(hours[1:], " "), whole + " 0@0", whole + " ", " " + whole, whole + "\n", whole + "\x00",
		strings.Join(hours, "  "), strings.Join(hours, "\t"), strings.Join(hours, ","), strings.Join(hours, ""),
		strings.Replace(whole, " ", "  ", 1), strings.Replace(whole, "@", ":", 1), strings.Replace(whole, "@", "", 1),
		strings.Repeat(" ", 23), strings.Repeat(" ", 1000000), strings.Repeat("0", 1000000), strings.Repeat("0@0 ", 250000),
	} {
		wantNoSun(t, text)
	}
	for _, hour := range []int{0, 11, 23} {
		for _, part := range []string{
			"", "@", "0", "0@", "@0", "0@0@0", "@0@0", "0 0", "0@@0", "+1@0", "0@+1", "01@0", "0@01", "00@0", "0@00", "-0@0", "0@-0", "-01@0",
			"65@0", "-65@0", "0@256", "0@-1", "32768@0", "-32769@0", "65536@0", "65568@0", "0@65536", "0@-32768", "--1@0", "-@0", "1-@0",
			"9223372036854775808@0", "18446744073709551616@0", "0@99999999999999999999", "1.0@0", "1e1@0", "0x1@0", "0@0x1", "0b1@0", "1_0@0",
			"a@0", "0@a", "\u0661@0", "0@\u0661", "0\n@0", "0@0\n", "\t0@0", "0@" + strings.Repeat("0", 100000), strings.Repeat("9", 100000) + "@0",
		} {
			changed := append([]string{}, hours...)
			changed[hour] = part
			wantNoSun(t, strings.Join(changed, " "))
		}
	}
}

// A text with a byte changed, left out or put in is either no sun's, or that of the sun that is read.
func TestAlmostTextsOfSuns(t *testing.T) {
	whole := impl.SunText(arcSun())
	others := 0
	check := func(text string) {
		s, code := impl.ReadSun(text)
		if code == impl.OK {
			others++
			if impl.SunText(s) != text {
				t.Errorf("%q is read as the sun with the text %q", text, impl.SunText(s))
			}
		} else if code != impl.ErrSyntax || s != (impl.Sun{}) {
			t.Errorf("%q is read as %v with %d", text, s, code)
		}
	}
	for i := range len(whole) {
		check(whole[:i] + whole[i+1:])
		for _, b := range []string{"0", "1", "5", "9", "-", "+", "@", " ", "a", "\x00"} {
			check(whole[:i] + b + whole[i+1:])
			check(whole[:i] + b + whole[i:])
		}
	}
	if others == 0 {
		t.Error("no changed text was that of another sun")
	}
}

func TestEachPlaceOfASunIsRead(t *testing.T) {
	for height := int64(-70); height <= 70; height++ {
		for _, turn := range []int64{-1, 0, 1, 128, 255, 256} {
			text := strconv.FormatInt(height, 10) + "@" + strconv.FormatInt(turn, 10) + strings.Repeat(" 0@0", 23)
			if height < -64 || height > 64 || turn < 0 || turn > 255 {
				wantNoSun(t, text)
				continue
			}
			want := impl.Sun{}
			want.Height[0], want.Turns[0] = int16(height), int16(turn)
			if s, code := impl.ReadSun(text); s != want || code != impl.OK {
				t.Errorf("%q is read as %v with %d", text, s, code)
			}
		}
	}
}
