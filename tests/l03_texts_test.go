package tests

import (
	"slices"
	"strconv"
	"strings"
	"testing"

	"loop.example/g01367/impl"
)

func TestRoomsAreReadFromTheirTexts(t *testing.T) {
	for want, r := range map[string]impl.Room{
		"3x2\nn0/3f800000\ne1/3f000000\n": exampleRoom(),
		"1x10\n":                          {Wide: 1, High: 10},
		"10x1\ns9/80000000\nw0/00000001\nn9/00000000\n": {Wide: 10, High: 1, Windows: []impl.Window{
			{Wall: impl.WaSouth, At: 9, Light: minus0}, {Wall: impl.WaWest, Light: tiniest}, {Wall: impl.WaNorth, At: 9},
		}},
		"10x10\n" + strings.Repeat("e9/3f7fffff\n", 12): {Wide: 10, High: 10, Windows: slices.Repeat([]impl.Window{
			{Wall: impl.WaEast, At: 9, Light: below(1)},
		}, 12)},
	} {
		if got := impl.RoomText(r); got != want {
			t.Errorf("%v: got %q, want %q", r, got, want)
		}
	}
	for _, r := range someRooms() {
		read, code := impl.ReadRoom(impl.RoomText(r))
		wantRoom(t, "a room that is read", read, r, code)
	}
	for i, r := range badRooms() {
		if text := impl.RoomText(r); text != "" {
			t.Errorf("bad room %d has the text %q", i, text)
		}
	}
}

func wantNoRoom(t *testing.T, text string) {
	t.Helper()
	if r, code := impl.ReadRoom(text); code != impl.ErrSyntax || !impl.SameRoom(r, impl.Room{}) {
		t.Errorf("%.80q is read as %v with %d", text, r, code)
	}
}

func TestTextsOfNoRooms(t *testing.T) {
	whole := impl.RoomText(exampleRoom())
	window := "n0/3f800000\n"
	for _, text := range []string{
		"", "\n", "\n\n", "x", "x\n", "0x0\n", "3x2", "3x\n", "x2\n", "3\n", "32\n", "3x2x1\n", "3xx2\n", "3X2\n", "3*2\n", "3 x 2\n",
		whole[:len(whole)-1], whole + "\n", "\n" + whole, whole + " ", " " + whole, whole + "\x00", whole + whole, whole + "n0", whole + "3x2\n",
		strings.ReplaceAll(whole, "\n", "\r\n"), strings.ReplaceAll(whole, "\n", "\n\n"), strings.ReplaceAll(whole, "\n", " "),
		strings.ReplaceAll(whole, "\n", ""), strings.Replace(whole, "\n", "", 1), strings.Replace(whole, "\n", "\n\n", 1), strings.ToUpper(whole),
		window, "3x2\n" + strings.Repeat(window, 13), "3x2\n" + strings.Repeat(window, 12) + "\n", "3x2\n" + strings.Repeat(window, 12) + "n",
		"3x2\n" + strings.Repeat(window, 80000), strings.Repeat("\n", 1000000), strings.Repeat("3x2\n", 250000), strings.Repeat("1", 1000000),
		"3x2\n" + strings.Repeat("\n", 999996), "3x2\n" + strings.Repeat("n", 999996), strings.Repeat("x", 1000000),
	} {
		wantNoRoom(t, text)
	}
	sides := []string{"", "0", "00", "01", "03", "11", "-1", "-3", "+3", "-0", "127", "128", "256", "259", "-253", "65539", "4294967299",
		"99999999999999999999", "3.0", "0x3", "3e0", "a", "\u0663", " 3", "3 ", "3\t", "3\x00"}
	for _, side := range sides {
		wantNoRoom(t, side+"x2\n")
		wantNoRoom(t, "3x"+side+"\n")
		wantNoRoom(t, side+"x2\n"+window)
	}
	for _, line := range []string{
		"", " ", "/", "n", "n0", "n/", "n0/", "0/3f800000", "/3f800000", "n/3f800000", "x0/3f800000", "N0/3f800000", "ne0/3f800000",
		"n00/3f800000", "n01/3f800000", "n+0/3f800000", "n-0/3f800000", "n-1/3f800000", "n3/3f800000", "e2/3f800000", "s3/3f800000",
		"w2/3f800000", "n256/3f800000", "n65536/3f800000", "n99999999999999999999/3f800000", "n0 /3f800000", "n 0/3f800000", " n0/3f800000",
		"n0/ 3f800000", "n0/3f800000 ", "n0/3f800000\r", "n0//3f800000", "n0/3f800000/", "n0:3f800000", "n03f800000", "n0/3f80000",
		"n0/3f8000000", "n0/3F800000", "n0/3f800001", "n0/80000001", "n0/bf800000", "n0/7f800000", "n0/ff800000", "n0/7fc00000", "n0/ffc00000",
		"n0/1", "n0/0.5", "n0/+f800000", "n0/0x3f8000", "\x00", "\xff0/3f800000", "é0/3f800000", "\u0663/3f800000", "n\u0660/3f800000",
	} {
		wantNoRoom(t, "3x2\n"+line+"\n")
		wantNoRoom(t, "3x2\n"+window+line+"\n"+window)
		wantNoRoom(t, "3x2\n"+window+line+"\n\n")
	}
}

// A text with a byte changed, left out or put in is either no room's, or that of the room that is read.
func TestAlmostTextsOfRooms(t *testing.T) {
	others := 0
	check := func(text string) {
		r, code := impl.ReadRoom(text)
		if code == impl.OK {
			others++
			if !impl.ValidRoom(r) || impl.RoomText(r) != text {
				t.Errorf("%q is read as the room with the text %q", text, impl.RoomText(r))
			}
		} else if code != impl.ErrSyntax || !impl.SameRoom(r, impl.Room{}) {
			t.Errorf("%q is read as %v with %d", text, r, code)
		}
	}
	for _, whole := range []string{impl.RoomText(exampleRoom()), impl.RoomText(cornerRoom(10, 1)), "10x10\ns9/80000000\nw9/00000001\n", "1x1\n"} {
		for i := range len(whole) {
			check(whole[:i] + whole[i+1:])
			for _, b := range []string{"0", "1", "2", "9", "-", "+", " ", "a", "n", "w", "x", "/", "F", "\n", "\x00"} {
				check(whole[:i] + b + whole[i+1:])
				check(whole[:i] + b + whole[i:])
			}
		}
	}
	if others == 0 {
		t.Error("no changed text was that of another room")
	}
}

func TestEachWholeNumberOfARoomIsRead(t *testing.T) {
	for number := int64(-300); number <= 300; number++ {
		digits := strconv.FormatInt(number, 10)
		for text, want := range map[string]impl.Room{
			digits + "x10\n":                   {Wide: int8(number), High: 10},
			"10x" + digits + "\n":              {Wide: 10, High: int8(number)},
			"10x9\nn" + digits + "/3f800000\n": {Wide: 10, High: 9, Windows: []impl.Window{{At: int8(number), Light: 1}}},
			"9x10\nw" + digits + "/3f800000\n": {Wide: 9, High: 10, Windows: []impl.Window{{Wall: impl.WaWest, At: int8(number), Light: 1}}},
		} {
			isOne := number >= 1 && number <= 10
			if len(want.Windows) > 0 {
				isOne = number >= 0 && number <= 9
			}
			if !isOne {
				wantNoRoom(t, text)
				continue
			}
			read, code := impl.ReadRoom(text)
			wantRoom(t, text, read, want, code)
		}
	}
}
