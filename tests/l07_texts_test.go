package tests

import (
	"strconv"
	"strings"
	"testing"

	"loop.example/g01367/impl"
)

func TestPlansAreReadFromTheirTexts(t *testing.T) {
	for want, p := range map[string]impl.Plan{
		"24x0":                   {},
		"1x1 23x0":               {1},
		"23x0 1x-1":              {23: -1},
		"2x-64 1x64 21x0":        {-64, -64, 64},
		"1x5 1x0 1x5 20x0 1x-64": {0: 5, 2: 5, 23: -64},
		"1x-10 1x10 22x0":        {-10, 10},
	} {
		if got := impl.PlanText(p); got != want {
			t.Errorf("%v: got %q, want %q", p, got, want)
		}
	}
	for _, p := range somePlans() {
		text := impl.PlanText(p)
		if read, code := impl.ReadPlan(text); read != p || code != impl.OK {
			t.Errorf("%v is read as %v with %d", p, read, code)
		}
		// Each run is as long as it is.
		if parts := strings.Split(text, " "); int64(len(parts)) != modelChanges(p)+1 {
			t.Errorf("%v has %d runs", p, len(parts))
		}
	}
	for _, p := range badPlans() {
		if text := impl.PlanText(p); text != "" {
			t.Errorf("%v has the text %q", p, text)
		}
	}
}

func wantNoPlan(t *testing.T, text string) {
	t.Helper()
	if p, code := impl.ReadPlan(text); code != impl.ErrSyntax || p != (impl.Plan{}) {
		t.Errorf("%.80q is read as %v with %d", text, p, code)
	}
}

func TestTextsOfNoPlans(t *testing.T) {
	whole := "12x-32 11x0 1x64"
	for _, text := range []string{
		"", " ", "x", "24", "24x", "x0", "24x0x0", "24 x0", "24x 0", "24X0", "24*0", "240", "24x0 ", " 24x0", "24x0\n", "24x0\x00", "24x0 x", "24x0 0x1",
		"0x1 24x0", "12x0 0x1 12x0", "12x0 12x0", "23x0 1x0", "1x0 23x0", "12x1 12x1", "23x0", "25x0", "12x1 13x0", "12x1 11x0", "24x0 24x0", "24x0 1x1",
		"48x0", "-24x0", "+24x0", "024x0", "24x00", "24x-0", "24x+1", "24x01", "24x-01", "24x--1", "24x65", "24x-65", "24x128", "24x256", "24x32768",
		"24x65536", "24x-65536", "65560x0", "65560x1", "-65512x0", "280x0", "-232x0", "4294967320x0", "18446744073709551640x0", "24x4294967296",
		"12x1  12x0", "12x1\t12x0", "12x112x0", "12x1,12x0", "12x1 12x0 ", "12x1 12x0  ", "12x1 12x0 0x0", "-1x5 25x0", "25x0 -1x5", "12x1 -12x0",
		whole + " ", " " + whole, whole + " " + whole, strings.ReplaceAll(whole, " ", "  "), strings.ReplaceAll(whole, "x", " x"),
		strings.ReplaceAll(whole, "x", "xx"), strings.ReplaceAll(whole, " ", ""), strings.ReplaceAll(whole, "x", ""), "24x\u0661", "24\u00d70", "1 1 1",
		strings.TrimSpace(strings.Repeat("1x0 ", 24)), strings.TrimSpace(strings.Repeat("1x0 1x1 ", 13)), strings.Repeat("1x0 1x1 ", 12),
		strings.Repeat(" ", 1000000), strings.Repeat("0", 1000000), strings.Repeat("x", 1000000), strings.Repeat("1x0 1x1 ", 125000),
		strings.Repeat("9", 500000) + "x0", "24x" + strings.Repeat("0", 1000000), "24x-" + strings.Repeat("9", 1000000),
	} {
		wantNoPlan(t, text)
	}
	for place := range 6 {
		for _, part := range almostWholes() {
			// The number 65 and those beyond it are no hours either.
			parts := strings.FieldsFunc(whole, func(r rune) bool { return r == ' ' || r == 'x' })
			parts[place] = part
			wantNoPlan(t, parts[0]+"x"+parts[1]+" "+parts[2]+"x"+parts[3]+" "+parts[4]+"x"+parts[5])
		}
	}
}

// A text with a byte changed, left out or put in is either no plan's, or that of the plan that is read.
func TestAlmostTextsOfPlans(t *testing.T) {
	others := 0
	for _, whole := range []string{"24x0", "12x-32 11x0 1x64", "9x5 1x15 14x-5", "1x1 23x10", "11x1 1x-1 1x1 11x55"} {
		eachAlmostText(whole, func(text string) {
			p, code := impl.ReadPlan(text)
			if code == impl.OK {
				others++
				if !impl.ValidPlan(p) || impl.PlanText(p) != text {
					t.Errorf("%q is read as the plan with the text %q", text, impl.PlanText(p))
				}
			} else if code != impl.ErrSyntax || p != (impl.Plan{}) {
				t.Errorf("%q is read as %v with %d", text, p, code)
			}
		})
	}
	if others == 0 {
		t.Error("no changed text was that of another plan")
	}
}

func TestEachNumberOfAPlanIsRead(t *testing.T) {
	for number := -300; number <= 300; number++ {
		digits := strconv.Itoa(number)
		text := "24x" + digits
		if number < -64 || number > 64 {
			wantNoPlan(t, text)
		} else if p, code := impl.ReadPlan(text); code != impl.OK || p[0] != int16(number) || p[23] != int16(number) || impl.PlanText(p) != text {
			t.Errorf("%q is read as %v with %d", text, p, code)
		}
		text = digits + "x1 " + strconv.Itoa(24-number) + "x2"
		if number < 1 || number > 23 {
			wantNoPlan(t, text)
		} else if p, code := impl.ReadPlan(text); code != impl.OK || p[number-1] != 1 || p[number] != 2 || impl.PlanText(p) != text {
			t.Errorf("%q is read as %v with %d", text, p, code)
		}
		if number != 24 {
			wantNoPlan(t, digits+"x1")
			wantNoPlan(t, digits+"x1 "+strconv.Itoa(24-number)+"x1")
		}
	}
}
