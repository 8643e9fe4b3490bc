package tests

import (
	"fmt"
	"math"
	"math/rand"
	"slices"
	"testing"

	"loop.example/g01367/impl"
)

func TestExampleOfAwnings(t *testing.T) {
	s, a := southSun(), exampleAwning()
	part, c1 := impl.ShadedPart(a, s, 12, 128)
	light, c2 := impl.LightBehind(a, s, 12, 128)
	out, c3 := impl.OutFor(a, s, 12, 128, 0.75)
	longest, c4 := impl.LongestFor(2, 4)
	wantOK(t, "example", c1, c2, c3, c4)
	wantNumber(t, "shaded part", part, 0.5)
	wantNumber(t, "light behind", light, 0.35354614)
	wantNumber(t, "out", out, 1.5)
	wantNumber(t, "longest", longest, 1.375)
	for _, c := range []struct {
		width int16
		hides bool
	}{{8, true}, {7, false}} {
		hidden, code := impl.HiddenAt([]impl.Tree{{Turn: 120, Width: c.width, Top: 32}}, s, 12)
		if hidden != c.hides || code != impl.OK {
			t.Errorf("width %d: %v with %d", c.width, hidden, code)
		}
	}
	hours, code := impl.OutHours(exampleKeeper(), [24]float32{1, 5, 1, 1, 1})
	if hours != 1<<24-1-1<<1-1<<2 || code != impl.OK {
		t.Errorf("out in the hours %b with %d", hours, code)
	}
}

func TestLimitsOfAwnings(t *testing.T) {
	limits := []int64{impl.MaxOut, impl.MaxAwnings, impl.MaxTrees, impl.Halvings}
	if !slices.Equal(limits, []int64{8, 8, 8, 30}) {
		t.Errorf("limits %v", limits)
	}
}

func TestValidAwnings(t *testing.T) {
	for _, a := range someAwnings() {
		if !impl.ValidAwning(a) {
			t.Errorf("%v is told to be bad", a)
		}
	}
	for _, a := range badAwnings() {
		if impl.ValidAwning(a) {
			t.Errorf("%v is told to be valid", a)
		}
	}
}

func TestSameAwnings(t *testing.T) {
	other := math.Float32frombits(0xffc00001)
	numbers := []float32{0, minus0, nan, other, tiniest, 0.5, 2, above(2), infinite, -infinite}
	put := []func(a *impl.Awning, x float32){
		func(a *impl.Awning, x float32) { a.Out = x }, func(a *impl.Awning, x float32) { a.Drop = x },
		func(a *impl.Awning, x float32) { a.Gap = x }, func(a *impl.Awning, x float32) { a.Tall = x },
	}
	for _, start := range []impl.Awning{{}, exampleAwning(), {Out: nan, Drop: nan, Gap: nan, Tall: nan}} {
		for field := range put {
			for _, x := range numbers {
				for _, y := range numbers {
					a, b := start, start
					put[field](&a, x)
					put[field](&b, y)
					if impl.SameAwning(a, b) != identical(x, y) {
						t.Errorf("%v and %v are told to be the same, or not", a, b)
					}
				}
			}
		}
	}
	if impl.SameAwning(impl.Awning{Out: 1, Drop: 2}, impl.Awning{Out: 2, Drop: 1}) {
		t.Error("numbers that are exchanged are told to be the same")
	}
}

// checkShade holds what an awning does at an hour against the model.
func checkShade(t *testing.T, a impl.Awning, s impl.Sun, hour, facing int64) {
	t.Helper()
	part, c1 := impl.ShadedPart(a, s, hour, facing)
	light, c2 := impl.LightBehind(a, s, hour, facing)
	want, behind := modelShaded(a, s, hour, facing), modelBehind(a, s, hour, facing)
	if !identical(part, want) || !identical(light, behind) || c1 != impl.OK || c2 != impl.OK {
		t.Errorf("%v, height %d, turn %d, facing %d: part %v (want %v), light %v (want %v), codes %d and %d",
			a, s.Height[hour], s.Turns[hour], facing, part, want, light, behind, c1, c2)
	}
}

func TestShadeOfAllSuns(t *testing.T) {
	awnings := []impl.Awning{
		exampleAwning(), {Out: 8, Tall: 0.125}, {Out: 8, Drop: 2, Gap: 2, Tall: 4}, {Out: 0.75, Drop: 0.1, Gap: 0.3, Tall: 3.3},
		{Out: 0.01, Gap: 0.7, Tall: 1.1}, {Out: minus0, Drop: minus0, Tall: 4}, {Out: 0.001, Tall: 4},
	}
	for height := int16(-64); height <= 64; height++ {
		for turn := range int64(256) {
			s := impl.Sun{}
			s.Height[5], s.Turns[5] = height, int16(turn)
			checkShade(t, awnings[int(turn)%len(awnings)], s, 5, turn*turn%256)
			checkShade(t, awnings[int(turn+1)%len(awnings)], s, 5, 200)
		}
	}
}

func TestShadeOfSomeAwnings(t *testing.T) {
	suns := someSuns()
	parts := map[string]int{}
	for i, a := range someAwnings() {
		for _, s := range []impl.Sun{suns[i%len(suns)], arcSun(), southSun()} {
			for facing := int64(i % 13); facing < 256; facing += 13 {
				for hour := range int64(24) {
					checkShade(t, a, s, hour, facing)
					uncut, isLit := modelUncut(a, s, hour, facing)
					switch {
					case !isLit:
						parts["dark"]++
					case identical(uncut, minus0):
						parts["-0"]++
					case uncut == 0 || uncut == 1:
						parts[fmt.Sprint(uncut)]++
					case uncut > 1:
						parts["more"]++
					case uncut < 0:
						parts["less"]++
					default:
						parts["between"]++
					}
				}
			}
		}
	}
	for _, kind := range []string{"dark", "-0", "0", "1", "more", "less", "between"} {
		if parts[kind] == 0 {
			t.Errorf("no part is %s: %v", kind, parts)
		}
	}
}

// What is told here for the sun of the example, for which the depth is Out and Drop, follows from the document.
func TestPartsThatAreCut(t *testing.T) {
	for _, c := range []struct {
		name string
		a    impl.Awning
		want float32
	}{
		{"just 0", impl.Awning{Out: 1, Gap: 1, Tall: 2}, 0},
		{"next below 0", impl.Awning{Out: 1, Gap: above(1), Tall: 0.125}, 0},
		{"next above 0", impl.Awning{Out: above(1), Gap: 1, Tall: 2}, 0x1p-24},
		{"far below 0", impl.Awning{Gap: 2, Tall: 0.125}, 0},
		{"just 1", impl.Awning{Out: 2, Tall: 2}, 1},
		{"next below 1", impl.Awning{Out: below(2), Tall: 2}, below(1)},
		{"next above 1", impl.Awning{Out: above(2), Tall: 2}, 1},
		{"far above 1", impl.Awning{Out: 8, Drop: 2, Tall: 0.125}, 1},
		{"-0 from -0", impl.Awning{Out: minus0, Drop: minus0, Tall: 2}, 0},
		{"0 from -0", impl.Awning{Out: minus0, Drop: minus0, Gap: minus0, Tall: 2}, 0},
		{"-0 by rounding", impl.Awning{Gap: tiniest, Tall: 4}, 0},
		{"0 by rounding", impl.Awning{Drop: tiniest, Tall: 4}, 0},
		{"tiniest", impl.Awning{Drop: tiniest, Tall: 1}, tiniest},
		{"tiny, to the even one", impl.Awning{Out: 3 * tiniest, Tall: 2}, 2 * tiniest},
		{"lost beside Drop", impl.Awning{Out: tiniest, Drop: 1, Gap: 1, Tall: 0.125}, 0},
	} {
		part, code := impl.ShadedPart(c.a, southSun(), 12, 128)
		wantOK(t, c.name, code)
		wantNumber(t, c.name, part, c.want)
		light, code := impl.LightBehind(c.a, southSun(), 12, 128)
		wantOK(t, c.name, code)
		wantNumber(t, c.name, light, sub(sines[32], mul(sines[32], c.want)))
	}
}

// A sun that just does not light the window shades nothing, however far the awning reaches out; one that just does is
// shaded much.
func TestLightNextToNothing(t *testing.T) {
	long := impl.Awning{Out: 8, Drop: 2, Tall: 0.125}
	for _, c := range []struct {
		height, turn int16
		part         float32
	}{
		{1, 128 + 63, 1}, {1, 128 - 63, 1}, {1, 128 + 64, 0}, {1, 128 - 64, 0}, {1, 128 + 65, 0}, {1, 0, 0},
		{63, 128 + 63, 1}, {63, 128 - 63, 1}, {63, 128 + 64, 0}, {64, 128, 0}, {64, 0, 0}, {0, 128, 0}, {-1, 128, 0}, {-64, 128, 0},
	} {
		s := evenSun(c.height, c.turn)
		fall, _ := impl.FallOn(s, 0, 128)
		part, c1 := impl.ShadedPart(long, s, 0, 128)
		light, c2 := impl.LightBehind(long, s, 0, 128)
		day, c3 := impl.DayBehind(long, s, 128)
		name := fmt.Sprint("height ", c.height, ", turn ", c.turn)
		wantOK(t, name, c1, c2, c3)
		wantNumber(t, name, part, c.part)
		wantNumber(t, name, light, 0)
		wantNumber(t, name, day, 0)
		if (fall > 0) != (c.part > 0) {
			t.Errorf("%s: the light is %v", name, fall)
		}
		// Without any awning to speak of, all of the light is left.
		light, code := impl.LightBehind(impl.Awning{Tall: 1}, s, 0, 128)
		wantOK(t, name, code)
		wantNumber(t, name, light, fall)
	}
}

func TestDaysBehindAwnings(t *testing.T) {
	suns := someSuns()
	for i, a := range someAwnings() {
		for _, s := range []impl.Sun{suns[i%len(suns)], arcSun(), evenSun(20, 130)} {
			for facing := int64(i % 17); facing < 256; facing += 17 {
				day, code := impl.DayBehind(a, s, facing)
				wantOK(t, "day", code)
				wantNumber(t, fmt.Sprint(a, " of ", s, " to ", facing), day, modelSum(modelBehinds(a, s, facing)))
			}
		}
	}
}

func TestShadedHours(t *testing.T) {
	suns := someSuns()
	found := 0
	for i, a := range someAwnings() {
		for _, s := range []impl.Sun{suns[i%len(suns)], arcSun()} {
			for facing := int64(i % 31); facing < 256; facing += 31 {
				leasts := []float32{0, minus0, tiniest, 0.5, below(1), 1, modelShaded(a, s, 10, facing), modelShaded(a, s, 12, facing)}
				for _, least := range leasts {
					var want []int64
					for hour := range int64(24) {
						if quickFall(s, hour, facing) > 0 && modelShaded(a, s, hour, facing) >= least {
							want = append(want, hour)
						}
					}
					got, code := impl.ShadedHours(a, s, facing, least)
					if !slices.Equal(got, want) || code != impl.OK {
						t.Errorf("%v of %v to %d for %v: got %v and %d, want %v", a, s, facing, least, got, code, want)
					}
					found += len(want)
				}
			}
		}
	}
	if found == 0 {
		t.Error("no hour is shaded")
	}
	// No shade at all is enough for 0 and -0, but not where there is no light.
	for _, least := range []float32{0, minus0} {
		hours, code := impl.ShadedHours(impl.Awning{Tall: 4}, southSun(), 128, least)
		if !slices.Equal(hours, []int64{12}) || code != impl.OK {
			t.Errorf("least %v: %v with %d", least, hours, code)
		}
	}
}

func TestOutFor(t *testing.T) {
	suns := someSuns()
	answers := map[int64]int{}
	others := 0
	for i, a := range someAwnings() {
		for _, s := range []impl.Sun{suns[i%len(suns)], arcSun(), southSun()} {
			for facing := int64(i % 29); facing < 256; facing += 29 {
				for _, hour := range []int64{0, 9, 12, 23} {
					parts := []float32{0, minus0, tiniest, 0x1p-60, 0x1p-30, 0.3, 0.75, below(1), 1, modelShaded(a, s, hour, facing)}
					for _, part := range parts {
						want, isEnough := modelOut(a, s, hour, facing, part, 30)
						wantCode := int64(impl.OK)
						if !isEnough {
							wantCode = impl.ErrNotFound
						}
						out, code := impl.OutFor(a, s, hour, facing, part)
						if !identical(out, want) || code != wantCode {
							t.Fatalf("%v of %v at %d to %d for %v: got %v and %d, want %v", a, s, hour, facing, part, out, code, want)
						}
						answers[code]++
						fewer, _ := modelOut(a, s, hour, facing, part, 29)
						more, _ := modelOut(a, s, hour, facing, part, 31)
						if fewer != want && more != want {
							others++
						}
					}
				}
			}
		}
	}
	if answers[impl.OK] == 0 || answers[impl.ErrNotFound] == 0 || others == 0 {
		t.Errorf("answers %v, of which %d would be others with other halvings", answers, others)
	}
}

func TestEdgesOfOutFor(t *testing.T) {
	south := southSun()
	for _, c := range []struct {
		name string
		a    impl.Awning
		hour int64
		part float32
		out  float32
		code int64
	}{
		{"0 is enough for 0", impl.Awning{Out: 8, Gap: 2, Tall: 4}, 12, 0, 0, impl.OK},
		{"0 is enough for -0", impl.Awning{Out: minus0, Gap: 2, Tall: 4}, 12, minus0, 0, impl.OK},
		{"0 is enough without light", impl.Awning{Out: 8, Tall: 4}, 0, 0, 0, impl.OK},
		{"no shade without light", impl.Awning{Out: 8, Drop: 2, Tall: 0.125}, 0, tiniest, 0, impl.ErrNotFound},
		{"the valance is enough", impl.Awning{Out: 8, Drop: 2, Tall: 2}, 12, 1, 0, impl.OK},
		// More than 2^-23 does not get lost beside 2, and the way of 8 is halved down to pieces of 2^-27.
		{"the valance is just not enough", impl.Awning{Out: 8, Drop: 2, Tall: above(2)}, 12, 1, 0x1.1p-23, impl.OK},
		{"the gap and all of the window", impl.Awning{Gap: 2, Tall: 4}, 12, 1, 6, impl.OK},
		{"the gap, but none of the window", impl.Awning{Gap: 2, Tall: 4}, 12, tiniest, above(2), impl.OK},
		{"Out plays no part", impl.Awning{Out: 0, Tall: 2}, 12, 0.75, 1.5, impl.OK},
		{"as far as it is halved", impl.Awning{Tall: 2}, 12, tiniest, 8.0 / (1 << 30), impl.OK},
	} {
		out, code := impl.OutFor(c.a, south, c.hour, 128, c.part)
		if !identical(out, c.out) || code != c.code {
			t.Errorf("%s: %v with %d, want %v with %d", c.name, out, code, c.out, c.code)
		}
	}
	// At a height of 16 the shade reaches down by less than Out, so that MaxOut can be too little, or just enough.
	low := evenSun(16, 128)
	most := impl.Awning{Out: 8, Drop: 0, Gap: 2, Tall: 4}
	part, _ := impl.ShadedPart(most, low, 0, 128)
	if part <= 0 || part >= 1 {
		t.Fatalf("MaxOut shades %v", part)
	}
	out, code := impl.OutFor(most, low, 0, 128, part)
	if !(out > 7.9 && out <= 8) || code != impl.OK {
		t.Errorf("what MaxOut shades needs %v, code %d", out, code)
	}
	if out, code := impl.OutFor(most, low, 0, 128, above(part)); !identical(out, 0) || code != impl.ErrNotFound {
		t.Errorf("more than what MaxOut shades needs %v, code %d", out, code)
	}
}

func TestBestAwning(t *testing.T) {
	awnings, suns := someAwnings(), someSuns()
	source := rand.New(rand.NewSource(14))
	behind := map[int64]int{}
	for i := range 300 {
		many := 1 + i%8
		list := make([]impl.Awning, many)
		for n := range list {
			list[n] = awnings[source.Intn(len(awnings))]
		}
		// Some lists have their first awning once more at their end.
		if i%3 == 1 && many > 1 {
			list[many-1] = list[0]
		}
		for _, s := range []impl.Sun{suns[i%len(suns)], arcSun(), {}} {
			for _, facing := range []int64{0, 100, 128, 255} {
				wantBest, wantLeast := 0, infinite
				for n, a := range list {
					if day := modelSum(modelBehinds(a, s, facing)); day < wantLeast {
						wantBest, wantLeast = n, day
					}
				}
				best, least, code := impl.BestAwning(list, s, facing)
				if best != int64(wantBest) || !identical(least, wantLeast) || code != impl.OK {
					t.Errorf("%v of %v to %d: got %d, %v and %d, want %d, %v", list, s, facing, best, least, code, wantBest, wantLeast)
				}
				behind[best]++
			}
		}
	}
	if len(behind) < 8 {
		t.Errorf("the best ones are %v", behind)
	}
}

func TestBestOfSeveral(t *testing.T) {
	south, a := southSun(), exampleAwning()
	for name, c := range map[string]struct {
		list  []impl.Awning
		best  int64
		least float32
	}{
		"only one":         {[]impl.Awning{a}, 0, 0.35354614},
		"the first of two": {[]impl.Awning{a, a}, 0, 0.35354614},
		"all are shut":     {[]impl.Awning{{Out: 2, Tall: 2}, {Out: 8, Tall: 2}}, 0, 0},
		"the last of all":  {[]impl.Awning{a, a, a, a, a, a, a, {Out: 2, Tall: 2}}, 7, 0},
		"0 and -0":         {[]impl.Awning{{Tall: 2}, {Out: minus0, Drop: minus0, Gap: minus0, Tall: 2}}, 0, 0.7070923},
		"the nearest one":  {[]impl.Awning{{Out: below(1), Tall: 2}, a, {Out: below(1), Tall: 2}}, 1, 0.35354614},
	} {
		best, least, code := impl.BestAwning(c.list, south, 128)
		if best != c.best || !identical(least, c.least) || code != impl.OK {
			t.Errorf("%s: %d with %v and %d, want %d with %v", name, best, least, code, c.best, c.least)
		}
	}
}
