package tests

import (
	"fmt"
	"slices"
	"testing"

	"loop.example/g01367/impl"
)

func TestExampleOfDays(t *testing.T) {
	for _, plan := range somePlans() {
		within, code := impl.KeepsWithin(exampleSlats(), impl.Sun{}, 0, plan, 0, 1)
		if !within || code != impl.OK {
			t.Errorf("%v does not keep within 0 and 1: %d", plan, code)
		}
	}
	p, changes, c1 := impl.FewestChanges(exampleSlats(), impl.Sun{}, 0, 0, 1)
	if text := impl.PlanText(p); text != "24x-64" || changes != 0 {
		t.Errorf("plan %q with %d changes", text, changes)
	}
	for _, shine := range []float32{0, minus0, tiniest, 0.5, 1} {
		b := exampleSlats()
		b.Shine = shine
		dark, c2 := impl.FloorOf(b, 32, 0)
		floor, c3 := impl.FloorOf(b, 32, 2)
		broken, c4 := impl.BrokenFrom(b, 32, floor)
		wantOK(t, "example", c1, c2, c3, c4)
		if !impl.SameFloor(dark, impl.Floor{}) || !impl.SameFloor(floor, impl.Floor{1: 1}) || broken != 2 {
			t.Errorf("floors %v and %v, broken %b", dark, floor, broken)
		}
	}
	if impl.MaxPlan != 24 || impl.MaxYear != 12 || impl.MaxStripes != 24 {
		t.Error("a limit has another value")
	}
}

func TestValidPlans(t *testing.T) {
	for _, p := range somePlans() {
		if !impl.ValidPlan(p) {
			t.Errorf("%v is told to be bad", p)
		}
	}
	for _, p := range badPlans() {
		if impl.ValidPlan(p) {
			t.Errorf("%v is told to be valid", p)
		}
	}
	for hour := range 24 {
		for tilt := -70; tilt <= 70; tilt++ {
			p := impl.Plan{}
			p[hour] = int16(tilt)
			if impl.ValidPlan(p) != (tilt >= -64 && tilt <= 64) {
				t.Errorf("the tilt %d at %d is told to be valid or not", tilt, hour)
			}
		}
	}
}

func TestChangesOf(t *testing.T) {
	many := map[int64]int{}
	for _, p := range somePlans() {
		changes, code := impl.ChangesOf(p)
		if want := modelChanges(p); changes != want || code != impl.OK {
			t.Errorf("%v changes %d times, code %d, want %d", p, changes, code, want)
		}
		many[changes]++
	}
	if many[0] == 0 || many[1] == 0 || many[2] == 0 || many[23] == 0 {
		t.Errorf("changes %v", many)
	}
	// A tilt that comes back is another change, also where it is that of the first hour.
	for _, c := range []struct {
		p    impl.Plan
		want int64
	}{
		{impl.Plan{}, 0}, {impl.Plan{1}, 1}, {impl.Plan{0, 1}, 2}, {impl.Plan{23: 1}, 1}, {impl.Plan{22: 1}, 2}, {impl.Plan{1, 1, 0, 1}, 3},
		{impl.Plan{64, -64, 64}, 3}, {impl.Plan{-64, 64}, 2},
	} {
		if changes, code := impl.ChangesOf(c.p); changes != c.want || code != impl.OK {
			t.Errorf("%v changes %d times, code %d, want %d", c.p, changes, code, c.want)
		}
	}
}

func TestPlanLight(t *testing.T) {
	plans := somePlans()
	for i, d := range someDays() {
		for n := range 6 {
			p := plans[(i*13+n*37)%len(plans)]
			want := d.model.planLights(p)
			got, code := impl.PlanLight(d.blind, d.sun, d.facing, p)
			if code != impl.OK || !slices.EqualFunc(got, want, identical) {
				t.Fatalf("%v of %v to %d, %v: got %v and %d, want %v", d.blind, d.sun, d.facing, p, got, code, want)
			}
		}
	}
}

// The light of a plan is that of a blind that is tilted as the plan tells, whatever its own tilt is.
func TestPlanLightIsThatOfTiltedBlinds(t *testing.T) {
	plans := somePlans()
	for i, d := range someDays() {
		p := plans[i*7%len(plans)]
		lights, code := impl.PlanLight(d.blind, d.sun, d.facing, p)
		wantOK(t, "plan light", code)
		for hour, tilt := range p {
			turned, c1 := impl.TiltTo(d.blind, int64(tilt))
			light, c2 := impl.PassWindow(turned, d.sun, int64(hour), d.facing)
			wantOK(t, "window", c1, c2)
			wantNumber(t, fmt.Sprint("light at ", hour, " of ", p), lights[hour], light)
		}
		for _, tilt := range []int64{-64, 0, 64} {
			turned, _ := impl.TiltTo(d.blind, tilt)
			again, code := impl.PlanLight(turned, d.sun, d.facing, p)
			if code != impl.OK || !slices.EqualFunc(again, lights, identical) {
				t.Errorf("%v with its own tilt %d: %v and %d, want %v", d.blind, tilt, again, code, lights)
			}
		}
	}
}

func TestPlansWithinBounds(t *testing.T) {
	plans := somePlans()
	hours := map[int]int{}
	for i, d := range someDays() {
		for n, pair := range boundsFor(d.model, i) {
			low, high := pair[0], pair[1]
			p := plans[(i*17+n*29)%len(plans)]
			if n%2 == 0 {
				if found, _, isThere := d.model.brightest(high); isThere {
					p = found
				}
			}
			want := d.model.outside(p, low, high)
			hours[want]++
			within, c1 := impl.KeepsWithin(d.blind, d.sun, d.facing, p, low, high)
			first, c2 := impl.FirstOutside(d.blind, d.sun, d.facing, p, low, high)
			if within != (want == 24) || c1 != impl.OK {
				t.Fatalf("%v of %v to %d, %v, %v to %v: within %v, code %d, outside in %d", d.blind, d.sun, d.facing, p, low, high, within, c1, want)
			}
			if want == 24 && (first != 0 || c2 != impl.ErrNotFound) || want < 24 && (first != int64(want) || c2 != impl.OK) {
				t.Fatalf("%v of %v to %d, %v, %v to %v: outside in %d, code %d, want %d", d.blind, d.sun, d.facing, p, low, high, first, c2, want)
			}
		}
	}
	for hour := range 25 {
		if hours[hour] == 0 {
			t.Errorf("no plan is outside in %d first", hour)
		}
	}
}

func TestTiltsAt(t *testing.T) {
	many := map[int]int{}
	for i, d := range someDays() {
		for n, pair := range fewOf(boundsFor(d.model, i), 3, i) {
			for _, hour := range []int{0, 12, 23, (i + n) % 24} {
				want := d.model.tilts(hour, pair[0], pair[1])
				got, code := impl.TiltsAt(d.blind, d.sun, d.facing, int64(hour), pair[0], pair[1])
				if code != impl.OK || !slices.Equal(got, want) {
					t.Fatalf("%v of %v to %d at %d, %v: got %v and %d, want %v", d.blind, d.sun, d.facing, hour, pair, got, code, want)
				}
				many[len(got)]++
			}
		}
	}
	if many[0] == 0 || many[1] == 0 || many[129] == 0 || len(many) < 50 {
		t.Errorf("tilts %v", many)
	}
}

// Just low and just high are within; an hour in which less than low falls there may be darker, but not brighter.
func TestEdgesOfBounds(t *testing.T) {
	const fall = float32(0.7070923)
	all := make([]int64, 0, 129)
	for tilt := int64(-64); tilt <= 64; tilt++ {
		all = append(all, tilt)
	}
	without := func(tilt int64) []int64 {
		return slices.DeleteFunc(slices.Clone(all), func(x int64) bool { return x == tilt })
	}
	for _, c := range []struct {
		name      string
		b         impl.Blind
		hour      int64
		low, high float32
		want      []int64
	}{
		{"as much as falls", exampleSlats(), 12, fall, 1, []int64{-32}},
		{"more than falls", exampleSlats(), 12, above(fall), 1, all},
		{"more than falls, and little at most", denseSlats(), 12, above(fall), 0, without(-32)},
		{"more than falls, and less at most", exampleSlats(), 12, above(fall), below(fall), without(-32)},
		{"as much as falls, and not more", exampleSlats(), 12, fall, fall, []int64{-32}},
		{"as much as falls, but less at most", exampleSlats(), 12, fall, below(fall), nil},
		{"less than falls", denseSlats(), 12, tiniest, 1, []int64{-32}},
		{"all light", exampleSlats(), 12, 0, 1, all},
		{"as much as falls at most", exampleSlats(), 12, 0, fall, all},
		{"less than falls at most", exampleSlats(), 12, 0, below(fall), without(-32)},
		{"no light", denseSlats(), 12, 0, 0, without(-32)},
		{"no light, as -0", denseSlats(), 12, minus0, minus0, without(-32)},
		{"no light at night", exampleSlats(), 11, 0, 0, all},
		{"no light at night, as -0", exampleSlats(), 11, minus0, minus0, all},
		{"light at night", exampleSlats(), 11, tiniest, tiniest, all},
		{"low greater than high at night", exampleSlats(), 11, 1, 0, all},
		{"low greater than high", exampleSlats(), 12, 0.5, 0.25, nil},
		{"low greater than high and than what falls", exampleSlats(), 12, 1, 0.75, all},
		{"no light, with much shine", shinySlats(), 12, 0, 0, []int64{-64, 62, 63, 64}},
		{"no light, where all tilts let some through", thinSlats(), 12, 0, 0, nil},
	} {
		got, code := impl.TiltsAt(c.b, southSun(), 128, c.hour, c.low, c.high)
		if code != impl.OK || !slices.Equal(got, c.want) {
			t.Errorf("%s: got %v and %d, want %v", c.name, got, code, c.want)
		}
	}
	// Light that is just low, or just high, for each light that there is.
	for _, b := range []impl.Blind{exampleSlats(), dullSlats(), thinSlats(), shinySlats()} {
		d := modelDayOf(b, southSun(), 128)
		for tilt := int64(-64); tilt <= 64; tilt++ {
			p := impl.Plan{12: int16(tilt)}
			light := d.lights[12][tilt+64]
			for _, c := range []struct {
				low, high float32
				want      bool
			}{
				{light, light, true}, {light, 1, true}, {0, light, true}, {above(light), 1, light == fall}, {0, below(light), false},
				{above(light), light, light == fall}, {light, below(light), false},
			} {
				if !impl.IsPart(c.low) || !impl.IsPart(c.high) {
					continue
				}
				within, code := impl.KeepsWithin(b, southSun(), 128, p, c.low, c.high)
				tilts, tiltsCode := impl.TiltsAt(b, southSun(), 128, 12, c.low, c.high)
				if within != c.want || slices.Contains(tilts, tilt) != c.want || code != impl.OK || tiltsCode != impl.OK {
					t.Errorf("%v with %d, %v to %v: within %v, tilts %v", b, tilt, c.low, c.high, within, tilts)
				}
			}
		}
	}
}

func TestFewestChanges(t *testing.T) {
	many, missed := map[int64]int{}, 0
	for i, d := range someDays() {
		for _, pair := range fewOf(boundsFor(d.model, i), 5, i) {
			low, high := pair[0], pair[1]
			want, wantChanges, isThere := d.model.fewest(low, high)
			p, changes, code := impl.FewestChanges(d.blind, d.sun, d.facing, low, high)
			if !isThere {
				missed++
				if code != impl.ErrNotFound || p != (impl.Plan{}) || changes != 0 {
					t.Fatalf("%v of %v to %d, %v to %v: %v with %d and %d", d.blind, d.sun, d.facing, low, high, p, changes, code)
				}
				continue
			}
			many[changes]++
			if p != want || changes != wantChanges || code != impl.OK {
				t.Fatalf("%v of %v to %d, %v to %v: %v with %d and %d, want %v with %d",
					d.blind, d.sun, d.facing, low, high, p, changes, code, want, wantChanges)
			}
		}
	}
	if missed == 0 || len(many) < 10 {
		t.Errorf("%d are not found; changes %v", missed, many)
	}
}

// Slats that have to lie along the light have the tilts of its heights; runs are as long as one tilt does for all.
func TestEdgesOfFewestChanges(t *testing.T) {
	dense := denseSlats()
	for _, c := range []struct {
		name      string
		b         impl.Blind
		s         impl.Sun
		low, high float32
		want      string
	}{
		{"never up", dense, impl.Sun{}, 0, 0, "24x-64"},
		{"never up, with low greater than high", dense, impl.Sun{}, 1, 0, "24x-64"},
		{"always up, and any light", dense, evenSun(20, 128), 0, 1, "24x-64"},
		{"always up, and some light", dense, evenSun(20, 128), tiniest, 1, "24x-20"},
		{"always up, and less than it falls", dense, evenSun(20, 128), 1, 1, "24x-64"},
		{"up in the hour 0", dense, sunAt(0, 20), 0.1, 1, "24x-20"},
		{"up in the hour 23", dense, sunAt(23, 20), 0.1, 1, "24x-20"},
		{"in common, and not", dense, sunOf(20, 20, 30, 30), 0.1, 1, "2x-20 2x-30 2x-20 2x-30 2x-20 2x-30 2x-20 2x-30 2x-20 2x-30 2x-20 2x-30"},
		{"nights are in common with the hours before", dense, sunOf(20, 0, 30, 0, 0, 40), 0.1, 1,
			"2x-20 3x-30 1x-40 2x-20 3x-30 1x-40 2x-20 3x-30 1x-40 2x-20 3x-30 1x-40"},
		{"a night is ahead", dense, sunOf(0, 0, 0, 0, 0, 0, 0, 0, 30, 0, 0, 20, 0, 0, 0, 0, 0, 0, 0, 0, 0, 0, 0, 0), 0.1, 1, "11x-30 13x-20"},
		{"another tilt in each hour", dense, sunOf(20, 30), 0.1, 1,
			"1x-20 1x-30 1x-20 1x-30 1x-20 1x-30 1x-20 1x-30 1x-20 1x-30 1x-20 1x-30 1x-20 1x-30 1x-20 1x-30 1x-20 1x-30 1x-20 1x-30 1x-20 1x-30 1x-20 1x-30"},
		{"shut all day", dense, evenSun(63, 128), 0, 0, "24x-64"},
		{"shut, but where the least tilt lets light through", dense, sunOf(64, 63, 62), 0, 0, "24x-64"},
		{"the least tilt that shuts in both hours", impl.Blind{Slats: 1, Wide: 2, Gap: 2.5}, sunOf(40, 50), 0, 0, "24x-8"},
		{"the other way round", impl.Blind{Slats: 1, Wide: 2, Gap: 2.5}, sunOf(50, 40), 0, 0, "24x-8"},
	} {
		p, changes, code := impl.FewestChanges(c.b, c.s, 128, c.low, c.high)
		if text := impl.PlanText(p); text != c.want || changes != modelChanges(p) || code != impl.OK {
			t.Errorf("%s: %q with %d and %d, want %q", c.name, text, changes, code, c.want)
		}
	}
	// An hour without a tilt, be it the first one, the last one, or all of them.
	for _, s := range []impl.Sun{sunAt(0, 32), sunAt(12, 32), sunAt(23, 32), evenSun(32, 128)} {
		for _, pair := range [][2]float32{{0.5, 0.25}, {0.7070923, below(0.7070923)}, {0, 0}} {
			p, changes, code := impl.FewestChanges(thinSlats(), s, 128, pair[0], pair[1])
			if p != (impl.Plan{}) || changes != 0 || code != impl.ErrNotFound {
				t.Errorf("%v: %v with %d and %d", pair, p, changes, code)
			}
		}
	}
}

// Three hours, each two of which behind each other have tilts in common, but not all three: the third one begins anew,
// and the first two have the least tilt that both have.
func TestTiltsInCommonOfTwoHours(t *testing.T) {
	b := dullSlats()
	s := impl.Sun{}
	for i, height := range []int16{20, 30, 36} {
		s.Height[i], s.Turns[i] = height, 128
	}
	d := modelDayOf(b, s, 128)
	first, second, third := d.tilts(0, 0.6, 1), d.tilts(1, 0.6, 1), d.tilts(2, 0.6, 1)
	meet := func(list, other []int64) []int64 {
		return slices.DeleteFunc(slices.Clone(list), func(x int64) bool { return !slices.Contains(other, x) })
	}
	two, other := meet(first, second), meet(second, third)
	if len(two) == 0 || len(other) == 0 || len(meet(two, third)) != 0 || two[0] == second[0] {
		t.Fatalf("tilts %v, %v and %v", first, second, third)
	}
	want := impl.Plan{}
	for hour := range want {
		want[hour] = int16(third[0])
	}
	want[0], want[1] = int16(two[0]), int16(two[0])
	if p, changes, code := impl.FewestChanges(b, s, 128, 0.6, 1); p != want || changes != 1 || code != impl.OK {
		t.Errorf("%v with %d and %d, want %v", p, changes, code, want)
	}
}

func TestBrightestPlan(t *testing.T) {
	found, missed := 0, 0
	for i, d := range someDays() {
		for _, pair := range fewOf(boundsFor(d.model, i), 7, i) {
			high := pair[1]
			want, wantSum, isThere := d.model.brightest(high)
			p, sum, code := impl.BrightestPlan(d.blind, d.sun, d.facing, high)
			if !isThere {
				missed++
				if code != impl.ErrNotFound || p != (impl.Plan{}) || !identical(sum, 0) {
					t.Fatalf("%v of %v to %d, at most %v: %v with %v and %d", d.blind, d.sun, d.facing, high, p, sum, code)
				}
				continue
			}
			found++
			if p != want || !identical(sum, wantSum) || code != impl.OK {
				t.Fatalf("%v of %v to %d, at most %v: %v with %v and %d, want %v with %v",
					d.blind, d.sun, d.facing, high, p, sum, code, want, wantSum)
			}
		}
	}
	if found == 0 || missed == 0 {
		t.Errorf("%d are found, %d are not", found, missed)
	}
}

// Of several tilts with the same light the least one is told, also where it is no light.
func TestEdgesOfBrightestPlan(t *testing.T) {
	least := float32(1)
	for _, light := range modelDayOf(thinSlats(), southSun(), 128).lights[12] {
		least = min(least, light)
	}
	for _, c := range []struct {
		name string
		b    impl.Blind
		s    impl.Sun
		high float32
		want string
		sum  float32
	}{
		{"never up", exampleSlats(), impl.Sun{}, 0, "24x-64", 0},
		{"never up, at most -0", exampleSlats(), impl.Sun{}, minus0, "24x-64", 0},
		{"all that falls", exampleSlats(), southSun(), 1, "12x-64 1x-32 11x-64", 0.7070923},
		{"just all that falls", exampleSlats(), southSun(), 0.7070923, "12x-64 1x-32 11x-64", 0.7070923},
		{"less than falls", denseSlats(), southSun(), below(0.7070923), "24x-64", 0},
		{"nothing", denseSlats(), southSun(), minus0, "24x-64", 0},
		{"from straight above", shinySlats(), evenSun(64, 128), 0, "24x-64", 0},
		{"two tilts give the same", dullSlats(), sunAt(0, 32), 0.5, "1x-41 23x-64", 0.48805007},
		{"the least that there is", thinSlats(), sunAt(23, 32), least, "", least},
	} {
		p, sum, code := impl.BrightestPlan(c.b, c.s, 128, c.high)
		if text := impl.PlanText(p); c.want != "" && text != c.want || code != impl.OK {
			t.Errorf("%s: %q and %d, want %q", c.name, text, code, c.want)
		}
		wantNumber(t, c.name, sum, c.sum)
	}
	for hour := range 24 {
		p, sum, code := impl.BrightestPlan(thinSlats(), sunAt(hour, 32), 128, below(least))
		if p != (impl.Plan{}) || !identical(sum, 0) || code != impl.ErrNotFound {
			t.Errorf("up at %d: %v with %v and %d", hour, p, sum, code)
		}
	}
}
