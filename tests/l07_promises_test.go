package tests

import (
	"fmt"
	"math"
	"math/rand"
	"slices"
	"testing"

	"loop.example/g01367/impl"
)

// tiltsOf are the tilts of each hour of a day.
func tiltsOf(t *testing.T, d someDay, low, high float32) [24][]int64 {
	t.Helper()
	var all [24][]int64
	for hour := range all {
		tilts, code := impl.TiltsAt(d.blind, d.sun, d.facing, int64(hour), low, high)
		wantOK(t, "tilts", code)
		all[hour] = tilts
	}
	return all
}

// P15: a plan that is found keeps within what is told, has as many changes as are told, and no plan with fewer changes
// keeps within it; where none is found, there is an hour without a tilt.
func TestP15NoPlanWithFewerChanges(t *testing.T) {
	found, missed := 0, 0
	for i, d := range someDays() {
		for _, pair := range fewOf(boundsFor(d.model, i+1), 11, i) {
			low, high := pair[0], pair[1]
			least, isThere := leastChanges(tiltsOf(t, d, low, high))
			p, changes, code := impl.FewestChanges(d.blind, d.sun, d.facing, low, high)
			if !isThere {
				missed++
				if code != impl.ErrNotFound {
					t.Fatalf("%v of %v to %d, %v to %v: %v and %d", d.blind, d.sun, d.facing, low, high, p, code)
				}
				continue
			}
			found++
			within, c1 := impl.KeepsWithin(d.blind, d.sun, d.facing, p, low, high)
			_, c2 := impl.FirstOutside(d.blind, d.sun, d.facing, p, low, high)
			counted, c3 := impl.ChangesOf(p)
			wantOK(t, "plan", code, c1, c3)
			if !within || c2 != impl.ErrNotFound || counted != changes || changes != least {
				t.Fatalf("%v of %v to %d, %v to %v: %v with %d changes, %d are counted, and %d are enough; within %v, code %d",
					d.blind, d.sun, d.facing, low, high, p, changes, counted, least, within, c2)
			}
		}
	}
	if found == 0 || missed == 0 {
		t.Errorf("%d are found, %d are not", found, missed)
	}
}

// P15: with fewer hours to plan, all plans of a few tilts are tried: none that keeps within bounds has fewer changes.
func TestP15AllPlansOfAFewHours(t *testing.T) {
	source := rand.New(rand.NewSource(48))
	tried, kept := 0, 0
	for range 30 {
		b := []impl.Blind{dullSlats(), exampleSlats(), denseSlats()}[source.Intn(3)]
		s := impl.Sun{}
		for hour := range 4 {
			s.Height[hour*6], s.Turns[hour*6] = int16(15+source.Intn(30)), 128
		}
		low := source.Float32() / 2
		high := low + source.Float32()*(1-low)
		_, changes, code := impl.FewestChanges(b, s, 128, low, high)
		tilts := []int16{-64, 0}
		for hour := range 4 {
			tilts = append(tilts, 0-s.Height[hour*6], 0-s.Height[hour*6]+int16(source.Intn(11)-5))
		}
		for n := range 10 * 10 * 10 * 10 {
			p := impl.Plan{}
			for hour := range p {
				p[hour] = tilts[n/[]int{1000, 100, 10, 1}[hour/6]%10]
			}
			tried++
			within, _ := impl.KeepsWithin(b, s, 128, p, low, high)
			if !within {
				continue
			}
			kept++
			if many, _ := impl.ChangesOf(p); code != impl.OK || many < changes {
				t.Fatalf("%v of %v, %v to %v: %v keeps within, but %d changes are told, code %d", b, s, low, high, p, changes, code)
			}
		}
	}
	if kept == 0 || kept == tried {
		t.Errorf("%d of %d plans keep within bounds", kept, tried)
	}
}

// P15: the brightest plan is never too bright, and in no hour another tilt that is not too bright gives more, nor a lesser
// one as much.
func TestP15NoPlanIsBrighter(t *testing.T) {
	found, missed := 0, 0
	for i, d := range someDays() {
		for _, pair := range fewOf(boundsFor(d.model, i+2), 13, i) {
			high := pair[1]
			p, sum, code := impl.BrightestPlan(d.blind, d.sun, d.facing, high)
			all := tiltsOf(t, d, 0, high)
			if slices.ContainsFunc(all[:], func(tilts []int64) bool { return len(tilts) == 0 }) {
				missed++
				if code != impl.ErrNotFound {
					t.Fatalf("%v of %v to %d, at most %v: %v and %d", d.blind, d.sun, d.facing, high, p, code)
				}
				continue
			}
			found++
			within, c1 := impl.KeepsWithin(d.blind, d.sun, d.facing, p, 0, high)
			lights, c2 := impl.PlanLight(d.blind, d.sun, d.facing, p)
			wantOK(t, "brightest", code, c1, c2)
			wantNumber(t, "sum", sum, modelSum(lights))
			for hour, tilts := range all {
				for _, tilt := range tilts {
					other := d.model.lights[hour][tilt+64]
					if !within || other > lights[hour] || other == lights[hour] && tilt < int64(p[hour]) {
						t.Fatalf("%v of %v to %d, at most %v: %v, but %d gives %v at %d", d.blind, d.sun, d.facing, high, p, tilt, other, hour)
					}
				}
			}
		}
	}
	if found == 0 || missed == 0 {
		t.Errorf("%d are found, %d are not", found, missed)
	}
}

// P15: each tilt that is told for an hour keeps within bounds there, and no other one does.
func TestP15TiltsOfAnHourKeepWithin(t *testing.T) {
	for i, d := range fewOf(someDays(), 3, 1) {
		for _, pair := range fewOf(boundsFor(d.model, i), 17, i) {
			low, high := pair[0], pair[1]
			for _, hour := range []int64{0, 12, 23, int64(i % 24)} {
				told, code := impl.TiltsAt(d.blind, d.sun, d.facing, hour, low, high)
				wantOK(t, "tilts", code)
				for tilt := int64(-64); tilt <= 64; tilt++ {
					p := impl.Plan{}
					p[hour] = int16(tilt)
					first, code := impl.FirstOutside(d.blind, d.sun, d.facing, p, low, high)
					if first < hour && code == impl.OK {
						continue
					}
					if isOutside := code == impl.OK && first == hour; isOutside == slices.Contains(told, tilt) {
						t.Fatalf("%v of %v to %d at %d, %v: tilts %v, but %d is outside: %v", d.blind, d.sun, d.facing, hour, pair, told, tilt, isOutside)
					}
				}
			}
		}
	}
}

// P16: slats that are told to be broken make the floor; a floor that is made of broken slats is never refused.
func TestP16BrokenSlatsMakeTheFloor(t *testing.T) {
	source := rand.New(rand.NewSource(49))
	for _, b := range floorBlinds() {
		for height := int64(1); height <= 64; height += 1 + int64(source.Intn(6)) {
			whole, c1 := impl.FloorOf(b, height, 0)
			all, c2 := impl.FloorOf(b, height, allSlats(b))
			wantOK(t, "floors", c1, c2)
			for _, broken := range someSets(b, source) {
				f, c1 := impl.FloorOf(b, height, broken)
				told, c2 := impl.BrokenFrom(b, height, f)
				again, c3 := impl.FloorOf(b, height, told)
				wantOK(t, "broken", c1, c2, c3)
				want := broken
				if whole[0] == all[0] {
					want = 0
				}
				if !impl.SameFloor(f, again) || told != want {
					t.Fatalf("%v at %d: %b make %v, but %b are told, which make %v", b, height, broken, f, told, again)
				}
			}
		}
	}
}

// P16: of any floors, too, only those are told that the slats make.
func TestP16AnyFloors(t *testing.T) {
	source := rand.New(rand.NewSource(50))
	codes := map[int64]int{}
	for _, b := range floorBlinds() {
		for _, height := range []int64{1, 2, 20, 33, 63, 64} {
			whole, _ := impl.FloorOf(b, height, 0)
			all, _ := impl.FloorOf(b, height, allSlats(b))
			for range 10 {
				f := whole
				for stripe := range f {
					if source.Intn(2) == 0 {
						f[stripe] = all[stripe]
					}
					if source.Intn(60) == 0 {
						f[stripe] = []float32{0, minus0, 1, nan, all[0], whole[0]}[source.Intn(6)]
					}
				}
				told, code := impl.BrokenFrom(b, height, f)
				codes[code]++
				if code != impl.OK {
					if told != 0 || code != impl.ErrState {
						t.Fatalf("%v at %d: %v is refused with %b and %d", b, height, f, told, code)
					}
					continue
				}
				if made, code := impl.FloorOf(b, height, told); code != impl.OK || !impl.SameFloor(made, f) {
					t.Fatalf("%v at %d: %b are told for %v, but make %v with %d", b, height, told, f, made, code)
				}
			}
		}
	}
	if codes[impl.OK] == 0 || codes[impl.ErrState] == 0 {
		t.Errorf("codes %v", codes)
	}
}

// P16: the dark stripes of a floor with one broken slat are told by this slat, or by all others.
func TestP16DarkStripesAreBehindSlats(t *testing.T) {
	b := impl.Blind{Slats: 60, Wide: 2, Gap: 2}
	for slat := range 24 {
		f, c1 := impl.FloorOf(b, 32, 1<<slat)
		dark, c2 := impl.DarkStripes(f, 0.5)
		none, c3 := impl.DarkStripes(f, 0)
		wantOK(t, "dark", c1, c2, c3)
		if dark != (1<<24-1)&^(1<<slat) || none != 0 {
			t.Errorf("with the slat %d broken %b are dark", slat, dark)
		}
	}
}

// P17: what passes through a blind is at most what falls upon it, in each hour of a plan, in each month of a year, and on
// each stripe of a floor; it is never less than 0, nor -0.
func TestP17WhatPassesIsAtMostWhatFalls(t *testing.T) {
	isWithin := func(light, most float32) bool {
		return light >= 0 && light <= most && !math.Signbit(float64(light))
	}
	plans := somePlans()
	for i, d := range someDays() {
		lights, code := impl.PlanLight(d.blind, d.sun, d.facing, plans[i*11%len(plans)])
		wantOK(t, "plan", code)
		for hour, light := range lights {
			if fall, _ := impl.FallOn(d.sun, int64(hour), d.facing); !isWithin(light, fall) {
				t.Errorf("%v of %v to %d at %d: %v of %v", d.blind, d.sun, d.facing, hour, light, fall)
			}
		}
		p, sum, code := impl.BrightestPlan(d.blind, d.sun, d.facing, 1)
		if fall, _ := impl.FallDay(d.sun, d.facing); !isWithin(sum, fall) || code != impl.OK {
			t.Errorf("%v of %v to %d: %v with %v of %v, code %d", d.blind, d.sun, d.facing, p, sum, fall, code)
		}
		for height := int64(1); height <= 64; height += 9 {
			f, _ := impl.FloorOf(d.blind, height, allSlats(d.blind)&0x5a5a5a)
			for stripe, light := range f {
				if !isWithin(light, 1) {
					t.Errorf("%v at %d: %v on the stripe %d", d.blind, height, light, stripe)
				}
			}
		}
	}
	blinds := someBlinds()
	for i, suns := range someYears() {
		b, facing := blinds[i*13%len(blinds)], int64(i*41%256)
		lights, code := impl.YearLight(b, suns, facing)
		wantOK(t, "year", code)
		for month, light := range lights {
			if fall, _ := impl.FallDay(suns[month], facing); !isWithin(light, fall) {
				t.Errorf("%v in the year %d to %d: %v of %v", b, i, facing, light, fall)
			}
		}
	}
}

// P17: a tilt that a plan is found to keep within bounds is one at which a controller with these bounds is steady, and the
// light inside is that of the plan, all along.
func TestP17PlansAreSteady(t *testing.T) {
	steady := 0
	for i, d := range someDays() {
		for _, pair := range fewOf(boundsFor(d.model, i), 9, i) {
			low, high := pair[0], pair[1]
			p, _, code := impl.FewestChanges(d.blind, d.sun, d.facing, low, high)
			if code != impl.OK || low > high {
				continue
			}
			lights, code := impl.PlanLight(d.blind, d.sun, d.facing, p)
			wantOK(t, "plan", code)
			c := impl.Control{Low: low, High: high, Wind: 0.5, Step: 7, Delay: 2, Calm: 3}
			for hour, light := range lights {
				fall, _ := impl.FallOn(d.sun, int64(hour), d.facing)
				if d.sun.Height[hour] < 1 || fall < low || fall > 1 {
					continue
				}
				s, tick := impl.State{Tilt: p[hour]}, impl.Tick{Light: fall, Height: int8(d.sun.Height[hour])}
				isSteady, c1 := impl.IsSteady(c, d.blind, s, tick)
				last, inside, c2 := impl.TickAll(c, d.blind, s, slices.Repeat([]impl.Tick{tick}, 20))
				wantOK(t, "controller", c1, c2)
				if !isSteady || last != s || !slices.EqualFunc(inside, slices.Repeat([]float32{light}, 20), identical) {
					t.Fatalf("%v of %v to %d at %d, %v: steady %v, %v with %v, want %v with %v", d.blind, d.sun, d.facing, hour, pair, isSteady, last, inside, s, light)
				}
				steady++
			}
		}
	}
	if steady < 1000 {
		t.Errorf("only %d are steady", steady)
	}
}

// P1: no list is modified, also behind its end, and what is returned shares memory with nothing.
func TestP1ListsOfDaysAreNotShared(t *testing.T) {
	args := goodDayArgs()
	suns, kept := guarded(args.suns, arcSun())
	args.suns = suns
	for _, call := range dayCalls() {
		call.run(args)
		if !kept() {
			t.Fatalf("%s modifies a list", call.name)
		}
	}
	wantUnshared(t, "PlanLight", func() ([]float32, int64) { return impl.PlanLight(args.blind, arcSun(), 128, args.plan) })
	wantUnshared(t, "YearLight", func() ([]float32, int64) { return impl.YearLight(args.blind, args.suns, 128) })
	wantUnshared(t, "TiltsAt", func() ([]int64, int64) { return impl.TiltsAt(args.blind, args.sun, 128, 12, 0.25, 0.5) })
	wantUnshared(t, "all of them", func() ([]int64, int64) { return impl.TiltsAt(args.blind, args.sun, 128, 0, 0, 1) })
	if !kept() {
		t.Error("what was returned is a part of the suns")
	}
	if none, code := impl.TiltsAt(args.blind, args.sun, 128, 12, 0.5, 0.25); len(none) != 0 || code != impl.OK {
		t.Errorf("no tilts: %v and %d", none, code)
	}
}

// P1: equal arguments give equal results, also behind a plan that is none.
func TestP1EqualResultsOfDays(t *testing.T) {
	plans, bad, years, blinds := somePlans(), badPlans(), someYears(), floorBlinds()
	source := rand.New(rand.NewSource(51))
	for i, d := range someDays() {
		args := goodDayArgs()
		args.blind, args.sun, args.facing, args.hour = d.blind, d.sun, d.facing, int64(i%24)
		args.plan, args.outside = plans[i%len(plans)], plans[i*7%len(plans)]
		args.suns, args.step = years[i%len(years)], int64(8+i%248)
		args.slats, args.height = blinds[i%len(blinds)], int64(1+i%64)
		args.broken = source.Uint32() & allSlats(args.slats)
		args.floor, _ = impl.FloorOf(args.slats, args.height, args.broken)
		pair := boundsFor(d.model, i)[i%20]
		args.low, args.high, args.bound = pair[0], pair[1], pair[0]
		copied := args
		copied.suns = append(make([]impl.Sun, 0, 20), args.suns...)
		for _, call := range dayCalls() {
			first := fmt.Sprint(call.run(args))
			broken := args
			broken.plan, broken.outside = bad[i%len(bad)], bad[i*3%len(bad)]
			call.run(broken)
			if second := fmt.Sprint(call.run(copied)); first != second {
				t.Errorf("%s: %s, then %s", call.name, first, second)
			}
		}
	}
}
