package tests

import (
	"fmt"
	"math"
	"slices"
	"testing"

	"loop.example/g01367/impl"
)

// P4: what is blocked, what is open and what passes are parts, and never -0.
func TestP4WhatPassesIsAPart(t *testing.T) {
	most := float32(0)
	for _, b := range someBlinds() {
		for tilt := int64(-64); tilt <= 64; tilt++ {
			turned, _ := impl.TiltTo(b, tilt)
			for height := int64(1); height <= 64; height++ {
				blocked, c1 := impl.BlockedBy(turned, height)
				open, c2 := impl.OpenFor(turned, height)
				pass, c3 := impl.PassFor(turned, height)
				wantOK(t, "parts", c1, c2, c3)
				for _, part := range []float32{blocked, open, pass} {
					if !(part >= 0 && part <= 1) || math.Signbit(float64(part)) {
						t.Fatalf("%v at %d: blocked %v, open %v, pass %v", turned, height, blocked, open, pass)
					}
				}
				if pass < open {
					t.Fatalf("%v at %d: open %v, but pass %v", turned, height, open, pass)
				}
				most = max(most, pass)
			}
		}
	}
	wantNumber(t, "the most that passes", most, 1)
}

// P4: with the greatest shine, and what is blocked as little as can be, what bounces comes nearest to too much.
func TestP4LittleThatIsBlocked(t *testing.T) {
	wides, gaps := []float32{0.0625}, []float32{64}
	for range 20 {
		wides = append(wides, above(wides[len(wides)-1]))
		gaps = append(gaps, below(gaps[len(gaps)-1]))
	}
	for _, wide := range wides {
		for _, gap := range gaps {
			for tilt := int16(-64); tilt <= 64; tilt++ {
				b := impl.Blind{Slats: 1, Wide: wide, Gap: gap, Tilt: tilt, Shine: 1}
				for _, height := range []int64{1, 2, 32, 63} {
					pass, code := impl.PassFor(b, height)
					if code != impl.OK || !(pass >= 0 && pass <= 1) {
						t.Fatalf("%v at %d: %v and %d", b, height, pass, code)
					}
				}
			}
		}
	}
}

// P4: what passes into a window is at most what falls on it.
func TestP4WindowsGetNoMoreThanFalls(t *testing.T) {
	suns := someSuns()
	for i, b := range someBlinds() {
		s := suns[i%len(suns)]
		for facing := int64(0); facing < 256; facing += 15 {
			for hour := range int64(24) {
				fall, _ := impl.FallOn(s, hour, facing)
				light, code := impl.PassWindow(b, s, hour, facing)
				if code != impl.OK || !(light >= 0 && light <= fall) || math.Signbit(float64(light)) {
					t.Errorf("blind %d, hour %d, facing %d: %v of %v, code %d", i, hour, facing, light, fall, code)
				}
			}
			fall, _ := impl.FallDay(s, facing)
			if day, code := impl.PassDay(b, s, facing); code != impl.OK || !(day >= 0 && day <= fall) {
				t.Errorf("blind %d, facing %d: %v of %v, code %d", i, facing, day, fall, code)
			}
		}
	}
}

// P4: a blind with a greater gap is no less open.
func TestP4GreaterGapsAreNoLessOpen(t *testing.T) {
	var gaps []float32
	for gap := float32(0.0625); gap < 64; gap *= 1.5 {
		gaps = append(gaps, gap, above(gap), above(above(gap)))
	}
	gaps = append(gaps, below(64), 64)
	rises := 0
	for _, b := range someBlinds() {
		for _, height := range []int64{1, 2, 31, 32, 33, 63, 64} {
			last := float32(0)
			for _, gap := range gaps {
				b.Gap = gap
				open, code := impl.OpenFor(b, height)
				if open < last || code != impl.OK {
					t.Fatalf("%v at %d: open %v with %d, but %v with the gap before", b, height, open, code, last)
				}
				if open > last {
					rises++
				}
				last = open
			}
		}
	}
	if rises == 0 {
		t.Error("no gap opens a blind")
	}
}

// P5: no other tilt passes nearer to what is wanted, and no lesser one as near.
func TestP5NoOtherTiltIsNearer(t *testing.T) {
	for i, b := range someBlinds() {
		for _, height := range []int64{1, 2, 20, 32, 63, 64} {
			lights := make([]float32, 129)
			for tilt := range lights {
				turned, _ := impl.TiltTo(b, int64(tilt)-64)
				lights[tilt], _ = impl.PassFor(turned, height)
			}
			wishes := []float32{0, minus0, tiniest, 0.25, 0.5, 0.75, below(1), 1}
			for tilt := i % 9; tilt < 128; tilt += 9 {
				middle := div(add(lights[tilt], lights[tilt+1]), 2)
				wishes = append(wishes, lights[tilt], min(above(lights[tilt]), 1), middle)
			}
			for _, wanted := range wishes {
				tilt, light, code := impl.TiltFor(b, height, wanted)
				if code != impl.OK || tilt < -64 || tilt > 64 || !identical(light, lights[tilt+64]) {
					t.Fatalf("%v at %d for %v: tilt %d with %v and %d", b, height, wanted, tilt, light, code)
				}
				for other, at := range lights {
					apart, least := apartOf(at, wanted), apartOf(light, wanted)
					if apart < least || other < int(tilt+64) && apart == least {
						t.Fatalf("%v at %d for %v: tilt %d with %v, but %d passes %v", b, height, wanted, tilt, light, other-64, at)
					}
				}
			}
		}
	}
}

// P5: with no shine and much in the way, many tilts pass nothing, and the least one of them is told.
func TestP5TheLeastTiltOfSeveral(t *testing.T) {
	dull := impl.Blind{Slats: 1, Wide: 64, Gap: 0.0625}
	for height := int64(1); height <= 64; height++ {
		tilt, light, code := impl.TiltFor(dull, height, 0)
		shut, _ := impl.ShutTilts(dull, height)
		if tilt != shut[0] || !identical(light, 0) || code != impl.OK {
			t.Errorf("at %d: tilt %d with %v and %d, want %d", height, tilt, light, code, shut[0])
		}
	}
	// All tilts pass the same from straight above, whatever is wanted.
	for _, wanted := range []float32{0, 0.5, 1} {
		if tilt, light, code := impl.TiltFor(dull, 64, wanted); tilt != -64 || !identical(light, 0) || code != impl.OK {
			t.Errorf("for %v: tilt %d with %v and %d", wanted, tilt, light, code)
		}
	}
}

// P1: heights are not modified, also behind their end, and what is returned is shared with nothing.
func TestP1ListsOfSlatsAreNotShared(t *testing.T) {
	b := tenSlats()
	b.Tilt = -20
	whole := []int64{32, 1, 64, 20, 0, 65, -1}
	heights := whole[:4]
	kept, code := impl.PassAll(b, heights)
	want := slices.Clone(kept)
	other, _ := impl.PassAll(b, heights)
	for i := range other {
		other[i] = -1
	}
	again, _ := impl.PassAll(b, heights)
	if code != impl.OK || len(want) != 4 || !slices.Equal(kept, want) || !slices.Equal(again, want) {
		t.Errorf("%v became %v, and %v, code %d", want, kept, again, code)
	}
	if !slices.Equal(whole, []int64{32, 1, 64, 20, 0, 65, -1}) {
		t.Errorf("heights became %v", whole)
	}
	for name, find := range map[string]func() ([]int64, int64){
		"ShutTilts":    func() ([]int64, int64) { return impl.ShutTilts(b, 32) },
		"TiltsWithin":  func() ([]int64, int64) { return impl.TiltsWithin(b, 32, 0.25, 0.75) },
		"all of them":  func() ([]int64, int64) { return impl.TiltsWithin(b, 32, 0, 1) },
		"none of them": func() ([]int64, int64) { return impl.TiltsWithin(b, 32, 1, 0) },
	} {
		first, _ := find()
		want := slices.Clone(first)
		second, _ := find()
		for i := range second {
			second[i] = 1000
		}
		_ = append(second, 1000)
		if third, _ := find(); !slices.Equal(first, want) || !slices.Equal(third, want) {
			t.Errorf("%s: %v became %v, and %v", name, want, first, third)
		}
	}
}

// P1: equal arguments give equal results.
func TestP1EqualResultsOfSlats(t *testing.T) {
	for i, b := range someBlinds() {
		args := goodSlatArgs()
		args.blind, args.cord = b, someCords()[i%len(someCords())]
		for _, call := range slatCalls() {
			copied := args
			copied.heights = slices.Clone(args.heights)
			if first, second := fmt.Sprint(call.run(args)), fmt.Sprint(call.run(copied)); first != second {
				t.Errorf("%s of %v: %s, then %s", call.name, b, first, second)
			}
		}
	}
}
