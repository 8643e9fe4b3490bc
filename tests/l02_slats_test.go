package tests

import (
	"math"
	"slices"
	"strconv"
	"testing"

	"loop.example/g01367/impl"
)

func wantOK(t *testing.T, name string, codes ...int64) {
	t.Helper()
	for _, code := range codes {
		if code != impl.OK {
			t.Errorf("%s: code %d", name, code)
		}
	}
}

func TestExampleOfSlats(t *testing.T) {
	b := tenSlats()
	blocked, c1 := impl.BlockedBy(b, 32)
	open, c2 := impl.OpenFor(b, 32)
	wantNumber(t, "blocked", blocked, 1)
	wantNumber(t, "open", open, 0)
	tilted, c3 := impl.TiltTo(b, -32)
	blocked, c4 := impl.BlockedBy(tilted, 32)
	pass, c5 := impl.PassFor(tilted, 32)
	wantNumber(t, "blocked with the tilt -32", blocked, 0)
	wantNumber(t, "pass with the tilt -32", pass, 1)
	cut, c6 := impl.CutOff(b, 32)
	above, c7 := impl.BlockedBy(b, 64)
	wantNumber(t, "blocked from straight above", above, 1)
	long, c8 := impl.StretchedCord(eightLong(), 0.5)
	place, c9 := impl.PlaceOf(eightLong(), 0.5, 2)
	stop, at, c10 := impl.StopFor(eightLong(), 0.5, 5)
	wantNumber(t, "long", long, 9)
	wantNumber(t, "place", place, 4.5)
	wantNumber(t, "place for 5", at, 4.5)
	if cut != 0 || stop != 2 {
		t.Errorf("cut-off %d, stop %d", cut, stop)
	}
	wantOK(t, "example", c1, c2, c3, c4, c5, c6, c7, c8, c9, c10)
	if impl.MaxSlats != 60 || impl.MaxTilt != 64 || impl.MaxStops != 100 {
		t.Error("a limit has another value")
	}
}

func TestValidAndSameBlinds(t *testing.T) {
	good, bad := someBlinds(), badBlinds()
	for i, b := range good {
		if !impl.ValidBlind(b) {
			t.Errorf("blind %d, %v, is not valid", i, b)
		}
	}
	for i, b := range bad {
		if impl.ValidBlind(b) {
			t.Errorf("bad blind %d, %v, is valid", i, b)
		}
	}
	all := append(bad, good...)
	for _, b := range all {
		for _, other := range all {
			want := b.Slats == other.Slats && b.Tilt == other.Tilt && identical(b.Wide, other.Wide) &&
				identical(b.Gap, other.Gap) && identical(b.Shine, other.Shine)
			if impl.SameBlind(b, other) != want {
				t.Errorf("SameBlind of %v and %v is %v", b, other, !want)
			}
		}
	}
	odd := math.Float32frombits(0xffc00001)
	if !impl.SameBlind(impl.Blind{Wide: nan, Gap: odd, Shine: nan}, impl.Blind{Wide: odd, Gap: nan, Shine: odd}) {
		t.Error("two NaN are the same")
	}
	for _, b := range []impl.Blind{{Wide: minus0}, {Gap: minus0}, {Shine: minus0}} {
		if impl.SameBlind(b, impl.Blind{}) {
			t.Errorf("0 and -0 are not the same: %v", b)
		}
	}
}

func TestTiltTo(t *testing.T) {
	for _, b := range someBlinds() {
		for tilt := int64(-64); tilt <= 64; tilt++ {
			got, code := impl.TiltTo(b, tilt)
			if want := modelTilted(b, tilt); code != impl.OK || !impl.SameBlind(got, want) {
				t.Fatalf("%v is tilted to %v with %d, want %v", b, got, code, want)
			}
		}
	}
}

func TestWhatPassesIsAsTold(t *testing.T) {
	for _, b := range someBlinds() {
		var heights []int64
		var lights []float32
		for height := int64(1); height <= 64; height++ {
			for tilt := int64(-64); tilt <= 64; tilt++ {
				turned := modelTilted(b, tilt)
				blocked, c1 := impl.BlockedBy(turned, height)
				open, c2 := impl.OpenFor(turned, height)
				pass, c3 := impl.PassFor(turned, height)
				if !identical(blocked, modelBlocked(turned, height)) || !identical(open, modelOpen(turned, height)) || !identical(pass, modelPass(turned, height)) {
					t.Fatalf("%v at %d: %v blocked, %v open, %v passes", turned, height, blocked, open, pass)
				}
				wantOK(t, "what passes", c1, c2, c3)
			}
			heights = append(heights, 65-height, height)
			lights = append(lights, modelPass(b, 65-height), modelPass(b, height))
		}
		for _, many := range []int{0, 1, 2, 99, 100} {
			got, code := impl.PassAll(b, heights[:many])
			if code != impl.OK || !slices.EqualFunc(got, lights[:many], identical) {
				t.Errorf("%v: got %v and %d, want %v", b, got, code, lights[:many])
			}
		}
		if got, code := impl.PassAll(b, nil); len(got) != 0 || code != impl.OK {
			t.Errorf("%v: got %v and %d for no heights", b, got, code)
		}
	}
}

// From straight above the quotient would be infinite, or, with the tilt -64, not a number.
func TestAllIsBlockedFromStraightAbove(t *testing.T) {
	for _, b := range someBlinds() {
		for _, tilt := range []int64{-64, -1, 0, 64} {
			turned := modelTilted(b, tilt)
			blocked, c1 := impl.BlockedBy(turned, 64)
			open, c2 := impl.OpenFor(turned, 64)
			wantNumber(t, "blocked", blocked, 1)
			wantNumber(t, "open", open, 0)
			pass, c3 := impl.PassFor(turned, 64)
			wantNumber(t, "pass", pass, add(0, div(mul(b.Shine, modelOpen(turned, 1)), 2)))
			wantOK(t, "straight above", c1, c2, c3)
		}
	}
}

func TestShutTiltsAndCutOff(t *testing.T) {
	none, below0 := 0, 0
	for _, b := range someBlinds() {
		for height := int64(1); height <= 64; height++ {
			want := modelTilts(b, func(b impl.Blind) bool { return modelOpen(b, height) == 0 })
			got, code := impl.ShutTilts(b, height)
			if code != impl.OK || !slices.Equal(got, want) {
				t.Fatalf("%v at %d: shut with %v and %d, want %v", b, height, got, code, want)
			}
			wantCut, wantCode := int64(0), int64(impl.ErrNotFound)
			for _, tilt := range slices.Backward(want) {
				if tilt >= 0 {
					wantCut, wantCode = tilt, impl.OK
				}
			}
			cut, code := impl.CutOff(b, height)
			if cut != wantCut || code != wantCode {
				t.Fatalf("%v at %d: cut-off %d and %d, want %d and %d", b, height, cut, code, wantCut, wantCode)
			}
			if len(want) == 0 {
				none++
			} else if want[0] < 0 && wantCut > 0 {
				below0++
			}
		}
	}
	if none == 0 || below0 == 0 {
		t.Errorf("%d blinds are never shut, %d are shut below 0 first", none, below0)
	}
}

func TestTiltsWithin(t *testing.T) {
	for _, b := range someBlinds() {
		for _, height := range []int64{1, 2, 20, 32, 63, 64} {
			at := modelPass(b, height)
			bounds := []float32{0, minus0, 0.25, 0.75, 1, at, min(above(at), 1), max(below(at), 0)}
			for _, low := range bounds {
				for _, high := range bounds {
					want := modelTilts(b, func(b impl.Blind) bool {
						light := modelPass(b, height)
						return light >= low && light <= high
					})
					got, code := impl.TiltsWithin(b, height, low, high)
					if code != impl.OK || !slices.Equal(got, want) {
						t.Fatalf("%v at %d, %v to %v: got %v and %d, want %v", b, height, low, high, got, code, want)
					}
				}
			}
		}
	}
	if all, _ := impl.TiltsWithin(tenSlats(), 32, 0, 1); len(all) != 129 {
		t.Errorf("with 0 to 1 there are %d tilts, want 129", len(all))
	}
	if none, code := impl.TiltsWithin(tenSlats(), 32, 1, 0); len(none) != 0 || code != impl.OK {
		t.Errorf("with 1 to 0 there are %v, and %d", none, code)
	}
}

func TestGapFor(t *testing.T) {
	found, missed, timesMatter := 0, 0, 0
	for _, b := range someBlinds() {
		for _, height := range []int64{1, 2, 20, 32, 63, 64} {
			wide := b
			wide.Gap = 64
			most := modelOpen(wide, height)
			for _, wanted := range []float32{0, minus0, tiniest, 0.1, 0.25, 0.5, 0.75, below(1), 1, most, min(above(most), 1)} {
				want, isThere := modelGap(b, height, wanted, 30)
				gap, code := impl.GapFor(b, height, wanted)
				if isThere != (code == impl.OK) || !isThere && code != impl.ErrNotFound || !identical(gap, want) {
					t.Fatalf("%v at %d for %v: got %v and %d, want %v and %v", b, height, wanted, gap, code, want, isThere)
				}
				if !isThere {
					missed++
					continue
				}
				found++
				fewer, _ := modelGap(b, height, wanted, 29)
				more, _ := modelGap(b, height, wanted, 31)
				if fewer != want && more != want {
					timesMatter++
				}
				wide.Gap = gap
				if open, _ := impl.OpenFor(wide, height); open < wanted {
					t.Errorf("%v at %d: open %v, wanted %v", wide, height, open, wanted)
				}
			}
		}
	}
	if found == 0 || missed == 0 || timesMatter == 0 {
		t.Errorf("%d found, %d missed, %d tell the halvings", found, missed, timesMatter)
	}
}

func TestWindowsBehindBlinds(t *testing.T) {
	orderMatters := false
	suns := someSuns()
	for i, b := range someBlinds() {
		s := suns[i%len(suns)]
		if i%2 == 0 {
			s = arcSun()
		}
		for _, facing := range []int64{0, 1, 64, 100, 128, 255} {
			want := modelWindows(b, s, facing)
			for hour := range want {
				light, code := impl.PassWindow(b, s, int64(hour), facing)
				name := "blind " + strconv.Itoa(i) + ", hour " + strconv.Itoa(hour)
				wantNumber(t, name, light, want[hour])
				wantOK(t, name, code)
			}
			day, code := impl.PassDay(b, s, facing)
			wantNumber(t, "day", day, modelSum(want))
			wantOK(t, "day", code)
			slices.Reverse(want)
			orderMatters = orderMatters || modelSum(want) != day
		}
	}
	if !orderMatters {
		t.Error("no day tells the order of the hours")
	}
}

func TestHighOf(t *testing.T) {
	for _, b := range someBlinds() {
		high, code := impl.HighOf(b)
		wantNumber(t, "high", high, mul(float32(b.Slats), b.Gap))
		wantOK(t, "high", code)
	}
}
