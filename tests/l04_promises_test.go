package tests

import (
	"fmt"
	"math"
	"runtime"
	"slices"
	"sync"
	"testing"
	"time"

	"loop.example/g01367/impl"
)

// someOuts are lengths that become greater, neighbours among them.
func someOuts() []float32 {
	list := []float32{0, tiniest, 2 * tiniest, 0x1p-126, 0x1p-60, 0x1p-24}
	for out := float32(0x1p-12); out < 8; out *= 1.3 {
		list = append(list, below(out), out, above(out))
	}
	for _, out := range []float32{0.5, 1, 2, 4} {
		list = append(list, below(out), out, above(out))
	}
	list = append(list, below(below(8)), below(8), 8)
	slices.Sort(list)
	return list
}

// P9: an awning that reaches out further shades no less, and lets no more light through.
func TestP9FurtherOutShadesNoLess(t *testing.T) {
	suns := someSuns()
	outs := someOuts()
	more := 0
	for i, a := range someAwnings() {
		for _, s := range []impl.Sun{suns[i%len(suns)], arcSun()} {
			facing, hour := int64(i*37%256), int64(i%24)
			if i%2 == 0 {
				facing, hour = int64(108+i%40), int64(8+i%9)
			}
			lastPart, lastLight, lastDay := float32(0), infinite, infinite
			for _, out := range outs {
				a.Out = out
				part, c1 := impl.ShadedPart(a, s, hour, facing)
				light, c2 := impl.LightBehind(a, s, hour, facing)
				day, c3 := impl.DayBehind(a, s, facing)
				wantOK(t, "shade", c1, c2, c3)
				if !(part >= lastPart && light <= lastLight && day <= lastDay) {
					t.Fatalf("%v at %d to %d: part %v after %v, light %v after %v, day %v after %v",
						a, hour, facing, part, lastPart, light, lastLight, day, lastDay)
				}
				if part > lastPart {
					more++
				}
				lastPart, lastLight, lastDay = part, light, day
			}
		}
	}
	if more == 0 {
		t.Error("no awning shades more")
	}
}

// P9: an awning that reaches out further shades as many hours, and those that it shaded before.
func TestP9FurtherOutShadesTheSameHours(t *testing.T) {
	for _, least := range []float32{0, tiniest, 0.25, 0.75, 1} {
		for _, facing := range []int64{64, 100, 128, 190} {
			var last []int64
			for _, out := range someOuts() {
				hours, code := impl.ShadedHours(impl.Awning{Out: out, Gap: 0.5, Tall: 1.5}, arcSun(), facing, least)
				wantOK(t, "hours", code)
				for _, hour := range last {
					if !slices.Contains(hours, hour) {
						t.Errorf("out %v to %d: hours %v after %v", out, facing, hours, last)
					}
				}
				last = hours
			}
		}
	}
}

// P9: what is told as enough shades enough, as does all that reaches out further, and much less does not.
func TestP9EnoughShadesEnough(t *testing.T) {
	suns := someSuns()
	enough := 0
	for i, a := range someAwnings() {
		for _, s := range []impl.Sun{suns[i%len(suns)], arcSun(), southSun()} {
			for _, facing := range []int64{100, 128, int64(i % 256)} {
				for _, part := range []float32{0, tiniest, 0.01, 0.5, below(1), 1} {
					for _, hour := range []int64{8, 12} {
						out, code := impl.OutFor(a, s, hour, facing, part)
						if code == impl.ErrNotFound {
							a.Out = 8
							if most, _ := impl.ShadedPart(a, s, hour, facing); most >= part {
								t.Errorf("%v at %d to %d shades %v, but is not enough for %v", a, hour, facing, most, part)
							}
							continue
						}
						wantOK(t, "enough", code)
						for _, further := range []float32{out, min(above(out), 8), min(out*1.5, 8), 8} {
							a.Out = further
							if shaded, _ := impl.ShadedPart(a, s, hour, facing); shaded < part {
								t.Errorf("%v at %d to %d shades %v, wanted %v", a, hour, facing, shaded, part)
							}
						}
						if out == 0 {
							continue
						}
						enough++
						a.Out = max(min(below(out), out-8.0/(1<<30)), 0)
						if shaded, _ := impl.ShadedPart(a, s, hour, facing); shaded >= part {
							t.Errorf("%v at %d to %d shades %v, but %v is told for %v", a, hour, facing, shaded, out, part)
						}
					}
				}
			}
		}
	}
	if enough == 0 {
		t.Error("nothing is told to be enough")
	}
}

// P9: shaded parts are parts, and no light is less than 0, nor -0, nor more than what falls there.
func TestP9ShadeIsAPart(t *testing.T) {
	suns := someSuns()
	for i, a := range someAwnings() {
		s := suns[i%len(suns)]
		for facing := int64(i % 19); facing < 256; facing += 19 {
			for hour := range int64(24) {
				fall, _ := impl.FallOn(s, hour, facing)
				part, c1 := impl.ShadedPart(a, s, hour, facing)
				light, c2 := impl.LightBehind(a, s, hour, facing)
				wantOK(t, "parts", c1, c2)
				if !impl.IsPart(part) || !(light >= 0 && light <= fall) || math.Signbit(float64(part)) || math.Signbit(float64(light)) {
					t.Errorf("%v of %v at %d to %d: part %v, light %v of %v", a, s, hour, facing, part, light, fall)
				}
			}
			before, _ := impl.FallDay(s, facing)
			if day, code := impl.DayBehind(a, s, facing); !(day >= 0 && day <= before) || code != impl.OK {
				t.Errorf("%v of %v to %d: %v of %v, code %d", a, s, facing, day, before, code)
			}
		}
	}
}

// areCalm reports whether all gusts of some hours, up to one of them, are less than Calm.
func areCalm(k impl.Keeper, gusts [24]float32, last, many int) bool {
	for hour := last - many + 1; hour <= last; hour++ {
		if hour < 0 || !(gusts[hour] < k.Calm) {
			return false
		}
	}
	return true
}

// P10: an awning comes out when it has been calm long enough, and not before; it is taken in when a gust is more than
// Hold, and not else.
func TestP10OutWhenItHasBeenCalm(t *testing.T) {
	moved := map[string]int{}
	for _, k := range someKeepers() {
		for _, gusts := range someGusts() {
			hours, code := impl.OutHours(k, gusts)
			wantOK(t, "out", code)
			wasOut, since := true, -1
			for hour := range 24 {
				isOut := hours>>hour&1 == 1
				switch {
				case wasOut && isOut == (gusts[hour] > k.Hold):
					t.Fatalf("%v with %v: not taken in as it blows in the hour %d: %s", k, gusts, hour, outText(hours))
				case wasOut && !isOut:
					moved["in"]++
					since = hour
				case !wasOut:
					long := hour-since >= int(k.Wait) && areCalm(k, gusts, hour, int(k.Wait))
					if isOut != long {
						t.Fatalf("%v with %v: not out as it has been calm in the hour %d: %s", k, gusts, hour, outText(hours))
					}
					if isOut {
						moved["out"]++
					}
				}
				wasOut = isOut
			}
		}
	}
	if moved["in"] == 0 || moved["out"] == 0 {
		t.Errorf("moves %v", moved)
	}
}

// P10: behind any gusts, as many calm hours as a keeper waits bring the awning out, and one less does not.
func TestP10CalmHoursAreCounted(t *testing.T) {
	for wait := 1; wait <= 23; wait++ {
		k := impl.Keeper{Hold: 4, Calm: 2, Wait: int8(wait)}
		for first := 0; first+wait < 24; first++ {
			var gusts [24]float32
			gusts[first] = 5
			for hour := first + 1; hour < 24; hour++ {
				gusts[hour] = 2
				if hour-first <= wait {
					gusts[hour] = below(2)
				}
			}
			hours, c1 := impl.OutHours(k, gusts)
			gusts[first+1] = 2
			fewer, c2 := impl.OutHours(k, gusts)
			wantOK(t, "out", c1, c2)
			for hour := range 24 {
				if (hours>>hour&1 == 1) != (hour < first || hour >= first+wait) || (fewer>>hour&1 == 1) != (hour < first) {
					t.Fatalf("%v from the hour %d on: %s and %s", k, first, outText(hours), outText(fewer))
				}
			}
		}
	}
}

// P1: no list is modified, also behind its end, and what is returned shares memory with nothing.
func TestP1ListsOfAwningsAreNotShared(t *testing.T) {
	args := goodAwningArgs()
	list, listKept := guarded(args.list, impl.Awning{Out: 3})
	trees, treesKept := guarded(args.trees, impl.Tree{Turn: 7})
	args.list, args.trees = list, trees
	for _, call := range awningCalls() {
		call.run(args)
		if !listKept() || !treesKept() {
			t.Fatalf("%s modifies a list", call.name)
		}
	}
	wantUnshared(t, "ShadedHours", func() ([]int64, int64) { return impl.ShadedHours(args.awning, arcSun(), 128, 0) })
}

// P1: equal arguments give equal results.
func TestP1EqualResultsOfAwnings(t *testing.T) {
	awnings, trees, keepers, gusts, suns := someAwnings(), someTrees(), someKeepers(), someGusts(), someSuns()
	for i := range awnings {
		args := goodAwningArgs()
		args.awning, args.list, args.sun = awnings[i], awnings[i:min(i+8, len(awnings))], suns[i%len(suns)]
		args.trees, args.keeper, args.gusts = trees[i%len(trees)], keepers[i%len(keepers)], gusts[i%len(gusts)]
		copied := args
		copied.list, copied.trees = slices.Clone(args.list), append([]impl.Tree{}, args.trees...)
		for _, call := range awningCalls() {
			if first, second := fmt.Sprint(call.run(args)), fmt.Sprint(call.run(copied)); first != second {
				t.Errorf("%s: %s, then %s", call.name, first, second)
			}
		}
	}
}

// P1: calls at the same time do not disturb each other, and leave nothing behind that still runs.
func TestP1OutHoursAtTheSameTime(t *testing.T) {
	before := runtime.NumGoroutine()
	keepers, days := someKeepers(), someGusts()
	var group sync.WaitGroup
	for i := range 16 {
		group.Go(func() {
			for n := range 400 {
				k, gusts := keepers[(i+n)%len(keepers)], days[(i*31+n)%len(days)]
				if hours, code := impl.OutHours(k, gusts); hours != modelOutHours(k, gusts) || code != impl.OK {
					t.Errorf("%v with %v: %s with %d", k, gusts, outText(hours), code)
				}
				bad := badKeepers()[n%len(badKeepers())]
				if hours, code := impl.OutHours(bad, gusts); hours != 0 || code != impl.ErrInvalid {
					t.Errorf("%v: %b with %d", bad, hours, code)
				}
				gusts[n%24] = nan
				if hours, code := impl.OutHours(k, gusts); hours != 0 || code != impl.ErrRange {
					t.Errorf("%v with %v: %b with %d", k, gusts, hours, code)
				}
			}
		})
	}
	group.Wait()
	// One that has just sent its last gust may need a moment until it is gone.
	for range 100 {
		if runtime.NumGoroutine() <= before {
			return
		}
		time.Sleep(10 * time.Millisecond)
	}
	t.Errorf("%d goroutines became %d", before, runtime.NumGoroutine())
}
