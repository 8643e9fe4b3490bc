package tests

import (
	"math"
	"strconv"
	"testing"

	"loop.example/g01367/impl"
)

func TestValidCords(t *testing.T) {
	for i, c := range someCords() {
		if !impl.ValidCord(c) {
			t.Errorf("cord %d, %v, is not valid", i, c)
		}
	}
	for i, c := range badCords() {
		if impl.ValidCord(c) {
			t.Errorf("bad cord %d, %v, is valid", i, c)
		}
	}
}

func someLoads() []float32 { return []float32{0, minus0, tiniest, 0.1, 0.5, below(1), 1} }

func TestPlacesAreAsTold(t *testing.T) {
	for i, c := range someCords() {
		for _, load := range someLoads() {
			name := "cord " + strconv.Itoa(i)
			long, code := impl.StretchedCord(c, load)
			wantNumber(t, name, long, mul(c.Length, add(1, mul(load, c.Stretch))))
			wantOK(t, name, code)
			for stop, want := range modelPlaces(c, load) {
				place, code := impl.PlaceOf(c, load, int64(stop))
				wantNumber(t, name+", stop "+strconv.Itoa(stop), place, want)
				wantOK(t, name, code)
			}
		}
	}
}

func TestStopFor(t *testing.T) {
	for i, c := range someCords() {
		for _, load := range someLoads() {
			places := modelPlaces(c, load)
			wishes := []float32{0, minus0, tiniest, -1, 1, 64, 1000.03, impl.MaxSize, -impl.MaxSize, below(impl.MaxSize)}
			for stop, place := range places {
				middle := div(add(place, places[max(stop-1, 0)]), 2)
				wishes = append(wishes, place, above(place), below(place), middle, above(middle), below(middle))
			}
			for _, wanted := range wishes {
				want := firstNearest(places, wanted)
				stop, place, code := impl.StopFor(c, load, wanted)
				if stop != int64(want) || !identical(place, places[want]) || code != impl.OK {
					t.Fatalf("cord %d with %v for %v: stop %d at %v and %d, want %d", i, load, wanted, stop, place, code, want)
				}
			}
		}
	}
}

func TestTheLeastStopOfSeveral(t *testing.T) {
	c := impl.Cord{Length: 8, Stops: 4}
	for wanted, want := range map[float32]int64{1: 0, 3: 1, 5: 2, 7: 3, 5.0000005: 3, 4.9999995: 2, -5: 0, 100: 4} {
		if stop, place, _ := impl.StopFor(c, 0, wanted); stop != want || !identical(place, float32(2*want)) {
			t.Errorf("for %v: stop %d at %v, want %d", wanted, stop, place, want)
		}
	}
	// Differences are rounded to steps of 1/16 there, so that all stops behind 1/32 are as near, and those before too.
	short := impl.Cord{Length: 0.0625, Stops: 100}
	if stop, _, _ := impl.StopFor(short, 0, impl.MaxSize); stop != 51 {
		t.Errorf("for the greatest plain number: stop %d, want 51", stop)
	}
	if stop, _, _ := impl.StopFor(short, 0, -impl.MaxSize); stop != 0 {
		t.Errorf("for the least plain number: stop %d, want 0", stop)
	}
}

// P6: stops lie in their order along a cord, from its beginning to its end.
func TestP6StopsLieInOrder(t *testing.T) {
	for i, c := range someCords() {
		for _, load := range someLoads() {
			name := "cord " + strconv.Itoa(i)
			long, _ := impl.StretchedCord(c, load)
			if long < c.Length || long > 2*c.Length {
				t.Errorf("%s: %v long with the load %v", name, long, load)
			}
			last, code := impl.PlaceOf(c, load, 0)
			wantNumber(t, name+", stop 0", last, 0)
			wantOK(t, name, code)
			for stop := int64(1); stop <= int64(c.Stops); stop++ {
				place, code := impl.PlaceOf(c, load, stop)
				if place <= last || code != impl.OK {
					t.Errorf("%s: stop %d at %v with %d, the one before at %v", name, stop, place, code, last)
				}
				last = place
			}
			if math.Abs(float64(last-long)) > float64(long)/1000000 {
				t.Errorf("%s: the last stop at %v, but %v long", name, last, long)
			}
		}
	}
}

// P6: no other stop is nearer to what is wanted, and no lesser one is as near.
func TestP6NoOtherStopIsNearer(t *testing.T) {
	for i, c := range someCords() {
		for step := -4; step <= 40; step++ {
			wanted := c.Length * float32(step) / 16
			best, place, code := impl.StopFor(c, 0.75, wanted)
			if at, _ := impl.PlaceOf(c, 0.75, best); code != impl.OK || !identical(at, place) {
				t.Fatalf("cord %d for %v: stop %d at %v and not %v, code %d", i, wanted, best, place, at, code)
			}
			for stop := int64(0); stop <= int64(c.Stops); stop++ {
				at, _ := impl.PlaceOf(c, 0.75, stop)
				if apart, least := apartOf(at, wanted), apartOf(place, wanted); apart < least || stop < best && apart == least {
					t.Errorf("cord %d for %v: stop %d, but %d is at %v", i, wanted, best, stop, at)
				}
			}
		}
	}
}
