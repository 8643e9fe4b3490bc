package tests

import (
	"fmt"
	"math"
	"runtime"
	"slices"
	"sync"
	"testing"
	"time"

	"loop.example/g01367/impl"
)

// eachControlled tries controls, blinds, states and ticks of the edge cases together, so many of them.
func eachControlled(many int, try func(c impl.Control, b impl.Blind, s impl.State, tick impl.Tick)) {
	controls, blinds, states, ticks := someControls(), someBlinds(), someStates(), someTicks()
	for n := range many {
		tick := ticks[n*19%len(ticks)]
		if n%3 == 0 {
			tick.Gust = 0
		}
		try(controls[n*5%len(controls)], blinds[n*7%len(blinds)], states[n*13%len(states)], tick)
	}
}

// P11: a state that is steady stays, however often the tick is made, and so does the light inside.
func TestP11SteadyStatesStay(t *testing.T) {
	steady := map[bool]int{}
	eachControlled(20000, func(c impl.Control, b impl.Blind, s impl.State, tick impl.Tick) {
		isSteady, c1 := impl.IsSteady(c, b, s, tick)
		next, light, c2 := impl.TickOnce(c, b, s, tick)
		wantOK(t, "steady", c1, c2)
		if isSteady != (next == s) {
			t.Fatalf("%v and %v, state %v, tick %v: steady %v, but it becomes %v", c, b, s, tick, isSteady, next)
		}
		steady[isSteady]++
		if !isSteady {
			return
		}
		run := slices.Repeat([]impl.Tick{tick}, 100)
		last, lights, c1 := impl.TickAll(c, b, s, run)
		changes, c2 := impl.ChangesIn(c, b, s, run)
		from, made, c3 := impl.SteadyFrom(c, b, s, tick)
		wantOK(t, "stays", c1, c2, c3)
		if last != s || changes != 0 || from != s || made != 0 || len(lights) != 100 {
			t.Fatalf("%v and %v, state %v, tick %v: it becomes %v by %d changes, or is %v behind %d", c, b, s, tick, last, changes, from, made)
		}
		for _, inside := range lights {
			wantNumber(t, "light of a steady state", inside, light)
		}
	})
	if steady[true] < 200 || steady[false] < 200 {
		t.Errorf("steady: %v", steady)
	}
}

// P11: what SteadyFrom returns is steady, comes of as many ticks as it tells, and no state before it is steady; where it
// finds none, none of the first 100 ticks comes to one.
func TestP11SteadyBehindSoManyTicks(t *testing.T) {
	codes := map[int64]int{}
	eachControlled(6000, func(c impl.Control, b impl.Blind, s impl.State, tick impl.Tick) {
		want, made, code := impl.SteadyFrom(c, b, s, tick)
		codes[code]++
		if code != impl.OK {
			made = 101
		}
		for range made {
			if isSteady, _ := impl.IsSteady(c, b, s, tick); isSteady {
				t.Fatalf("%v and %v, tick %v: %v is steady before %d ticks are made", c, b, tick, s, made)
			}
			s, _, _ = impl.TickOnce(c, b, s, tick)
		}
		if code != impl.OK {
			return
		}
		if isSteady, _ := impl.IsSteady(c, b, s, tick); !isSteady || s != want {
			t.Fatalf("%v and %v, tick %v: %v behind %d ticks, want %v", c, b, tick, s, made, want)
		}
	})
	if codes[impl.OK] == 0 || codes[impl.ErrNotFound] == 0 || len(codes) != 2 {
		t.Errorf("codes %v", codes)
	}
}

// P11: a blind that is up lets in the light outside, and neither waits nor is tilted; it is up if it blows more than
// Wind, or if the storm lasts for this tick as well.
func TestP11RaisedBlindsLetInAllLight(t *testing.T) {
	up := map[bool]int{}
	eachControlled(20000, func(c impl.Control, b impl.Blind, s impl.State, tick impl.Tick) {
		raised, c1 := impl.RaisedIn(c, b, s, []impl.Tick{tick})
		next, light, c2 := impl.TickOnce(c, b, s, tick)
		inside, c3 := impl.InsideAt(c, b, s, tick)
		wantOK(t, "raised", c1, c2, c3)
		isUp := tick.Gust > c.Wind || s.Storm > 1
		if (raised == 1) != isUp || raised < 0 || raised > 1 {
			t.Fatalf("%v, state %v, tick %v: up %d times", c, s, tick, raised)
		}
		up[isUp]++
		if isUp && (!identical(light, tick.Light) || !identical(inside, tick.Light) || next.Tilt != s.Tilt || next.Wait != s.Wait || next.Storm < 1) {
			t.Fatalf("%v, state %v, tick %v: up with %v and %v inside, %v", c, s, tick, light, inside, next)
		}
		if !isUp && next.Storm != 0 {
			t.Fatalf("%v, state %v, tick %v: down, but %v", c, s, tick, next)
		}
	})
	if up[true] < 1000 || up[false] < 1000 {
		t.Errorf("up: %v", up)
	}
}

// P11: the light inside is never less than 0, and never more than that outside; states stay valid.
func TestP11LightInsideIsAPartOfThatOutside(t *testing.T) {
	eachControlled(20000, func(c impl.Control, b impl.Blind, s impl.State, tick impl.Tick) {
		next, light, code := impl.TickOnce(c, b, s, tick)
		if !(light >= 0 && light <= tick.Light) || math.Signbit(float64(light)) != math.Signbit(float64(tick.Light)) || !impl.ValidState(next) || code != impl.OK {
			t.Fatalf("%v and %v, state %v, tick %v: %v with %v inside, code %d", c, b, s, tick, next, light, code)
		}
	})
}

// P11: several ticks come to the same as one after the other.
func TestP11TicksOneAfterTheOther(t *testing.T) {
	controls, blinds, states := someControls(), someBlinds(), someStates()
	for i, run := range someRuns() {
		for n := range 20 {
			c, b, s := controls[(i*31+n*7)%len(controls)], blinds[(i*17+n)%len(blinds)], states[(i*29+n*3)%len(states)]
			last, lights, c1 := impl.TickAll(c, b, s, run)
			changes, c2 := impl.ChangesIn(c, b, s, run)
			raised, c3 := impl.RaisedIn(c, b, s, run)
			glaring, c4 := impl.GlareTicks(c, b, s, run, 0.25)
			wantOK(t, "run", c1, c2, c3, c4)
			if len(lights) != len(run) {
				t.Fatalf("%d ticks, but %d lights", len(run), len(lights))
			}
			var moved, up int64
			var bright []int64
			for at, tick := range run {
				next, light, code := impl.TickOnce(c, b, s, tick)
				wantOK(t, "tick", code)
				wantNumber(t, fmt.Sprint("light at ", at), lights[at], light)
				if next.Tilt != s.Tilt {
					moved++
				}
				if next.Storm > 0 {
					up++
				}
				if light > 0.25 {
					bright = append(bright, int64(at))
				}
				s = next
			}
			if last != s || changes != moved || raised != up || !slices.Equal(glaring, bright) {
				t.Fatalf("run %d: %v by %d changes, up %d times, bright %v, want %v, %d, %d, %v", i, last, changes, raised, glaring, s, moved, up, bright)
			}
		}
	}
}

// P1: no list is modified, also behind its end, and what is returned shares memory with nothing.
func TestP1ListsOfControlsAreNotShared(t *testing.T) {
	args := goodControlArgs()
	ticks, ticksKept := guarded(args.ticks, impl.Tick{Light: 0.125, Height: 3})
	votes, votesKept := guarded([]float32{0.75, 0, 1, 0.25, 0.5}, 0.125)
	blinds, blindsKept := guarded(args.blinds, impl.Blind{Slats: 3})
	args.ticks, args.votes, args.blinds = ticks, votes, blinds
	for _, call := range controlCalls() {
		call.run(args)
		if !ticksKept() || !votesKept() || !blindsKept() {
			t.Fatalf("%s modifies a list", call.name)
		}
	}
	wantUnshared(t, "TickAll", func() ([]float32, int64) {
		_, lights, code := impl.TickAll(args.control, args.blind, args.state, args.ticks)
		return lights, code
	})
	wantUnshared(t, "GlareTicks", func() ([]int64, int64) {
		return impl.GlareTicks(args.control, args.blind, args.state, args.ticks, 0.25)
	})
}

// P1: equal arguments give equal results, nil and empty lists among them.
func TestP1EqualResultsOfControls(t *testing.T) {
	controls, blinds, states, ticks, runs, votes := someControls(), someBlinds(), someStates(), someTicks(), someRuns(), someVotes()
	for i := range 400 {
		args := goodControlArgs()
		args.control, args.blind, args.state = controls[i%len(controls)], blinds[i*3%len(blinds)], states[i*7%len(states)]
		args.tick, args.ticks, args.votes = ticks[i%len(ticks)], runs[i%len(runs)], votes[i%len(votes)]
		args.blinds = blinds[i%(len(blinds)-8):][:1+i%8]
		copied := args
		copied.ticks, copied.votes = append([]impl.Tick{}, args.ticks...), slices.Clone(args.votes)
		copied.blinds = slices.Clone(args.blinds)
		for _, call := range controlCalls() {
			if first, second := fmt.Sprint(call.run(args)), fmt.Sprint(call.run(copied)); first != second {
				t.Errorf("%s: %s, then %s", call.name, first, second)
			}
		}
	}
}

// P1: calls at the same time do not disturb each other, and leave nothing behind that still runs.
func TestP1TicksAtTheSameTime(t *testing.T) {
	before := runtime.NumGoroutine()
	controls, blinds, states, runs := someControls(), someBlinds(), someStates(), someRuns()
	var group sync.WaitGroup
	for i := range 16 {
		group.Go(func() {
			for n := range 100 {
				c, b, s := controls[(i+n)%len(controls)], blinds[(i*3+n)%len(blinds)], states[(i*5+n)%len(states)]
				run := slices.Clone(runs[(i*7+n)%len(runs)])
				want := modelAll(c, b, s, run)
				state, lights, c1 := impl.TickAll(c, b, s, run)
				changes, c2 := impl.ChangesIn(c, b, s, run)
				raised, c3 := impl.RaisedIn(c, b, s, run)
				glaring, c4 := impl.GlareTicks(c, b, s, run, 0.5)
				wantOK(t, "ticks", c1, c2, c3, c4)
				if state != want.state || !slices.EqualFunc(lights, want.lights, identical) || changes != want.changes || raised != want.raised ||
					!slices.Equal(glaring, modelGlaring(want.lights, 0.5)) {
					t.Errorf("%v with %v, state %v: %v with %v", c, run, s, state, lights)
				}
				// Nothing looks at the ticks any more, so that they may be changed.
				clear(run)
				if _, _, code := impl.TickAll(c, b, s, append(run, impl.Tick{})); code != impl.ErrInvalid {
					t.Errorf("no ticks: %d", code)
				}
			}
		})
	}
	group.Wait()
	// One that has just sent its last state may need a moment until it is gone.
	for range 100 {
		if runtime.NumGoroutine() <= before {
			return
		}
		time.Sleep(10 * time.Millisecond)
	}
	t.Errorf("%d goroutines became %d", before, runtime.NumGoroutine())
}
