package tests

import (
	"fmt"
	"math"
	"slices"
	"testing"

	"loop.example/g01367/impl"
)

func TestExampleOfControls(t *testing.T) {
	c, b := exampleControl(), tenSlats()
	calm, gusty := impl.Tick{Light: 1, Height: 32}, impl.Tick{Light: 1, Gust: 0.75, Height: 32}
	s := impl.State{Tilt: -32}
	for i, want := range []struct {
		tick  impl.Tick
		state impl.State
		isUp  bool
	}{
		{calm, impl.State{Tilt: -24, Wait: 1}, false},
		{calm, impl.State{Tilt: -24}, false},
		{gusty, impl.State{Tilt: -24, Storm: 2}, true},
		{calm, impl.State{Tilt: -24, Storm: 1}, true},
	} {
		next, light, code := impl.TickOnce(c, b, s, want.tick)
		wantOK(t, "tick", code)
		raised, code := impl.RaisedIn(c, b, s, []impl.Tick{want.tick})
		wantOK(t, "raised", code)
		if next != want.state || (raised == 1) != want.isUp || (i == 0 || want.isUp) && light != 1 {
			t.Errorf("tick %d: %v with %v inside, up %d times, want %v", i, next, light, raised, want)
		}
		s = next
	}
	// The blind is kept up no longer, so that it is down in the next tick, and moves.
	last, _, code := impl.TickOnce(c, b, s, calm)
	wantOK(t, "last tick", code)
	if last != (impl.State{Tilt: -16, Wait: 1}) {
		t.Errorf("behind the storm: %v", last)
	}
	median, c1 := impl.MedianVote([]float32{0.25, 1, 0.5})
	mean, c2 := impl.MeanVote([]float32{0.25, 1})
	wantOK(t, "votes", c1, c2)
	wantNumber(t, "median", median, 0.5)
	wantNumber(t, "mean", mean, 0.625)
}

func TestLimitsOfControls(t *testing.T) {
	limits := []int64{impl.MaxTicks, impl.MaxWait, impl.MaxVotes, impl.MaxShared}
	if !slices.Equal(limits, []int64{100, 20, 12, 8}) {
		t.Errorf("limits %v", limits)
	}
}

func TestValidControls(t *testing.T) {
	for _, c := range someControls() {
		if !impl.ValidControl(c) {
			t.Errorf("%v is told to be bad", c)
		}
	}
	for _, c := range badControls() {
		if impl.ValidControl(c) {
			t.Errorf("%v is told to be valid", c)
		}
	}
	for number := math.MinInt8; number <= math.MaxInt8; number++ {
		step, delay, calm := exampleControl(), exampleControl(), exampleControl()
		step.Step, delay.Delay, calm.Calm = int8(number), int8(number), int8(number)
		if impl.ValidControl(step) != (number >= 1 && number <= 64) || impl.ValidControl(delay) != (number >= 0 && number <= 20) ||
			impl.ValidControl(calm) != (number >= 1 && number <= 20) {
			t.Errorf("%d is told to be valid, or not", number)
		}
	}
}

func TestValidStates(t *testing.T) {
	for _, s := range someStates() {
		if !impl.ValidState(s) {
			t.Errorf("%v is told to be bad", s)
		}
	}
	for _, s := range badStates() {
		if impl.ValidState(s) {
			t.Errorf("%v is told to be valid", s)
		}
	}
	for number := -300; number <= 300; number++ {
		if impl.ValidState(impl.State{Tilt: int16(number)}) != (number >= -64 && number <= 64) {
			t.Errorf("the tilt %d is told to be valid, or not", number)
		}
		if number >= math.MinInt8 && number <= math.MaxInt8 {
			isGood := number >= 0 && number <= 20
			if impl.ValidState(impl.State{Wait: int8(number)}) != isGood || impl.ValidState(impl.State{Storm: int8(number)}) != isGood {
				t.Errorf("%d ticks are told to be valid, or not", number)
			}
		}
	}
}

func TestValidTicks(t *testing.T) {
	for _, tick := range someTicks() {
		if !impl.ValidTick(tick) {
			t.Errorf("%v is told to be bad", tick)
		}
	}
	for _, tick := range badTicks() {
		if impl.ValidTick(tick) {
			t.Errorf("%v is told to be valid", tick)
		}
	}
	for number := math.MinInt8; number <= math.MaxInt8; number++ {
		if impl.ValidTick(impl.Tick{Height: int8(number)}) != (number >= 1 && number <= 64) {
			t.Errorf("the height %d is told to be valid, or not", number)
		}
	}
}

func TestSameControls(t *testing.T) {
	other := math.Float32frombits(0xffc00001)
	numbers := []float32{0, minus0, nan, other, tiniest, 0.5, 1, above(1), infinite, -infinite}
	put := []func(c *impl.Control, x float32){
		func(c *impl.Control, x float32) { c.Low = x }, func(c *impl.Control, x float32) { c.High = x },
		func(c *impl.Control, x float32) { c.Wind = x },
	}
	wholes := []func(c *impl.Control, n int8){
		func(c *impl.Control, n int8) { c.Step = n }, func(c *impl.Control, n int8) { c.Delay = n },
		func(c *impl.Control, n int8) { c.Calm = n },
	}
	for _, start := range []impl.Control{{}, exampleControl(), {Low: nan, High: nan, Wind: nan, Step: -1, Delay: 127}} {
		for field := range put {
			for _, x := range numbers {
				for _, y := range numbers {
					a, b := start, start
					put[field](&a, x)
					put[field](&b, y)
					if impl.SameControl(a, b) != identical(x, y) {
						t.Errorf("%v and %v are told to be the same, or not", a, b)
					}
				}
			}
			for _, m := range []int8{-128, 0, 1, 64, 127} {
				for _, n := range []int8{-128, 0, 1, 64, 127} {
					a, b := start, start
					wholes[field](&a, m)
					wholes[field](&b, n)
					if impl.SameControl(a, b) != (m == n) {
						t.Errorf("%v and %v are told to be the same, or not", a, b)
					}
				}
			}
		}
	}
	if impl.SameControl(impl.Control{Low: 1, High: 2}, impl.Control{Low: 2, High: 1}) || impl.SameControl(impl.Control{Step: 1}, impl.Control{Calm: 1}) {
		t.Error("numbers that are exchanged are told to be the same")
	}
}

// checkTick holds a single tick against the model, by all functions that make one.
func checkTick(t *testing.T, name string, c impl.Control, b impl.Blind, s impl.State, tick impl.Tick) (impl.State, bool) {
	t.Helper()
	want, wantLight, isUp := modelTick(c, b, s, tick)
	next, light, c1 := impl.TickOnce(c, b, s, tick)
	inside, c2 := impl.InsideAt(c, b, s, tick)
	steady, c3 := impl.IsSteady(c, b, s, tick)
	if next != want || !identical(light, wantLight) || !identical(inside, wantLight) || steady != (want == s) || max(c1, c2, c3) != impl.OK {
		t.Fatalf("%s, %v and %v, state %v, tick %v: got %v, inside %v and %v, steady %v, codes %d %d %d, want %v, inside %v",
			name, c, b, s, tick, next, light, inside, steady, c1, c2, c3, want, wantLight)
	}
	return next, isUp
}

func TestTicksAreAsTold(t *testing.T) {
	blinds, states, ticks := someBlinds(), someStates(), someTicks()
	moves := map[string]int{}
	n := 0
	for _, c := range someControls() {
		for _, s := range states {
			for range 7 {
				n++
				b, tick := blinds[n*7%len(blinds)], ticks[n%len(ticks)]
				next, isUp := checkTick(t, "tick", c, b, s, tick)
				switch {
				case isUp && tick.Gust > c.Wind:
					moves["up by a gust"]++
				case isUp:
					moves["kept up"]++
				case s.Storm > 0:
					moves["storm is over"]++
				}
				switch {
				case next.Tilt > s.Tilt:
					moves[fmt.Sprint("greater, to the end: ", next.Tilt == 64)]++
				case next.Tilt < s.Tilt:
					moves[fmt.Sprint("less, to the end: ", next.Tilt == -64)]++
				case next == s:
					moves["steady"]++
				case next.Wait < s.Wait:
					moves["waits"]++
				}
			}
		}
	}
	for _, kind := range []string{"up by a gust", "kept up", "storm is over", "steady", "waits",
		"greater, to the end: true", "greater, to the end: false", "less, to the end: true", "less, to the end: false"} {
		if moves[kind] < 100 {
			t.Errorf("too few moves of the kind %q: %v", kind, moves)
		}
	}
}

// What is told here follows from the document by hand: dull slats let all light through at the height 32 with the tilt
// -32, and none with the tilt 32, or from straight above.
func TestEdgesOfTicks(t *testing.T) {
	usual := exampleControl()
	for _, c := range []struct {
		name    string
		control impl.Control
		state   impl.State
		tick    impl.Tick
		want    impl.State
		light   float32
	}{
		{"between both bounds", usual, stateOf(-32, 0, 0), impl.Tick{Light: 0.375, Height: 32}, stateOf(-32, 0, 0), 0.375},
		{"just High", usual, stateOf(-32, 0, 0), impl.Tick{Light: 0.5, Height: 32}, stateOf(-32, 0, 0), 0.5},
		{"next above High", usual, stateOf(-32, 0, 0), impl.Tick{Light: above(0.5), Height: 32}, stateOf(-24, 1, 0), above(0.5)},
		{"just Low", usual, stateOf(-32, 0, 0), impl.Tick{Light: 0.25, Height: 32}, stateOf(-32, 0, 0), 0.25},
		{"next below Low", usual, stateOf(-32, 0, 0), impl.Tick{Light: below(0.25), Height: 32}, stateOf(-40, 1, 0), below(0.25)},
		{"dark", usual, stateOf(32, 0, 0), impl.Tick{Light: 1, Height: 32}, stateOf(24, 1, 0), 0},
		{"dark from straight above", usual, stateOf(0, 0, 0), impl.Tick{Light: 1, Height: 64}, stateOf(-8, 1, 0), 0},
		{"-0 outside", usual, stateOf(-32, 0, 0), impl.Tick{Light: minus0, Height: 32}, stateOf(-40, 1, 0), minus0},
		{"-0 outside, and shut", usual, stateOf(32, 0, 0), impl.Tick{Light: minus0, Height: 32}, stateOf(24, 1, 0), minus0},
		{"-0 outside, and up", usual, stateOf(32, 0, 2), impl.Tick{Light: minus0, Height: 32}, stateOf(32, 0, 1), minus0},
		{"-0 is not less than 0", impl.Control{Step: 1, Calm: 1}, stateOf(-32, 0, 0), impl.Tick{Light: minus0, Height: 32}, stateOf(-32, 0, 0), minus0},
		{"0 is not more than -0", impl.Control{Low: minus0, High: minus0, Step: 1, Calm: 1}, stateOf(-32, 0, 0), impl.Tick{Height: 32}, stateOf(-32, 0, 0), 0},
		{"tiniest is more than -0", impl.Control{High: minus0, Step: 1, Calm: 1}, stateOf(-32, 0, 0), impl.Tick{Light: tiniest, Height: 32}, stateOf(-31, 0, 0), tiniest},
		{"no step between equal bounds", impl.Control{Low: 0.5, High: 0.5, Step: 64, Delay: 20, Calm: 1}, stateOf(-32, 0, 0), impl.Tick{Light: 0.5, Height: 32}, stateOf(-32, 0, 0), 0.5},
		{"the greatest step", impl.Control{Step: 64, Delay: 20, Calm: 1}, stateOf(-32, 0, 0), impl.Tick{Light: 1, Height: 32}, stateOf(32, 20, 0), 1},
		{"the greatest step back", impl.Control{Low: 1, High: 1, Step: 64, Delay: 20, Calm: 1}, stateOf(32, 0, 0), impl.Tick{Light: 1, Height: 32}, stateOf(-32, 20, 0), 0},
		{"the least step, no delay", impl.Control{Step: 1, Calm: 1}, stateOf(-32, 0, 0), impl.Tick{Light: 1, Height: 32}, stateOf(-31, 0, 0), 1},
		{"waits, and does not step", usual, stateOf(-32, 1, 0), impl.Tick{Light: 1, Height: 32}, stateOf(-32, 0, 0), 1},
		{"waits long", usual, stateOf(-32, 20, 0), impl.Tick{Light: 1, Height: 32}, stateOf(-32, 19, 0), 1},
		{"waits between both bounds", usual, stateOf(-32, 1, 0), impl.Tick{Light: 0.5, Height: 32}, stateOf(-32, 0, 0), 0.5},
		{"a gust that is just Wind", usual, stateOf(-32, 0, 0), impl.Tick{Light: 1, Gust: 0.5, Height: 32}, stateOf(-24, 1, 0), 1},
		{"a gust next above Wind", usual, stateOf(32, 0, 0), impl.Tick{Light: 1, Gust: above(0.5), Height: 32}, stateOf(32, 0, 2), 1},
		{"the Wind -0", impl.Control{Low: 0, High: 1, Wind: minus0, Step: 1, Calm: 20}, stateOf(32, 0, 0), impl.Tick{Light: 1, Height: 32}, stateOf(32, 0, 0), 0},
		{"the gust -0", impl.Control{Low: 0, High: 1, Step: 1, Calm: 20}, stateOf(32, 0, 0), impl.Tick{Light: 1, Gust: minus0, Height: 32}, stateOf(32, 0, 0), 0},
		{"the gust tiniest", impl.Control{Low: 0, High: 1, Step: 1, Calm: 20}, stateOf(32, 3, 0), impl.Tick{Light: 1, Gust: tiniest, Height: 32}, stateOf(32, 3, 20), 1},
		{"Calm 1", impl.Control{Low: 0, High: 1, Step: 1, Calm: 1}, stateOf(32, 3, 0), impl.Tick{Light: 1, Gust: 1, Height: 32}, stateOf(32, 3, 1), 1},
		{"a storm that becomes less", usual, stateOf(32, 3, 20), impl.Tick{Light: 1, Gust: 1, Height: 32}, stateOf(32, 3, 2), 1},
		{"a storm that goes on", usual, stateOf(32, 3, 2), impl.Tick{Light: 1, Gust: 1, Height: 32}, stateOf(32, 3, 2), 1},
		{"a storm at its end, but a gust", usual, stateOf(32, 3, 1), impl.Tick{Light: 1, Gust: 1, Height: 32}, stateOf(32, 3, 2), 1},
		{"still kept up", usual, stateOf(32, 3, 2), impl.Tick{Light: 0.75, Height: 32}, stateOf(32, 3, 1), 0.75},
		{"long kept up", usual, stateOf(32, 3, 20), impl.Tick{Light: 0.75, Height: 64}, stateOf(32, 3, 19), 0.75},
		{"a storm that comes to 0: a step", usual, stateOf(32, 0, 1), impl.Tick{Light: 1, Height: 32}, stateOf(24, 1, 0), 0},
		{"a storm that comes to 0: a wait", usual, stateOf(32, 2, 1), impl.Tick{Light: 1, Height: 32}, stateOf(32, 1, 0), 0},
		{"a storm that comes to 0: the end of a wait", usual, stateOf(32, 1, 1), impl.Tick{Light: 1, Height: 32}, stateOf(32, 0, 0), 0},
		{"a storm that comes to 0 by a gust that is just Wind", usual, stateOf(-32, 0, 1), impl.Tick{Light: 0.5, Gust: 0.5, Height: 32}, stateOf(-32, 0, 0), 0.5},
		{"at the end below", usual, stateOf(-64, 0, 0), impl.Tick{Light: 1, Height: 64}, stateOf(-64, 0, 0), 0},
		{"next to the end below", usual, stateOf(-63, 0, 0), impl.Tick{Light: 1, Height: 64}, stateOf(-64, 1, 0), 0},
		{"a step from the end below", usual, stateOf(-56, 0, 0), impl.Tick{Light: 1, Height: 64}, stateOf(-64, 1, 0), 0},
		{"more than a step from the end below", usual, stateOf(-55, 0, 0), impl.Tick{Light: 1, Height: 64}, stateOf(-63, 1, 0), 0},
		{"the greatest step to the end below", impl.Control{Low: 1, High: 1, Step: 64, Delay: 2, Calm: 1}, stateOf(-1, 0, 0), impl.Tick{Light: 1, Height: 64}, stateOf(-64, 2, 0), 0},
		{"all the way from the end above", impl.Control{Low: 1, High: 1, Step: 64, Delay: 2, Calm: 1}, stateOf(64, 0, 0), impl.Tick{Light: 1, Height: 64}, stateOf(0, 2, 0), 0},
	} {
		for _, own := range []int64{-64, -32, 0, 32, int64(c.state.Tilt), 64} {
			b := modelTilted(dullSlats(), own)
			next, light, c1 := impl.TickOnce(c.control, b, c.state, c.tick)
			inside, c2 := impl.InsideAt(c.control, b, c.state, c.tick)
			wantOK(t, c.name, c1, c2)
			wantNumber(t, c.name, light, c.light)
			wantNumber(t, c.name+" (InsideAt)", inside, c.light)
			if next != c.want {
				t.Errorf("%s: %v, want %v", c.name, next, c.want)
			}
		}
	}
}

// Thin slats let nearly all light through, so that the steps go to the greatest tilt.
func TestStepsToTheEndAbove(t *testing.T) {
	for _, c := range []struct {
		step       int8
		tilt, want int64
	}{
		{1, 64, 64}, {1, 63, 64}, {1, 62, 63}, {8, 63, 64}, {8, 57, 64}, {8, 56, 64}, {8, 55, 63}, {64, 64, 64}, {64, 1, 64}, {64, 0, 64}, {64, -1, 63}, {64, -64, 0},
	} {
		for _, delay := range []int8{0, 1, 20} {
			control := impl.Control{Step: c.step, Delay: delay, Calm: 1}
			next, light, code := impl.TickOnce(control, thinSlats(), stateOf(c.tilt, 0, 0), impl.Tick{Light: 1, Height: 30})
			wait := int64(delay)
			if c.want == c.tilt {
				wait = 0
			}
			if next != stateOf(c.want, wait, 0) || !(light > 0.9 && light <= 1) || code != impl.OK {
				t.Errorf("step %d from %d, delay %d: %v with %v inside and %d", c.step, c.tilt, delay, next, light, code)
			}
		}
	}
}

// The light inside may be just a bound, or next to it, with any slats.
func TestLightThatIsJustABound(t *testing.T) {
	moved := map[int64]int{}
	for i, b := range someBlinds() {
		for height := int8(1); height <= 64; height++ {
			s := stateOf(int64((i*7+int(height)*5)%127-63), 0, 0)
			tick := impl.Tick{Light: below(1), Height: height}
			if i%2 == 0 {
				tick.Light = 1
			}
			_, light, _ := modelTick(exampleControl(), b, s, tick)
			for _, c := range []struct {
				low, high float32
				change    int64
			}{
				{light, light, 0}, {above(light), above(light), -1}, {below(light), below(light), 1}, {0, light, 0}, {light, 1, 0},
				{0, below(light), 1}, {above(light), 1, -1},
			} {
				if !(c.low >= 0 && c.low <= c.high && c.high <= 1) {
					continue
				}
				control := impl.Control{Low: c.low, High: c.high, Step: 1, Delay: 3, Calm: 1}
				next, _ := checkTick(t, "just a bound", control, b, s, tick)
				want := stateOf(int64(s.Tilt)+c.change, 3*c.change*c.change, 0)
				if next != want {
					t.Errorf("%v between %v and %v: %v, want %v", light, c.low, c.high, next, want)
				}
				moved[c.change]++
			}
		}
	}
	if moved[0] == 0 || moved[1] == 0 || moved[-1] == 0 {
		t.Errorf("moved %v", moved)
	}
}

// checkRun holds several ticks against the model, by all functions that make them.
func checkRun(t *testing.T, c impl.Control, b impl.Blind, s impl.State, run []impl.Tick) modelTicks {
	t.Helper()
	want := modelAll(c, b, s, run)
	state, lights, c1 := impl.TickAll(c, b, s, run)
	changes, c2 := impl.ChangesIn(c, b, s, run)
	raised, c3 := impl.RaisedIn(c, b, s, run)
	if state != want.state || !slices.EqualFunc(lights, want.lights, identical) || changes != want.changes || raised != want.raised || max(c1, c2, c3) != impl.OK {
		t.Fatalf("%v and %v, state %v, ticks %v: got %v, %v, %d changes, up %d times, codes %d %d %d, want %v",
			c, b, s, run, state, lights, changes, raised, c1, c2, c3, want)
	}
	bounds := []float32{0, minus0, tiniest, 0.5, below(1), 1}
	if len(want.lights) > 0 {
		light := want.lights[len(want.lights)/2]
		bounds = append(bounds, light, max(below(light), 0))
	}
	for _, bound := range bounds {
		found, code := impl.GlareTicks(c, b, s, run, bound)
		if !slices.Equal(found, modelGlaring(want.lights, bound)) || code != impl.OK {
			t.Fatalf("%v inside: more than %v in %v with %d", want.lights, bound, found, code)
		}
	}
	return want
}

func TestRunsOfTicksAreAsTold(t *testing.T) {
	blinds, states, runs := someBlinds(), someStates(), someRuns()
	changes, raised := map[int64]int{}, map[int64]int{}
	n := 0
	for _, c := range someControls() {
		for _, run := range runs {
			n++
			want := checkRun(t, c, blinds[n*7%len(blinds)], states[n*11%len(states)], run)
			changes[want.changes]++
			raised[want.raised]++
		}
	}
	if len(changes) < 20 || len(raised) < 40 {
		t.Errorf("changes %v, raised %v", changes, raised)
	}
}

func TestRunsByHand(t *testing.T) {
	bright, dark := impl.Tick{Light: 1, Height: 32}, impl.Tick{Height: 32}
	gust := impl.Tick{Light: 0.5, Gust: 1, Height: 32}
	for _, c := range []struct {
		name            string
		control         impl.Control
		state           impl.State
		run             []impl.Tick
		want            impl.State
		lights          []float32
		changes, raised int64
		glaring         []int64 // with the bound 0.5
	}{
		{"none", exampleControl(), stateOf(5, 6, 7), nil, stateOf(5, 6, 7), nil, 0, 0, nil},
		{"down, wait, down", impl.Control{Low: 0.5, High: 1, Wind: 0.5, Step: 8, Delay: 1, Calm: 1}, stateOf(0, 0, 0), []impl.Tick{dark, dark, dark}, stateOf(-16, 1, 0), []float32{0, 0, 0}, 2, 0, nil},
		{"the end below is no change", impl.Control{Low: 0.5, High: 1, Wind: 0.5, Step: 64, Calm: 1}, stateOf(32, 0, 0), []impl.Tick{dark, dark, dark, dark}, stateOf(-64, 0, 0), []float32{0, 0, 0, 0}, 2, 0, nil},
		{"there and back", impl.Control{Low: 0.5, High: 0.5, Wind: 0.5, Step: 64, Calm: 1}, stateOf(-32, 0, 0), []impl.Tick{bright, bright, bright, bright}, stateOf(-32, 0, 0), []float32{1, 0, 1, 0}, 4, 0, []int64{0, 2}},
		{"a gust, Calm 1", impl.Control{Low: 0.5, High: 0.5, Wind: 0.5, Step: 64, Calm: 1}, stateOf(-32, 0, 0), []impl.Tick{bright, gust, bright, bright}, stateOf(32, 0, 0), []float32{1, 0.5, 0, 1}, 3, 1, []int64{0, 3}},
		{"a gust, Calm 2", impl.Control{Low: 0.5, High: 0.5, Wind: 0.5, Step: 64, Calm: 2}, stateOf(-32, 0, 0), []impl.Tick{bright, gust, bright, bright}, stateOf(-32, 0, 0), []float32{1, 0.5, 1, 0}, 2, 2, []int64{0, 2}},
		{"a wait goes on behind a storm", impl.Control{Low: 0, High: 0.5, Wind: 0.5, Step: 64, Delay: 2, Calm: 2}, stateOf(-32, 0, 0), []impl.Tick{bright, gust, gust, bright, bright, bright, bright}, stateOf(32, 0, 0), []float32{1, 0.5, 0.5, 1, 0, 0, 0}, 1, 3, []int64{0, 3}},
		{"a storm from before", exampleControl(), stateOf(32, 0, 3), []impl.Tick{bright, bright, bright}, stateOf(24, 1, 0), []float32{1, 1, 0}, 1, 2, []int64{0, 1}},
	} {
		checkRun(t, c.control, dullSlats(), c.state, c.run)
		state, lights, c1 := impl.TickAll(c.control, dullSlats(), c.state, c.run)
		changes, c2 := impl.ChangesIn(c.control, dullSlats(), c.state, c.run)
		raised, c3 := impl.RaisedIn(c.control, dullSlats(), c.state, c.run)
		glaring, c4 := impl.GlareTicks(c.control, dullSlats(), c.state, c.run, 0.5)
		wantOK(t, c.name, c1, c2, c3, c4)
		if state != c.want || !slices.EqualFunc(lights, c.lights, identical) || changes != c.changes || raised != c.raised || !slices.Equal(glaring, c.glaring) {
			t.Errorf("%s: %v with %v, %d changes, up %d times, glaring %v, want %v", c.name, state, lights, changes, raised, glaring, c)
		}
	}
}

// A greatest gust keeps the blind up for as many ticks as there may be, its own one among them.
func TestStormsAreCounted(t *testing.T) {
	for calm := int8(1); calm <= 20; calm++ {
		c := impl.Control{High: 1, Wind: 0.5, Step: 1, Calm: calm}
		for first := range 3 {
			run := slices.Repeat([]impl.Tick{{Light: 1, Height: 32}}, 40)
			run[first].Gust = 1
			glaring, code := impl.GlareTicks(c, dullSlats(), stateOf(32, 0, 0), run, 0)
			raised, _ := impl.RaisedIn(c, dullSlats(), stateOf(32, 0, 0), run)
			if len(glaring) != int(calm) || glaring[0] != int64(first) || glaring[calm-1] != int64(first)+int64(calm)-1 || raised != int64(calm) || code != impl.OK {
				t.Errorf("Calm %d: light in %v, up %d times, code %d", calm, glaring, raised, code)
			}
		}
		// A storm that the state has is counted down before the first tick.
		run := slices.Repeat([]impl.Tick{{Light: 1, Height: 32}}, 40)
		raised, code := impl.RaisedIn(c, dullSlats(), stateOf(32, 0, int64(calm)), run)
		if raised != int64(calm)-1 || code != impl.OK {
			t.Errorf("Storm %d: up %d times, code %d", calm, raised, code)
		}
	}
}

func TestSteadyFrom(t *testing.T) {
	blinds, states, ticks := someBlinds(), someStates(), someTicks()
	answers := map[int64]int{}
	made := map[int64]int{}
	n := 0
	for _, c := range someControls() {
		for i := range 90 {
			n++
			b, s, tick := blinds[n*7%len(blinds)], states[n*11%len(states)], ticks[n%len(ticks)]
			if i%3 > 0 {
				tick.Gust = 0
			}
			want, wantMade, isSteady := modelSteady(c, b, s, tick, 100)
			wantCode := int64(impl.OK)
			if !isSteady {
				wantCode = impl.ErrNotFound
			}
			state, many, code := impl.SteadyFrom(c, b, s, tick)
			if state != want || many != wantMade || code != wantCode {
				t.Fatalf("%v and %v, state %v, tick %v: got %v behind %d and %d, want %v behind %d", c, b, s, tick, state, many, code, want, wantMade)
			}
			answers[code]++
			made[many]++
		}
	}
	if answers[impl.OK] < 100 || answers[impl.ErrNotFound] < 100 || len(made) < 50 {
		t.Errorf("answers %v, behind so many ticks: %v", answers, made)
	}
}

func TestEdgesOfSteadyFrom(t *testing.T) {
	up, down := impl.Control{Wind: 0.5, Step: 1, Calm: 20}, impl.Control{Low: 1, High: 1, Wind: 0.5, Step: 1, Calm: 20}
	slow := impl.Control{Wind: 0.5, Step: 16, Delay: 20, Calm: 20}
	wide := impl.Control{High: 1, Wind: 0.5, Step: 1, Delay: 20, Calm: 20}
	swing := impl.Control{Low: 0.5, High: 0.5, Wind: 0.5, Step: 64, Calm: 1}
	half, gust := impl.Tick{Light: 0.5, Height: 30}, impl.Tick{Light: 0.5, Gust: 1, Height: 30}
	for _, c := range []struct {
		name    string
		control impl.Control
		state   impl.State
		tick    impl.Tick
		want    impl.State
		made    int64
		code    int64
	}{
		{"at once", wide, stateOf(5, 0, 0), half, stateOf(5, 0, 0), 0, impl.OK},
		{"at once, at the end above", up, stateOf(64, 0, 0), half, stateOf(64, 0, 0), 0, impl.OK},
		{"at once, at the end below", down, stateOf(-64, 0, 0), half, stateOf(-64, 0, 0), 0, impl.OK},
		{"at once, in a storm", up, stateOf(5, 6, 20), gust, stateOf(5, 6, 20), 0, impl.OK},
		{"behind the first gust", up, stateOf(5, 6, 0), gust, stateOf(5, 6, 20), 1, impl.OK},
		{"behind the first gust, with less storm", swing, stateOf(5, 6, 20), gust, stateOf(5, 6, 1), 1, impl.OK},
		{"behind a wait", wide, stateOf(5, 20, 0), half, stateOf(5, 0, 0), 20, impl.OK},
		{"behind a storm", wide, stateOf(5, 0, 20), half, stateOf(5, 0, 0), 20, impl.OK},
		{"behind a storm and a wait", wide, stateOf(5, 20, 20), half, stateOf(5, 0, 0), 39, impl.OK},
		{"behind a step", up, stateOf(63, 0, 0), half, stateOf(64, 0, 0), 1, impl.OK},
		{"behind 99 steps", up, stateOf(-35, 0, 0), half, stateOf(64, 0, 0), 99, impl.OK},
		{"behind 100 steps", up, stateOf(-36, 0, 0), half, stateOf(64, 0, 0), 100, impl.OK},
		{"behind 101 steps", up, stateOf(-37, 0, 0), half, impl.State{}, 0, impl.ErrNotFound},
		{"behind 128 steps", up, stateOf(-64, 0, 0), half, impl.State{}, 0, impl.ErrNotFound},
		{"behind 100 steps down", down, stateOf(36, 0, 0), half, stateOf(-64, 0, 0), 100, impl.OK},
		{"behind 101 steps down", down, stateOf(37, 0, 0), half, impl.State{}, 0, impl.ErrNotFound},
		{"behind 10 waits and 90 steps", up, stateOf(-26, 10, 0), half, stateOf(64, 0, 0), 100, impl.OK},
		{"behind 11 waits and 90 steps", up, stateOf(-26, 11, 0), half, impl.State{}, 0, impl.ErrNotFound},
		{"behind 4 ticks of storm and 96 steps", up, stateOf(-32, 0, 5), half, stateOf(64, 0, 0), 100, impl.OK},
		{"behind 5 ticks of storm and 96 steps", up, stateOf(-32, 0, 6), half, impl.State{}, 0, impl.ErrNotFound},
		{"behind 4 slow steps", slow, stateOf(0, 0, 0), half, stateOf(64, 0, 0), 84, impl.OK},
		{"behind 4 slow steps and a wait of 16", slow, stateOf(0, 16, 0), half, stateOf(64, 0, 0), 100, impl.OK},
		{"behind 4 slow steps and a wait of 17", slow, stateOf(0, 17, 0), half, impl.State{}, 0, impl.ErrNotFound},
		{"behind 5 slow steps", slow, stateOf(-1, 0, 0), half, impl.State{}, 0, impl.ErrNotFound},
	} {
		state, made, code := impl.SteadyFrom(c.control, thinSlats(), c.state, c.tick)
		if state != c.want || made != c.made || code != c.code {
			t.Errorf("%s: %v behind %d with %d, want %v behind %d", c.name, state, made, code, c.want, c.made)
		}
	}
	// Dull slats are open with the tilt -32, and shut with 32, so that these swing for ever.
	for _, tilt := range []int64{-32, 32} {
		if state, made, code := impl.SteadyFrom(swing, dullSlats(), stateOf(tilt, 0, 0), impl.Tick{Light: 1, Height: 32}); state != (impl.State{}) || made != 0 || code != impl.ErrNotFound {
			t.Errorf("a swing from %d: %v behind %d with %d", tilt, state, made, code)
		}
	}
}
