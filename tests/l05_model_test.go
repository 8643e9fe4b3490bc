package tests

import (
	"math"
	"math/rand"

	"loop.example/g01367/impl"
)

// The model of chapter 5 rounds wide products, sums and quotients, as that of chapter 2 does, and counts in int64.

// modelTick returns what is behind a tick: the state, the light inside, and whether the blind was up.
func modelTick(c impl.Control, b impl.Blind, s impl.State, t impl.Tick) (impl.State, float32, bool) {
	tilt, wait, storm := int64(s.Tilt), int64(s.Wait), int64(s.Storm)
	if t.Gust > c.Wind {
		storm = int64(c.Calm)
	} else if storm > 0 {
		storm--
	}
	if storm > 0 {
		return stateOf(tilt, wait, storm), t.Light, true
	}
	light := mul(t.Light, modelPass(modelTilted(b, tilt), int64(t.Height)))
	if wait > 0 {
		return stateOf(tilt, wait-1, 0), light, false
	}
	next := tilt
	if light > c.High {
		next += int64(c.Step)
	}
	if light < c.Low {
		next -= int64(c.Step)
	}
	if next > 64 {
		next = 64
	}
	if next < -64 {
		next = -64
	}
	if next != tilt {
		wait = int64(c.Delay)
	}
	return stateOf(next, wait, 0), light, false
}

func stateOf(tilt, wait, storm int64) impl.State {
	return impl.State{Tilt: int16(tilt), Wait: int8(wait), Storm: int8(storm)}
}

// modelTicks is what several ticks come to.
type modelTicks struct {
	state           impl.State
	lights          []float32
	changes, raised int64
}

func modelAll(c impl.Control, b impl.Blind, s impl.State, list []impl.Tick) modelTicks {
	all := modelTicks{state: s}
	for _, t := range list {
		next, light, isUp := modelTick(c, b, all.state, t)
		if next.Tilt != all.state.Tilt {
			all.changes++
		}
		if isUp {
			all.raised++
		}
		all.state = next
		all.lights = append(all.lights, light)
	}
	return all
}

func modelGlaring(lights []float32, bound float32) []int64 {
	var list []int64
	for i, light := range lights {
		if light > bound {
			list = append(list, int64(i))
		}
	}
	return list
}

// modelSteady makes at most so many ticks, and reports whether the state is steady behind them.
func modelSteady(c impl.Control, b impl.Blind, s impl.State, t impl.Tick, most int64) (impl.State, int64, bool) {
	for made := int64(0); made <= most; made++ {
		next, _, _ := modelTick(c, b, s, t)
		if next == s {
			return s, made, true
		}
		s = next
	}
	return impl.State{}, 0, false
}

func modelMean(votes []float32) float32 {
	sum := votes[0]
	for i := 1; i < len(votes); i++ {
		sum = add(sum, votes[i])
	}
	return div(sum, float32(len(votes)))
}

// modelSorted takes the first one of the least numbers that are left, again and again.
func modelSorted(votes []float32) []float32 {
	var sorted []float32
	left := append([]float32{}, votes...)
	for len(left) > 0 {
		first := 0
		for i, vote := range left {
			if vote < left[first] {
				first = i
			}
		}
		sorted = append(sorted, left[first])
		left = append(append([]float32{}, left[:first]...), left[first+1:]...)
	}
	return sorted
}

func modelMedian(votes []float32) float32 {
	sorted := modelSorted(votes)
	many := len(sorted)
	if many%2 == 1 {
		return sorted[many/2]
	}
	return div(add(sorted[many/2-1], sorted[many/2]), 2)
}

// modelAnger returns what each tilt comes to, from -64 on.
func modelAnger(b impl.Blind, height int64, votes []float32) []float32 {
	var list []float32
	for tilt := int64(-64); tilt <= 64; tilt++ {
		light := modelPass(modelTilted(b, tilt), height)
		var sizes []float32
		for _, vote := range votes {
			sizes = append(sizes, apartOf(light, vote))
		}
		list = append(list, modelSum(sizes))
	}
	return list
}

// modelOff returns what each tilt comes to, from -64 on, for blinds that are moved by one motor.
func modelOff(blinds []impl.Blind, height int64, wanted float32) []float32 {
	var list []float32
	for tilt := int64(-64); tilt <= 64; tilt++ {
		var sizes []float32
		for _, b := range blinds {
			sizes = append(sizes, apartOf(modelPass(modelTilted(b, tilt), height), wanted))
		}
		list = append(list, modelSum(sizes))
	}
	return list
}

// firstLeast returns the first index of the least number, and this.
func firstLeast(list []float32) (int, float32) {
	best := 0
	for i, x := range list {
		if x < list[best] {
			best = i
		}
	}
	return best, list[best]
}

// exampleControl is that of the document's example.
func exampleControl() impl.Control {
	return impl.Control{Low: 0.25, High: 0.5, Wind: 0.5, Step: 8, Delay: 1, Calm: 2}
}

// dullSlats let through what is open, and nothing else.
func dullSlats() impl.Blind { return impl.Blind{Slats: 10, Wide: 2, Gap: 2} }

// thinSlats let nearly all light through, whatever their tilt is, but never more than it.
func thinSlats() impl.Blind { return impl.Blind{Slats: 1, Wide: 0.0625, Gap: 64} }

// someControls are the controls of the edge cases, and some with any numbers.
func someControls() []impl.Control {
	list := []impl.Control{exampleControl()}
	steps, delays, calms := []int8{1, 8, 63, 64}, []int8{0, 1, 2, 19, 20}, []int8{1, 2, 19, 20}
	winds := []float32{0, minus0, tiniest, 0.5, below(1), 1}
	for _, pair := range [][2]float32{
		{0, 0}, {0, minus0}, {minus0, 0}, {minus0, minus0}, {0, tiniest}, {tiniest, tiniest}, {0, 1}, {0.25, 0.5}, {0.5, 0.5},
		{below(0.5), 0.5}, {0.5, above(0.5)}, {below(1), 1}, {1, 1}, {0.1, 0.9},
	} {
		for i, step := range steps {
			n := len(list)
			list = append(list, impl.Control{
				Low: pair[0], High: pair[1], Wind: winds[n%len(winds)], Step: step, Delay: delays[n%len(delays)], Calm: calms[(n+i)%len(calms)],
			})
		}
	}
	source := rand.New(rand.NewSource(21))
	for range 60 {
		low, high := source.Float32(), source.Float32()
		list = append(list, impl.Control{
			Low: min(low, high), High: max(low, high), Wind: source.Float32(),
			Step: int8(1 + source.Intn(64)), Delay: int8(source.Intn(21)), Calm: int8(1 + source.Intn(20)),
		})
	}
	return list
}

// badControls are not valid, each by a single number, or by Low that is more than High.
func badControls() []impl.Control {
	list := []impl.Control{{}}
	add := func(put func(c *impl.Control)) {
		c := exampleControl()
		put(&c)
		list = append(list, c)
	}
	for _, part := range badParts() {
		add(func(c *impl.Control) { c.Low = part })
		add(func(c *impl.Control) { c.High = part })
		add(func(c *impl.Control) { c.Wind = part })
		add(func(c *impl.Control) { c.Low, c.High = part, part })
	}
	add(func(c *impl.Control) { c.Low = above(0.5) })
	add(func(c *impl.Control) { c.High = below(0.25) })
	add(func(c *impl.Control) { c.Low, c.High = 1, 0 })
	add(func(c *impl.Control) { c.Low, c.High = tiniest, minus0 })
	for _, step := range []int8{-128, -64, -1, 0, 65, 127} {
		add(func(c *impl.Control) { c.Step = step })
	}
	for _, ticks := range []int8{-128, -20, -1, 21, 127} {
		add(func(c *impl.Control) { c.Delay = ticks })
		add(func(c *impl.Control) { c.Calm = ticks })
	}
	add(func(c *impl.Control) { c.Calm = 0 })
	return list
}

// someStates are the states of the edge cases.
func someStates() []impl.State {
	var list []impl.State
	for _, tilt := range []int64{-64, -63, -62, -32, -1, 0, 1, 17, 62, 63, 64} {
		for _, wait := range []int64{0, 1, 2, 19, 20} {
			for _, storm := range []int64{0, 1, 2, 19, 20} {
				list = append(list, stateOf(tilt, wait, storm))
			}
		}
	}
	return list
}

// badStates are not valid, each by a single number.
func badStates() []impl.State {
	var list []impl.State
	for _, tilt := range []int16{-32768, -65, 65, 256, 32767} {
		list = append(list, impl.State{Tilt: tilt, Wait: 1, Storm: 1})
	}
	for _, ticks := range []int8{-128, -1, 21, 127} {
		list = append(list, impl.State{Wait: ticks}, impl.State{Storm: ticks})
	}
	return list
}

// someTicks are the ticks of the edge cases, and some with any numbers.
func someTicks() []impl.Tick {
	var list []impl.Tick
	heights := []int8{1, 2, 20, 32, 33, 63, 64}
	for _, light := range []float32{0, minus0, tiniest, 0.25, 0.5, below(1), 1} {
		for _, gust := range []float32{0, minus0, tiniest, 0.5, above(0.5), below(1), 1} {
			list = append(list, impl.Tick{Light: light, Gust: gust, Height: heights[len(list)%len(heights)]})
			list = append(list, impl.Tick{Light: light, Gust: gust, Height: heights[(len(list)*3+1)%len(heights)]})
		}
	}
	source := rand.New(rand.NewSource(22))
	for range 100 {
		list = append(list, impl.Tick{
			Light: source.Float32(), Gust: source.Float32() * source.Float32(), Height: int8(1 + source.Intn(64)),
		})
	}
	return list
}

// badTicks are not valid, each by a single number.
func badTicks() []impl.Tick {
	list := []impl.Tick{{}}
	for _, part := range badParts() {
		list = append(list, impl.Tick{Light: part, Height: 32}, impl.Tick{Light: 1, Gust: part, Height: 32})
	}
	for _, height := range []int8{-128, -32, -1, 0, 65, 127} {
		list = append(list, impl.Tick{Light: 1, Height: height})
	}
	return list
}

// someRuns are lists of ticks: none, as many as there may be, and some that come from anywhere.
func someRuns() [][]impl.Tick {
	list := [][]impl.Tick{nil, {}}
	ticks := someTicks()
	source := rand.New(rand.NewSource(23))
	for _, many := range []int{1, 2, 3, 10, 30, 99, 100, 100, 100} {
		for _, calm := range []int{1, 3, 10} {
			run := make([]impl.Tick, many)
			for i := range run {
				run[i] = ticks[source.Intn(len(ticks))]
				if source.Intn(calm) > 0 {
					run[i].Gust = 0
				}
			}
			list = append(list, run)
		}
	}
	return list
}

// someVotes are votes of the edge cases, and some with any numbers.
func someVotes() [][]float32 {
	list := [][]float32{
		{0}, {minus0}, {1}, {tiniest}, {0, 0}, {0, minus0}, {minus0, 0}, {minus0, minus0}, {tiniest, 0}, {0, tiniest}, {tiniest, tiniest},
		{0, 1}, {1, 0}, {1, 1}, {minus0, 0, minus0}, {0, minus0, 0}, {0, minus0, minus0}, {minus0, 1, 0}, {0, 1, minus0}, {0, minus0, 1, 1},
		{minus0, 0, 1, 1}, {1, minus0, 0, 0}, {0.25, 1, 0.5}, {0.25, 1}, {0.1, 0.2, 0.3, 0.4}, {0.4, 0.3, 0.2, 0.1}, {1, below(1), 1},
		{0, minus0, 0, minus0, 1, 0, minus0, 1, minus0, 0, 1, 0}, {1, 1, 1, 1, 1, 1, 1, 1, 1, 1, 1, 1}, {0, 0, 0, 0, 0, 0, 1, 1, 1, 1, 1, 1},
	}
	source := rand.New(rand.NewSource(24))
	for i := range 120 {
		votes := make([]float32, 1+i%12)
		for n := range votes {
			votes[n] = source.Float32()
			if i%3 == 1 {
				votes[n] = float32(source.Intn(4)) / 4
			}
			if i%3 == 2 {
				votes[n] = float32(math.Exp2(-20 * source.Float64()))
			}
		}
		list = append(list, votes)
	}
	return list
}

// badVotes are too few, too many, or one of them is no part.
func badVotes() [][]float32 {
	list := [][]float32{nil, {}, make([]float32, 13), make([]float32, 1000000)}
	for i, part := range badParts() {
		full := make([]float32, 12)
		full[(i*5+11)%12] = part
		list = append(list, []float32{part}, []float32{0.5, part}, []float32{part, 0.5}, full, append(make([]float32, 12), part))
	}
	return list
}
