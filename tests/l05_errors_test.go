package tests

import (
	"math"
	"slices"
	"testing"

	"loop.example/g01367/impl"
)

// controlArgs are the arguments of all functions of chapter 5 that have an error code.
type controlArgs struct {
	control       impl.Control
	blind         impl.Blind
	state         impl.State
	tick          impl.Tick
	ticks         []impl.Tick
	bound, wanted float32
	votes         []float32
	height        int64
	blinds        []impl.Blind
}

func goodControlArgs() controlArgs {
	return controlArgs{
		control: exampleControl(), blind: tenSlats(), state: impl.State{Tilt: -32}, tick: impl.Tick{Light: 0.5, Height: 32},
		ticks: []impl.Tick{{Light: 1, Height: 32}, {Light: 1, Gust: 0.75, Height: 32}, {Light: 1, Height: 20}}, bound: 0.5, wanted: 0.25,
		votes: []float32{0.25, 1, 0.5}, height: 32, blinds: []impl.Blind{tenSlats(), thinSlats()},
	}
}

func controlCalls() []callOf[controlArgs] {
	return []callOf[controlArgs]{
		{"InsideAt", "control blind state tick", func(a controlArgs) []any {
			return both(impl.InsideAt(a.control, a.blind, a.state, a.tick))
		}},
		{"TickOnce", "control blind state tick", func(a controlArgs) []any {
			return three(impl.TickOnce(a.control, a.blind, a.state, a.tick))
		}},
		{"TickAll", "control blind state ticks", func(a controlArgs) []any {
			return three(impl.TickAll(a.control, a.blind, a.state, a.ticks))
		}},
		{"IsSteady", "control blind state tick", func(a controlArgs) []any {
			return both(impl.IsSteady(a.control, a.blind, a.state, a.tick))
		}},
		{"SteadyFrom", "control blind state tick", func(a controlArgs) []any {
			return three(impl.SteadyFrom(a.control, a.blind, a.state, a.tick))
		}},
		{"ChangesIn", "control blind state ticks", func(a controlArgs) []any {
			return both(impl.ChangesIn(a.control, a.blind, a.state, a.ticks))
		}},
		{"RaisedIn", "control blind state ticks", func(a controlArgs) []any {
			return both(impl.RaisedIn(a.control, a.blind, a.state, a.ticks))
		}},
		{"GlareTicks", "control blind state ticks bound", func(a controlArgs) []any {
			return both(impl.GlareTicks(a.control, a.blind, a.state, a.ticks, a.bound))
		}},
		{"MeanVote", "votes", func(a controlArgs) []any { return both(impl.MeanVote(a.votes)) }},
		{"MedianVote", "votes", func(a controlArgs) []any { return both(impl.MedianVote(a.votes)) }},
		{"LeastAnger", "blind height votes", func(a controlArgs) []any { return three(impl.LeastAnger(a.blind, a.height, a.votes)) }},
		{"SharedTilt", "blinds height wanted", func(a controlArgs) []any { return three(impl.SharedTilt(a.blinds, a.height, a.wanted)) }},
	}
}

func invalidInControls() []faultOf[controlArgs] {
	var list []faultOf[controlArgs]
	add := func(argument string, put func(a *controlArgs)) {
		list = append(list, faultOf[controlArgs]{argument, impl.ErrInvalid, put})
	}
	for _, bad := range badControls() {
		add("control", func(a *controlArgs) { a.control = bad })
	}
	for i, bad := range badBlinds() {
		add("blind", func(a *controlArgs) { a.blind = bad })
		// It may be any one of the list, and the list may be too long as well.
		add("blinds", func(a *controlArgs) {
			a.blinds = slices.Repeat([]impl.Blind{tenSlats()}, 1+i%9)
			a.blinds[i/3%len(a.blinds)] = bad
		})
	}
	add("blinds", func(a *controlArgs) { a.blinds = make([]impl.Blind, 9) })
	add("blinds", func(a *controlArgs) { a.blinds = append(slices.Repeat([]impl.Blind{tenSlats()}, 8), impl.Blind{}) })
	for _, bad := range badStates() {
		add("state", func(a *controlArgs) { a.state = bad })
	}
	for i, bad := range badTicks() {
		add("tick", func(a *controlArgs) { a.tick = bad })
		add("ticks", func(a *controlArgs) {
			a.ticks = slices.Repeat([]impl.Tick{{Height: 1}}, []int{1, 2, 7, 100, 101}[i%5])
			a.ticks[i*7%len(a.ticks)] = bad
		})
	}
	add("ticks", func(a *controlArgs) { a.ticks = make([]impl.Tick, 101) })
	add("ticks", func(a *controlArgs) { a.ticks = append(slices.Repeat([]impl.Tick{{Height: 1}}, 100), impl.Tick{}) })
	add("ticks", func(a *controlArgs) { a.ticks = make([]impl.Tick, 300000) })
	return list
}

func outsideOfControls() []faultOf[controlArgs] {
	var list []faultOf[controlArgs]
	add := func(argument string, put func(a *controlArgs)) {
		list = append(list, faultOf[controlArgs]{argument, impl.ErrRange, put})
	}
	// The numbers that would come back into their ranges if they were made narrow are outside as well.
	for _, n := range []int64{0, 65, -1, -32, 256 + 32, math.MinInt64, math.MaxInt64, 1<<16 + 12, 1<<32 + 12, -1<<32 + 12} {
		add("height", func(a *controlArgs) { a.height = n })
	}
	for _, part := range badParts() {
		add("bound", func(a *controlArgs) { a.bound = part })
		add("wanted", func(a *controlArgs) { a.wanted = part })
	}
	for _, votes := range badVotes() {
		add("votes", func(a *controlArgs) { a.votes = votes })
	}
	return list
}

func tooManyInControls() []faultOf[controlArgs] {
	ticks, blinds := slices.Repeat([]impl.Tick{{Height: 1}}, 300000), slices.Repeat([]impl.Blind{tenSlats()}, 9)
	return []faultOf[controlArgs]{
		{"ticks", impl.ErrLimit, func(a *controlArgs) { a.ticks = ticks[:101] }},
		{"ticks", impl.ErrLimit, func(a *controlArgs) { a.ticks = ticks }},
		{"blinds", impl.ErrLimit, func(a *controlArgs) { a.blinds = nil }},
		{"blinds", impl.ErrLimit, func(a *controlArgs) { a.blinds = []impl.Blind{} }},
		{"blinds", impl.ErrLimit, func(a *controlArgs) { a.blinds = blinds }},
		{"blinds", impl.ErrLimit, func(a *controlArgs) { a.blinds = slices.Repeat(blinds, 20000) }},
	}
}

// P1: each function returns for all arguments; an error comes in its order (ErrInvalid, ErrLimit, ErrRange), and all
// else is a zero value then.
func TestP1ErrorsOfControls(t *testing.T) {
	faults := slices.Concat(invalidInControls(), outsideOfControls(), tooManyInControls())
	wantErrors(t, goodControlArgs, controlCalls(), faults, impl.ErrInvalid, impl.ErrLimit, impl.ErrRange)
}

// P1: a wrong argument that a function does not have changes nothing.
func TestP1OtherArgumentsOfControls(t *testing.T) {
	faults := slices.Concat(invalidInControls(), outsideOfControls(), tooManyInControls())
	wantOthersUnminded(t, goodControlArgs, controlCalls(), faults)
}

// P1: ErrNotFound of a state that is never steady comes behind all other errors.
func TestP1NeverSteady(t *testing.T) {
	swing := goodControlArgs()
	swing.control = impl.Control{Low: 0.5, High: 0.5, Wind: 0.5, Step: 64, Calm: 1}
	swing.blind, swing.tick.Light = dullSlats(), 1
	run := func(a controlArgs) callAnswer {
		return callAnswerOf(three(impl.SteadyFrom(a.control, a.blind, a.state, a.tick)))
	}
	if answer := run(swing); answer.code != impl.ErrNotFound || !answer.isZero {
		t.Errorf("never steady: %v", answer)
	}
	for i, fault := range invalidInControls() {
		args := swing
		fault.put(&args)
		want := int64(impl.ErrNotFound)
		if slices.Contains([]string{"control", "blind", "state", "tick"}, fault.argument) {
			want = impl.ErrInvalid
		}
		if answer := run(args); answer.code != want || !answer.isZero {
			t.Errorf("never steady, with %s %d: %v, want %d", fault.argument, i, answer, want)
		}
	}
}

// As many as there may be, and as few, are no error; nor are the numbers at the ends of their ranges.
func TestLimitsOfControlsThatAreReached(t *testing.T) {
	for _, many := range []int{0, 1, 99, 100} {
		args := goodControlArgs()
		args.ticks = slices.Repeat([]impl.Tick{{Light: 1, Height: 32}}, many)
		for _, call := range controlCalls() {
			if answer := callAnswerOf(call.run(args)); answer.code != impl.OK {
				t.Errorf("%s of %d ticks: %v", call.name, many, answer)
			}
		}
	}
	for _, bound := range []float32{0, minus0, tiniest, below(1), 1} {
		for _, height := range []int64{1, 64} {
			for _, many := range []int{1, 8, 12} {
				args := goodControlArgs()
				args.bound, args.wanted, args.height = bound, bound, height
				args.votes, args.blinds = slices.Repeat([]float32{bound}, many), slices.Repeat([]impl.Blind{tenSlats()}, min(many, 8))
				for _, call := range controlCalls() {
					if answer := callAnswerOf(call.run(args)); answer.code != impl.OK {
						t.Errorf("%s for %v at %d of %d: %v", call.name, bound, height, many, answer)
					}
				}
			}
		}
	}
}
