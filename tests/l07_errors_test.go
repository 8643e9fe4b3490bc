package tests

import (
	"math"
	"slices"
	"testing"

	"loop.example/g01367/impl"
)

// dayArgs are the arguments of all functions of chapter 7 that have an error code.
type dayArgs struct {
	blind           impl.Blind // of windows
	slats           impl.Blind // of floors
	sun             impl.Sun
	suns            []impl.Sun
	plan, outside   impl.Plan // one that keeps within bounds, and one that does not
	facing, hour    int64
	height, step    int64
	low, high       float32
	broken          uint32
	floor, dimFloor impl.Floor
	bound           float32
}

func goodDayArgs() dayArgs {
	return dayArgs{
		blind: modelTilted(dullSlats(), -20), slats: exampleSlats(), sun: southSun(), suns: []impl.Sun{{}, southSun()}, plan: impl.Plan{12: -41},
		outside: impl.Plan{12: -32}, facing: 128, hour: 12, height: 32, step: 64, low: 0.25, high: 0.5, broken: 2,
		floor: impl.Floor{1: 1}, dimFloor: impl.Floor{0: 1}, bound: 0.5,
	}
}

func dayCalls() []callOf[dayArgs] {
	return []callOf[dayArgs]{
		{"ChangesOf", "plan", func(a dayArgs) []any { return both(impl.ChangesOf(a.plan)) }},
		{"PlanLight", "blind sun facing outside", func(a dayArgs) []any {
			return both(impl.PlanLight(a.blind, a.sun, a.facing, a.outside))
		}},
		{"KeepsWithin", "blind sun facing plan low high", func(a dayArgs) []any {
			return both(impl.KeepsWithin(a.blind, a.sun, a.facing, a.plan, a.low, a.high))
		}},
		{"FirstOutside", "blind sun facing outside outside.none low high", func(a dayArgs) []any {
			return both(impl.FirstOutside(a.blind, a.sun, a.facing, a.outside, a.low, a.high))
		}},
		{"TiltsAt", "blind sun facing hour low high", func(a dayArgs) []any {
			return both(impl.TiltsAt(a.blind, a.sun, a.facing, a.hour, a.low, a.high))
		}},
		{"FewestChanges", "blind blind.thin sun facing low high high.low", func(a dayArgs) []any {
			return three(impl.FewestChanges(a.blind, a.sun, a.facing, a.low, a.high))
		}},
		{"BrightestPlan", "blind blind.thin sun facing high", func(a dayArgs) []any {
			return three(impl.BrightestPlan(a.blind, a.sun, a.facing, a.high))
		}},
		{"FloorOf", "slats height broken", func(a dayArgs) []any { return both(impl.FloorOf(a.slats, a.height, a.broken)) }},
		{"BrokenFrom", "slats height floor", func(a dayArgs) []any { return both(impl.BrokenFrom(a.slats, a.height, a.floor)) }},
		{"DarkStripes", "bound", func(a dayArgs) []any { return both(impl.DarkStripes(a.dimFloor, a.bound)) }},
		{"YearLight", "blind suns facing", func(a dayArgs) []any { return both(impl.YearLight(a.blind, a.suns, a.facing)) }},
		{"BestMonth", "blind suns facing", func(a dayArgs) []any { return three(impl.BestMonth(a.blind, a.suns, a.facing)) }},
		{"YearFacing", "blind suns step", func(a dayArgs) []any { return three(impl.YearFacing(a.blind, a.suns, a.step)) }},
	}
}

func invalidInDays() []faultOf[dayArgs] {
	var list []faultOf[dayArgs]
	add := func(argument string, put func(a *dayArgs)) {
		list = append(list, faultOf[dayArgs]{argument, impl.ErrInvalid, put})
	}
	for _, bad := range badBlinds() {
		add("blind", func(a *dayArgs) { a.blind = bad })
		add("slats", func(a *dayArgs) { a.slats = bad })
	}
	for i, bad := range badSuns() {
		add("sun", func(a *dayArgs) { a.sun = bad })
		// It may be any one of the year, and the year may be too long as well.
		add("suns", func(a *dayArgs) {
			a.suns = slices.Repeat([]impl.Sun{southSun()}, []int{1, 2, 5, 12, 13}[i%5])
			a.suns[i*7%len(a.suns)] = bad
		})
	}
	add("suns", func(a *dayArgs) { a.suns = append(make([]impl.Sun, 12), badSuns()[0]) })
	add("suns", func(a *dayArgs) { a.suns = append(make([]impl.Sun, 2000), badSuns()[0]) })
	for _, bad := range badPlans() {
		add("plan", func(a *dayArgs) { a.plan = bad })
		add("outside", func(a *dayArgs) { a.outside = bad })
	}
	return list
}

func outsideOfDays() []faultOf[dayArgs] {
	var list []faultOf[dayArgs]
	add := func(argument string, put func(a *dayArgs)) {
		list = append(list, faultOf[dayArgs]{argument, impl.ErrRange, put})
	}
	// The numbers that would come back into their ranges if they were made narrow are outside as well.
	for _, n := range []int64{-1, -8, -64, 256, 257, 512, math.MinInt64, math.MaxInt64, 1<<16 + 12, 1<<32 + 12, -1<<32 + 12} {
		add("facing", func(a *dayArgs) { a.facing = n })
		add("hour", func(a *dayArgs) { a.hour = n })
		add("height", func(a *dayArgs) { a.height = n })
		add("step", func(a *dayArgs) { a.step = n })
	}
	for _, n := range []int64{24, 25, 32, 255} {
		add("hour", func(a *dayArgs) { a.hour = n })
	}
	for _, n := range []int64{0, 65, 128} {
		add("height", func(a *dayArgs) { a.height = n })
	}
	for _, n := range []int64{0, 1, 6, 7} {
		add("step", func(a *dayArgs) { a.step = n })
	}
	for _, part := range badParts() {
		add("low", func(a *dayArgs) { a.low = part })
		add("high", func(a *dayArgs) { a.high = part })
		add("bound", func(a *dayArgs) { a.bound = part })
	}
	for _, broken := range []uint32{8, 10, 15, 1 << 23, 1 << 24, 1 << 31, 1<<32 - 1} {
		add("broken", func(a *dayArgs) { a.broken = broken })
	}
	return list
}

// otherFaultsOfDays are those that come behind ErrInvalid.
func otherFaultsOfDays() []faultOf[dayArgs] {
	list := []faultOf[dayArgs]{
		{"outside.none", impl.ErrNotFound, func(a *dayArgs) { a.outside = a.plan }},
		{"blind.thin", impl.ErrNotFound, func(a *dayArgs) { a.blind = thinSlats() }},
		{"high.low", impl.ErrNotFound, func(a *dayArgs) { a.high = below(0.25) }},
	}
	for _, floor := range []impl.Floor{{0.25}, {minus0, 1}, {2: nan}, {3: 1}, {23: minus0}, {1: below(1)}} {
		list = append(list, faultOf[dayArgs]{"floor", impl.ErrState, func(a *dayArgs) { a.floor = floor }})
	}
	for _, many := range []int{0, 13, 14, 100} {
		list = append(list, faultOf[dayArgs]{"suns", impl.ErrLimit, func(a *dayArgs) { a.suns = make([]impl.Sun, many) }})
	}
	return append(list, faultOf[dayArgs]{"suns", impl.ErrLimit, func(a *dayArgs) { a.suns = nil }})
}

// P1: each function returns for all arguments; an error comes in its order, and all else is a zero value then.
func TestP1ErrorsOfDays(t *testing.T) {
	faults := slices.Concat(invalidInDays(), outsideOfDays(), otherFaultsOfDays())
	wantErrors(t, goodDayArgs, dayCalls(), faults, impl.ErrInvalid, impl.ErrLimit, impl.ErrRange, impl.ErrState, impl.ErrNotFound)
}

// P1: a wrong argument that a function does not have, or one of which it does not ask this, changes nothing.
func TestP1OtherArgumentsOfDays(t *testing.T) {
	faults := slices.Concat(invalidInDays(), outsideOfDays(), otherFaultsOfDays())
	wantOthersUnminded(t, goodDayArgs, dayCalls(), faults)
}

// P1: a year of very many suns is too long, but first of all it is not valid if one of them is not, be it the last one.
func TestP1VeryLongYears(t *testing.T) {
	args := goodDayArgs()
	args.suns = make([]impl.Sun, 20000)
	for _, want := range []int64{impl.ErrLimit, impl.ErrInvalid} {
		for _, call := range dayCalls() {
			if !slices.Contains([]string{"YearLight", "BestMonth", "YearFacing"}, call.name) {
				continue
			}
			if answer := callAnswerOf(call.run(args)); answer.code != want || !answer.isZero {
				t.Errorf("%s: %v, want %d", call.name, answer, want)
			}
		}
		args.suns[19999].Height[23] = 65
	}
}

// As many as there may be, and as few, are no error; nor are the numbers at the ends of their ranges.
func TestLimitsOfDaysThatAreReached(t *testing.T) {
	wantNone := func(args dayArgs, but ...string) {
		t.Helper()
		for _, call := range dayCalls() {
			answer := callAnswerOf(call.run(args))
			if answer.code != impl.OK && !(slices.Contains(but, call.name) && answer.code == impl.ErrNotFound) {
				t.Errorf("%s of %v: %v", call.name, args, answer)
			}
		}
	}
	for _, facing := range []int64{0, 1, 254, 255} {
		for _, hour := range []int64{0, 1, 22, 23} {
			for i, height := range []int64{1, 2, 63, 64} {
				args := goodDayArgs()
				args.facing, args.hour, args.height, args.step = facing, hour, height, []int64{8, 9, 254, 255}[i]
				args.suns = make([]impl.Sun, []int{1, 2, 11, 12}[i])
				args.floor, _ = impl.FloorOf(args.slats, height, 0)
				wantNone(args, "FirstOutside")
			}
		}
	}
	for _, low := range []float32{0, minus0, tiniest, 0.5, below(1), 1} {
		for _, high := range []float32{0, minus0, tiniest, 0.5, below(1), 1} {
			args := goodDayArgs()
			args.low, args.high, args.bound = low, high, high
			wantNone(args, "FirstOutside", "FewestChanges")
		}
	}
	for _, slats := range []int8{1, 23, 24, 25, 60} {
		args := goodDayArgs()
		args.slats.Slats, args.broken, args.floor = slats, allSlats(impl.Blind{Slats: slats}), impl.Floor{}
		wantNone(args)
	}
}
