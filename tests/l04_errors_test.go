package tests

import (
	"math"
	"slices"
	"testing"

	"loop.example/g01367/impl"
)

// awningArgs are the arguments of all functions of chapter 4 that have an error code.
type awningArgs struct {
	awning       impl.Awning
	list         []impl.Awning
	sun          impl.Sun
	hour, facing int64
	part         float32
	trees        []impl.Tree
	keeper       impl.Keeper
	gusts        [24]float32
	out          uint32
	gust, bound  float32
}

func goodAwningArgs() awningArgs {
	return awningArgs{
		awning: impl.Awning{Out: 0.25, Drop: 0.25, Gap: 0.5, Tall: 2}, list: []impl.Awning{{Tall: 4}, {Out: 0.5, Tall: 4}},
		sun: arcSun(), hour: 12, facing: 100, part: 0.25, trees: []impl.Tree{{Turn: 120, Width: 8, Top: 64}},
		keeper: exampleKeeper(), gusts: [24]float32{1, 5, 1, 1, 1}, out: 1 << 12, gust: 2, bound: 4,
	}
}

func awningCalls() []callOf[awningArgs] {
	return []callOf[awningArgs]{
		{"ShadedPart", "awning sun hour facing", func(a awningArgs) []any {
			return both(impl.ShadedPart(a.awning, a.sun, a.hour, a.facing))
		}},
		{"LightBehind", "awning sun hour facing", func(a awningArgs) []any {
			return both(impl.LightBehind(a.awning, a.sun, a.hour, a.facing))
		}},
		{"DayBehind", "awning sun facing", func(a awningArgs) []any { return both(impl.DayBehind(a.awning, a.sun, a.facing)) }},
		{"ShadedHours", "awning sun facing part", func(a awningArgs) []any {
			return both(impl.ShadedHours(a.awning, a.sun, a.facing, a.part))
		}},
		{"OutFor", "awning sun hour facing part", func(a awningArgs) []any {
			return both(impl.OutFor(a.awning, a.sun, a.hour, a.facing, a.part))
		}},
		{"BestAwning", "list sun facing", func(a awningArgs) []any { return three(impl.BestAwning(a.list, a.sun, a.facing)) }},
		{"HiddenAt", "trees sun hour", func(a awningArgs) []any { return both(impl.HiddenAt(a.trees, a.sun, a.hour)) }},
		{"HiddenHours", "trees sun", func(a awningArgs) []any { return both(impl.HiddenHours(a.trees, a.sun)) }},
		{"BareSun", "trees sun", func(a awningArgs) []any { return both(impl.BareSun(a.trees, a.sun)) }},
		{"OutHours", "keeper gusts", func(a awningArgs) []any { return both(impl.OutHours(a.keeper, a.gusts)) }},
		{"GustyDay", "awning sun facing", func(a awningArgs) []any {
			return both(impl.GustyDay(a.awning, a.sun, a.facing, a.out))
		}},
		{"StrainOf", "awning gust", func(a awningArgs) []any { return both(impl.StrainOf(a.awning, a.gust)) }},
		{"LongestFor", "gust bound", func(a awningArgs) []any { return both(impl.LongestFor(a.gust, a.bound)) }},
	}
}

func invalidAwnings() []faultOf[awningArgs] {
	var list []faultOf[awningArgs]
	add := func(argument string, put func(a *awningArgs)) {
		list = append(list, faultOf[awningArgs]{argument, impl.ErrInvalid, put})
	}
	for i, bad := range badAwnings() {
		add("awning", func(a *awningArgs) { a.awning = bad })
		// It may be any one of the list, and the list may be too long as well.
		add("list", func(a *awningArgs) {
			a.list = slices.Repeat([]impl.Awning{exampleAwning()}, 1+i%9)
			a.list[i/9%len(a.list)] = bad
		})
	}
	add("list", func(a *awningArgs) { a.list = make([]impl.Awning, 9) })
	add("list", func(a *awningArgs) { a.list = make([]impl.Awning, 200000) })
	for _, bad := range badSuns() {
		add("sun", func(a *awningArgs) { a.sun = bad })
	}
	for _, bad := range badTrees() {
		add("trees", func(a *awningArgs) { a.trees = bad })
	}
	for _, bad := range badKeepers() {
		add("keeper", func(a *awningArgs) { a.keeper = bad })
	}
	return list
}

func outsideOfAwnings() []faultOf[awningArgs] {
	var list []faultOf[awningArgs]
	add := func(argument string, put func(a *awningArgs)) {
		list = append(list, faultOf[awningArgs]{argument, impl.ErrRange, put})
	}
	// The numbers that would come back into their ranges if they were made narrow are outside as well.
	for _, n := range []int64{-1, 256, 257, 512, math.MinInt64, math.MaxInt64, 1<<16 + 12, 1<<32 + 12, -1<<32 + 12} {
		add("hour", func(a *awningArgs) { a.hour = n })
		add("facing", func(a *awningArgs) { a.facing = n })
	}
	for _, n := range []int64{24, 25, 32, 64, 255} {
		add("hour", func(a *awningArgs) { a.hour = n })
	}
	for _, part := range badParts() {
		add("part", func(a *awningArgs) { a.part = part })
	}
	for i, gust := range badForces() {
		add("gust", func(a *awningArgs) { a.gust = gust })
		add("bound", func(a *awningArgs) { a.bound = gust })
		for _, hour := range []int{0, 1 + i, 23} {
			add("gusts", func(a *awningArgs) { a.gusts[hour] = gust })
		}
	}
	return list
}

func tooManyAwnings() []faultOf[awningArgs] {
	return []faultOf[awningArgs]{
		{"list", impl.ErrLimit, func(a *awningArgs) { a.list = slices.Repeat([]impl.Awning{exampleAwning()}, 9) }},
		{"list", impl.ErrLimit, func(a *awningArgs) { a.list = slices.Repeat([]impl.Awning{exampleAwning()}, 200000) }},
		{"list", impl.ErrNotFound, func(a *awningArgs) { a.list = nil }},
		{"list", impl.ErrNotFound, func(a *awningArgs) { a.list = []impl.Awning{} }},
	}
}

// P1: each function returns for all arguments; an error comes in its order, and all else is a zero value then.
func TestP1ErrorsOfAwnings(t *testing.T) {
	faults := slices.Concat(invalidAwnings(), outsideOfAwnings(), tooManyAwnings())
	wantErrors(t, goodAwningArgs, awningCalls(), faults, impl.ErrInvalid, impl.ErrRange, impl.ErrLimit, impl.ErrNotFound)
}

// P1: a wrong argument that a function does not have changes nothing.
func TestP1OtherArgumentsOfAwnings(t *testing.T) {
	faults := slices.Concat(invalidAwnings(), outsideOfAwnings(), tooManyAwnings())
	wantOthersUnminded(t, goodAwningArgs, awningCalls(), faults)
}

// An awning of OutFor has to be valid in its Out as well, and ErrNotFound comes behind all other errors.
func TestP1OutThatIsNotFound(t *testing.T) {
	never := awningArgs{awning: impl.Awning{Gap: 2, Tall: 4}, sun: evenSun(1, 128), hour: 12, facing: 128, part: 1}
	for name, c := range map[string]struct {
		put  func(a *awningArgs)
		code int64
	}{
		"nothing else":   {func(a *awningArgs) {}, impl.ErrNotFound},
		"tiniest part":   {func(a *awningArgs) { a.part = tiniest }, impl.ErrNotFound},
		"no part wanted": {func(a *awningArgs) { a.part = 0 }, impl.OK},
		"NaN wanted":     {func(a *awningArgs) { a.part = nan }, impl.ErrRange},
		"bad hour":       {func(a *awningArgs) { a.hour = 24 }, impl.ErrRange},
		"bad facing":     {func(a *awningArgs) { a.facing = -1 }, impl.ErrRange},
		"bad Out":        {func(a *awningArgs) { a.awning.Out, a.hour, a.part = above(8), 24, nan }, impl.ErrInvalid},
		"Out is NaN":     {func(a *awningArgs) { a.awning.Out, a.part = nan, 0 }, impl.ErrInvalid},
		"bad sun":        {func(a *awningArgs) { a.sun.Height[3], a.facing = 65, 256 }, impl.ErrInvalid},
	} {
		args := never
		c.put(&args)
		answer := callAnswerOf(both(impl.OutFor(args.awning, args.sun, args.hour, args.facing, args.part)))
		if answer.code != c.code || !answer.isZero {
			t.Errorf("%s: %v, want %d", name, answer, c.code)
		}
	}
}

// As many as there may be are no error.
func TestLimitsThatAreReached(t *testing.T) {
	if _, _, code := impl.BestAwning(slices.Repeat([]impl.Awning{exampleAwning()}, 8), arcSun(), 0); code != impl.OK {
		t.Errorf("8 awnings: %d", code)
	}
	if _, code := impl.HiddenHours(make([]impl.Tree, 8), arcSun()); code != impl.OK {
		t.Errorf("8 trees: %d", code)
	}
	gusts := [24]float32{0, minus0, 1048576, tiniest}
	for _, k := range []impl.Keeper{{Wait: 1}, {Hold: minus0, Calm: minus0, Wait: 24}, {Hold: 1048576, Calm: 1048576, Wait: 1}} {
		if _, code := impl.OutHours(k, gusts); code != impl.OK {
			t.Errorf("%v: %d", k, code)
		}
	}
}
