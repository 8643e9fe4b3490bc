package tests

import (
	"math"
	"slices"
	"testing"

	"loop.example/g01367/impl"
)

// listArgs are the arguments of all functions of chapter 6 that have an error code.
type listArgs struct {
	list, first, second, bounds []float32
	number, near, bound         float32
	steps, many                 int64
}

func goodListArgs() listArgs {
	return listArgs{
		list: lostList(), first: []float32{1, 2, 3, 4}, second: []float32{2, 1, 1, 4}, bounds: []float32{-1, 0.5},
		number: 1, near: 1.5, bound: 0.5, steps: 3, many: 2,
	}
}

func listCalls() []callOf[listArgs] {
	calls := []callOf[listArgs]{
		{"StepsApart", "number near", func(a listArgs) []any { return both(impl.StepsApart(a.number, a.near)) }},
		{"StepsApart the other way round", "number near", func(a listArgs) []any { return both(impl.StepsApart(a.near, a.number)) }},
		{"StepFrom", "number number.low steps", func(a listArgs) []any { return both(impl.StepFrom(a.number, a.steps)) }},
		{"OrdersApart", "list list.low", func(a listArgs) []any { return both(impl.OrdersApart(a.list)) }},
		{"GreatestOrder", "list list.few", func(a listArgs) []any { return three(impl.GreatestOrder(a.list)) }},
		{"RunningSums", "list", func(a listArgs) []any { return both(impl.RunningSums(a.list)) }},
		{"MeanOf", "list list.some", func(a listArgs) []any { return both(impl.MeanOf(a.list)) }},
		{"SpreadOf", "list list.some", func(a listArgs) []any { return both(impl.SpreadOf(a.list)) }},
		{"SquareOff", "list list.some", func(a listArgs) []any { return both(impl.SquareOff(a.list)) }},
		{"DotOf", "first second second.even", func(a listArgs) []any { return both(impl.DotOf(a.first, a.second)) }},
		{"DotOf the other way round", "first second second.even", func(a listArgs) []any { return both(impl.DotOf(a.second, a.first)) }},
		{"MovingMeans", "list many", func(a listArgs) []any { return both(impl.MovingMeans(a.list, a.many)) }},
		{"SortList", "list", func(a listArgs) []any { return both(impl.SortList(a.list)) }},
		{"MedianOf", "list list.some", func(a listArgs) []any { return both(impl.MedianOf(a.list)) }},
		{"CountBins", "list bounds bounds.right", func(a listArgs) []any { return both(impl.CountBins(a.list, a.bounds)) }},
		{"PackAbove", "list bound", func(a listArgs) []any { return both(impl.PackAbove(a.list, a.bound)) }},
	}
	for _, one := range listSums() {
		calls = append(calls, callOf[listArgs]{one.name, "list", func(a listArgs) []any { return both(one.of(a.list)) }})
	}
	return calls
}

func invalidInLists() []faultOf[listArgs] {
	var list []faultOf[listArgs]
	add := func(argument string, put func(a *listArgs)) {
		list = append(list, faultOf[listArgs]{argument, impl.ErrInvalid, put})
	}
	for _, bad := range badLists() {
		add("list", func(a *listArgs) { a.list = bad })
		add("first", func(a *listArgs) { a.first = bad })
		add("second", func(a *listArgs) { a.second = bad })
		add("bounds", func(a *listArgs) { a.bounds = bad })
	}
	for _, bad := range badNumbers() {
		add("number", func(a *listArgs) { a.number = bad })
		add("near", func(a *listArgs) { a.near = bad })
	}
	return list
}

func outsideOfLists() []faultOf[listArgs] {
	var list []faultOf[listArgs]
	add := func(argument string, put func(a *listArgs)) {
		list = append(list, faultOf[listArgs]{argument, impl.ErrRange, put})
	}
	// The numbers that would come back into their ranges if they were made narrow are outside as well.
	for _, n := range []int64{-1000001, 1000001, math.MinInt64, math.MinInt64 + 1, math.MaxInt64, 1<<32 + 2, -1<<32 + 2, 1<<32 + 48} {
		add("steps", func(a *listArgs) { a.steps = n })
		add("many", func(a *listArgs) { a.many = n })
	}
	for _, n := range []int64{0, -1, -2, -48, 49, 50, 255, 256, 257, 258, 1<<16 + 2} {
		add("many", func(a *listArgs) { a.many = n })
	}
	for _, bits := range []uint32{0x7fc00000, 0xffc00000, 0x7f800001, 0xffffffff} {
		add("bound", func(a *listArgs) { a.bound = math.Float32frombits(bits) })
	}
	for _, many := range []int{0, 1, 3, 5, 47, 48} {
		add("second.even", func(a *listArgs) { a.second = make([]float32, many) })
	}
	sixteen := make([]float32, 16)
	for i := range sixteen {
		sixteen[i] = float32(i)
	}
	for _, bounds := range [][]float32{
		{0, 0}, {1, 0}, {minus0, 0}, {0, minus0}, {0, 1, 1}, {0, 0, 1}, {0, 2, 1}, {-1, minus0, 0, 1}, {tiniest, -tiniest}, {maxSize, maxSize},
		make([]float32, 16), make([]float32, 17), make([]float32, 48), append(slices.Clone(sixteen), 16), append(slices.Clone(sixteen[:15]), 14),
	} {
		add("bounds.right", func(a *listArgs) { a.bounds = bounds })
	}
	return list
}

// otherFaultsOfLists are those that come behind ErrInvalid and ErrRange.
func otherFaultsOfLists() []faultOf[listArgs] {
	return []faultOf[listArgs]{
		{"list.some", impl.ErrNotFound, func(a *listArgs) { a.list = nil }},
		{"list.some", impl.ErrNotFound, func(a *listArgs) { a.list = []float32{} }},
		{"list.some", impl.ErrNotFound, func(a *listArgs) { a.list = slices.Clone(lostList())[:0] }},
		{"list.few", impl.ErrLimit, func(a *listArgs) { a.list = make([]float32, 7) }},
		{"list.few", impl.ErrLimit, func(a *listArgs) { a.list = make([]float32, 48) }},
		{"list.low", impl.ErrLimit, func(a *listArgs) { a.list = []float32{maxSize, maxSize} }},
		{"list.low", impl.ErrLimit, func(a *listArgs) { a.list = []float32{maxSize, 0.0625, 0.0625} }},
		{"list.low", impl.ErrLimit, func(a *listArgs) { a.list = []float32{-0.0625, -0.0625, -maxSize} }},
		{"list.low", impl.ErrLimit, func(a *listArgs) { a.list = slices.Repeat([]float32{-maxSize}, 6) }},
		{"number.low", impl.ErrLimit, func(a *listArgs) { a.number = maxSize }},
		{"number.low", impl.ErrLimit, func(a *listArgs) { a.number = below(below(maxSize)) }},
	}
}

// P1: each function returns for all arguments; an error comes in its order, and all else is a zero value then.
func TestP1ErrorsOfLists(t *testing.T) {
	faults := slices.Concat(invalidInLists(), outsideOfLists(), otherFaultsOfLists())
	wantErrors(t, goodListArgs, listCalls(), faults, impl.ErrInvalid, impl.ErrRange, impl.ErrLimit, impl.ErrNotFound)
}

// P1: a wrong argument that a function does not have, or one of which it does not ask this, changes nothing.
func TestP1OtherArgumentsOfLists(t *testing.T) {
	faults := slices.Concat(invalidInLists(), outsideOfLists(), otherFaultsOfLists())
	wantOthersUnminded(t, goodListArgs, listCalls(), faults)
}

// As many numbers, steps and bounds as there may be, and as few, are no error; nor are the greatest numbers.
func TestLimitsOfListsThatAreReached(t *testing.T) {
	wholes := make([]float32, 48)
	for i := range wholes {
		wholes[i] = float32(i)
	}
	for _, many := range []int{1, 2, 6, 7, 16, 47, 48} {
		args := goodListArgs()
		args.list, args.first, args.second = wholes[:many], wholes[:many], wholes[:many]
		args.bounds, args.many = wholes[:min(many, 16)], int64(many)
		for _, call := range listCalls() {
			want := int64(impl.OK)
			if call.name == "GreatestOrder" && many > 6 {
				want = impl.ErrLimit
			}
			if answer := callAnswerOf(call.run(args)); answer.code != want {
				t.Errorf("%s of %d numbers: %v", call.name, many, answer)
			}
		}
	}
	for _, number := range []float32{0, minus0, tiniest, -tiniest, maxSize, -maxSize} {
		for _, steps := range []int64{0, 1, -1, 1000000, -1000000} {
			args := goodListArgs()
			args.list, args.first, args.second, args.bounds = []float32{number}, []float32{number}, []float32{number}, []float32{number}
			args.number, args.near, args.bound, args.steps, args.many = number, number, number, steps, 48
			for _, call := range listCalls() {
				want := int64(impl.OK)
				if call.name == "StepFrom" && (number == maxSize && steps > 0 || number == -maxSize && steps < 0) {
					want = impl.ErrLimit
				}
				if answer := callAnswerOf(call.run(args)); answer.code != want {
					t.Errorf("%s for %v and %d: %v", call.name, number, steps, answer)
				}
			}
		}
	}
}
