package tests

import (
	"fmt"
	"slices"
	"testing"

	"loop.example/g01367/impl"
)

// guardedNumbers is like guarded, but tells 0 from -0, and finds a NaN again.
func guardedNumbers(list []float32) ([]float32, func() bool) {
	whole := append(slices.Clone(list), 0.125, minus0, nan)
	before := slices.Clone(whole)
	return whole[:len(list)], func() bool { return slices.EqualFunc(whole, before, identical) }
}

// P1: no list is modified, also behind its end, be it valid or not.
func TestP1ListsAreNotModified(t *testing.T) {
	lists := slices.Concat(someLists(), highLists()[:100], badLists())
	for i, one := range lists {
		if len(one) > 1000 {
			continue
		}
		list, listKept := guardedNumbers(one)
		other, otherKept := guardedNumbers(lists[(i*7+3)%len(lists)])
		bounds, boundsKept := guardedNumbers(boundsFrom(one, i%18))
		args := goodListArgs()
		args.list, args.first, args.second, args.bounds, args.many = list, list, other[:min(len(list), len(other))], bounds, int64(i%50)
		for _, call := range listCalls() {
			call.run(args)
			if !listKept() || !otherKept() || !boundsKept() {
				t.Fatalf("%s of %v modifies a list", call.name, one)
			}
		}
		impl.ValidList(list)
		impl.SameList(list, other)
		impl.ListText(list)
		if !listKept() || !otherKept() {
			t.Fatalf("a list is modified: %v", one)
		}
	}
}

// P1: what is returned shares memory neither with an argument nor with what is returned by another call.
func TestP1ListsAreNotShared(t *testing.T) {
	// A list that is in order already has to be another one as well.
	list, kept := guardedNumbers([]float32{1, 2, 4, 8})
	bounds, boundsKept := guardedNumbers([]float32{2, 3})
	wantUnshared(t, "SortList", func() ([]float32, int64) { return impl.SortList(list) })
	wantUnshared(t, "RunningSums", func() ([]float32, int64) { return impl.RunningSums(list) })
	for _, many := range []int64{1, 2, 3} {
		wantUnshared(t, "MovingMeans", func() ([]float32, int64) { return impl.MovingMeans(list, many) })
	}
	wantUnshared(t, "CountBins", func() ([]int64, int64) { return impl.CountBins(list, bounds) })
	wantUnshared(t, "GreatestOrder", func() ([]int64, int64) {
		order, _, code := impl.GreatestOrder(list)
		return order, code
	})
	text := "3f800000 40000000 c0000000"
	wantUnshared(t, "ReadList", func() ([]float32, int64) { return impl.ReadList(text) })
	if !kept() || !boundsKept() {
		t.Errorf("what was returned is a part of %v or %v", list, bounds)
	}
	// Of an empty list there is nothing to share but what lies behind it.
	empty := list[:0]
	for name, find := range map[string]func() []float32{
		"SortList":    func() []float32 { sorted, _ := impl.SortList(empty); return sorted },
		"RunningSums": func() []float32 { sums, _ := impl.RunningSums(empty); return sums },
		"MovingMeans": func() []float32 { means, _ := impl.MovingMeans(empty, 1); return means },
	} {
		if _ = append(find(), 7); !kept() {
			t.Errorf("%s of an empty list gives a part of it", name)
		}
	}
}

// P1: equal arguments give equal results, nil and empty lists among them.
func TestP1EqualResultsOfLists(t *testing.T) {
	lists := append(someLists(), highLists()[:100]...)
	for i, list := range lists {
		args := goodListArgs()
		args.list, args.first, args.second, args.many = list, list, slices.Repeat([]float32{0.1}, len(list)), int64(1+i%48)
		args.bounds, args.number, args.steps = boundsFrom(list, i%17), someNumbers()[i%90], int64(i*1000)
		copied := args
		copied.list, copied.first = append([]float32{}, list...), append(make([]float32, 0, 100), list...)
		copied.second, copied.bounds = slices.Clone(args.second), append([]float32{}, args.bounds...)
		for _, call := range listCalls() {
			for range 3 {
				if first, second := callAnswerOf(call.run(args)), callAnswerOf(call.run(copied)); first != second {
					t.Errorf("%s: %v, then %v", call.name, first, second)
				}
			}
		}
		valid, again := impl.ValidList(list), impl.ValidList(copied.list)
		if text := fmt.Sprint(valid, again, impl.SameList(list, copied.list), impl.ListText(list) == impl.ListText(copied.list)); text != "true true true true" {
			t.Errorf("%v: %s", list, text)
		}
	}
}
