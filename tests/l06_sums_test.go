package tests

import (
	"fmt"
	"math"
	"slices"
	"testing"

	"loop.example/g01367/impl"
)

func TestExampleOfSums(t *testing.T) {
	for i, want := range []float32{1.0009766, 1, 1} {
		sum, code := listSums()[i].of(lostList())
		wantOK(t, "sum", code)
		wantNumber(t, listSums()[i].name, sum, want)
	}
	for i, want := range []float32{0, 0, 0, 0.0625, 0.0625, 0.0625} {
		sum, code := listSums()[i].of(keptList())
		wantOK(t, "sum", code)
		wantNumber(t, listSums()[i].name, sum, want)
	}
	apart, c1 := impl.OrdersApart(keptList())
	near, c2 := impl.StepsApart(1, 1.0000001)
	median, c3 := impl.MedianOf([]float32{3, 1, 2})
	bins, c4 := impl.CountBins([]float32{3, 1, 2}, []float32{1.5, 3})
	wantOK(t, "example", c1, c2, c3, c4)
	if apart != 1031798784 || near != 1 || median != 2 || !slices.Equal(bins, []int64{1, 1, 1}) {
		t.Errorf("%d and %d steps, median %v, bins %v", apart, near, median, bins)
	}
}

func TestLimitsOfLists(t *testing.T) {
	limits := []int64{impl.MaxList, impl.MaxSteps, impl.MaxBins, impl.MaxOrders}
	if !slices.Equal(limits, []int64{48, 1000000, 16, 6}) {
		t.Errorf("limits %v", limits)
	}
}

func TestValidLists(t *testing.T) {
	for _, list := range append(someLists(), highLists()...) {
		if !impl.ValidList(list) {
			t.Errorf("%v is told to be bad", list)
		}
	}
	for _, list := range badLists() {
		if impl.ValidList(list) {
			t.Errorf("%d numbers that begin with %v are told to be valid", len(list), list[:1])
		}
	}
	for place := range 48 {
		for _, number := range badNumbers() {
			list := make([]float32, 48)
			list[place] = number
			if impl.ValidList(list) {
				t.Errorf("%v at %d is told to be valid", number, place)
			}
		}
	}
}

func TestSameLists(t *testing.T) {
	lists := slices.Concat(edgeLists(), badLists())
	for i, list := range lists {
		if !impl.SameList(list, slices.Clone(list)) {
			t.Errorf("list %d is not the same as its copy", i)
		}
		if impl.SameList(list, append(slices.Clone(list), 0)) || impl.SameList(append(slices.Clone(list), nan), list) {
			t.Errorf("list %d is the same with one number more", i)
		}
		for place := range min(len(list), 50) {
			other := slices.Clone(list)
			other[place] = -other[place]
			if other[place] != other[place] {
				other[place] = infinite
			}
			if impl.SameList(list, other) || impl.SameList(other, list) {
				t.Errorf("list %d is the same with %v at %d", i, other[place], place)
			}
		}
	}
	otherNaN := math.Float32frombits(0xff800001)
	for _, c := range []struct {
		a, b []float32
		want bool
	}{
		{nil, nil, true}, {nil, []float32{}, true}, {[]float32{}, nil, true}, {nil, []float32{0}, false}, {[]float32{0}, nil, false},
		{[]float32{0}, []float32{minus0}, false}, {[]float32{minus0}, []float32{minus0}, true}, {[]float32{nan}, []float32{otherNaN}, true},
		{[]float32{1, nan, minus0}, []float32{1, otherNaN, minus0}, true}, {[]float32{nan}, []float32{0}, false}, {[]float32{1, 2}, []float32{2, 1}, false},
		{[]float32{1}, []float32{above(1)}, false}, {[]float32{infinite}, []float32{infinite}, true}, {[]float32{infinite}, []float32{-infinite}, false},
		{make([]float32, 1000000), make([]float32, 1000000), true}, {make([]float32, 1000000), make([]float32, 999999), false},
	} {
		if got := impl.SameList(c.a, c.b); got != c.want {
			t.Errorf("lists of %d and %d numbers: %v", len(c.a), len(c.b), got)
		}
	}
}

func TestSums(t *testing.T) {
	sums := listSums()
	apart := map[[2]string]int{}
	lengths := map[int]int{}
	for _, list := range append(someLists(), highLists()...) {
		lengths[len(list)]++
		for i, one := range sums {
			sum, code := one.of(list)
			wantOK(t, one.name, code)
			if !identical(sum, one.model(list)) {
				t.Fatalf("%s of %v: got %v, want %v", one.name, list, sum, one.model(list))
			}
			for _, two := range sums[:i] {
				if one.model(list) != two.model(list) {
					apart[[2]string{one.name, two.name}]++
				}
			}
		}
	}
	// Each two sums are told from each other, and each number of numbers is tried.
	if len(apart) != 15 || len(lengths) != 49 {
		t.Errorf("sums that differ: %v, numbers of numbers: %v", apart, lengths)
	}
}

func TestEdgesOfSums(t *testing.T) {
	for _, c := range []struct {
		list                                  []float32
		left, right, pairs, kept, wide, small float32
	}{
		{nil, 0, 0, 0, 0, 0, 0},
		{[]float32{}, 0, 0, 0, 0, 0, 0},
		{[]float32{0.1}, 0.1, 0.1, 0.1, 0.1, 0.1, 0.1},
		{[]float32{-maxSize}, -maxSize, -maxSize, -maxSize, -maxSize, -maxSize, -maxSize},
		{[]float32{tiniest}, tiniest, tiniest, tiniest, tiniest, tiniest, tiniest},
		{[]float32{-tiniest, -tiniest}, -2 * tiniest, -2 * tiniest, -2 * tiniest, -2 * tiniest, -2 * tiniest, -2 * tiniest},
		// All begin with 0, so that it is not -0, but those of pairs, which begin with a number.
		{[]float32{minus0}, 0, 0, minus0, 0, 0, 0},
		{[]float32{minus0, minus0}, 0, 0, minus0, 0, 0, 0},
		{slices.Repeat([]float32{minus0}, 48), 0, 0, minus0, 0, 0, 0},
		{[]float32{minus0, 0}, 0, 0, 0, 0, 0, 0},
		{[]float32{0, minus0, minus0}, 0, 0, 0, 0, 0, 0},
		{[]float32{1, -1}, 0, 0, 0, 0, 0, 0},
		{[]float32{-1, 1}, 0, 0, 0, 0, 0, 0},
		// A sum may be more than is plain.
		{slices.Repeat([]float32{maxSize}, 48), 48 * maxSize, 48 * maxSize, 48 * maxSize, 48 * maxSize, 48 * maxSize, 48 * maxSize},
		{[]float32{-maxSize, -0.0625, -0.0625}, -maxSize, -1048576.125, -1048576.125, -1048576.125, -1048576.125, -1048576.125},
		// The half of an odd number of numbers is rounded down: only then both small ones are added first.
		{[]float32{1, 0x1p-24, 0x1p-24}, 1, above(1), above(1), above(1), above(1), above(1)},
		{[]float32{0x1p-24, 0x1p-24, 1}, above(1), 1, 1, above(1), above(1), above(1)},
		{[]float32{1, 0x1p-24, -1, 0x1p-24}, 0x1p-24, 0x1p-23, 0x1p-24, 0x1p-23, 0x1p-23, 0x1p-23},
		// Below 1 a half of the step is lost as well, but not in a wide sum.
		{[]float32{1, 0x1p-25, -1}, 0, 0, 0, 0, 0x1p-25, 0},
		// Of the same size, the lesser number comes first in SumSmall, so that one number is kept, and another one lost.
		{[]float32{1, 0x1p-24, -1}, 0, 0x1p-24, 0x1p-24, 0x1p-24, 0x1p-24, 0x1p-24},
		{[]float32{-0x1p-24, 1, -1}, -0x1p-24, -0x1p-24, -0x1p-24, -0x1p-24, -0x1p-24, 0},
	} {
		for i, want := range []float32{c.left, c.right, c.pairs, c.kept, c.wide, c.small} {
			one := listSums()[i]
			sum, code := one.of(c.list)
			wantOK(t, one.name, code)
			wantNumber(t, fmt.Sprint(one.name, " of ", c.list), sum, want)
		}
	}
}

// The numbers of SumSmall may be told in any order.
func TestSumSmallOfAnyOrder(t *testing.T) {
	for _, list := range fewLists() {
		if len(list) > 5 {
			continue
		}
		want := modelSmall(list)
		eachOrder(list, func(order []float32) {
			sum, code := impl.SumSmall(order)
			wantOK(t, "small", code)
			if !identical(sum, want) {
				t.Fatalf("SumSmall of %v: got %v, want %v", order, sum, want)
			}
		})
	}
}

// P13: of wholes of at most 1000 all sums are the same, in each order.
func TestP13SumsOfWholes(t *testing.T) {
	lists := [][]float32{
		nil, {0}, {1000}, {-1000}, {0, 0}, {1000, -1000}, {-1000, 1000}, {1, -1, 0}, slices.Repeat([]float32{1000}, 48), slices.Repeat([]float32{-1000}, 48),
		slices.Repeat([]float32{1000, -1000}, 24), slices.Repeat([]float32{999, -1000, 7}, 16), slices.Repeat([]float32{1, 1000, -1}, 15),
	}
	for _, list := range someLists() {
		var wholes []float32
		for _, x := range list {
			// A whole that is not -0.
			wholes = append(wholes, float32(int64(math.Mod(float64(x)*7, 1000))))
		}
		lists = append(lists, wholes)
	}
	negative := 0
	for _, list := range lists {
		whole := int64(0)
		for _, x := range list {
			whole += int64(x)
		}
		if whole < 0 {
			negative++
		}
		for _, one := range listSums() {
			sum, code := one.of(list)
			wantOK(t, one.name, code)
			wantNumber(t, fmt.Sprint(one.name, " of ", list), sum, float32(whole))
		}
		apart, code := impl.OrdersApart(list)
		wantOK(t, "apart", code)
		if apart != 0 {
			t.Errorf("%v: sums are %d apart", list, apart)
		}
		if len(list) > 6 {
			continue
		}
		order, most, code := impl.GreatestOrder(list)
		wantOK(t, "order", code)
		wantNumber(t, "greatest sum of wholes", most, float32(whole))
		if !slices.Equal(order, indicesOf(list)) {
			t.Errorf("%v: order %v, but all have the same sum", list, order)
		}
	}
	if negative < 50 {
		t.Errorf("only %d sums of %d are less than 0", negative, len(lists))
	}
}

func TestRunningSums(t *testing.T) {
	for _, list := range append(someLists(), highLists()...) {
		running, code := impl.RunningSums(list)
		wantOK(t, "running", code)
		if len(running) != len(list) {
			t.Fatalf("%d sums of %d numbers", len(running), len(list))
		}
		for i, sum := range running {
			if !identical(sum, modelSum(list[:i+1])) {
				t.Fatalf("%v: the sum %d is %v, want %v", list, i, sum, modelSum(list[:i+1]))
			}
		}
	}
	for _, c := range []struct{ list, want []float32 }{
		{nil, nil}, {[]float32{1, 2, 3}, []float32{1, 3, 6}}, {[]float32{minus0, minus0}, []float32{0, 0}},
		{lostList(), []float32{1, 1048577, 1, 1.0009766}}, {keptList(), []float32{maxSize, maxSize, maxSize, 0}},
		{[]float32{maxSize, maxSize}, []float32{maxSize, 2 * maxSize}}, {[]float32{-1, 1, -1}, []float32{-1, 0, -1}},
	} {
		running, code := impl.RunningSums(c.list)
		wantOK(t, "running", code)
		if !slices.EqualFunc(running, c.want, identical) {
			t.Errorf("%v: got %v, want %v", c.list, running, c.want)
		}
	}
}
