package tests

import (
	"fmt"
	"slices"
	"testing"

	"loop.example/g01367/impl"
)

func TestSortList(t *testing.T) {
	for _, list := range append(someLists(), highLists()[:200]...) {
		sorted, code := impl.SortList(list)
		wantOK(t, "sort", code)
		if !slices.EqualFunc(sorted, modelOrdered(list), identical) {
			t.Fatalf("%v: got %v, want %v", list, sorted, modelOrdered(list))
		}
	}
	for _, c := range []struct{ list, want []float32 }{
		{nil, nil}, {[]float32{3, -1, 2}, []float32{-1, 2, 3}}, {[]float32{0, minus0}, []float32{minus0, 0}}, {[]float32{minus0, 0}, []float32{minus0, 0}},
		{[]float32{0, minus0, 0, minus0, 0}, []float32{minus0, minus0, 0, 0, 0}}, {[]float32{tiniest, 0, minus0, -tiniest}, []float32{-tiniest, minus0, 0, tiniest}},
		{[]float32{maxSize, below(maxSize), -maxSize, above(-maxSize)}, []float32{-maxSize, above(-maxSize), below(maxSize), maxSize}},
		{[]float32{1, 1, 1}, []float32{1, 1, 1}}, {[]float32{-1, -2, -3}, []float32{-3, -2, -1}}, {[]float32{minus0}, []float32{minus0}},
		{slices.Repeat([]float32{0, minus0}, 24), append(slices.Repeat([]float32{minus0}, 24), make([]float32, 24)...)},
	} {
		sorted, code := impl.SortList(c.list)
		wantOK(t, "sort", code)
		if !slices.EqualFunc(sorted, c.want, identical) {
			t.Errorf("%v: got %v, want %v", c.list, sorted, c.want)
		}
	}
}

// A list that is sorted has the same numbers, as often as they were in it, and stays if it is sorted again.
func TestSortedListsHaveTheSameNumbers(t *testing.T) {
	for _, list := range someLists() {
		sorted, code := impl.SortList(list)
		wantOK(t, "sort", code)
		counts := map[string]int{}
		for _, x := range list {
			counts[impl.NumberText(x)]++
		}
		for i, x := range sorted {
			counts[impl.NumberText(x)]--
			if i > 0 && (sorted[i-1] > x || x == 0 && identical(sorted[i-1], 0) && !identical(x, 0)) {
				t.Errorf("%v: %v comes behind %v", sorted, x, sorted[i-1])
			}
		}
		for text, many := range counts {
			if many != 0 {
				t.Errorf("%v: %s is %d times more often in it", list, text, many)
			}
		}
		again, code := impl.SortList(sorted)
		wantOK(t, "again", code)
		if !impl.SameList(again, sorted) {
			t.Errorf("%v becomes %v", sorted, again)
		}
	}
}

func TestMedianOf(t *testing.T) {
	for _, list := range append(someLists(), highLists()[:200]...) {
		if len(list) == 0 {
			continue
		}
		median, code := impl.MedianOf(list)
		wantOK(t, "median", code)
		wantNumber(t, fmt.Sprint("median of ", list), median, modelMedian(modelOrdered(list)))
	}
	for _, c := range []struct {
		list []float32
		want float32
	}{
		{[]float32{3, 1, 2}, 2}, {[]float32{7}, 7}, {[]float32{minus0}, minus0}, {[]float32{0}, 0}, {[]float32{4, 1}, 2.5}, {[]float32{4, 1, 3, 2}, 2.5},
		// -0 is before 0, in whatever order both are told.
		{[]float32{0, minus0, 1}, 0}, {[]float32{minus0, 0, 1}, 0}, {[]float32{-1, 0, minus0}, minus0}, {[]float32{-1, minus0, 0}, minus0},
		{[]float32{0, minus0, minus0}, minus0}, {[]float32{minus0, 0, 0}, 0}, {[]float32{minus0, 0}, 0}, {[]float32{0, minus0}, 0}, {[]float32{minus0, minus0}, minus0},
		{[]float32{0, 0, minus0, minus0, 1, 1}, 0}, {[]float32{-tiniest, minus0}, minus0}, {[]float32{tiniest, 0}, 0}, {[]float32{3 * tiniest, 0}, 2 * tiniest},
		{[]float32{-1, 1}, 0}, {[]float32{1, -1}, 0}, {[]float32{maxSize, maxSize}, maxSize}, {[]float32{-maxSize, -maxSize}, -maxSize},
		{[]float32{maxSize, 0.03125}, maxSize / 2}, {[]float32{1, above(1)}, 1}, {[]float32{above(1), above(above(1))}, above(above(1))},
		{slices.Repeat([]float32{1, 2}, 24), 1.5}, {slices.Repeat([]float32{1, 2, 2}, 16), 2}, {slices.Repeat([]float32{3}, 47), 3},
	} {
		median, code := impl.MedianOf(c.list)
		wantOK(t, "median", code)
		wantNumber(t, fmt.Sprint("median of ", c.list), median, c.want)
	}
}

// boundsFrom takes numbers of a list, and others, so that the first ones of them are strictly increasing.
func boundsFrom(list []float32, many int) []float32 {
	var bounds []float32
	for _, x := range modelOrdered(append(slices.Clone(list), -1000.5, -1, 0.25, 1, 500)) {
		if len(bounds) < many && (len(bounds) == 0 || bounds[len(bounds)-1] < x) {
			bounds = append(bounds, x)
		}
	}
	return bounds
}

func TestCountBins(t *testing.T) {
	many := map[int]int{}
	for i, list := range append(someLists(), highLists()[:200]...) {
		for _, from := range [][]float32{list, nil, {minus0}, {0.5, -0.5, 0.1}} {
			bounds := boundsFrom(from, (i*7+len(from))%17)
			counts, code := impl.CountBins(list, bounds)
			wantOK(t, "bins", code)
			if !slices.Equal(counts, modelBins(list, bounds)) {
				t.Fatalf("%v by %v: got %v, want %v", list, bounds, counts, modelBins(list, bounds))
			}
			sum := int64(0)
			for _, count := range counts {
				sum += count
			}
			if sum != int64(len(list)) || len(counts) != len(bounds)+1 {
				t.Errorf("%v by %v: %v has %d of %d numbers", list, bounds, counts, sum, len(list))
			}
			many[len(bounds)]++
		}
	}
	if len(many) != 17 {
		t.Errorf("bounds: %v", many)
	}
}

func TestEdgesOfCountBins(t *testing.T) {
	wholes := []float32{0, 1, 2, 3, 4, 5, 6, 7, 8, 9, 10, 11, 12, 13, 14, 15, 16}
	three := []float32{3, 1, 2}
	for _, c := range []struct {
		list, bounds []float32
		want         []int64
		code         int64
	}{
		{three, []float32{1.5, 3}, []int64{1, 1, 1}, impl.OK}, {three, nil, []int64{3}, impl.OK}, {three, []float32{}, []int64{3}, impl.OK},
		{nil, nil, []int64{0}, impl.OK}, {nil, []float32{0}, []int64{0, 0}, impl.OK}, {nil, wholes[:16], make([]int64, 17), impl.OK},
		{three, []float32{1}, []int64{0, 3}, impl.OK}, {three, []float32{2}, []int64{1, 2}, impl.OK}, {three, []float32{3}, []int64{2, 1}, impl.OK},
		{three, []float32{above(3)}, []int64{3, 0}, impl.OK}, {three, []float32{1, 2, 3}, []int64{0, 1, 1, 1}, impl.OK}, {three, []float32{below(2), above(2)}, []int64{1, 1, 1}, impl.OK},
		{three, []float32{-maxSize, maxSize}, []int64{0, 3, 0}, impl.OK}, {[]float32{-maxSize, maxSize}, []float32{-maxSize, maxSize}, []int64{0, 1, 1}, impl.OK},
		{[]float32{2, 2, 2, 1}, []float32{2}, []int64{1, 3}, impl.OK}, {slices.Repeat([]float32{1}, 48), []float32{1}, []int64{0, 48}, impl.OK},
		// 0 and -0 are equal here, so that they are no bounds beside each other, but one of them is that of both.
		{[]float32{0, minus0}, []float32{0}, []int64{0, 2}, impl.OK}, {[]float32{0, minus0}, []float32{minus0}, []int64{0, 2}, impl.OK},
		{[]float32{minus0}, []float32{-tiniest, tiniest}, []int64{0, 1, 0}, impl.OK}, {[]float32{0, minus0, -tiniest}, []float32{-tiniest, 0, tiniest}, []int64{0, 1, 2, 0}, impl.OK},
		{three, []float32{minus0, 0}, nil, impl.ErrRange}, {three, []float32{0, minus0}, nil, impl.ErrRange}, {nil, []float32{-1, minus0, 0, 1}, nil, impl.ErrRange},
		{three, []float32{1, 1}, nil, impl.ErrRange}, {three, []float32{2, 1}, nil, impl.ErrRange}, {three, []float32{1, 2, 2}, nil, impl.ErrRange},
		{three, []float32{1, 3, 2}, nil, impl.ErrRange}, {three, []float32{1, 1, 2}, nil, impl.ErrRange}, {nil, []float32{1, 0}, nil, impl.ErrRange},
		{wholes, wholes[:16], []int64{0, 1, 1, 1, 1, 1, 1, 1, 1, 1, 1, 1, 1, 1, 1, 1, 2}, impl.OK},
		{wholes, wholes, nil, impl.ErrRange}, {nil, wholes, nil, impl.ErrRange}, {nil, make([]float32, 48), nil, impl.ErrRange},
		{nil, make([]float32, 49), nil, impl.ErrInvalid}, {make([]float32, 49), []float32{1, 0}, nil, impl.ErrInvalid}, {[]float32{nan}, wholes, nil, impl.ErrInvalid},
		{three, []float32{1, nan}, nil, impl.ErrInvalid}, {three, []float32{-infinite, 1}, nil, impl.ErrInvalid}, {three, []float32{2, 1, above(maxSize)}, nil, impl.ErrInvalid},
		{three, append(slices.Clone(wholes), infinite), nil, impl.ErrInvalid}, {three, []float32{nan}, nil, impl.ErrInvalid},
	} {
		counts, code := impl.CountBins(c.list, c.bounds)
		if !slices.Equal(counts, c.want) || code != c.code {
			t.Errorf("%v by %v: %v with %d, want %v with %d", c.list, c.bounds, counts, code, c.want, c.code)
		}
	}
}

func TestPackAbove(t *testing.T) {
	for _, list := range append(someLists(), highLists()[:200]...) {
		bounds := []float32{0, minus0, infinite, -infinite, 1, -1, 0.1, 500, -maxSize, maxSize, above(maxSize), below(-maxSize), 1e30, -1e30}
		for i := 0; i < len(list); i += 5 {
			bounds = append(bounds, list[i], below(list[i]), above(list[i]))
		}
		for _, bound := range bounds {
			packed, code := impl.PackAbove(list, bound)
			if packed != modelAbove(list, bound) || code != impl.OK {
				t.Errorf("%v above %v: %b with %d, want %b", list, bound, packed, code, modelAbove(list, bound))
			}
		}
	}
}

func TestEdgesOfPackAbove(t *testing.T) {
	full := slices.Repeat([]float32{1}, 48)
	last := append(make([]float32, 47), 1)
	for _, c := range []struct {
		list  []float32
		bound float32
		want  uint64
		code  int64
	}{
		{[]float32{3, -1, 2}, 1, 5, impl.OK}, {[]float32{3, -1, 2}, 3, 0, impl.OK}, {[]float32{3, -1, 2}, below(3), 1, impl.OK}, {[]float32{3, -1, 2}, -1, 5, impl.OK},
		{[]float32{3, -1, 2}, -infinite, 7, impl.OK}, {[]float32{3, -1, 2}, infinite, 0, impl.OK}, {nil, 0, 0, impl.OK}, {nil, -infinite, 0, impl.OK},
		{[]float32{0, minus0, tiniest, -tiniest}, 0, 4, impl.OK}, {[]float32{0, minus0, tiniest, -tiniest}, minus0, 4, impl.OK},
		{[]float32{0, minus0, tiniest, -tiniest}, -tiniest, 7, impl.OK}, {[]float32{-maxSize, maxSize}, below(-maxSize), 3, impl.OK},
		{full, 0, 1<<48 - 1, impl.OK}, {full, 1, 0, impl.OK}, {last, 0, 1 << 47, impl.OK}, {last, minus0, 1 << 47, impl.OK}, {last, -infinite, 1<<48 - 1, impl.OK},
		{full[:33], 0, 1<<33 - 1, impl.OK}, {full, nan, 0, impl.ErrRange}, {nil, nan, 0, impl.ErrRange}, {[]float32{nan}, nan, 0, impl.ErrInvalid},
		{[]float32{nan}, 0, 0, impl.ErrInvalid}, {make([]float32, 49), nan, 0, impl.ErrInvalid}, {make([]float32, 49), -1, 0, impl.ErrInvalid},
	} {
		packed, code := impl.PackAbove(c.list, c.bound)
		if packed != c.want || code != c.code {
			t.Errorf("%v above %v: %b with %d, want %b with %d", c.list, c.bound, packed, code, c.want, c.code)
		}
	}
}
