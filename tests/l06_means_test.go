package tests

import (
	"fmt"
	"math"
	"slices"
	"testing"

	"loop.example/g01367/impl"
)

func TestMeansSpreadsAndSquares(t *testing.T) {
	orderMatters := false
	for _, list := range append(someLists(), highLists()...) {
		if len(list) == 0 {
			continue
		}
		mean, c1 := impl.MeanOf(list)
		spread, c2 := impl.SpreadOf(list)
		off, c3 := impl.SquareOff(list)
		wantOK(t, "means", c1, c2, c3)
		wantNumber(t, fmt.Sprint("mean of ", list), mean, modelMeanOf(list))
		wantNumber(t, fmt.Sprint("spread of ", list), spread, modelSpread(list))
		wantNumber(t, fmt.Sprint("squares of ", list), off, modelSquareOff(list))
		back := slices.Clone(list)
		slices.Reverse(back)
		orderMatters = orderMatters || modelMeanOf(back) != mean && modelSquareOff(back) != off
		if t.Failed() {
			return
		}
	}
	if !orderMatters {
		t.Error("no list tells the order of its sum")
	}
}

func TestEdgesOfMeansSpreadsAndSquares(t *testing.T) {
	// The mean of as many equal numbers is rounded away from them here, and back again.
	tenths := slices.Repeat([]float32{0.1}, 10)
	for _, c := range []struct {
		list              []float32
		mean, spread, off float32
	}{
		{[]float32{1, 2, 6}, 3, 5, 14.0 / 3}, {[]float32{1, 3}, 2, 2, 1}, {[]float32{6, 2, 1}, 3, 5, 14.0 / 3}, {[]float32{0.1}, 0.1, 0, 0}, {[]float32{-7}, -7, 0, 0},
		{[]float32{0}, 0, 0, 0}, {[]float32{minus0}, 0, 0, 0}, {[]float32{minus0, minus0}, 0, 0, 0}, {[]float32{0, minus0}, 0, 0, 0}, {[]float32{minus0, 0}, 0, 0, 0},
		{[]float32{minus0, 0, minus0, 0}, 0, 0, 0}, {[]float32{tiniest}, tiniest, 0, 0}, {[]float32{tiniest, 0}, 0, tiniest, 0}, {[]float32{-1, minus0}, -0.5, 1, 0.25},
		// A quotient that is too small for a number is 0, or -0 if it is less than 0.
		{[]float32{-tiniest, 0}, minus0, tiniest, 0}, {[]float32{3 * tiniest, 0}, 2 * tiniest, 3 * tiniest, 0}, {[]float32{-3 * tiniest, 0}, -2 * tiniest, 3 * tiniest, 0},
		{[]float32{maxSize, -maxSize}, 0, 2 * maxSize, 0x1p40}, {[]float32{maxSize, maxSize}, maxSize, 0, 0}, {slices.Repeat([]float32{maxSize}, 48), maxSize, 0, 0},
		{slices.Repeat([]float32{maxSize, -maxSize}, 24), 0, 2 * maxSize, 0x1p40}, {slices.Repeat([]float32{-maxSize}, 47), -maxSize, 0, 0},
		// What is lost beside 1 is lost in the mean as well.
		{[]float32{1, 0x1p-24, 0x1p-24, 0}, 0.25, 1, modelSquareOff([]float32{1, 0x1p-24, 0x1p-24, 0})},
		{[]float32{0x1p-24, 0x1p-24, 1, 0}, 0.25 * above(1), 1, modelSquareOff([]float32{0x1p-24, 0x1p-24, 1, 0})},
		{keptList(), 0, 2 * maxSize, 0x1p39}, {tenths, modelMeanOf(tenths), 0, modelSquareOff(tenths)},
	} {
		mean, c1 := impl.MeanOf(c.list)
		spread, c2 := impl.SpreadOf(c.list)
		off, c3 := impl.SquareOff(c.list)
		wantOK(t, "means", c1, c2, c3)
		wantNumber(t, fmt.Sprint("mean of ", c.list), mean, c.mean)
		wantNumber(t, fmt.Sprint("spread of ", c.list), spread, c.spread)
		wantNumber(t, fmt.Sprint("squares of ", c.list), off, c.off)
	}
	if modelMeanOf(tenths) == 0.1 || modelSquareOff(tenths) == 0 {
		t.Error("the mean of equal numbers is not told from them")
	}
}

// Neither a spread nor squares are ever less than 0, or -0.
func TestSpreadsAndSquaresAreNotLessThanNothing(t *testing.T) {
	for _, list := range someLists() {
		if len(list) == 0 {
			continue
		}
		for i := range list {
			spread, c1 := impl.SpreadOf(list[i:])
			off, c2 := impl.SquareOff(list[i:])
			wantOK(t, "spread", c1, c2)
			if spread < 0 || off < 0 || math.Signbit(float64(spread)) || math.Signbit(float64(off)) {
				t.Errorf("%v: %v and %v", list[i:], spread, off)
			}
		}
	}
}

func TestDotOf(t *testing.T) {
	orderMatters, roundingMatters := false, false
	lists := append(someLists(), highLists()[:200]...)
	for i, a := range lists {
		for n := range 20 {
			// Of the longer one of both lists, only a part is taken.
			b := lists[(i*31+n*49+1)%len(lists)]
			many := min(len(a), len(b))
			want := modelDot(a[:many], b[:many])
			dot, code := impl.DotOf(a[:many], b[:many])
			wantOK(t, "dot", code)
			if !identical(dot, want) {
				t.Fatalf("%v and %v: got %v, want %v", a[:many], b[:many], dot, want)
			}
			back, other := slices.Clone(a[:many]), slices.Clone(b[:many])
			slices.Reverse(back)
			slices.Reverse(other)
			orderMatters = orderMatters || modelDot(back, other) != want
			var fused float32
			for at := range many {
				fused = float32(math.FMA(float64(a[at]), float64(b[at]), float64(fused)))
			}
			roundingMatters = roundingMatters || fused != want
		}
	}
	if !orderMatters || !roundingMatters {
		t.Errorf("order matters: %v, rounding matters: %v", orderMatters, roundingMatters)
	}
}

func TestEdgesOfDotOf(t *testing.T) {
	full := slices.Repeat([]float32{maxSize}, 48)
	for _, c := range []struct {
		a, b []float32
		want float32
		code int64
	}{
		{nil, nil, 0, impl.OK}, {nil, []float32{}, 0, impl.OK}, {[]float32{}, nil, 0, impl.OK}, {[]float32{1, 2}, []float32{3, 4}, 11, impl.OK},
		{[]float32{minus0}, []float32{1}, 0, impl.OK}, {[]float32{0}, []float32{-1}, 0, impl.OK}, {[]float32{tiniest}, []float32{-0.5}, 0, impl.OK},
		{[]float32{tiniest}, []float32{tiniest}, 0, impl.OK}, {[]float32{tiniest}, []float32{1}, tiniest, impl.OK}, {[]float32{3 * tiniest}, []float32{0.5}, 2 * tiniest, impl.OK},
		{full, full, 48 * 0x1p40, impl.OK}, {[]float32{maxSize}, []float32{-maxSize}, -0x1p40, impl.OK},
		// A product that is rounded first is 1 + 2 to the power of -22 here, without what is left of it.
		{[]float32{-1, above(1)}, []float32{1 + 0x1p-22, above(1)}, 0, impl.OK}, {[]float32{above(1), -1}, []float32{above(1), 1 + 0x1p-22}, 0, impl.OK},
		// The sum begins with the first product.
		{[]float32{1, 0x1p-12, 0x1p-12}, []float32{1, 0x1p-12, 0x1p-12}, 1, impl.OK}, {[]float32{0x1p-12, 0x1p-12, 1}, []float32{0x1p-12, 0x1p-12, 1}, above(1), impl.OK},
		{nil, []float32{1}, 0, impl.ErrRange}, {[]float32{1}, nil, 0, impl.ErrRange}, {[]float32{1, 2}, []float32{1}, 0, impl.ErrRange}, {full, full[:47], 0, impl.ErrRange},
		{[]float32{1}, []float32{1, 0}, 0, impl.ErrRange}, {full[:47], full, 0, impl.ErrRange}, {nil, make([]float32, 49), 0, impl.ErrInvalid},
		{make([]float32, 49), nil, 0, impl.ErrInvalid}, {make([]float32, 49), make([]float32, 49), 0, impl.ErrInvalid},
		{nil, []float32{nan}, 0, impl.ErrInvalid}, {[]float32{infinite}, nil, 0, impl.ErrInvalid}, {[]float32{infinite}, []float32{0}, 0, impl.ErrInvalid},
	} {
		dot, code := impl.DotOf(c.a, c.b)
		wantNumber(t, fmt.Sprint(c.a, " and ", c.b), dot, c.want)
		if code != c.code {
			t.Errorf("%v and %v: code %d, want %d", c.a, c.b, code, c.code)
		}
	}
}

func TestMovingMeans(t *testing.T) {
	for _, list := range someLists() {
		for _, many := range []int{1, 2, 3, 7, len(list) / 2, len(list) - 1, len(list), len(list) + 1, 47, 48} {
			if many < 1 || many > 48 {
				continue
			}
			want := modelMoving(list, many)
			means, code := impl.MovingMeans(list, int64(many))
			wantOK(t, "means", code)
			if !slices.EqualFunc(means, want, identical) {
				t.Fatalf("%v by %d: got %v, want %v", list, many, means, want)
			}
		}
	}
}

func TestEdgesOfMovingMeans(t *testing.T) {
	for _, c := range []struct {
		list []float32
		many int64
		want []float32
	}{
		{[]float32{1, 3, 5}, 2, []float32{2, 4}}, {[]float32{1, 3, 5}, 1, []float32{1, 3, 5}}, {[]float32{1, 3, 5}, 3, []float32{3}}, {[]float32{1, 3, 5}, 4, nil},
		{[]float32{1, 3, 5}, 48, nil}, {nil, 1, nil}, {[]float32{}, 48, nil}, {[]float32{7}, 1, []float32{7}}, {[]float32{minus0, minus0}, 1, []float32{0, 0}},
		{[]float32{minus0, -tiniest, 0}, 2, []float32{minus0, minus0}}, {[]float32{2, 2, 2, 2}, 2, []float32{2, 2, 2}},
		// Each mean has a sum of its own, so that what is lost in one of them is not lost in the next one.
		{[]float32{maxSize, 0.03125, 0.03125, 1}, 2, []float32{maxSize / 2, 0.03125, 0.515625}},
		{[]float32{maxSize, 0.03125, -maxSize}, 3, []float32{0}}, {[]float32{maxSize, -maxSize, 0.03125}, 2, []float32{0, (0.03125 - maxSize) / 2}},
		{slices.Repeat([]float32{maxSize}, 48), 48, []float32{maxSize}}, {slices.Repeat([]float32{maxSize}, 48), 47, []float32{maxSize, maxSize}},
		{slices.Repeat([]float32{-1}, 47), 48, nil}, {slices.Repeat([]float32{-1}, 48), 1, slices.Repeat([]float32{-1}, 48)},
	} {
		means, code := impl.MovingMeans(c.list, c.many)
		wantOK(t, "means", code)
		if !slices.EqualFunc(means, c.want, identical) {
			t.Errorf("%v by %d: got %v, want %v", c.list, c.many, means, c.want)
		}
	}
}
