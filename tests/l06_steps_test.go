package tests

import (
	"fmt"
	"math"
	"slices"
	"testing"

	"loop.example/g01367/impl"
)

func TestStepsApart(t *testing.T) {
	for _, a := range someNumbers() {
		for _, b := range someNumbers() {
			apart, code := impl.StepsApart(a, b)
			if apart != modelApart(a, b) || code != impl.OK {
				t.Errorf("%v and %v: %d steps with %d, want %d", a, b, apart, code, modelApart(a, b))
			}
		}
	}
	for _, c := range []struct {
		a, b float32
		want int64
	}{
		{0, 0, 0}, {minus0, 0, 0}, {0, minus0, 0}, {minus0, minus0, 0}, {1, 1, 0}, {-maxSize, -maxSize, 0}, {0, tiniest, 1}, {minus0, tiniest, 1},
		{-tiniest, 0, 1}, {-tiniest, minus0, 1}, {-tiniest, tiniest, 2}, {1, 1.0000001, 1}, {below(1), above(1), 2}, {-1, below(-1), 1},
		{0, 0.0625, 1031798784}, {minus0, -0.0625, 1031798784}, {1, 2, 1 << 23}, {1, -1, 2 * 1065353216}, {below(0x1p-126), 0x1p-126, 1},
		{0, 0x1p-126, 1 << 23}, {0, maxSize, 1233125376}, {-maxSize, maxSize, 2466250752}, {below(maxSize), maxSize, 1}, {above(-maxSize), -maxSize, 1},
	} {
		one, c1 := impl.StepsApart(c.a, c.b)
		two, c2 := impl.StepsApart(c.b, c.a)
		wantOK(t, "apart", c1, c2)
		if one != c.want || two != c.want {
			t.Errorf("%v and %v: %d and %d steps, want %d", c.a, c.b, one, two, c.want)
		}
	}
}

// someSteps are few, many, and as many as there may be, in either direction.
func someSteps() []int64 {
	return []int64{0, 1, -1, 2, -2, 3, -3, 8, -8, 1000, -1000, 65536, -65536, 999999, -999999, 1000000, -1000000}
}

func TestStepFrom(t *testing.T) {
	codes := map[int64]int{}
	for _, a := range someNumbers() {
		for _, steps := range someSteps() {
			number, code := impl.StepFrom(a, steps)
			codes[code]++
			want := modelSteps(a) + steps
			if math.Abs(float64(want)) > float64(modelSteps(maxSize)) {
				if code != impl.ErrLimit || !identical(number, 0) {
					t.Errorf("%d steps from %v: %v with %d", steps, a, number, code)
				}
				continue
			}
			if code != impl.OK || modelSteps(number) != want || identical(number, minus0) || steps == 0 && number != a {
				t.Errorf("%d steps from %v: %v with %d, which is step %d, want %d", steps, a, number, code, modelSteps(number), want)
			}
		}
	}
	if codes[impl.OK] == 0 || codes[impl.ErrLimit] == 0 || len(codes) != 2 {
		t.Errorf("codes %v", codes)
	}
}

func TestEdgesOfStepFrom(t *testing.T) {
	million := 1000000 * tiniest
	for _, c := range []struct {
		a     float32
		steps int64
		want  float32
		code  int64
	}{
		{0, 0, 0, impl.OK}, {minus0, 0, 0, impl.OK}, {1, 0, 1, impl.OK}, {-1, 0, -1, impl.OK}, {tiniest, 0, tiniest, impl.OK}, {-tiniest, 0, -tiniest, impl.OK},
		{0, 1, tiniest, impl.OK}, {minus0, 1, tiniest, impl.OK}, {0, -1, -tiniest, impl.OK}, {minus0, -1, -tiniest, impl.OK},
		{-tiniest, 1, 0, impl.OK}, {tiniest, -1, 0, impl.OK}, {-tiniest, 2, tiniest, impl.OK}, {tiniest, -2, -tiniest, impl.OK},
		{-3 * tiniest, 3, 0, impl.OK}, {-3 * tiniest, 5, 2 * tiniest, impl.OK}, {3 * tiniest, -3, 0, impl.OK}, {3 * tiniest, -5, -2 * tiniest, impl.OK},
		{0, 1000000, million, impl.OK}, {minus0, -1000000, -million, impl.OK}, {-million, 1000000, 0, impl.OK}, {million, -1000000, 0, impl.OK},
		{-million, 999999, -tiniest, impl.OK}, {below(0x1p-126), 1, 0x1p-126, impl.OK}, {0x1p-126, -1, below(0x1p-126), impl.OK},
		{1, 1, 1.0000001, impl.OK}, {1, -1, below(1), impl.OK}, {-1, 1, above(-1), impl.OK}, {-1, -1, below(-1), impl.OK},
		{1, 1000000, 1 + 1000000*0x1p-23, impl.OK}, {1, -1000000, 1 - 1000000*0x1p-24, impl.OK},
		{maxSize, 0, maxSize, impl.OK}, {-maxSize, 0, -maxSize, impl.OK}, {below(maxSize), 1, maxSize, impl.OK}, {above(-maxSize), -1, -maxSize, impl.OK},
		{maxSize, -1, below(maxSize), impl.OK}, {-maxSize, 1, above(-maxSize), impl.OK}, {maxSize, 1, 0, impl.ErrLimit}, {-maxSize, -1, 0, impl.ErrLimit},
		{below(maxSize), 2, 0, impl.ErrLimit}, {above(-maxSize), -2, 0, impl.ErrLimit}, {maxSize, 1000000, 0, impl.ErrLimit}, {-maxSize, -1000000, 0, impl.ErrLimit},
		// 16 steps below it are 1 below it, so that a million of them are 62500.
		{maxSize - 62500, 1000000, maxSize, impl.OK}, {maxSize, -1000000, maxSize - 62500, impl.OK}, {above(maxSize - 62500), 1000000, 0, impl.ErrLimit},
		{62500 - maxSize, -1000000, -maxSize, impl.OK}, {-maxSize, 1000000, 62500 - maxSize, impl.OK}, {below(62500 - maxSize), -1000000, 0, impl.ErrLimit},
		// Too many steps are told before where they would lead.
		{0, 1000001, 0, impl.ErrRange}, {0, -1000001, 0, impl.ErrRange}, {minus0, 1000001, 0, impl.ErrRange}, {maxSize, 1000001, 0, impl.ErrRange},
		{-maxSize, -1000001, 0, impl.ErrRange}, {maxSize, -1000001, 0, impl.ErrRange}, {1, math.MaxInt64, 0, impl.ErrRange}, {1, math.MinInt64, 0, impl.ErrRange},
		{-1, math.MinInt64, 0, impl.ErrRange}, {-1, math.MinInt64 + 1, 0, impl.ErrRange}, {maxSize, math.MaxInt64, 0, impl.ErrRange},
		{1, 1 << 32, 0, impl.ErrRange}, {1, -1 << 32, 0, impl.ErrRange}, {1, 1<<32 + 1, 0, impl.ErrRange}, {1, -1<<32 - 1, 0, impl.ErrRange}, {1, 1 << 63 >> 8, 0, impl.ErrRange},
	} {
		number, code := impl.StepFrom(c.a, c.steps)
		wantNumber(t, fmt.Sprint(c.steps, " steps from ", c.a), number, c.want)
		if code != c.code {
			t.Errorf("%d steps from %v: code %d, want %d", c.steps, c.a, code, c.code)
		}
	}
}

// ErrInvalid of a number comes before ErrRange of steps.
func TestP1ErrorsOfSteps(t *testing.T) {
	for _, bad := range badNumbers() {
		for _, steps := range append(someSteps(), 1000001, -1000001, math.MinInt64, math.MaxInt64) {
			if number, code := impl.StepFrom(bad, steps); code != impl.ErrInvalid || !identical(number, 0) {
				t.Errorf("%d steps from %v: %v with %d", steps, bad, number, code)
			}
		}
		for _, other := range append(someNumbers(), badNumbers()...) {
			one, c1 := impl.StepsApart(bad, other)
			two, c2 := impl.StepsApart(other, bad)
			if c1 != impl.ErrInvalid || c2 != impl.ErrInvalid || one != 0 || two != 0 {
				t.Errorf("%v and %v: %d and %d with %d and %d", bad, other, one, two, c1, c2)
			}
		}
	}
}

// P14: a number that is steps from another one is as many apart, lies on the right side of it, and leads back.
func TestP14StepsAreAsManyApart(t *testing.T) {
	crossed := 0
	for _, a := range someNumbers() {
		for _, steps := range someSteps() {
			number, code := impl.StepFrom(a, steps)
			if code == impl.ErrLimit {
				continue
			}
			one, c1 := impl.StepsApart(a, number)
			two, c2 := impl.StepsApart(number, a)
			back, c3 := impl.StepFrom(number, -steps)
			wantOK(t, "steps", code, c1, c2, c3)
			if one != max(steps, -steps) || two != one {
				t.Errorf("%v is %d steps from %v, but %d and %d apart", number, steps, a, one, two)
			}
			if (number > a) != (steps > 0) || (number < a) != (steps < 0) || !impl.IsPlain(number) {
				t.Errorf("%v is %d steps from %v", number, steps, a)
			}
			// 0 is added so that -0 becomes 0.
			wantNumber(t, "back", back, a+0)
			if (a < 0) != (number < 0) || a != 0 && number == 0 {
				crossed++
			}
		}
	}
	if crossed < 10 {
		t.Errorf("only %d steps come to 0 or across it", crossed)
	}
}

// P14: the numbers one step away are the neighbours, and nothing lies between them.
func TestP14OneStepIsANeighbour(t *testing.T) {
	for _, a := range someNumbers() {
		if a < maxSize {
			number, code := impl.StepFrom(a, 1)
			wantOK(t, "up", code)
			wantNumber(t, fmt.Sprint("above ", a), number, above(a)+0)
		}
		if a > -maxSize {
			number, code := impl.StepFrom(a, -1)
			wantOK(t, "down", code)
			wantNumber(t, fmt.Sprint("below ", a), number, below(a)+0)
		}
	}
	// From well below 0 to well above it, step by step.
	number := -500 * tiniest
	for steps := range int64(1001) {
		found, code := impl.StepFrom(-500*tiniest, steps)
		apart, c1 := impl.StepsApart(-500*tiniest, found)
		wantOK(t, "walk", code, c1)
		wantNumber(t, fmt.Sprint("walked ", steps), found, number)
		if apart != steps {
			t.Errorf("%d steps are %d apart", steps, apart)
		}
		number = above(number) + 0
	}
}

// P14: steps from one number to another, and on to a third, are as many as from the first to the third.
func TestP14StepsAddUp(t *testing.T) {
	numbers := modelOrdered(someNumbers())
	for i, a := range numbers {
		for n, b := range numbers[i:] {
			c := numbers[i+n+(len(numbers)-i-n)/2]
			whole, c1 := impl.StepsApart(a, c)
			first, c2 := impl.StepsApart(a, b)
			second, c3 := impl.StepsApart(b, c)
			wantOK(t, "apart", c1, c2, c3)
			if whole != first+second {
				t.Errorf("%v, %v and %v: %d steps, but %d and %d", a, b, c, whole, first, second)
			}
			if first > 1000000 {
				continue
			}
			if there, code := impl.StepFrom(a, first); there != b || code != impl.OK {
				t.Errorf("%v is %d steps from %v, but these lead to %v with %d", b, first, a, there, code)
			}
		}
	}
}

func TestOrdersApart(t *testing.T) {
	codes := map[int64]int{}
	alone := map[string]int{}
	for _, list := range append(someLists(), highLists()...) {
		want, isPlain := modelOrdersApart(list)
		apart, code := impl.OrdersApart(list)
		codes[code]++
		if isPlain && (apart != want || code != impl.OK) || !isPlain && (apart != 0 || code != impl.ErrLimit) {
			t.Fatalf("%v: %d with %d, want %d, and all sums are plain: %v", list, apart, code, want, isPlain)
		}
		var beyond []string
		for _, one := range listSums() {
			if !impl.IsPlain(one.model(list)) {
				beyond = append(beyond, one.name)
			}
		}
		if len(beyond) == 1 {
			alone[beyond[0]]++
		}
	}
	// Each sum alone is enough for ErrLimit.
	if len(alone) != 6 || codes[impl.OK] < 100 || codes[impl.ErrLimit] < 100 || len(codes) != 2 {
		t.Errorf("codes %v, and these alone were not plain: %v", codes, alone)
	}
}

func TestEdgesOfOrdersApart(t *testing.T) {
	for _, c := range []struct {
		list []float32
		want int64
		code int64
	}{
		{nil, 0, impl.OK}, {[]float32{}, 0, impl.OK}, {[]float32{1}, 0, impl.OK}, {[]float32{minus0}, 0, impl.OK}, {[]float32{minus0, minus0}, 0, impl.OK},
		{[]float32{maxSize}, 0, impl.OK}, {[]float32{-maxSize}, 0, impl.OK}, {[]float32{maxSize, maxSize}, 0, impl.ErrLimit}, {[]float32{maxSize, maxSize, -maxSize}, 0, impl.OK},
		{[]float32{maxSize, 0.0625}, 0, impl.OK}, {[]float32{maxSize, 0.0625, 0.0625}, 0, impl.ErrLimit}, {[]float32{-maxSize, -0.0625, -0.0625}, 0, impl.ErrLimit},
		{slices.Repeat([]float32{maxSize}, 48), 0, impl.ErrLimit}, {slices.Repeat([]float32{-maxSize}, 48), 0, impl.ErrLimit},
		{keptList(), 1031798784, impl.OK}, {[]float32{-0x1p-24, 1, -1}, modelSteps(0x1p-24), impl.OK}, {[]float32{1, 0x1p-24, 0x1p-24}, 1, impl.OK},
		// Sums of both signs, and steps from 1 on.
		{lostList(), modelSteps(1.0009766) - modelSteps(1), impl.OK},
	} {
		apart, code := impl.OrdersApart(c.list)
		if apart != c.want || code != c.code {
			t.Errorf("%v: %d with %d, want %d with %d", c.list, apart, code, c.want, c.code)
		}
	}
}

func TestGreatestOrder(t *testing.T) {
	orders := map[string]int{}
	for _, list := range fewLists() {
		want, greatest := modelGreatest(list)
		order, most, code := impl.GreatestOrder(list)
		if !slices.Equal(order, want) || !identical(most, greatest) || code != impl.OK {
			t.Fatalf("%v: %v with %v and %d, want %v with %v", list, order, most, code, want, greatest)
		}
		orders[fmt.Sprint(order)]++
	}
	if len(orders) < 40 {
		t.Errorf("orders %v", orders)
	}
}

func TestEdgesOfGreatestOrder(t *testing.T) {
	for _, c := range []struct {
		list  []float32
		order []int64
		most  float32
	}{
		{nil, nil, 0}, {[]float32{}, nil, 0}, {[]float32{-1}, []int64{0}, -1}, {[]float32{minus0}, []int64{0}, 0}, {[]float32{minus0, minus0}, []int64{0, 1}, 0},
		{[]float32{2, 1}, []int64{0, 1}, 3}, {[]float32{1, 1, 1, 1, 1, 1}, []int64{0, 1, 2, 3, 4, 5}, 6}, {keptList(), []int64{0, 3, 1, 2}, 0.0625},
		{[]float32{1, 0x1p-24, 0x1p-24}, []int64{1, 2, 0}, above(1)}, {[]float32{0x1p-24, 0x1p-24, 1}, []int64{0, 1, 2}, above(1)},
		{[]float32{1, -1, 0x1p-24}, []int64{0, 1, 2}, 0x1p-24}, {[]float32{-1, 0x1p-25, 1}, []int64{0, 2, 1}, 0x1p-25},
		// A sum that is less than 0 is greatest if less is lost of what is greater than 0.
		{[]float32{-1, -0x1p-24, -0x1p-24}, []int64{0, 1, 2}, -1}, {[]float32{-0x1p-24, -0x1p-24, -1}, []int64{0, 2, 1}, -1},
		// The sums need not be plain.
		{slices.Repeat([]float32{maxSize}, 6), []int64{0, 1, 2, 3, 4, 5}, 6 * maxSize}, {slices.Repeat([]float32{-maxSize}, 6), []int64{0, 1, 2, 3, 4, 5}, -6 * maxSize},
		// Both orders of the first two numbers have the same sum, so that the lesser index is ahead.
		{[]float32{-maxSize, maxSize, 0.03125}, []int64{0, 1, 2}, 0.03125}, {[]float32{0.03125, -maxSize, maxSize}, []int64{1, 2, 0}, 0.03125},
	} {
		order, most, code := impl.GreatestOrder(c.list)
		wantOK(t, "greatest", code)
		wantNumber(t, fmt.Sprint("greatest sum of ", c.list), most, c.most)
		if !slices.Equal(order, c.order) {
			t.Errorf("%v: order %v, want %v", c.list, order, c.order)
		}
	}
	for _, many := range []int{7, 8, 20, 48} {
		if order, most, code := impl.GreatestOrder(make([]float32, many)); code != impl.ErrLimit || len(order) != 0 || most != 0 {
			t.Errorf("%d numbers: %v with %v and %d", many, order, most, code)
		}
	}
}

// No order has a greater sum, and none before it as great a one.
func TestNoOrderHasAGreaterSum(t *testing.T) {
	for _, list := range fewLists() {
		best, most, code := impl.GreatestOrder(list)
		wantOK(t, "greatest", code)
		found := false
		eachOrder(indicesOf(list), func(order []int64) {
			var put []float32
			for _, i := range order {
				put = append(put, list[i])
			}
			sum, c1 := impl.SumLeft(put)
			wantOK(t, "sum", c1)
			found = found || slices.Equal(order, best)
			if sum > most || !found && sum == most || slices.Equal(order, best) && !identical(sum, most) {
				t.Fatalf("%v: order %v with %v, but %v has %v", list, best, most, order, sum)
			}
		})
		if !found {
			t.Errorf("%v: %v is no order", list, best)
		}
	}
}
