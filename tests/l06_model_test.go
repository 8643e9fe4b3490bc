package tests

import (
	"math"
	"math/big"
	"math/rand"
	"slices"

	"loop.example/g01367/impl"
)

// The model of chapter 6 makes narrow sums as that of chapter 2 does, wide ones with 53 bits of math/big, and counts
// steps by fractions and exponents, not by bits.

// listSum is one of the six sums, and its model.
type listSum struct {
	name  string
	of    func(list []float32) (float32, int64)
	model func(list []float32) float32
}

func listSums() []listSum {
	return []listSum{
		{"SumLeft", impl.SumLeft, modelSum},
		{"SumRight", impl.SumRight, modelRight},
		{"SumPairs", impl.SumPairs, modelPairs},
		{"SumKept", impl.SumKept, modelKept},
		{"SumWide", impl.SumWide, modelWide},
		{"SumSmall", impl.SumSmall, modelSmall},
	}
}

func modelRight(list []float32) float32 {
	sum := float32(0)
	for i := len(list) - 1; i >= 0; i-- {
		sum = add(sum, list[i])
	}
	return sum
}

func modelPairs(list []float32) float32 {
	if len(list) == 0 {
		return 0
	}
	if len(list) == 1 {
		return list[0]
	}
	first := int(math.Floor(float64(len(list)) / 2))
	return add(modelPairs(list[:first]), modelPairs(list[first:]))
}

func modelKept(list []float32) float32 {
	sum, left := float32(0), float32(0)
	for _, x := range list {
		y := sub(x, left)
		t := add(sum, y)
		left = sub(sub(t, sum), y)
		sum = t
	}
	return sum
}

func modelWide(list []float32) float32 {
	sum := new(big.Float).SetPrec(53)
	for _, x := range list {
		sum.Add(sum, narrow(float64(x)))
	}
	made, _ := sum.Float32()
	return made
}

// modelSmall takes the number with the least size again and again, the lesser one of two with the same size first.
func modelSmall(list []float32) float32 {
	sum := float32(0)
	left := slices.Clone(list)
	for len(left) > 0 {
		first := 0
		for i, x := range left {
			size, least := math.Abs(float64(x)), math.Abs(float64(left[first]))
			if size < least || size == least && x < left[first] {
				first = i
			}
		}
		sum = add(sum, left[first])
		left = slices.Delete(left, first, first+1)
	}
	return sum
}

// modelSteps counts the numbers from 0 on, below or above it: there are 2 to the power of 23 up to the least one that is
// not subnormal, and as many to each double of it.
func modelSteps(a float32) int64 {
	const doubling = 1 << 23
	size := math.Abs(float64(a))
	steps := size * 0x1p149
	if fraction, exponent := math.Frexp(size); size >= 0x1p-126 {
		steps = float64(exponent+126)*doubling + (2*fraction-1)*doubling
	}
	if a < 0 {
		return -int64(steps)
	}
	return int64(steps)
}

func modelApart(a, b float32) int64 {
	if modelSteps(a) < modelSteps(b) {
		return modelSteps(b) - modelSteps(a)
	}
	return modelSteps(a) - modelSteps(b)
}

// modelOrdersApart tries each two sums, and reports whether all are plain.
func modelOrdersApart(list []float32) (int64, bool) {
	var made []float32
	for _, one := range listSums() {
		made = append(made, one.model(list))
	}
	most := int64(0)
	for _, a := range made {
		for _, b := range made {
			most = max(most, modelApart(a, b))
		}
		if math.Abs(float64(a)) > 1048576 {
			return 0, false
		}
	}
	return most, true
}

func indicesOf(list []float32) []int64 {
	indices := []int64{}
	for i := range list {
		indices = append(indices, int64(i))
	}
	return indices
}

// modelGreatest tries all orders.
func modelGreatest(list []float32) ([]int64, float32) {
	var best []int64
	var most float32
	eachOrder(indicesOf(list), func(order []int64) {
		sum := float32(0)
		for _, i := range order {
			sum = add(sum, list[i])
		}
		if best == nil || sum > most {
			best, most = slices.Clone(order), sum
		}
	})
	return best, most
}

func modelMeanOf(list []float32) float32 { return div(modelSum(list), float32(len(list))) }

func modelSpread(list []float32) float32 {
	least, most := list[0], list[0]
	for _, x := range list {
		least, most = float32(math.Min(float64(least), float64(x))), float32(math.Max(float64(most), float64(x)))
	}
	return sub(most, least)
}

func modelSquareOff(list []float32) float32 {
	mean := modelMeanOf(list)
	var squares []float32
	for _, x := range list {
		squares = append(squares, mul(sub(x, mean), sub(x, mean)))
	}
	return div(modelSum(squares), float32(len(list)))
}

func modelDot(a, b []float32) float32 {
	var products []float32
	for i, x := range a {
		products = append(products, mul(x, b[i]))
	}
	return modelSum(products)
}

func modelMoving(list []float32, many int) []float32 {
	var means []float32
	for i := range list {
		if i+many <= len(list) {
			means = append(means, modelMeanOf(list[i:i+many]))
		}
	}
	return means
}

// modelOrdered puts -0 ahead of all others, and then takes the first one of the least numbers again and again.
func modelOrdered(list []float32) []float32 {
	var zeros, others []float32
	for _, x := range list {
		if identical(x, minus0) {
			zeros = append(zeros, x)
		} else {
			others = append(others, x)
		}
	}
	return modelSorted(append(zeros, others...))
}

func modelBins(list, bounds []float32) []int64 {
	bins := make([]int64, len(bounds)+1)
	for i := range bins {
		for _, x := range list {
			if (i == 0 || x >= bounds[i-1]) && (i == len(bounds) || x < bounds[i]) {
				bins[i]++
			}
		}
	}
	return bins
}

func modelAbove(list []float32, bound float32) uint64 {
	sum, worth := uint64(0), uint64(1)
	for _, x := range list {
		if x > bound {
			sum += worth
		}
		worth *= 2
	}
	return sum
}

// maxSize is the greatest plain number, and lostList and keptList are the lists of the document's example.
const maxSize = float32(1048576)

func lostList() []float32 { return []float32{1, maxSize, -maxSize, 0.0009765625} }

func keptList() []float32 { return []float32{maxSize, 0.03125, 0.03125, -maxSize} }

// someNumbers are the plain numbers of the edge cases, and some others.
func someNumbers() []float32 {
	var list []float32
	for _, size := range []float32{
		0, tiniest, 2 * tiniest, 1000000 * tiniest, below(0x1p-126), 0x1p-126, above(0x1p-126), 0x1p-23, 0.0009765625, 0.0625, 0.1,
		below(1), 1, above(1), 1.5, 3, 1000, 65537, 999999.5, below(below(maxSize)), below(maxSize), maxSize,
	} {
		list = append(list, size, -size)
	}
	list = append(list, minus0)
	source := rand.New(rand.NewSource(31))
	for len(list) < 90 {
		if number := math.Float32frombits(source.Uint32()); math.Abs(float64(number)) <= 1048576 {
			list = append(list, number)
		}
	}
	return list
}

// badNumbers are not plain.
func badNumbers() []float32 {
	return []float32{
		nan, math.Float32frombits(0xffc00001), math.Float32frombits(0x7f800001), infinite, -infinite, above(maxSize), below(-maxSize),
		1048577, -1048577, 2 * maxSize, math.MaxFloat32, -math.MaxFloat32,
	}
}

// edgeLists are the lists of the edge cases.
func edgeLists() [][]float32 {
	list := [][]float32{
		nil, {}, lostList(), keptList(), {minus0, minus0}, {0, minus0}, {minus0, 0}, {minus0, 0, minus0}, {0, minus0, 0}, {0, 0, minus0, minus0},
		{minus0, minus0, minus0}, {minus0, minus0, 1}, {-1, minus0}, {tiniest, -tiniest}, {-tiniest, tiniest}, {minus0, -tiniest},
		{tiniest, tiniest, tiniest}, {3 * tiniest, 2 * tiniest, -tiniest}, {below(0x1p-126), tiniest}, {0x1p-126, -tiniest},
		{maxSize, maxSize}, {-maxSize, -maxSize}, {maxSize, -maxSize}, {-maxSize, maxSize}, {below(maxSize), maxSize}, {above(-maxSize), -maxSize},
		{maxSize, 0.0625, 0.0625}, {0.0625, maxSize, 0.0625}, {0.0625, 0.0625, maxSize}, {maxSize, 1, -maxSize, 1}, {1, maxSize, 1, -maxSize},
		{1, 0x1p-24, 0x1p-24}, {0x1p-24, 0x1p-24, 1}, {0x1p-24, 1, 0x1p-24}, {1, 1, 1, 1, 1, 1}, {1, 1, 1, 1, 1, 1, 1}, {6, 5, 4, 3, 2, 1},
		{0.1, 0.2, 0.3, 0.4, 0.5, 0.6}, {0.6, 0.5, 0.4, 0.3, 0.2, 0.1}, {3, -3, 3, -3}, {-3, 3, -3, 3}, {1, -1, 0x1p-24, -0x1p-24},
		{0.1, -0.1, 0.3, 0.3, -0.3}, {2, 1, 3}, {1, 2, 3}, {3, 1, 2}, {-1, -2, -3}, {1.5, 2.5, 1.5}, {1000, -1000, 999, 1},
	}
	for _, number := range someNumbers() {
		list = append(list, []float32{number})
	}
	for _, number := range []float32{0, minus0, tiniest, -tiniest, 0.1, -1, 1000, maxSize, -maxSize} {
		list = append(list, slices.Repeat([]float32{number}, 47), slices.Repeat([]float32{number}, 48), slices.Repeat([]float32{number, -number}, 24))
	}
	return list
}

// someLists are the lists of the edge cases, and some with any numbers, of each length that there may be.
func someLists() [][]float32 {
	list := edgeLists()
	source := rand.New(rand.NewSource(32))
	sign := func() float32 { return float32(1 - 2*source.Intn(2)) }
	numbers := someNumbers()
	for i := range 588 {
		one := make([]float32, i%49)
		for n := range one {
			switch i / 49 % 6 {
			case 0: // wholes
				one[n] = float32(source.Intn(2001) - 1000)
			case 1: // parts
				one[n] = source.Float32()
			case 2: // numbers of all sizes
				one[n] = sign() * float32(math.Exp2(40*source.Float64()-20))
			case 3: // numbers that cancel each other, but for little
				one[n] = sign() * (1024 + source.Float32())
			case 4: // edge cases
				one[n] = numbers[source.Intn(len(numbers))]
			case 5: // few numbers, many of which are equal
				one[n] = []float32{minus0, 0, 1, -1, 0.1, -0.1}[source.Intn(6)]
			}
		}
		list = append(list, one)
	}
	return list
}

// fewLists are those of someLists that have not more numbers than there may be for their orders, and more of these.
func fewLists() [][]float32 {
	var list [][]float32
	for _, one := range someLists() {
		if len(one) <= 6 {
			list = append(list, one)
		}
	}
	source := rand.New(rand.NewSource(33))
	for i := range 280 {
		one := make([]float32, i%7)
		for n := range one {
			one[n] = []float32{1, -1, 2, 0x1p-22, 0x1p-23, -0x1p-23, 0x1p-24, 0x1p-24, -0x1p-24, 0x1p-25}[source.Intn(10)]
		}
		list = append(list, one)
	}
	return list
}

// highLists have sums that come near to the greatest plain number, or to the least one.
func highLists() [][]float32 {
	var list [][]float32
	source := rand.New(rand.NewSource(34))
	for len(list) < 5000 {
		var one []float32
		left := 1048576.0
		for range 2 + source.Intn(6) {
			x := float64(source.Intn(64*1048576)-32*1048576) / 32
			// What is left has to be plain, as it is the last number.
			if math.Abs(left-x) <= 1048576 {
				one = append(one, float32(x))
				left -= float64(float32(x))
			}
		}
		one = append(one, float32(left))
		for range source.Intn(4) {
			one = append(one, float32(source.Intn(33)-16)/128)
		}
		source.Shuffle(len(one), func(a, b int) { one[a], one[b] = one[b], one[a] })
		if len(list)%2 == 1 {
			for i := range one {
				one[i] = -one[i]
			}
		}
		list = append(list, one)
	}
	return list
}

// badLists are not valid: too long, or with a single number that is not plain.
func badLists() [][]float32 {
	list := [][]float32{make([]float32, 49), slices.Repeat([]float32{1}, 49), make([]float32, 1000000)}
	for _, number := range badNumbers() {
		first, last, beyond := make([]float32, 48), make([]float32, 48), make([]float32, 49)
		first[0], last[47], beyond[48] = number, number, number
		list = append(list, []float32{number}, []float32{1, number}, []float32{number, 1, 2}, []float32{1, 2, number, 3}, first, last, beyond)
	}
	return list
}
