package tests

import (
	"math/rand"

	"loop.example/g01367/impl"
)

// The model of chapter 4 rounds wide products, quotients, sums and differences, as that of chapter 2 does.

// quickFall is the FallOn of the model of chapter 1, with sines that are made once.
func quickFall(s impl.Sun, hour, facing int64) float32 {
	if s.Height[hour] <= 0 {
		return 0
	}
	light := mul(sines[rest(int64(s.Height[hour])+64)], sines[rest(int64(s.Turns[hour])-facing+64)])
	if light > 0 {
		return light
	}
	return 0
}

// modelUncut is the shaded part before it is cut; there is none without light.
func modelUncut(a impl.Awning, s impl.Sun, hour, facing int64) (float32, bool) {
	light := quickFall(s, hour, facing)
	if light == 0 {
		return 0, false
	}
	depth := add(mul(a.Out, div(sines[s.Height[hour]], light)), a.Drop)
	return div(sub(depth, a.Gap), a.Tall), true
}

func modelShaded(a impl.Awning, s impl.Sun, hour, facing int64) float32 {
	part, isLit := modelUncut(a, s, hour, facing)
	switch {
	case isLit && part > 1:
		return 1
	case isLit && part > 0:
		return part
	}
	return 0
}

func modelBehind(a impl.Awning, s impl.Sun, hour, facing int64) float32 {
	light := quickFall(s, hour, facing)
	return sub(light, mul(light, modelShaded(a, s, hour, facing)))
}

func modelBehinds(a impl.Awning, s impl.Sun, facing int64) []float32 {
	var list []float32
	for hour := range int64(24) {
		list = append(list, modelBehind(a, s, hour, facing))
	}
	return list
}

// modelOut halves so many times, and reports whether MaxOut is enough at all.
func modelOut(a impl.Awning, s impl.Sun, hour, facing int64, part float32, times int) (float32, bool) {
	shades := func(out float32) bool {
		longer := impl.Awning{Out: out, Drop: a.Drop, Gap: a.Gap, Tall: a.Tall}
		return modelShaded(longer, s, hour, facing) >= part
	}
	if shades(0) {
		return 0, true
	}
	if !shades(8) {
		return 0, false
	}
	low, high := float32(0), float32(8)
	for range times {
		if half := div(add(low, high), 2); shades(half) {
			high = half
		} else {
			low = half
		}
	}
	return high, true
}

// modelHides goes from the tree both ways round, by an angle at a time, until it meets the sun.
func modelHides(tree impl.Tree, s impl.Sun, hour int64) bool {
	if s.Height[hour] <= 0 || s.Height[hour] > tree.Top {
		return false
	}
	for step := range int64(tree.Width) + 1 {
		for _, at := range []int64{int64(tree.Turn) + step, int64(tree.Turn) - step} {
			if rest(at) == int64(s.Turns[hour]) {
				return true
			}
		}
	}
	return false
}

func modelHidden(list []impl.Tree, s impl.Sun) uint32 {
	var hours uint32
	for hour := range int64(24) {
		for _, tree := range list {
			if modelHides(tree, s, hour) {
				hours |= 1 << hour
			}
		}
	}
	return hours
}

// modelOutHours goes from one hour in which the awning is moved to the next one.
func modelOutHours(k impl.Keeper, gusts [24]float32) uint32 {
	var hours uint32
	hour := 0
	for hour < 24 {
		for ; hour < 24 && !(gusts[hour] > k.Hold); hour++ {
			hours |= 1 << hour
		}
		// It is in from this hour on, until so many calm ones lie behind it without another one between them.
		for calm := 0; hour < 24 && calm < int(k.Wait); {
			hour++
			if hour < 24 && gusts[hour] < k.Calm {
				calm++
			} else {
				calm = 0
			}
		}
		if hour < 24 {
			hours |= 1 << hour
			hour++
		}
	}
	return hours
}

func modelStrain(out, gust float32) float32 { return mul(mul(out, out), gust) }

// exampleAwning is that of the document's example.
func exampleAwning() impl.Awning { return impl.Awning{Out: 1, Tall: 2} }

// someAwnings are the awnings of the edge cases, and some with any numbers.
func someAwnings() []impl.Awning {
	list := []impl.Awning{exampleAwning()}
	talls := []float32{0.125, above(0.125), 2, below(4), 4}
	for i, out := range []float32{0, minus0, tiniest, 1, below(8), 8} {
		for j, drop := range []float32{0, minus0, tiniest, 0.5, below(2), 2} {
			for n, gap := range []float32{0, minus0, tiniest, 0.5, below(2), 2} {
				list = append(list, impl.Awning{Out: out, Drop: drop, Gap: gap, Tall: talls[(i+j+n)%len(talls)]})
			}
		}
	}
	source := rand.New(rand.NewSource(11))
	for range 60 {
		list = append(list, impl.Awning{
			Out:  source.Float32() * 8,
			Drop: source.Float32() * 2,
			Gap:  source.Float32() * 2,
			Tall: 0.125 + source.Float32()*3.875,
		})
	}
	return list
}

// badAwnings are not valid, each by a single number.
func badAwnings() []impl.Awning {
	list := []impl.Awning{{}}
	for _, number := range []float32{nan, infinite, -infinite, -tiniest, -1, above(8), 9} {
		out, drop, gap, tall := exampleAwning(), exampleAwning(), exampleAwning(), exampleAwning()
		out.Out, drop.Drop, gap.Gap, tall.Tall = number, number, number, number
		list = append(list, out, drop, gap, tall)
	}
	for _, number := range []float32{above(2), 3} {
		drop, gap := exampleAwning(), exampleAwning()
		drop.Drop, gap.Gap = number, number
		list = append(list, drop, gap)
	}
	for _, number := range []float32{0, minus0, tiniest, below(0.125), above(4), 5, -2} {
		tall := exampleAwning()
		tall.Tall = number
		list = append(list, tall)
	}
	return list
}

// someTrees are the trees of the edge cases, and some that stand anywhere.
func someTrees() [][]impl.Tree {
	list := [][]impl.Tree{nil, {}, make([]impl.Tree, 8)}
	for _, turn := range []int16{0, 1, 64, 120, 128, 129, 192, 255} {
		for _, width := range []int16{0, 1, 7, 8, 127, 128} {
			for _, top := range []int16{0, 1, 32, 63, 64} {
				list = append(list, []impl.Tree{{Turn: turn, Width: width, Top: top}})
			}
		}
	}
	source := rand.New(rand.NewSource(12))
	for many := range 40 {
		trees := make([]impl.Tree, many%9)
		for i := range trees {
			trees[i] = impl.Tree{Turn: int16(source.Intn(256)), Width: int16(source.Intn(40)), Top: int16(source.Intn(65))}
			if i > 0 && source.Intn(4) == 0 {
				trees[i] = trees[i-1]
			}
		}
		list = append(list, trees)
	}
	return list
}

// badTrees are not valid, each by a single number, or by how many they are.
func badTrees() [][]impl.Tree {
	var list [][]impl.Tree
	add := func(tree impl.Tree) {
		good := impl.Tree{Turn: 128, Width: 8, Top: 64}
		list = append(list, []impl.Tree{tree}, []impl.Tree{good, tree}, []impl.Tree{tree, good})
	}
	for _, number := range []int16{-32768, -1, 256, 257, 32767} {
		add(impl.Tree{Turn: number, Width: 8, Top: 64})
	}
	for _, number := range []int16{-32768, -1, 129, 256, 32767} {
		add(impl.Tree{Turn: 128, Width: number, Top: 64})
	}
	for _, number := range []int16{-32768, -64, -1, 65, 256, 32767} {
		add(impl.Tree{Turn: 128, Width: 8, Top: number})
	}
	return append(list, make([]impl.Tree, 9), make([]impl.Tree, 200000))
}

// exampleKeeper is that of the document's example.
func exampleKeeper() impl.Keeper { return impl.Keeper{Hold: 4, Calm: 2, Wait: 2} }

// someKeepers are the keepers of the edge cases.
func someKeepers() []impl.Keeper {
	list := []impl.Keeper{exampleKeeper()}
	for _, wait := range []int8{1, 2, 3, 23, 24} {
		list = append(list,
			impl.Keeper{Wait: wait},
			impl.Keeper{Hold: minus0, Calm: 0, Wait: wait},
			impl.Keeper{Hold: 0, Calm: minus0, Wait: wait},
			impl.Keeper{Hold: tiniest, Calm: tiniest, Wait: wait},
			impl.Keeper{Hold: 4, Calm: 4, Wait: wait},
			impl.Keeper{Hold: 4, Calm: below(4), Wait: wait},
			impl.Keeper{Hold: 4, Calm: 0, Wait: wait},
			impl.Keeper{Hold: 4, Calm: 2, Wait: wait},
			impl.Keeper{Hold: 1048576, Calm: 1048576, Wait: wait},
			impl.Keeper{Hold: below(1048576), Calm: 1, Wait: wait})
	}
	return list
}

// badKeepers are not valid, each by a single number, or by Calm that is more than Hold.
func badKeepers() []impl.Keeper {
	list := []impl.Keeper{{}, {Hold: 4, Calm: above(4), Wait: 2}, {Calm: tiniest, Wait: 2}, {Hold: 2, Calm: 4, Wait: 2}}
	for _, number := range badForces() {
		list = append(list, impl.Keeper{Hold: number, Calm: 0, Wait: 2}, impl.Keeper{Hold: 4, Calm: number, Wait: 2})
		list = append(list, impl.Keeper{Hold: number, Calm: number, Wait: 2})
	}
	for _, wait := range []int8{-128, -1, 0, 25, 127} {
		list = append(list, impl.Keeper{Hold: 4, Calm: 2, Wait: wait})
	}
	return list
}

// badForces are not plain, or less than 0.
func badForces() []float32 {
	return []float32{nan, infinite, -infinite, -tiniest, -1, -1048576, above(1048576), 2097152}
}

// someGusts are days of gusts of the edge cases, and some that turn around Hold and Calm of keepers.
func someGusts() [][24]float32 {
	list := [][24]float32{{}, {1, 5, 1, 1, 1}}
	edges := []float32{0, minus0, tiniest, 1, below(2), 2, above(2), below(4), 4, above(4), below(1048576), 1048576}
	for _, gust := range edges {
		for _, first := range edges {
			var day [24]float32
			for hour := range day {
				day[hour] = gust
			}
			day[0] = first
			list = append(list, day)
		}
	}
	source := rand.New(rand.NewSource(13))
	for n := range 300 {
		var day [24]float32
		for hour := range day {
			day[hour] = edges[source.Intn(len(edges))]
			// Calm hours have to come often, if some of them are to lie behind each other.
			if source.Intn(6) < n%6 {
				day[hour] = 1
			}
		}
		list = append(list, day)
	}
	return list
}
