package tests

import (
	"fmt"
	"math"
	"slices"
	"testing"

	"loop.example/g01367/impl"
)

func TestMeanVote(t *testing.T) {
	orderMatters := false
	for _, votes := range someVotes() {
		want := modelMean(votes)
		mean, code := impl.MeanVote(votes)
		wantOK(t, "mean", code)
		wantNumber(t, fmt.Sprint("mean of ", votes), mean, want)
		back := slices.Clone(votes)
		slices.Reverse(back)
		orderMatters = orderMatters || modelMean(back) != want
	}
	if !orderMatters {
		t.Error("no votes tell the order of their sum")
	}
}

func TestEdgesOfMeanVote(t *testing.T) {
	for _, c := range []struct {
		votes []float32
		want  float32
	}{
		{[]float32{0.25, 1}, 0.625}, {[]float32{0.375}, 0.375}, {[]float32{0}, 0}, {[]float32{1}, 1}, {[]float32{tiniest}, tiniest},
		// The sum begins with the first vote, so that -0 alone is left as it is.
		{[]float32{minus0}, minus0}, {[]float32{minus0, minus0}, minus0}, {slices.Repeat([]float32{minus0}, 12), minus0},
		{[]float32{minus0, 0}, 0}, {[]float32{0, minus0}, 0}, {[]float32{minus0, minus0, 0}, 0},
		{[]float32{tiniest, 0}, 0}, {[]float32{tiniest, tiniest}, tiniest}, {[]float32{3 * tiniest, 0}, 2 * tiniest}, {[]float32{tiniest, tiniest, 0}, tiniest},
		// What is lost beside 1 is not lost if it is summed first.
		{[]float32{1, 0x1p-24, 0x1p-24, 0}, 0.25}, {[]float32{0x1p-24, 0x1p-24, 1, 0}, 0.25 * above(1)},
		{slices.Repeat([]float32{1}, 12), 1}, {slices.Repeat([]float32{1}, 11), 1},
	} {
		mean, code := impl.MeanVote(c.votes)
		wantOK(t, "mean", code)
		wantNumber(t, fmt.Sprint("mean of ", c.votes), mean, c.want)
	}
}

func TestMedianVote(t *testing.T) {
	counts := map[int]int{}
	for _, votes := range someVotes() {
		median, code := impl.MedianVote(votes)
		wantOK(t, "median", code)
		wantNumber(t, fmt.Sprint("median of ", votes), median, modelMedian(votes))
		counts[len(votes)]++
	}
	for many := 1; many <= 12; many++ {
		if counts[many] == 0 {
			t.Errorf("no %d votes", many)
		}
	}
}

// eachOrder tries all orders of a list, as they come by its indices.
func eachOrder[T any](list []T, try func(order []T)) {
	var put func(order, left []T)
	put = func(order, left []T) {
		if len(left) == 0 {
			try(order)
			return
		}
		for i := range left {
			others := append(slices.Clone(left[:i]), left[i+1:]...)
			put(append(slices.Clone(order), left[i]), others)
		}
	}
	put(nil, list)
}

// All orders of votes have one median, but that 0 and -0 stay in the order in which they are told.
func TestMedianOfAllOrders(t *testing.T) {
	for _, list := range [][]float32{
		{0, minus0, minus0}, {0, 0, minus0}, {0, minus0, 1}, {0, minus0, 0.5, 1}, {0, minus0, minus0, 1, 1}, {0, 0, minus0, minus0, 1},
		{0.25, 0.5, 1}, {0.25, 0.5, 0.75, 1}, {0.1, 0.2, 0.3, 0.4, 0.5, 0.6}, {0, minus0, tiniest, tiniest}, {1, 1, below(1), below(1)},
	} {
		found := map[string]int{}
		eachOrder(list, func(votes []float32) {
			median, code := impl.MedianVote(votes)
			wantOK(t, "median", code)
			wantNumber(t, fmt.Sprint("median of ", votes), median, modelMedian(votes))
			found[impl.NumberText(median)]++
		})
		zeros := 0
		for _, vote := range list {
			if vote == 0 {
				zeros++
			}
		}
		many := 1
		if zeros > len(list)/2 && len(list)%2 == 1 {
			many = 2
		}
		if len(found) != many {
			t.Errorf("%v have the medians %v", list, found)
		}
	}
}

func TestEdgesOfMedianVote(t *testing.T) {
	for _, c := range []struct {
		votes []float32
		want  float32
	}{
		{[]float32{0.25, 1, 0.5}, 0.5}, {[]float32{0.375}, 0.375}, {[]float32{minus0}, minus0}, {[]float32{0}, 0}, {[]float32{1}, 1},
		{[]float32{0.25, 1}, 0.625}, {[]float32{1, 0.25}, 0.625}, {[]float32{1, 0, 0.5, 0.25}, 0.375}, {[]float32{1, 1, 0, 0}, 0.5},
		{[]float32{0, minus0, 1}, minus0}, {[]float32{minus0, 0, 1}, 0}, {[]float32{1, 0, minus0}, minus0}, {[]float32{1, minus0, 0}, 0},
		{[]float32{0, 1, minus0}, minus0}, {[]float32{minus0, 1, 0}, 0}, {[]float32{0, minus0, 0}, minus0}, {[]float32{minus0, 0, minus0}, 0},
		{[]float32{minus0, minus0}, minus0}, {[]float32{minus0, 0}, 0}, {[]float32{0, minus0}, 0}, {[]float32{1, minus0, minus0, minus0}, minus0},
		{[]float32{1, minus0, minus0, 1}, 0.5}, {[]float32{0, tiniest}, 0}, {[]float32{tiniest, tiniest}, tiniest}, {[]float32{minus0, tiniest}, 0},
		{[]float32{3 * tiniest, 0}, 2 * tiniest}, {[]float32{1, below(1)}, 1}, {[]float32{0.5, 0.1}, div(add(0.1, 0.5), 2)},
		{[]float32{0, 0, 0, 0, 0, 0.25, 1, 1, 1, 1, 1, 1}, 0.625}, {[]float32{1, 0, 1, 0, 1, 0, 0.75, 1, 0, 1, 0}, 0.75},
	} {
		median, code := impl.MedianVote(c.votes)
		wantOK(t, "median", code)
		wantNumber(t, fmt.Sprint("median of ", c.votes), median, c.want)
	}
}

func TestLeastAnger(t *testing.T) {
	orderMatters := false
	tilts := map[int64]int{}
	votes := someVotes()
	for i, b := range someBlinds() {
		for n, height := range []int64{1, 2, 20, 32, 63, 64, int64(1 + i%64)} {
			list := votes[(i*7+n*13)%len(votes)]
			sums := modelAnger(b, height, list)
			want, least := firstLeast(sums)
			tilt, anger, code := impl.LeastAnger(b, height, list)
			if tilt != int64(want)-64 || !identical(anger, least) || code != impl.OK {
				t.Fatalf("%v at %d, votes %v: tilt %d with %v and %d, want %d with %v", b, height, list, tilt, anger, code, want-64, least)
			}
			tilts[tilt]++
			back := slices.Clone(list)
			slices.Reverse(back)
			orderMatters = orderMatters || !slices.Equal(modelAnger(b, height, back), sums)
		}
	}
	if !orderMatters || len(tilts) < 40 {
		t.Errorf("order matters: %v, tilts %v", orderMatters, tilts)
	}
}

func TestEdgesOfLeastAnger(t *testing.T) {
	for _, c := range []struct {
		name   string
		b      impl.Blind
		height int64
		votes  []float32
		tilt   int64
		anger  float32
	}{
		{"all of it", dullSlats(), 32, []float32{1}, -32, 0},
		{"all of it for both", dullSlats(), 32, []float32{1, 1}, -32, 0},
		// Whatever passes, both sizes sum up to 1 here.
		{"nothing for one, all for the other", dullSlats(), 32, []float32{0, 1}, -64, 1},
		{"the same the other way round", dullSlats(), 32, []float32{1, 0}, -64, 1},
		{"nothing", dullSlats(), 32, []float32{0}, -64, 0},
		{"nothing, as -0", dullSlats(), 32, []float32{minus0}, -64, 0},
		{"nothing, as -0 and 0", dullSlats(), 32, []float32{minus0, 0, minus0}, -64, 0},
		{"nothing can pass from straight above", dullSlats(), 64, []float32{1, 0.5, 0.25}, -64, 1.75},
		{"as many votes as there may be", dullSlats(), 64, slices.Repeat([]float32{1}, 12), -64, 12},
		{"two of three want all", dullSlats(), 32, []float32{1, 0, 1}, -32, 1},
		{"two of three want nothing", dullSlats(), 32, []float32{0, 1, 0}, -64, 1},
		{"next to nothing is lost beside 1", dullSlats(), 64, []float32{1, tiniest}, -64, 1},
		{"tiniest", dullSlats(), 64, []float32{tiniest, tiniest}, -64, 2 * tiniest},
	} {
		for _, own := range []int64{-64, -32, 0, 33, 64} {
			tilt, anger, code := impl.LeastAnger(modelTilted(c.b, own), c.height, c.votes)
			wantOK(t, c.name, code)
			wantNumber(t, c.name, anger, c.anger)
			if tilt != c.tilt {
				t.Errorf("%s: tilt %d, want %d", c.name, tilt, c.tilt)
			}
		}
	}
}

// sharedLists are lists of blinds that one motor moves.
func sharedLists() [][]impl.Blind {
	blinds := someBlinds()
	var list [][]impl.Blind
	for i := range blinds {
		var shared []impl.Blind
		for n := range 1 + i%8 {
			shared = append(shared, blinds[(i*5+n*n*3)%len(blinds)])
		}
		list = append(list, shared)
	}
	return append(list, []impl.Blind{tenSlats()}, slices.Repeat([]impl.Blind{dullSlats()}, 8), []impl.Blind{dullSlats(), thinSlats()})
}

func TestSharedTilt(t *testing.T) {
	orderMatters := false
	tilts := map[int64]int{}
	for i, blinds := range sharedLists() {
		for _, height := range []int64{1, 20, 32, 63, 64, int64(1 + i%64)} {
			for _, wanted := range []float32{0, minus0, tiniest, 0.3, 0.5, below(1), 1} {
				offs := modelOff(blinds, height, wanted)
				want, least := firstLeast(offs)
				tilt, off, code := impl.SharedTilt(blinds, height, wanted)
				if tilt != int64(want)-64 || !identical(off, least) || code != impl.OK {
					t.Fatalf("%v at %d for %v: tilt %d with %v and %d, want %d with %v", blinds, height, wanted, tilt, off, code, want-64, least)
				}
				tilts[tilt]++
				back := slices.Clone(blinds)
				slices.Reverse(back)
				orderMatters = orderMatters || !slices.Equal(modelOff(back, height, wanted), offs)
			}
		}
	}
	if !orderMatters || len(tilts) < 20 {
		t.Errorf("order matters: %v, tilts %v", orderMatters, tilts)
	}
}

// The tilts that the blinds have are not looked at, and one blind alone is tilted as for itself.
func TestSharedTiltOfOtherTilts(t *testing.T) {
	for i, blinds := range sharedLists() {
		turned := slices.Clone(blinds)
		for n := range turned {
			turned[n].Tilt = int16((i*3+n*31)%129 - 64)
		}
		for _, wanted := range []float32{0, 0.4, 1} {
			tilt, off, c1 := impl.SharedTilt(blinds, 20, wanted)
			other, same, c2 := impl.SharedTilt(turned, 20, wanted)
			wantOK(t, "shared tilt", c1, c2)
			wantNumber(t, "other tilts", same, off)
			alone, anger, c3 := impl.SharedTilt(blinds[:1], 20, wanted)
			nearest, light, c4 := impl.TiltFor(blinds[0], 20, wanted)
			wantOK(t, "alone", c3, c4)
			wantNumber(t, "alone", anger, apartOf(light, wanted))
			if tilt != other || alone != nearest {
				t.Errorf("%v for %v: tilts %d and %d, alone %d and %d", blinds, wanted, tilt, other, alone, nearest)
			}
		}
	}
}

func TestEdgesOfSharedTilt(t *testing.T) {
	for _, c := range []struct {
		name   string
		blinds []impl.Blind
		height int64
		wanted float32
		tilt   int64
		off    float32
	}{
		{"one", []impl.Blind{dullSlats()}, 32, 1, -32, 0},
		{"as many as there may be", slices.Repeat([]impl.Blind{dullSlats()}, 8), 32, 1, -32, 0},
		{"none passes from straight above", slices.Repeat([]impl.Blind{dullSlats()}, 8), 64, 1, -64, 8},
		{"nothing wanted", []impl.Blind{dullSlats(), dullSlats()}, 32, 0, -64, 0},
		{"-0 wanted", []impl.Blind{dullSlats(), dullSlats()}, 32, minus0, -64, 0},
		{"tiniest wanted", []impl.Blind{dullSlats(), dullSlats()}, 64, tiniest, -64, 2 * tiniest},
	} {
		tilt, off, code := impl.SharedTilt(c.blinds, c.height, c.wanted)
		wantOK(t, c.name, code)
		wantNumber(t, c.name, off, c.off)
		if tilt != c.tilt {
			t.Errorf("%s: tilt %d, want %d", c.name, tilt, c.tilt)
		}
	}
}

// P12: no tilt makes less anger, and no lesser one as little.
func TestP12NoTiltMakesLessAnger(t *testing.T) {
	votes := someVotes()
	ties := 0
	for i, b := range someBlinds() {
		for _, height := range []int64{1, 32, 64, int64(1 + i*3%64)} {
			for n := range 3 {
				list := votes[(i*3+n)%len(votes)]
				best, least, code := impl.LeastAnger(b, height, list)
				wantOK(t, "anger", code)
				found := false
				for tilt := int64(-64); tilt <= 64; tilt++ {
					turned, _ := impl.TiltTo(b, tilt)
					light, _ := impl.PassFor(turned, height)
					anger := float32(0)
					for _, vote := range list {
						anger = add(anger, apartOf(light, vote))
					}
					if anger < least || tilt < best && anger == least || tilt == best && !identical(anger, least) {
						t.Fatalf("%v at %d, votes %v: tilt %d with %v, but %d makes %v", b, height, list, best, least, tilt, anger)
					}
					found = found || tilt == best
					if tilt > best && anger == least {
						ties++
					}
				}
				if !found || least < 0 || math.Signbit(float64(least)) {
					t.Errorf("%v at %d, votes %v: tilt %d with %v", b, height, list, best, least)
				}
			}
		}
	}
	if ties == 0 {
		t.Error("no other tilt makes as little anger")
	}
}

// P12: nor does another tilt make less of it for those who share a motor.
func TestP12NoSharedTiltIsNearer(t *testing.T) {
	for i, blinds := range sharedLists() {
		for _, wanted := range []float32{0, 0.25, 0.8, 1} {
			height := int64(1 + i*5%64)
			best, least, code := impl.SharedTilt(blinds, height, wanted)
			wantOK(t, "shared tilt", code)
			for tilt := int64(-64); tilt <= 64; tilt++ {
				off := float32(0)
				for _, b := range blinds {
					turned, _ := impl.TiltTo(b, tilt)
					light, _ := impl.PassFor(turned, height)
					off = add(off, apartOf(light, wanted))
				}
				if off < least || tilt < best && off == least || tilt == best && !identical(off, least) {
					t.Fatalf("%v at %d for %v: tilt %d with %v, but %d makes %v", blinds, height, wanted, best, least, tilt, off)
				}
			}
		}
	}
}
