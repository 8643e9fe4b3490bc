package tests

import (
	"fmt"
	"testing"

	"loop.example/g01367/impl"
)

func TestValidKeepers(t *testing.T) {
	for _, k := range someKeepers() {
		if !impl.ValidKeeper(k) {
			t.Errorf("%v is told to be bad", k)
		}
	}
	for wait := int8(1); wait <= 24; wait++ {
		if !impl.ValidKeeper(impl.Keeper{Hold: 1, Calm: 1, Wait: wait}) {
			t.Errorf("%d is told to be a bad Wait", wait)
		}
	}
	for _, k := range badKeepers() {
		if impl.ValidKeeper(k) {
			t.Errorf("%v is told to be valid", k)
		}
	}
}

func TestOutHours(t *testing.T) {
	days := someGusts()
	sets := map[uint32]int{}
	for _, k := range someKeepers() {
		for _, gusts := range days {
			want := modelOutHours(k, gusts)
			hours, code := impl.OutHours(k, gusts)
			if hours != want || code != impl.OK {
				t.Errorf("%v with %v: got %024b and %d, want %024b", k, gusts, hours, code, want)
			}
			sets[hours]++
		}
	}
	if len(sets) < 100 {
		t.Errorf("only %d sets of hours", len(sets))
	}
}

// outText has a letter for each hour: o if it is out at its end, i if it is in.
func outText(hours uint32) string {
	text := ""
	for hour := range 24 {
		text += string("io"[hours>>hour&1])
	}
	return text
}

func TestEdgesOfGusts(t *testing.T) {
	usual := exampleKeeper()
	for _, c := range []struct {
		name  string
		k     impl.Keeper
		gusts [24]float32
		want  string
	}{
		{"no gusts", usual, [24]float32{}, "oooooooooooooooooooooooo"},
		{"just Hold", usual, [24]float32{4, 4, 4}, "oooooooooooooooooooooooo"},
		{"more than Hold", usual, [24]float32{0, above(4)}, "oiiooooooooooooooooooooo"},
		{"in the first hour", usual, [24]float32{5}, "iioooooooooooooooooooooo"},
		{"in the last hour", usual, [24]float32{23: 5}, "oooooooooooooooooooooooi"},
		{"just Calm", usual, [24]float32{5, 2, 0, 2, 0, 0}, "iiiiiooooooooooooooooooo"},
		{"less than Calm", usual, [24]float32{5, below(2), below(2)}, "iioooooooooooooooooooooo"},
		{"one that is calm, and one that is not", usual, [24]float32{5, 1, 3, 1, 3, 1, 1}, "iiiiiioooooooooooooooooo"},
		{"more than Hold while it is in", usual, [24]float32{5, 1, 5, 1, 1}, "iiiioooooooooooooooooooo"},
		{"again when it is out", usual, [24]float32{5, 1, 1, 5, 1, 1, 5, 1, 1}, "iioiioiioooooooooooooooo"},
		{"it counts anew when it is in again", usual, [24]float32{5, 1, 1, 1, 5, 1, 3, 1, 1}, "iiooiiiioooooooooooooooo"},
		{"one hour of waiting", impl.Keeper{Hold: 4, Calm: 2, Wait: 1}, [24]float32{5, 1, 5, 5, 1}, "ioiioooooooooooooooooooo"},
		{"a day of waiting", impl.Keeper{Hold: 4, Calm: 2, Wait: 24}, [24]float32{5}, "iiiiiiiiiiiiiiiiiiiiiiii"},
		{"a day less an hour", impl.Keeper{Hold: 4, Calm: 2, Wait: 23}, [24]float32{5}, "iiiiiiiiiiiiiiiiiiiiiiio"},
		{"a day less an hour, later", impl.Keeper{Hold: 4, Calm: 2, Wait: 23}, [24]float32{1, 5}, "oiiiiiiiiiiiiiiiiiiiiiii"},
		{"Calm is Hold", impl.Keeper{Hold: 4, Calm: 4, Wait: 2}, [24]float32{5, 4, 3, 3, 4, above(4), below(4), below(4)}, "iiiooiiooooooooooooooooo"},
		{"nothing is less than Calm 0", impl.Keeper{Hold: 4, Calm: 0, Wait: 1}, [24]float32{5, 0, minus0}, "iiiiiiiiiiiiiiiiiiiiiiii"},
		{"nor than Calm -0", impl.Keeper{Hold: 4, Calm: minus0, Wait: 1}, [24]float32{5, 0, minus0}, "iiiiiiiiiiiiiiiiiiiiiiii"},
		{"0 is not more than Hold -0", impl.Keeper{Hold: minus0, Wait: 1}, [24]float32{0, minus0, 2: tiniest}, "ooiiiiiiiiiiiiiiiiiiiiii"},
		{"-0 is calm", impl.Keeper{Hold: 1, Calm: tiniest, Wait: 2}, [24]float32{2, minus0, minus0, 0, 2, tiniest, minus0, 0}, "iiooiiiooooooooooooooooo"},
		{"the greatest gust", impl.Keeper{Hold: below(1048576), Calm: 1, Wait: 1}, [24]float32{1048576}, "iooooooooooooooooooooooo"},
	} {
		hours, code := impl.OutHours(c.k, c.gusts)
		if got := outText(hours); got != c.want || hours>>24 != 0 || code != impl.OK {
			t.Errorf("%s: got %s with %d, want %s", c.name, got, code, c.want)
		}
	}
}

func TestGustyDays(t *testing.T) {
	suns := someSuns()
	sets := []uint32{0, 1<<24 - 1, 1<<32 - 1, 0xff << 24, 1 << 24, 1 << 12, 1, 1 << 23, 0xaaaaaaaa, 0x55555555, 0x00fff000, 0xf0f0f0f0}
	for i, a := range someAwnings() {
		for _, s := range []impl.Sun{suns[i%len(suns)], arcSun(), evenSun(20, 130)} {
			facing := int64(i * 5 % 256)
			for _, facing := range []int64{facing, 128} {
				for _, out := range sets {
					var lights []float32
					for hour := range int64(24) {
						light := quickFall(s, hour, facing)
						if out>>hour&1 == 1 {
							light = modelBehind(a, s, hour, facing)
						}
						lights = append(lights, light)
					}
					day, code := impl.GustyDay(a, s, facing, out)
					wantOK(t, "gusty day", code)
					wantNumber(t, fmt.Sprintf("%v of %v to %d, out in %b", a, s, facing, out), day, modelSum(lights))
				}
			}
		}
	}
}

// With all bits the day is that behind the awning, with none that without it, whatever the bits from 24 on are.
func TestBitsOfGustyDays(t *testing.T) {
	suns := someSuns()
	for i, a := range someAwnings() {
		s := suns[i%len(suns)]
		for _, facing := range []int64{0, 128, 200} {
			behind, c1 := impl.DayBehind(a, s, facing)
			before, c2 := impl.FallDay(s, facing)
			wantOK(t, "days", c1, c2)
			for _, more := range []uint32{0, 1 << 24, 1 << 31, 0xff << 24} {
				all, c1 := impl.GustyDay(a, s, facing, 1<<24-1|more)
				none, c2 := impl.GustyDay(a, s, facing, more)
				wantOK(t, "gusty days", c1, c2)
				wantNumber(t, fmt.Sprint("out all day, ", a), all, behind)
				wantNumber(t, fmt.Sprint("in all day, ", a), none, before)
			}
		}
	}
}

func someForces() []float32 {
	return []float32{0, minus0, tiniest, 3 * tiniest, 0x1p-126, 1e-20, 0.1, 1, 2, 3.7, below(1048576), 1048576}
}

func TestStrainOf(t *testing.T) {
	for _, a := range someAwnings() {
		for _, gust := range someForces() {
			strain, code := impl.StrainOf(a, gust)
			wantOK(t, "strain", code)
			wantNumber(t, fmt.Sprint("strain of ", a, " with ", gust), strain, modelStrain(a.Out, gust))
		}
	}
	for _, c := range []struct{ out, gust, want float32 }{
		{1, 3, 3}, {8, 1048576, 67108864}, {0.5, 8, 2}, {0, 1048576, 0}, {minus0, 5, 0}, {3, 0, 0}, {1, minus0, minus0}, {minus0, minus0, minus0},
		// The square of Out is rounded first, to 0 if it is too small, and then its product with the gust.
		{0x1p-80, 0x1p20, 0}, {0x1p-74, 0x1p20, 0x1p-128}, {0x1p-75, 0x1p20, 0}, {0.5, 2 * tiniest, 0}, {0.5, 3 * tiniest, tiniest},
	} {
		strain, code := impl.StrainOf(impl.Awning{Out: c.out, Tall: 1}, c.gust)
		wantOK(t, "strain", code)
		wantNumber(t, fmt.Sprint("strain of ", c.out, " with ", c.gust), strain, c.want)
	}
}

func TestLongestFor(t *testing.T) {
	lengths := map[float32]int{}
	check := func(gust, bound float32) {
		want := float32(0)
		for eighths := range 65 {
			if out := float32(eighths) / 8; modelStrain(out, gust) <= bound {
				want = out
			}
		}
		longest, code := impl.LongestFor(gust, bound)
		wantOK(t, "longest", code)
		wantNumber(t, fmt.Sprint("longest with ", gust, " for ", bound), longest, want)
		lengths[longest]++
	}
	for _, gust := range someForces() {
		for _, bound := range someForces() {
			check(gust, bound)
		}
		// Bounds that are just the strain of a length, and the numbers next to these.
		for eighths := range 65 {
			strain := modelStrain(float32(eighths)/8, gust)
			for _, bound := range []float32{strain, above(strain), below(strain)} {
				if bound >= 0 && bound <= 1048576 {
					check(gust, bound)
				}
			}
		}
	}
	if len(lengths) != 65 {
		t.Errorf("only %d lengths are told", len(lengths))
	}
}

func TestEdgesOfLongestFor(t *testing.T) {
	for _, c := range []struct{ gust, bound, want float32 }{
		{2, 4, 1.375}, {0, 0, 8}, {minus0, 0, 8}, {0, minus0, 8}, {minus0, minus0, 8}, {1, 0, 0}, {1, minus0, 0}, {1048576, 0, 0},
		{1, 64, 8}, {1, below(64), 7.875}, {1, 0.015625, 0.125}, {1, below(0.015625), 0}, {1048576, 1048576, 1},
		// What is rounded to 0 is at most 0: 0.625 * 0.625 of the tiniest gust is less than half of it.
		{tiniest, 0, 0.625}, {tiniest, minus0, 0.625}, {2 * tiniest, 0, 0.5}, {tiniest, tiniest, 1.125},
	} {
		longest, code := impl.LongestFor(c.gust, c.bound)
		wantOK(t, "longest", code)
		wantNumber(t, fmt.Sprint("longest with ", c.gust, " for ", c.bound), longest, c.want)
	}
}
