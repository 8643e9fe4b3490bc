package tests

import (
	"fmt"
	"slices"
	"testing"

	"loop.example/g01367/impl"
)

func TestYearLight(t *testing.T) {
	blinds := someBlinds()
	for i, suns := range someYears() {
		for n := range 8 {
			b, facing := blinds[(i*29+n*31)%len(blinds)], []int64{0, 1, 100, 128, 129, 254, 255, int64(i * 5 % 256)}[n]
			want := modelYear(b, suns, facing)
			got, code := impl.YearLight(b, suns, facing)
			if code != impl.OK || !slices.EqualFunc(got, want, identical) {
				t.Fatalf("%v in the year %d to %d: got %v and %d, want %v", b, i, facing, got, code, want)
			}
			for month, s := range suns {
				light, code := impl.PassDay(b, s, facing)
				wantOK(t, "day", code)
				wantNumber(t, fmt.Sprint("light of the month ", month, " in the year ", i), got[month], light)
			}
			best, most := firstGreatest(want)
			month, light, code := impl.BestMonth(b, suns, facing)
			if month != best || !identical(light, most) || code != impl.OK {
				t.Errorf("%v in the year %d to %d: best %d with %v and %d, want %d with %v", b, i, facing, month, light, code, best, most)
			}
		}
	}
}

func TestBestMonthOfSeveral(t *testing.T) {
	b := exampleSlats()
	b.Tilt = -32
	south, low := southSun(), sunAt(12, 10)
	for _, c := range []struct {
		name string
		suns []impl.Sun
		want int64
		most float32
	}{
		{"a single one", []impl.Sun{south}, 0, 0.7070923},
		{"no light", []impl.Sun{{}, {}, {}}, 0, 0},
		{"the last one", []impl.Sun{{}, {}, south}, 2, 0.7070923},
		{"the first one of several", []impl.Sun{{}, south, {}, south, south}, 1, 0.7070923},
		{"all of twelve", slices.Repeat([]impl.Sun{south}, 12), 0, 0.7070923},
		{"the twelfth one", append(make([]impl.Sun, 11), south), 11, 0.7070923},
		{"one that stands low", []impl.Sun{low, south}, 1, 0.7070923},
	} {
		month, most, code := impl.BestMonth(b, c.suns, 128)
		if month != c.want || code != impl.OK {
			t.Errorf("%s: month %d and %d, want %d", c.name, month, code, c.want)
		}
		wantNumber(t, c.name, most, c.most)
	}
}

func TestYearFacing(t *testing.T) {
	blinds := someBlinds()
	facings := map[int64]int{}
	for i, suns := range someYears() {
		for n, step := range []int64{8, 9, 13, 32, 64, 100, 127, 128, 129, 254, 255} {
			b := blinds[(i*23+n*37)%len(blinds)]
			want, wantMost := modelYearFacing(b, suns, step)
			facing, most, code := impl.YearFacing(b, suns, step)
			if facing != want || !identical(most, wantMost) || code != impl.OK {
				t.Fatalf("%v in the year %d by %d: got %d with %v and %d, want %d with %v", b, i, step, facing, most, code, want, wantMost)
			}
			facings[facing]++
		}
	}
	if len(facings) < 30 {
		t.Errorf("only %d facings", len(facings))
	}
}

func TestEdgesOfYearFacing(t *testing.T) {
	b := exampleSlats()
	b.Tilt = -32
	light := func(suns []impl.Sun, facing int64) float32 { return modelSum(modelYear(b, suns, facing)) }
	for _, c := range []struct {
		name string
		suns []impl.Sun
		step int64
		want int64
	}{
		{"no light", make([]impl.Sun, 12), 8, 0},
		{"by eights", []impl.Sun{southSun()}, 8, 128},
		{"two facings are as good", []impl.Sun{evenSun(32, 112)}, 32, 96},
		{"two facings are as good, with two months", []impl.Sun{evenSun(32, 96), evenSun(32, 128)}, 32, 96},
		{"two facings around the north are as good", []impl.Sun{evenSun(32, 240)}, 32, 0},
		{"the first facing and the last one", []impl.Sun{evenSun(32, 240)}, 224, 0},
		{"the last facing of all", []impl.Sun{evenSun(32, 255)}, 255, 255},
		{"just not the last facing of all", []impl.Sun{evenSun(32, 254)}, 254, 254},
		{"as good as the facing 0", []impl.Sun{evenSun(32, 255)}, 254, 0},
		{"the last one by seventeens", []impl.Sun{evenSun(32, 250)}, 17, 255},
		{"none but 0", []impl.Sun{evenSun(32, 100)}, 255, 0},
	} {
		facing, most, code := impl.YearFacing(b, c.suns, c.step)
		if facing != c.want || code != impl.OK {
			t.Errorf("%s: facing %d and %d, want %d", c.name, facing, code, c.want)
		}
		wantNumber(t, c.name, most, light(c.suns, c.want))
	}
}

// Years have one month at least, and not more than twelve; a bad sun is told before that.
func TestLengthsOfYears(t *testing.T) {
	b := exampleSlats()
	codes := func(suns []impl.Sun) string {
		lights, c1 := impl.YearLight(b, suns, 128)
		_, _, c2 := impl.BestMonth(b, suns, 128)
		_, _, c3 := impl.YearFacing(b, suns, 64)
		return fmt.Sprint(len(lights), c1, c2, c3)
	}
	for many := range 15 {
		suns := slices.Repeat([]impl.Sun{southSun()}, many)
		want := fmt.Sprint(many, 0, 0, 0)
		if many < 1 || many > 12 {
			want = "0 3 3 3"
		}
		if got := codes(suns); got != want {
			t.Errorf("%d months: %s, want %s", many, got, want)
		}
		for month := range suns {
			bad := slices.Clone(suns)
			bad[month].Height[month] = 65
			if got := codes(bad); got != "0 1 1 1" {
				t.Errorf("%d months, one of them is bad: %s", many, got)
			}
		}
	}
}
