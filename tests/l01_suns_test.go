package tests

import (
	"math"
	"slices"
	"strconv"
	"testing"

	"loop.example/g01367/impl"
)

func TestExampleOfSuns(t *testing.T) {
	wantNumber(t, "SineOf 64", impl.SineOf(64), 1)
	wantNumber(t, "SineOf 0", impl.SineOf(0), 0)
	wantNumber(t, "SineOf 32", impl.SineOf(32), 0.5*1.4141845703125)
	wantNumber(t, "CosineOf 192", impl.CosineOf(192), 0)
	s := southSun()
	ground, groundCode := impl.GroundLight(s, 12)
	south, southCode := impl.FallOn(s, 12, 128)
	east, eastCode := impl.FallOn(s, 12, 96)
	wantNumber(t, "ground", ground, 0.7070923)
	wantNumber(t, "south", south, 0.7070923)
	wantNumber(t, "96", east, 0.4999795)
	if groundCode != impl.OK || southCode != impl.OK || eastCode != impl.OK {
		t.Errorf("codes %d %d %d", groundCode, southCode, eastCode)
	}
}

func TestCodeNames(t *testing.T) {
	codes := []int64{impl.OK, impl.ErrInvalid, impl.ErrRange, impl.ErrLimit, impl.ErrState, impl.ErrSyntax, impl.ErrNotFound, impl.ErrBudget, impl.ErrProof}
	names := []string{"ok", "invalid", "range", "limit", "state", "syntax", "notfound", "budget", "proof"}
	for i, code := range codes {
		if code != int64(i) || impl.CodeName(code) != names[i] {
			t.Errorf("code %d is %q, want %d and %q", code, impl.CodeName(code), i, names[i])
		}
	}
	for _, code := range []int64{-1, 9, 256, 1 << 32, math.MinInt64, math.MaxInt64} {
		if name := impl.CodeName(code); name != "" {
			t.Errorf("code %d is %q", code, name)
		}
	}
	if impl.MaxSize != 1048576 || impl.Turn != 256 || impl.Hours != 24 {
		t.Error("a limit has another value")
	}
}

func TestSameNumber(t *testing.T) {
	otherNaN := math.Float32frombits(0xffc00001)
	tiny := math.Float32frombits(1)
	list := []float32{0, minus0, 1, -1, math.Nextafter32(1, 2), tiny, -tiny, infinite, -infinite, nan}
	for i, a := range list {
		for j, b := range list {
			if impl.SameNumber(a, b) != (i == j) {
				t.Errorf("SameNumber(%v, %v) is %v", a, b, i != j)
			}
		}
	}
	if !impl.SameNumber(nan, otherNaN) || !impl.SameNumber(otherNaN, nan) {
		t.Error("two NaN are the same")
	}
}

func TestPlainAndParts(t *testing.T) {
	for _, c := range []struct {
		number      float32
		plain, part bool
	}{
		{0, true, true}, {minus0, true, true}, {1, true, true}, {0.5, true, true},
		{math.Float32frombits(1), true, true}, {-math.Float32frombits(1), true, false},
		{math.Nextafter32(1, 2), true, false}, {-1, true, false},
		{impl.MaxSize, true, false}, {-impl.MaxSize, true, false},
		{math.Nextafter32(impl.MaxSize, infinite), false, false},
		{math.Nextafter32(-impl.MaxSize, -infinite), false, false},
		{infinite, false, false}, {-infinite, false, false}, {nan, false, false},
	} {
		if impl.IsPlain(c.number) != c.plain || impl.IsPart(c.number) != c.part {
			t.Errorf("%v: plain %v, part %v", c.number, impl.IsPlain(c.number), impl.IsPart(c.number))
		}
	}
}

func TestSinesAreAsToldForAllAngles(t *testing.T) {
	angles := []int64{math.MinInt64, math.MinInt64 + 1, math.MaxInt64, math.MaxInt64 - 1, math.MaxInt64 - 63, 1 << 40, -(1 << 40) - 5}
	for n := int64(-1030); n <= 1030; n++ {
		angles = append(angles, n)
	}
	for _, n := range angles {
		wantNumber(t, "SineOf "+strconv.FormatInt(n, 10), impl.SineOf(n), modelSine(n))
		wantNumber(t, "CosineOf "+strconv.FormatInt(n, 10), impl.CosineOf(n), modelCosine(n))
	}
	for n, want := range map[int64]float32{0: 0, 128: 0, 256: 0, -128: 0, 64: 1, 192: -1, -64: -1, 320: 1} {
		wantNumber(t, "SineOf "+strconv.FormatInt(n, 10), impl.SineOf(n), want)
	}
}

func TestLightIsAsTold(t *testing.T) {
	orderMatters := false
	for i, s := range someSuns() {
		name := "sun " + strconv.Itoa(i)
		for hour := range 24 {
			up, upCode := impl.IsUp(s, int64(hour))
			if up != (s.Height[hour] > 0) || upCode != impl.OK {
				t.Errorf("%s, hour %d: up %v, code %d", name, hour, up, upCode)
			}
			light, code := impl.GroundLight(s, int64(hour))
			wantNumber(t, name+", ground", light, modelGround(s, hour))
			if code != impl.OK {
				t.Errorf("%s: code %d", name, code)
			}
		}
		ground, code := impl.GroundDay(s)
		list := modelGrounds(s)
		wantNumber(t, name+", ground of the day", ground, modelSum(list))
		if code != impl.OK {
			t.Errorf("%s: code %d", name, code)
		}
		slices.Reverse(list)
		orderMatters = orderMatters || modelSum(list) != ground
	}
	if !orderMatters {
		t.Error("no sun tells the order of the hours")
	}
}

func TestLightOnWindowsIsAsTold(t *testing.T) {
	orderMatters := false
	for i, s := range someSuns() {
		name := "sun " + strconv.Itoa(i)
		var days []float32
		for facing := range int64(256) {
			falls := modelFalls(s, facing)
			for hour, want := range falls {
				light, code := impl.FallOn(s, int64(hour), facing)
				if code != impl.OK || !identical(light, want) {
					t.Fatalf("%s, hour %d, facing %d: got %v and %d, want %v", name, hour, facing, light, code, want)
				}
			}
			days = append(days, modelSum(falls))
			day, code := impl.FallDay(s, facing)
			if code != impl.OK || !identical(day, days[facing]) {
				t.Fatalf("%s, facing %d: got %v and %d, want %v", name, facing, day, code, days[facing])
			}
			checkBestHour(t, s, facing, falls)
			slices.Reverse(falls)
			orderMatters = orderMatters || modelSum(falls) != day
		}
		wantFacing, wantMost := firstGreatest(days)
		facing, most, code := impl.BestFacing(s)
		if facing != wantFacing || !identical(most, wantMost) || code != impl.OK {
			t.Errorf("%s: best facing %d with %v and %d, want %d with %v", name, facing, most, code, wantFacing, wantMost)
		}
	}
	if !orderMatters {
		t.Error("no sun tells the order of the hours")
	}
}

func checkBestHour(t *testing.T, s impl.Sun, facing int64, falls []float32) {
	t.Helper()
	wantHour, wantLight := firstGreatest(falls)
	hour, light, code := impl.BestHour(s, facing)
	if hour != wantHour || !identical(light, wantLight) || code != impl.OK {
		t.Errorf("facing %d: best hour %d with %v and %d, want %d with %v", facing, hour, light, code, wantHour, wantLight)
	}
}

func TestTheFirstOfSeveralIsBest(t *testing.T) {
	s := impl.Sun{}
	for _, hour := range []int{5, 9, 17} {
		s.Height[hour], s.Turns[hour] = 20, 200
	}
	if hour, _, _ := impl.BestHour(s, 210); hour != 5 {
		t.Errorf("best hour %d, want 5", hour)
	}
	if hour, light, _ := impl.BestHour(s, 72); hour != 0 || !identical(light, 0) {
		t.Errorf("best hour %d with %v, want 0 with 0", hour, light)
	}
	both := impl.Sun{}
	both.Height[3], both.Turns[3] = 10, 30
	both.Height[4], both.Turns[4] = 10, 230
	if facing, _, _ := impl.BestFacing(both); facing != 2 {
		t.Errorf("best facing %d, want 2 (in the middle between both)", facing)
	}
	for _, s := range []impl.Sun{{}, evenSun(-64, 7), evenSun(64, 7)} {
		if facing, most, code := impl.BestFacing(s); facing != 0 || !identical(most, 0) || code != impl.OK {
			t.Errorf("best facing %d with %v and %d, want 0 with 0", facing, most, code)
		}
	}
}

func TestSunHours(t *testing.T) {
	for i, s := range someSuns() {
		for _, facing := range []int64{0, 1, 64, 128, 255} {
			falls := modelFalls(s, facing)
			for _, least := range append([]float32{0, minus0, 0.25, 0.5, 1, math.Float32frombits(1)}, falls...) {
				var want []int64
				for hour, light := range falls {
					if light >= least {
						want = append(want, int64(hour))
					}
				}
				got, code := impl.SunHours(s, facing, least)
				if !slices.Equal(got, want) || code != impl.OK {
					t.Errorf("sun %d, facing %d, least %v: got %v and %d, want %v", i, facing, least, got, code, want)
				}
			}
		}
	}
	if all, _ := impl.SunHours(impl.Sun{}, 0, minus0); len(all) != 24 {
		t.Errorf("with at least -0 there are %d hours, want 24", len(all))
	}
}

func TestMirrorAndLater(t *testing.T) {
	for i, s := range someSuns() {
		mirror, code := impl.MirrorSun(s)
		for hour := range 24 {
			if code != impl.OK || mirror.Height[hour] != s.Height[23-hour] || int64(mirror.Turns[hour]) != rest(-int64(s.Turns[23-hour])) {
				t.Fatalf("sun %d is mirrored to %v with %d", i, mirror, code)
			}
		}
		if twice, _ := impl.MirrorSun(mirror); twice != s {
			t.Errorf("sun %d, mirrored twice: %v", i, twice)
		}
		for hours := range 24 {
			later, code := impl.LaterSun(s, int64(hours))
			for hour := range 24 {
				from := (hour + 24 - hours) % 24
				if code != impl.OK || later.Height[hour] != s.Height[from] || later.Turns[hour] != s.Turns[from] {
					t.Fatalf("sun %d, later by %d: %v with %d", i, hours, later, code)
				}
			}
		}
	}
}

func TestValidAndSameSuns(t *testing.T) {
	good := someSuns()
	for i, s := range good {
		if !impl.ValidSun(s) {
			t.Errorf("sun %d is not valid", i)
		}
	}
	all := append([]impl.Sun{}, badSuns()...)
	for i, s := range all {
		if impl.ValidSun(s) {
			t.Errorf("bad sun %d is valid", i)
		}
	}
	all = append(all, good[:20]...)
	for i, a := range all {
		for j, b := range all {
			want := slices.Equal(a.Height[:], b.Height[:]) && slices.Equal(a.Turns[:], b.Turns[:])
			if impl.SameSun(a, b) != want {
				t.Errorf("SameSun of %d and %d is %v", i, j, !want)
			}
		}
	}
}
