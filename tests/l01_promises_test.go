package tests

import (
	"math"
	"slices"
	"strconv"
	"strings"
	"testing"

	"loop.example/g01367/impl"
)

// sunCall is a call of a function of chapter 1 that has an error code; its answer is a text, so that answers can be compared.
type sunCall struct {
	name  string
	needs string // which of the other arguments it has: h(our), f(acing), l(east), and n (hours)
	run   func(s impl.Sun, hour, facing int64, least float32) (string, int64)
	zero  string
}

func numberAnswer(light float32, code int64) (string, int64) { return impl.NumberText(light), code }

func sunAnswer(s impl.Sun, code int64) (string, int64) { return impl.SunText(s), code }

func sunCalls() []sunCall {
	none := impl.NumberText(0)
	dark := impl.SunText(impl.Sun{})
	return []sunCall{
		{"IsUp", "h", func(s impl.Sun, hour, facing int64, least float32) (string, int64) {
			up, code := impl.IsUp(s, hour)
			return strconv.FormatBool(up), code
		}, "false"},
		{"GroundLight", "h", func(s impl.Sun, hour, facing int64, least float32) (string, int64) {
			return numberAnswer(impl.GroundLight(s, hour))
		}, none},
		{"FallOn", "hf", func(s impl.Sun, hour, facing int64, least float32) (string, int64) {
			return numberAnswer(impl.FallOn(s, hour, facing))
		}, none},
		{"GroundDay", "", func(s impl.Sun, hour, facing int64, least float32) (string, int64) {
			return numberAnswer(impl.GroundDay(s))
		}, none},
		{"FallDay", "f", func(s impl.Sun, hour, facing int64, least float32) (string, int64) {
			return numberAnswer(impl.FallDay(s, facing))
		}, none},
		{"BestHour", "f", func(s impl.Sun, hour, facing int64, least float32) (string, int64) {
			best, light, code := impl.BestHour(s, facing)
			return strconv.FormatInt(best, 10) + " " + impl.NumberText(light), code
		}, "0 " + none},
		{"BestFacing", "", func(s impl.Sun, hour, facing int64, least float32) (string, int64) {
			best, light, code := impl.BestFacing(s)
			return strconv.FormatInt(best, 10) + " " + impl.NumberText(light), code
		}, "0 " + none},
		{"SunHours", "fl", func(s impl.Sun, hour, facing int64, least float32) (string, int64) {
			hours, code := impl.SunHours(s, facing, least)
			var parts []string
			for _, hour := range hours {
				parts = append(parts, strconv.FormatInt(hour, 10))
			}
			return strings.Join(parts, " "), code
		}, ""},
		{"MirrorSun", "", func(s impl.Sun, hour, facing int64, least float32) (string, int64) {
			return sunAnswer(impl.MirrorSun(s))
		}, dark},
		{"LaterSun", "h", func(s impl.Sun, hour, facing int64, least float32) (string, int64) {
			return sunAnswer(impl.LaterSun(s, hour))
		}, dark},
	}
}

// P1: an error comes in its order, and all other results are zero values then.
func TestP1ErrorsOfSuns(t *testing.T) {
	hours := []int64{0, 12, 23, -1, 24, 255, 256, math.MinInt64, math.MaxInt64}
	facings := []int64{0, 128, 255, -1, 256, 512, math.MinInt64, math.MaxInt64}
	leasts := []float32{0, minus0, 0.5, 1, -math.Float32frombits(1), math.Nextafter32(1, 2), infinite, -infinite, nan}
	suns := append(badSuns(), southSun(), evenSun(64, 255), evenSun(-64, 0))
	for _, call := range sunCalls() {
		for i, s := range suns {
			for _, hour := range hours {
				for _, facing := range facings {
					for _, least := range leasts {
						want := int64(impl.OK)
						if i < len(badSuns()) {
							want = impl.ErrInvalid
						} else if strings.Contains(call.needs, "h") && (hour < 0 || hour > 23) ||
							strings.Contains(call.needs, "f") && (facing < 0 || facing > 255) ||
							strings.Contains(call.needs, "l") && !(least >= 0 && least <= 1) {
							want = impl.ErrRange
						}
						answer, code := call.run(s, hour, facing, least)
						if code != want || code != impl.OK && answer != call.zero {
							t.Fatalf("%s, sun %d, hour %d, facing %d, least %v: got %q and %d, want %d", call.name, i, hour, facing, least, answer, code, want)
						}
					}
				}
			}
		}
	}
}

// P1: equal arguments give equal results, and what is returned is not shared with later results.
func TestP1EqualResultsOfSuns(t *testing.T) {
	for i, s := range someSuns() {
		copied := s
		for _, call := range sunCalls() {
			first, firstCode := call.run(s, 12, 100, 0.25)
			second, secondCode := call.run(copied, 12, 100, 0.25)
			if first != second || firstCode != secondCode {
				t.Errorf("%s of sun %d: %q and %d, then %q and %d", call.name, i, first, firstCode, second, secondCode)
			}
		}
	}
	kept, _ := impl.SunHours(arcSun(), 128, 0.25)
	want := slices.Clone(kept)
	other, _ := impl.SunHours(arcSun(), 128, 0.25)
	if len(want) < 2 {
		t.Fatalf("only %v", want)
	}
	for i := range other {
		other[i] = -1
	}
	if again, _ := impl.SunHours(arcSun(), 128, 0.25); !slices.Equal(kept, want) || !slices.Equal(again, want) {
		t.Errorf("%v became %v, and %v", want, kept, again)
	}
}

// P2: sines become no less from 0 to 64, and are never greater than 1.
func TestP2SinesRise(t *testing.T) {
	for n := int64(1); n <= 64; n++ {
		if impl.SineOf(n) < impl.SineOf(n-1) {
			t.Errorf("the sine of %d is %v, that of %d %v", n, impl.SineOf(n), n-1, impl.SineOf(n-1))
		}
	}
	if impl.SineOf(1) <= 0 || impl.SineOf(64) != 1 {
		t.Errorf("from %v to %v", impl.SineOf(1), impl.SineOf(64))
	}
	for n := int64(-300); n <= 600; n++ {
		if sine := impl.SineOf(n); !(sine >= -1 && sine <= 1) {
			t.Errorf("the sine of %d is %v", n, sine)
		}
	}
}

// P2: half a turn changes the sign; there is no -0.
func TestP2HalfATurn(t *testing.T) {
	for n := int64(-600); n <= 600; n++ {
		name := "half a turn from " + strconv.FormatInt(n, 10)
		wantNumber(t, name, impl.SineOf(n+128), 0-impl.SineOf(n))
		wantNumber(t, name+" (cosine)", impl.CosineOf(n+128), 0-impl.CosineOf(n))
		wantNumber(t, name+" (back)", impl.SineOf(n-128), 0-impl.SineOf(n))
	}
}

// P3: light is never less than 0, nor -0, nor greater than 1.
func TestP3LightIsNeverLess(t *testing.T) {
	check := func(name string, light, most float32) {
		if !(light >= 0 && light <= most) || math.Signbit(float64(light)) {
			t.Errorf("%s: %v", name, light)
		}
	}
	suns := someSuns()
	for height := int16(-64); height <= 64; height++ {
		suns = append(suns, evenSun(height, 64), evenSun(height, 191))
	}
	for i, s := range suns {
		name := "sun " + strconv.Itoa(i)
		day, _ := impl.GroundDay(s)
		check(name+", ground of the day", day, 24)
		for hour := range int64(24) {
			light, _ := impl.GroundLight(s, hour)
			check(name+", ground", light, 1)
			for facing := int64(0); facing < 256; facing += 5 {
				light, _ = impl.FallOn(s, hour, facing)
				check(name+", window", light, 1)
			}
		}
		for facing := int64(0); facing < 256; facing += 5 {
			day, _ = impl.FallDay(s, facing)
			check(name+", window of the day", day, 24)
		}
	}
}

// P3: a sun that is mirrored gives the light of the mirrored hour, on the window that is mirrored as well.
func TestP3MirroredSuns(t *testing.T) {
	for i, s := range someSuns() {
		mirror, _ := impl.MirrorSun(s)
		for hour := range int64(24) {
			name := "sun " + strconv.Itoa(i) + ", hour " + strconv.FormatInt(hour, 10)
			got, code := impl.GroundLight(mirror, hour)
			want, _ := impl.GroundLight(s, 23-hour)
			wantNumber(t, name, got, want)
			if code != impl.OK {
				t.Fatalf("%s: code %d", name, code)
			}
			for facing := range int64(256) {
				got, code = impl.FallOn(mirror, hour, rest(-facing))
				want, _ = impl.FallOn(s, 23-hour, facing)
				if !identical(got, want) || code != impl.OK {
					t.Fatalf("%s, facing %d: got %v and %d, want %v", name, facing, got, code, want)
				}
			}
		}
	}
}
