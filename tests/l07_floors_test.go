package tests

import (
	"math"
	"math/rand"
	"testing"

	"loop.example/g01367/impl"
)

// heightsOfFloors are those of the edge cases, and some others.
func heightsOfFloors() []int64 { return []int64{1, 2, 3, 20, 32, 45, 62, 63, 64} }

func TestFloorOf(t *testing.T) {
	source := rand.New(rand.NewSource(44))
	for _, b := range floorBlinds() {
		for _, height := range heightsOfFloors() {
			for _, broken := range someSets(b, source) {
				want := modelFloor(b, height, broken)
				got, code := impl.FloorOf(b, height, broken)
				if code != impl.OK || !impl.SameFloor(got, want) || got != want {
					t.Fatalf("%v at %d, broken %b: got %v and %d, want %v", b, height, broken, got, code, want)
				}
			}
		}
	}
}

// Each bit is that of a single slat; those of slats that are not there, or not looked at, are out of range.
func TestBitsOfBrokenSlats(t *testing.T) {
	for slats := int8(1); slats <= 60; slats++ {
		b := impl.Blind{Slats: slats, Wide: 2, Gap: 2}
		for bit := range 32 {
			f, code := impl.FloorOf(b, 32, 1<<bit)
			if bit >= int(slats) || bit >= 24 {
				if code != impl.ErrRange || f != (impl.Floor{}) {
					t.Errorf("the bit %d of %d slats: %v and %d", bit, slats, f, code)
				}
				continue
			}
			want := impl.Floor{}
			want[bit] = 1
			broken, brokenCode := impl.BrokenFrom(b, 32, want)
			if f != want || broken != 1<<bit || code != impl.OK || brokenCode != impl.OK {
				t.Errorf("the bit %d of %d slats: %v, broken %b, codes %d and %d", bit, slats, f, broken, code, brokenCode)
			}
		}
		for _, broken := range []uint32{1<<32 - 1, 1 << 24, 1<<24 | 1, 1 << 31, allSlats(b) + 1} {
			if f, code := impl.FloorOf(b, 32, broken); code != impl.ErrRange || f != (impl.Floor{}) {
				t.Errorf("%b of %d slats: %v and %d", broken, slats, f, code)
			}
		}
	}
}

// A broken slat is tilted by 32 less, but not by more than can be; its light is that of a blind that is tilted so.
func TestBrokenSlatsHangDown(t *testing.T) {
	for tilt := int64(-64); tilt <= 64; tilt++ {
		b := impl.Blind{Slats: 2, Wide: 1.5, Gap: 2.5, Tilt: int16(tilt)}
		hanging, c1 := impl.TiltTo(b, max(tilt-32, -64))
		for height := int64(1); height <= 64; height++ {
			whole, c2 := impl.OpenFor(b, height)
			broken, c3 := impl.OpenFor(hanging, height)
			f, c4 := impl.FloorOf(b, height, 2)
			wantOK(t, "floor", c1, c2, c3, c4)
			if f != (impl.Floor{whole, broken}) {
				t.Errorf("%v at %d: %v, want %v and %v", b, height, f, whole, broken)
			}
		}
	}
}

func TestBrokenFrom(t *testing.T) {
	source := rand.New(rand.NewSource(45))
	same, other := 0, 0
	for _, b := range floorBlinds() {
		for _, height := range heightsOfFloors() {
			for _, broken := range someSets(b, source) {
				f := modelFloor(b, height, broken)
				want, isOne := modelBroken(b, height, f)
				got, code := impl.BrokenFrom(b, height, f)
				if !isOne || got != want || code != impl.OK {
					t.Fatalf("%v at %d, broken %b: got %b and %d, want %b", b, height, broken, got, code, want)
				}
				if want == 0 && broken != 0 {
					same++
				} else if want != 0 {
					other++
				}
			}
		}
	}
	if same == 0 || other == 0 {
		t.Errorf("broken slats give the same light %d times, another one %d times", same, other)
	}
}

// Broken and whole slats give the same light if all is shut, or if a tilt is not to be less.
func TestBrokenSlatsWithTheSameLight(t *testing.T) {
	for _, c := range []struct {
		name   string
		b      impl.Blind
		height int64
	}{
		{"from straight above", exampleSlats(), 64},
		{"the least tilt", impl.Blind{Slats: 3, Wide: 1, Gap: 2, Tilt: -64}, 20},
		{"both are shut", impl.Blind{Slats: 3, Wide: 64, Gap: 1, Tilt: 10}, 63},
		{"as much to both sides", impl.Blind{Slats: 60, Wide: 1, Gap: 2, Tilt: -4}, 20},
	} {
		for _, broken := range []uint32{0, 1, 2, 4, 7} {
			f, c1 := impl.FloorOf(c.b, c.height, broken)
			whole, c2 := impl.FloorOf(c.b, c.height, 0)
			told, c3 := impl.BrokenFrom(c.b, c.height, f)
			wantOK(t, c.name, c1, c2, c3)
			if f != whole || told != 0 {
				t.Errorf("%s: %v and %v, %b is told to be broken", c.name, f, whole, told)
			}
		}
	}
}

// A stripe with another light than both, be it next to one of them, -0 or NaN, makes a floor that cannot be seen.
func TestOtherStripes(t *testing.T) {
	source := rand.New(rand.NewSource(46))
	codes := map[int64]int{}
	for n, b := range floorBlinds() {
		for _, height := range heightsOfFloors() {
			seen := modelFloor(b, height, source.Uint32()&allSlats(b))
			for _, stripe := range []int{0, n % 24, int(min(b.Slats, 24)) - 1, min(int(b.Slats), 23), 23} {
				light := seen[stripe]
				for _, other := range []float32{
					0, minus0, tiniest, 1, below(1), 0.5, above(light), below(light), 0 - light, nan, math.Float32frombits(0xffc00001), infinite, -infinite,
				} {
					f := seen
					f[stripe] = other
					want, isOne := modelBroken(b, height, f)
					wantCode := int64(impl.ErrState)
					if isOne {
						wantCode = impl.OK
					}
					got, code := impl.BrokenFrom(b, height, f)
					if got != want || code != wantCode {
						t.Fatalf("%v at %d, %v: got %b and %d, want %b and %d", b, height, f, got, code, want, wantCode)
					}
					codes[code]++
				}
			}
		}
	}
	if codes[impl.OK] == 0 || codes[impl.ErrState] == 0 || len(codes) != 2 {
		t.Errorf("codes %v", codes)
	}
	for _, f := range []impl.Floor{{minus0}, {0, minus0}, {2: minus0}, {3: minus0}, {23: minus0}, {3: 1}, {23: 1}, {nan}, {3: nan}, {1, 1, 1, 1}, {0.5}} {
		if broken, code := impl.BrokenFrom(exampleSlats(), 32, f); broken != 0 || code != impl.ErrState {
			t.Errorf("%v: %b and %d", f, broken, code)
		}
	}
}

func TestSameFloor(t *testing.T) {
	numbers := []float32{0, minus0, tiniest, 0.5, 1, above(1), -1, nan, infinite, -infinite}
	for _, a := range numbers {
		for _, b := range numbers {
			for stripe := range 24 {
				one, two := impl.Floor{5: 0.25}, impl.Floor{5: 0.25}
				one[stripe], two[stripe] = a, b
				if impl.SameFloor(one, two) != identical(a, b) {
					t.Errorf("SameFloor of %v and %v is %v", one, two, !identical(a, b))
				}
			}
		}
	}
	odd := impl.Floor{3: math.Float32frombits(0xffc00001), 4: math.Float32frombits(0x7f800001)}
	if !impl.SameFloor(odd, impl.Floor{3: nan, 4: nan}) {
		t.Error("two NaN are the same")
	}
}

func TestDarkStripes(t *testing.T) {
	floors := []impl.Floor{{}, {1: 1}, {0: 1, 23: 1}, {nan, infinite, -infinite, -1, minus0, tiniest, -tiniest, 0.5, below(0.5), above(0.5), 1, below(1), above(1)}}
	source := rand.New(rand.NewSource(47))
	for range 50 {
		f := impl.Floor{}
		for stripe := range f {
			f[stripe] = source.Float32()
		}
		floors = append(floors, f)
	}
	for _, f := range floors {
		for _, bound := range []float32{0, minus0, tiniest, 0.25, below(0.5), 0.5, above(0.5), below(1), 1, f[0], f[23]} {
			want, worth := uint32(0), uint32(1)
			for _, light := range f {
				if bound > light {
					want += worth
				}
				worth *= 2
			}
			wantCode := int64(impl.OK)
			if !(bound >= 0 && bound <= 1) {
				want, wantCode = 0, impl.ErrRange
			}
			if dark, code := impl.DarkStripes(f, bound); dark != want || code != wantCode {
				t.Errorf("%v below %v: got %b and %d, want %b and %d", f, bound, dark, code, want, wantCode)
			}
		}
	}
	for _, c := range []struct {
		bound float32
		want  uint32
	}{{0, 0}, {minus0, 0}, {tiniest, 0xfffffd}, {1, 0xfffffd}, {0.5, 0xfffffd}} {
		if dark, code := impl.DarkStripes(impl.Floor{1: 1}, c.bound); dark != c.want || code != impl.OK {
			t.Errorf("below %v: %b and %d, want %b", c.bound, dark, code, c.want)
		}
	}
}
