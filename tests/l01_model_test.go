package tests

import (
	"math"
	"math/big"
	"math/rand"
	"testing"

	"loop.example/g01367/impl"
)

// The model of chapter 1 makes each sum and product exactly first and rounds it then, so that it shares no
// arithmetic with the program.

var (
	nan      = float32(math.NaN())
	infinite = float32(math.Inf(1))
	minus0   = float32(math.Copysign(0, -1))
)

// identical compares as the document does: 0 and -0 differ, all NaN are alike.
func identical(a, b float32) bool {
	if a != a || b != b {
		return a != a && b != b
	}
	return math.Float32bits(a) == math.Float32bits(b)
}

func wantNumber(t *testing.T, name string, got, want float32) {
	t.Helper()
	if !identical(got, want) {
		t.Errorf("%s: got %v (%08x), want %v (%08x)", name, got, math.Float32bits(got), want, math.Float32bits(want))
	}
}

// narrow is a number of 24 bits, which math/big rounds to the nearest one, ties to even, as float32 does.
func narrow(x float64) *big.Float { return new(big.Float).SetPrec(24).SetFloat64(x) }

func times(x, y *big.Float) *big.Float { return new(big.Float).SetPrec(24).Mul(x, y) }

func less(x, y *big.Float) *big.Float { return new(big.Float).SetPrec(24).Sub(x, y) }

func rest(n int64) int64 {
	n %= 256
	if n < 0 {
		n += 256
	}
	return n
}

func modelSine(n int64) float32 {
	n = rest(n)
	switch {
	case n > 192:
		return 0 - modelSine(256-n)
	case n > 128:
		return 0 - modelSine(n-128)
	case n > 64:
		return modelSine(128 - n)
	}
	x := narrow(float64(n) / 64)
	y := times(x, x)
	p := less(narrow(0.642578125), times(y, narrow(0.072265625)))
	q := less(narrow(1.5703125), times(y, p))
	sine, _ := times(x, q).Float32()
	return sine
}

func modelCosine(n int64) float32 { return modelSine(rest(n) + 64) }

func modelGround(s impl.Sun, hour int) float32 {
	if s.Height[hour] <= 0 {
		return 0
	}
	return modelSine(int64(s.Height[hour]))
}

func modelFall(s impl.Sun, hour int, facing int64) float32 {
	if s.Height[hour] <= 0 {
		return 0
	}
	high := modelCosine(int64(s.Height[hour]))
	side := modelCosine(int64(s.Turns[hour]) - facing)
	light := float32(float64(high) * float64(side))
	if light > 0 {
		return light
	}
	return 0
}

// modelSum adds from the first number on; a sum of two narrow numbers that is rounded from a wide one is rounded once.
func modelSum(list []float32) float32 {
	sum := float32(0)
	for _, x := range list {
		sum = float32(float64(sum) + float64(x))
	}
	return sum
}

func modelFalls(s impl.Sun, facing int64) []float32 {
	var list []float32
	for hour := range 24 {
		list = append(list, modelFall(s, hour, facing))
	}
	return list
}

func modelGrounds(s impl.Sun) []float32 {
	var list []float32
	for hour := range 24 {
		list = append(list, modelGround(s, hour))
	}
	return list
}

// firstGreatest returns the first index of the greatest number, and this.
func firstGreatest(list []float32) (int64, float32) {
	best := 0
	for i, x := range list {
		if x > list[best] {
			best = i
		}
	}
	return int64(best), list[best]
}

// southSun is the sun of the document's example.
func southSun() impl.Sun {
	s := impl.Sun{}
	s.Height[12], s.Turns[12] = 32, 128
	return s
}

// evenSun stands at one place all day.
func evenSun(height, turn int16) impl.Sun {
	s := impl.Sun{}
	for hour := range 24 {
		s.Height[hour], s.Turns[hour] = height, turn
	}
	return s
}

// arcSun rises in the east and sets in the west.
func arcSun() impl.Sun {
	s := impl.Sun{}
	for hour := range 24 {
		s.Height[hour] = int16(50 - 9*max(hour-12, 12-hour))
		s.Turns[hour] = int16(128 + 10*(hour-12))
	}
	return s
}

// someSuns are the suns of the edge cases, and some that stand anywhere.
func someSuns() []impl.Sun {
	list := []impl.Sun{{}, southSun(), arcSun()}
	for _, height := range []int16{-64, 0, 1, 32, 63, 64} {
		for _, turn := range []int16{0, 64, 128, 192, 255} {
			list = append(list, evenSun(height, turn))
		}
	}
	for _, hour := range []int{0, 23} {
		s := impl.Sun{}
		s.Height[hour], s.Turns[hour] = 1, 255
		list = append(list, s)
	}
	// A weak light that just reaches the window with the most light of the day.
	for _, turn := range []int16{100 - 63, 100 + 63} {
		s := evenSun(1, 100)
		s.Height[7], s.Turns[7] = 63, turn
		list = append(list, s)
	}
	source := rand.New(rand.NewSource(1))
	for range 40 {
		s := impl.Sun{}
		for hour := range 24 {
			s.Height[hour] = int16(source.Intn(129) - 64)
			s.Turns[hour] = int16(source.Intn(256))
		}
		list = append(list, s)
	}
	return list
}

// badSuns are not valid, each by a single number.
func badSuns() []impl.Sun {
	var list []impl.Sun
	for _, hour := range []int{0, 12, 23} {
		for _, height := range []int16{-32768, -65, 65, 32767} {
			s := arcSun()
			s.Height[hour] = height
			list = append(list, s)
		}
		for _, turn := range []int16{-32768, -1, 256, 32767} {
			s := arcSun()
			s.Turns[hour] = turn
			list = append(list, s)
		}
	}
	return list
}
