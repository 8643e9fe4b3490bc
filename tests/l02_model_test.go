package tests

import (
	"math"
	"math/rand"

	"loop.example/g01367/impl"
)

// The model of chapter 2 makes each product and quotient as a wide number and rounds it then. The wide product of two
// narrow numbers is exact, and wide sums and quotients of them have bits enough to be rounded a second time.

func mul(a, b float32) float32 { return float32(float64(a) * float64(b)) }

func div(a, b float32) float32 { return float32(float64(a) / float64(b)) }

func add(a, b float32) float32 { return float32(float64(a) + float64(b)) }

func sub(a, b float32) float32 { return float32(float64(a) - float64(b)) }

// apartOf is the size of a difference.
func apartOf(a, b float32) float32 { return float32(math.Abs(float64(sub(a, b)))) }

// below and above are the neighbours of a number.
func below(a float32) float32 { return math.Nextafter32(a, -infinite) }

func above(a float32) float32 { return math.Nextafter32(a, infinite) }

var tiniest = math.Float32frombits(1)

// sines are those of the model of chapter 1, each of them made once.
var sines = func() [256]float32 {
	var list [256]float32
	for n := range list {
		list[n] = modelSine(int64(n))
	}
	return list
}()

func modelBlocked(b impl.Blind, height int64) float32 {
	if height == 64 {
		return 1
	}
	s := float32(math.Abs(float64(sines[rest(height+int64(b.Tilt))])))
	part := div(mul(b.Wide, s), mul(b.Gap, sines[height+64]))
	if part > 1 {
		return 1
	}
	return part
}

func modelOpen(b impl.Blind, height int64) float32 { return sub(1, modelBlocked(b, height)) }

func modelPass(b impl.Blind, height int64) float32 {
	bounced := mul(mul(modelBlocked(b, height), b.Shine), modelOpen(b, 1))
	return add(modelOpen(b, height), div(bounced, 2))
}

func modelTilted(b impl.Blind, tilt int64) impl.Blind {
	return impl.Blind{Slats: b.Slats, Wide: b.Wide, Gap: b.Gap, Tilt: int16(tilt), Shine: b.Shine}
}

// modelTilts returns the tilts with which what passes, or what is open, is told to be right.
func modelTilts(b impl.Blind, right func(b impl.Blind) bool) []int64 {
	var list []int64
	for tilt := int64(-64); tilt <= 64; tilt++ {
		if right(modelTilted(b, tilt)) {
			list = append(list, tilt)
		}
	}
	return list
}

// firstNearest returns the first index of the number that is nearest to wanted.
func firstNearest(list []float32, wanted float32) int {
	best := 0
	for i, x := range list {
		if apartOf(x, wanted) < apartOf(list[best], wanted) {
			best = i
		}
	}
	return best
}

// modelGap halves so many times, and reports whether there is a gap at all.
func modelGap(b impl.Blind, height int64, wanted float32, times int) (float32, bool) {
	low, high := float32(0.0625), float32(64)
	b.Gap = high
	if modelOpen(b, height) < wanted {
		return 0, false
	}
	for range times {
		b.Gap = div(add(low, high), 2)
		if modelOpen(b, height) < wanted {
			low = b.Gap
		} else {
			high = b.Gap
		}
	}
	return high, true
}

func modelWindows(b impl.Blind, s impl.Sun, facing int64) []float32 {
	list := make([]float32, 24)
	for hour := range list {
		if s.Height[hour] > 0 {
			list[hour] = mul(modelFall(s, hour, facing), modelPass(b, int64(s.Height[hour])))
		}
	}
	return list
}

func modelPlaces(c impl.Cord, load float32) []float32 {
	long := mul(c.Length, add(1, mul(load, c.Stretch)))
	var list []float32
	for stop := float32(0); stop <= float32(c.Stops); stop++ {
		list = append(list, div(mul(long, stop), float32(c.Stops)))
	}
	return list
}

// tenSlats is the blind of the document's example.
func tenSlats() impl.Blind { return impl.Blind{Slats: 10, Wide: 2, Gap: 2, Shine: 0.5} }

// someBlinds are the blinds of the edge cases, and some with any numbers.
func someBlinds() []impl.Blind {
	var list []impl.Blind
	for _, wide := range []float32{0.0625, above(0.0625), 2, below(64), 64} {
		for _, gap := range []float32{0.0625, above(0.0625), 2, below(64), 64} {
			for i, tilt := range []int16{-64, -32, 0, 63, 64} {
				shine := []float32{0, minus0, 1, 0.5, below(1)}[i]
				list = append(list, impl.Blind{Slats: 1, Wide: wide, Gap: gap, Tilt: tilt, Shine: shine})
			}
		}
	}
	for _, shine := range []float32{0, minus0, tiniest, 0.5, below(1), 1} {
		list = append(list, impl.Blind{Slats: 60, Wide: 1.5, Gap: 1.25, Tilt: -1, Shine: shine})
	}
	source := rand.New(rand.NewSource(2))
	for range 60 {
		list = append(list, impl.Blind{
			Slats: int8(1 + source.Intn(60)),
			Wide:  float32(math.Exp2(source.Float64()*10 - 4)),
			Gap:   float32(math.Exp2(source.Float64()*10 - 4)),
			Tilt:  int16(source.Intn(129) - 64),
			Shine: source.Float32(),
		})
	}
	return list
}

// badBlinds are not valid, each by a single number.
func badBlinds() []impl.Blind {
	var list []impl.Blind
	for _, slats := range []int8{-128, -1, 0, 61, 127} {
		b := tenSlats()
		b.Slats = slats
		list = append(list, b)
	}
	for _, length := range []float32{nan, infinite, -infinite, 0, minus0, tiniest, -2, below(0.0625), above(64), 1048576} {
		wide, gap := tenSlats(), tenSlats()
		wide.Wide, gap.Gap = length, length
		list = append(list, wide, gap)
	}
	for _, tilt := range []int16{-32768, -65, 65, 256, 32767} {
		list = append(list, modelTilted(tenSlats(), int64(tilt)))
	}
	for _, shine := range badParts() {
		b := tenSlats()
		b.Shine = shine
		list = append(list, b)
	}
	return list
}

// badParts are no parts.
func badParts() []float32 {
	return []float32{nan, infinite, -infinite, -tiniest, -1, above(1), 2}
}

// eightLong is the cord of the document's example.
func eightLong() impl.Cord { return impl.Cord{Length: 8, Stretch: 0.25, Stops: 4} }

// someCords are the cords of the edge cases, and some with any numbers.
func someCords() []impl.Cord {
	list := []impl.Cord{eightLong()}
	for _, length := range []float32{0.0625, above(0.0625), 3, below(64), 64} {
		for i, stops := range []int8{1, 2, 3, 99, 100} {
			stretch := []float32{0, minus0, tiniest, 0.3, 1}[i]
			list = append(list, impl.Cord{Length: length, Stretch: stretch, Stops: stops})
		}
	}
	source := rand.New(rand.NewSource(3))
	for range 40 {
		list = append(list, impl.Cord{
			Length:  float32(math.Exp2(source.Float64()*10 - 4)),
			Stretch: source.Float32(),
			Stops:   int8(1 + source.Intn(100)),
		})
	}
	return list
}

// badCords are not valid, each by a single number.
func badCords() []impl.Cord {
	list := []impl.Cord{{}}
	for _, length := range []float32{nan, infinite, -infinite, 0, minus0, -8, below(0.0625), above(64)} {
		c := eightLong()
		c.Length = length
		list = append(list, c)
	}
	for _, stretch := range badParts() {
		c := eightLong()
		c.Stretch = stretch
		list = append(list, c)
	}
	for _, stops := range []int8{-128, -1, 0, 101, 127} {
		c := eightLong()
		c.Stops = stops
		list = append(list, c)
	}
	return list
}
