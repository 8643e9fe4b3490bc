package tests

import (
	"math"
	"math/rand"
	"slices"

	"loop.example/g01367/impl"
)

// The model of chapter 7 makes the light of all hours with all tilts, as the models of chapters 1 and 2 do, and then
// only compares it.

// modelDay is a blind in the way of a sun: what falls on the window in each hour, and the light with each tilt, from -64
// on.
type modelDay struct {
	falls  [24]float32
	lights [24][129]float32
}

func modelDayOf(b impl.Blind, s impl.Sun, facing int64) *modelDay {
	d := &modelDay{}
	for hour := range 24 {
		d.falls[hour] = quickFall(s, int64(hour), facing)
		for i := range 129 {
			if s.Height[hour] > 0 {
				d.lights[hour][i] = mul(d.falls[hour], modelPass(modelTilted(b, int64(i-64)), int64(s.Height[hour])))
			}
		}
	}
	return d
}

func (d *modelDay) planLights(p impl.Plan) []float32 {
	list := make([]float32, 24)
	for hour, tilt := range p {
		list[hour] = d.lights[hour][tilt+64]
	}
	return list
}

func (d *modelDay) keeps(hour int, tilt int64, low, high float32) bool {
	light := d.lights[hour][tilt+64]
	if d.falls[hour] >= low && light < low {
		return false
	}
	return light <= high
}

// outside returns the first hour in which a plan does not keep within bounds, or 24.
func (d *modelDay) outside(p impl.Plan, low, high float32) int {
	hour := 0
	for hour < 24 && d.keeps(hour, int64(p[hour]), low, high) {
		hour++
	}
	return hour
}

func (d *modelDay) tilts(hour int, low, high float32) []int64 {
	var list []int64
	for tilt := int64(-64); tilt <= 64; tilt++ {
		if d.keeps(hour, tilt, low, high) {
			list = append(list, tilt)
		}
	}
	return list
}

// longest returns how many hours from one on have a tilt in common, and the least one of these.
func (d *modelDay) longest(first int, low, high float32) (int, int64) {
	for many := 24 - first; many > 0; many-- {
		for tilt := int64(-64); tilt <= 64; tilt++ {
			hour := first
			for hour < first+many && d.keeps(hour, tilt, low, high) {
				hour++
			}
			if hour == first+many {
				return many, tilt
			}
		}
	}
	return 0, 0
}

// fewest returns the plan with the fewest changes, and how many there are, if there is one.
func (d *modelDay) fewest(low, high float32) (impl.Plan, int64, bool) {
	var p impl.Plan
	changes := int64(-1)
	for first := 0; first < 24; changes++ {
		many, tilt := d.longest(first, low, high)
		if many == 0 {
			return impl.Plan{}, 0, false
		}
		for range many {
			p[first] = int16(tilt)
			first++
		}
	}
	return p, changes, true
}

// brightest returns the plan with the most light, and the sum of this, if there is one.
func (d *modelDay) brightest(high float32) (impl.Plan, float32, bool) {
	var p impl.Plan
	for hour, lights := range d.lights {
		best := -1
		for i, light := range slices.Backward(lights[:]) {
			if light <= high && (best < 0 || light >= lights[best]) {
				best = i
			}
		}
		if best < 0 {
			return impl.Plan{}, 0, false
		}
		p[hour] = int16(best - 64)
	}
	return p, modelSum(d.planLights(p)), true
}

// leastChanges returns how few changes a plan may have that takes a tilt of each hour, if there is one. It knows for each
// hour and tilt how few changes come to it.
func leastChanges(tilts [24][]int64) (int64, bool) {
	const none = 1000
	before := make([]int64, 129)
	for hour, list := range tilts {
		least := slices.Min(before)
		now := slices.Repeat([]int64{none}, 129)
		for _, tilt := range list {
			now[tilt+64] = before[tilt+64]
			if hour > 0 {
				now[tilt+64] = min(before[tilt+64], least+1)
			}
		}
		before = now
	}
	least := slices.Min(before)
	return least, least < none
}

func modelChanges(p impl.Plan) int64 {
	many := int64(0)
	for hour := 1; hour < 24; hour++ {
		if p[hour] != p[hour-1] {
			many++
		}
	}
	return many
}

// modelFloor has the light of whole slats and of broken ones.
func modelFloor(b impl.Blind, height int64, broken uint32) impl.Floor {
	whole := modelOpen(b, height)
	hanging := modelOpen(modelTilted(b, int64(math.Max(float64(b.Tilt)-32, -64))), height)
	var f impl.Floor
	for k := 0; k < int(b.Slats) && k < 24; k++ {
		f[k] = whole
		if broken&(1<<k) != 0 {
			f[k] = hanging
		}
	}
	return f
}

// modelBroken looks at one stripe after the other, and reports whether the floor may have been seen.
func modelBroken(b impl.Blind, height int64, f impl.Floor) (uint32, bool) {
	whole, hanging := modelFloor(b, height, 0), modelFloor(b, height, 1<<24-1)
	broken := uint32(0)
	for k, light := range f {
		isWhole, isHanging := identical(light, whole[k]), identical(light, hanging[k])
		if !isWhole && !isHanging {
			return 0, false
		}
		if !isWhole {
			broken += 1 << k
		}
	}
	return broken, true
}

func modelYear(b impl.Blind, suns []impl.Sun, facing int64) []float32 {
	var list []float32
	for _, s := range suns {
		var lights []float32
		for hour := range int64(24) {
			light := float32(0)
			if s.Height[hour] > 0 {
				light = mul(quickFall(s, hour, facing), modelPass(b, int64(s.Height[hour])))
			}
			lights = append(lights, light)
		}
		list = append(list, modelSum(lights))
	}
	return list
}

func modelYearFacing(b impl.Blind, suns []impl.Sun, step int64) (int64, float32) {
	var years []float32
	for facing := int64(0); facing <= 255; facing += step {
		years = append(years, modelSum(modelYear(b, suns, facing)))
	}
	best, most := firstGreatest(years)
	return best * step, most
}

// allSlats is the set of all slats of a blind that are looked at.
func allSlats(b impl.Blind) uint32 { return 1<<min(b.Slats, 24) - 1 }

// exampleSlats is the blind of the document's example.
func exampleSlats() impl.Blind { return impl.Blind{Slats: 3, Wide: 2, Gap: 2, Shine: 0.5} }

// denseSlats let light through only if they lie along it.
func denseSlats() impl.Blind { return impl.Blind{Slats: 1, Wide: 64, Gap: 0.0625} }

// shinySlats let some light through with all tilts.
func shinySlats() impl.Blind { return impl.Blind{Slats: 1, Wide: 2, Gap: 2, Shine: 1} }

// sunAt is up in a single hour, in which it stands in the south.
func sunAt(hour int, height int16) impl.Sun {
	s := impl.Sun{}
	s.Height[hour], s.Turns[hour] = height, 128
	return s
}

// sunOf stands in the south all day, from the hour 0 on with the given heights, one after the other, again and again.
func sunOf(heights ...int16) impl.Sun {
	s := evenSun(0, 128)
	for hour := range 24 {
		s.Height[hour] = heights[hour%len(heights)]
	}
	return s
}

// slowSun goes a little way from hour to hour.
func slowSun(source *rand.Rand) impl.Sun {
	s := impl.Sun{}
	height, turn := source.Intn(70)-10, 100+source.Intn(56)
	for hour := range 24 {
		height = min(max(height+source.Intn(9)-4, -5), 64)
		turn += source.Intn(7) - 3
		s.Height[hour], s.Turns[hour] = int16(height), int16(rest(int64(turn)))
	}
	return s
}

// someDay is a blind, a sun, and a window.
type someDay struct {
	blind  impl.Blind
	sun    impl.Sun
	facing int64
	model  *modelDay
}

// someDays are the days of the edge cases, and some others.
func someDays() []someDay {
	var list []someDay
	add := func(b impl.Blind, s impl.Sun, facing int64) {
		list = append(list, someDay{b, s, facing, modelDayOf(b, s, facing)})
	}
	blinds, suns := someBlinds(), someSuns()
	plain := []impl.Blind{exampleSlats(), dullSlats(), denseSlats(), thinSlats(), shinySlats()}
	for i, b := range plain {
		for _, s := range []impl.Sun{
			{}, southSun(), arcSun(), sunAt(0, 32), sunAt(23, 20), sunOf(20, 30, 40), sunOf(10, 10, 40), evenSun(1, 128), evenSun(64, 128),
		} {
			add(b, s, 128)
			add(b, s, []int64{0, 1, 254, 255, 127}[i])
		}
	}
	for n := range 150 {
		add(blinds[n*5%len(blinds)], suns[n%len(suns)], int64(n*67%256))
	}
	source := rand.New(rand.NewSource(41))
	for n := range 150 {
		b := blinds[n*11%len(blinds)]
		if n%2 == 0 {
			b = plain[n/2%len(plain)]
		}
		add(b, slowSun(source), int64(112+source.Intn(33)))
	}
	return list
}

// boundsFor are bounds for the light of a day: edge cases, and some that are just met.
func boundsFor(d *modelDay, n int) [][2]float32 {
	list := [][2]float32{
		{0, 0}, {minus0, 0}, {0, minus0}, {minus0, minus0}, {0, 1}, {minus0, 1}, {1, 1}, {1, 0}, {tiniest, tiniest}, {tiniest, 1}, {0, tiniest},
		{0x1p-127, 0x1p-126}, {0.25, 0.5}, {0.5, 0.25}, {0.5, 0.5}, {below(1), 1}, {0, 0.3}, {0.3, 0.7},
	}
	for i := range 4 {
		hour := (n*7 + i*5) % 24
		light, other := d.lights[hour][(n*31+i*13)%129], d.lights[(hour+1)%24][(n*17+i*29)%129]
		fall := d.falls[hour]
		for _, pair := range [][2]float32{
			{light, light}, {light, 1}, {0, light}, {above(light), 1}, {0, below(light)}, {below(light), above(light)},
			{fall, 1}, {above(fall), 1}, {below(fall), 1}, {0, fall}, {fall, light}, {above(fall), light}, {min(light, other), max(light, other)},
		} {
			if impl.IsPart(pair[0]) && impl.IsPart(pair[1]) {
				list = append(list, pair)
			}
		}
	}
	return list
}

// fewOf returns each so-and-so-manieth of a list, from one of the first ones on.
func fewOf[T any](list []T, each, n int) []T {
	var few []T
	for i := n % each; i < len(list); i += each {
		few = append(few, list[i])
	}
	return few
}

// somePlans are the plans of the edge cases, and some others.
func somePlans() []impl.Plan {
	var list []impl.Plan
	for _, tilt := range []int16{0, -64, 64, -63, 63, -32, 32, -1, 1} {
		p := impl.Plan{}
		for hour := range p {
			p[hour] = tilt
		}
		list = append(list, p)
		for hour := range p {
			other := p
			other[hour] = 0 - tilt
			list = append(list, other)
		}
	}
	steps, turns := impl.Plan{}, impl.Plan{}
	for hour := range steps {
		steps[hour] = int16(hour*5 - 60)
		turns[hour] = []int16{-64, 64}[hour%2]
	}
	list = append(list, steps, turns)
	source := rand.New(rand.NewSource(42))
	for n := range 200 {
		p := impl.Plan{}
		for hour := range p {
			p[hour] = int16(source.Intn(129) - 64)
			if hour > 0 && source.Intn(1+n%5) > 0 {
				p[hour] = p[hour-1]
			}
		}
		list = append(list, p)
	}
	return list
}

// badPlans are not valid, each by a single tilt, or by all of them.
func badPlans() []impl.Plan {
	var list []impl.Plan
	for _, tilt := range []int16{-32768, -256, -65, 65, 256, 32767} {
		all := impl.Plan{}
		for hour := range all {
			all[hour] = tilt
		}
		list = append(list, all)
		for _, hour := range []int{0, 1, 12, 22, 23} {
			p := impl.Plan{}
			p[hour] = tilt
			list = append(list, p)
		}
	}
	return list
}

// floorBlinds are the blinds of the edge cases of floors.
func floorBlinds() []impl.Blind {
	list := []impl.Blind{exampleSlats(), dullSlats(), denseSlats(), thinSlats(), shinySlats()}
	for _, slats := range []int8{1, 2, 23, 24, 25, 31, 32, 33, 59, 60} {
		for _, tilt := range []int16{-64, -63, -48, -33, -32, -31, -16, -1, 0, 1, 31, 32, 33, 63, 64} {
			list = append(list, impl.Blind{Slats: slats, Wide: 1.5, Gap: 2.5, Tilt: tilt, Shine: 0.25})
		}
	}
	return append(list, someBlinds()...)
}

// someSets are sets of slats of a blind.
func someSets(b impl.Blind, source *rand.Rand) []uint32 {
	all := allSlats(b)
	last := uint32(1) << (min(b.Slats, 24) - 1)
	list := []uint32{0, 1, all, last, all &^ 1, all &^ last, 0x55555555 & all, 0xaaaaaaaa & all}
	for range 4 {
		list = append(list, source.Uint32()&all)
	}
	return list
}

// someYears are years of the edge cases, and some others.
func someYears() [][]impl.Sun {
	list := [][]impl.Sun{
		{{}}, {southSun()}, {arcSun()}, {{}, southSun()}, {southSun(), {}, southSun()}, {{}, {}}, slices.Repeat([]impl.Sun{arcSun()}, 12),
		slices.Repeat([]impl.Sun{{}}, 12), {evenSun(32, 112)}, {evenSun(20, 0), evenSun(20, 128)}, {evenSun(20, 255), evenSun(20, 1), evenSun(20, 255)},
	}
	source := rand.New(rand.NewSource(43))
	suns := someSuns()
	for many := 1; many <= 12; many++ {
		for range 4 {
			year := make([]impl.Sun, many)
			for month := range year {
				year[month] = slowSun(source)
				if source.Intn(3) == 0 {
					year[month] = suns[source.Intn(len(suns))]
				}
			}
			list = append(list, year)
		}
	}
	return list
}
