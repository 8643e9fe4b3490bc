package tests

import (
	"fmt"
	"math"
	"math/rand"
	"slices"
	"testing"

	"loop.example/g01367/impl"
)

func TestExampleOfRooms(t *testing.T) {
	r, c1 := impl.ReadRoom("3x2\nn0/3f800000\ne1/3f000000\n")
	if !impl.SameRoom(r, exampleRoom()) {
		t.Fatalf("the room is %v", r)
	}
	at, c2 := impl.TileOf(r, r.Windows[1])
	first, c3 := impl.LightAt(r, impl.Tile{})
	last, c4 := impl.LightAt(r, impl.Tile{X: 2, Y: 1})
	wantNumber(t, "light of 0, 0", first, add(1, div(0.5, 6)))
	wantNumber(t, "light of 2, 1", last, add(div(1, 6), 0.5))
	glare, c5 := impl.GlareAt(r, impl.Desk{At: impl.Tile{Y: 1}, Wall: impl.WaNorth})
	wall, least, c6 := impl.LeastGlare(r, impl.Tile{Y: 1})
	wantNumber(t, "glare to the north", glare, 0.5)
	wantNumber(t, "least glare", least, 0)
	lit, c7 := impl.LitTiles(r, 0.5)
	tiles, c8 := impl.PlaceDesks(r, 0.5, 2)
	if at != (impl.Tile{X: 2, Y: 1}) || wall != impl.WaSouth || lit != [10]uint16{3, 7} || !slices.Equal(tiles, []impl.Tile{{}, {X: 2, Y: 1}}) {
		t.Errorf("window at %v, least glare to %d, lit %v, desks at %v", at, wall, lit, tiles)
	}
	wantOK(t, "example", c1, c2, c3, c4, c5, c6, c7, c8)
	if impl.MaxTiles != 10 || impl.MaxWindows != 12 || impl.MaxDesks != 8 || impl.WaNorth != 0 || impl.WaEast != 1 || impl.WaSouth != 2 || impl.WaWest != 3 {
		t.Error("a constant has another value")
	}
}

func TestValidRooms(t *testing.T) {
	for i, r := range someRooms() {
		if !impl.ValidRoom(r) {
			t.Errorf("room %d, %v, is not valid", i, r)
		}
	}
	for i, r := range badRooms() {
		if impl.ValidRoom(r) {
			t.Errorf("bad room %d is valid", i)
		}
	}
	full := impl.Room{Wide: 3, High: 2, Windows: make([]impl.Window, 12)}
	if !impl.ValidRoom(full) {
		t.Error("a room with 12 windows is not valid")
	}
	for wide := int8(-1); wide <= 12; wide++ {
		for high := int8(-1); high <= 12; high++ {
			for wall := int8(-1); wall <= 4; wall++ {
				for at := int8(-1); at <= 12; at++ {
					r := impl.Room{Wide: wide, High: high, Windows: []impl.Window{{Wall: wall, At: at, Light: 1}}}
					many := wide
					if wall == impl.WaEast || wall == impl.WaWest {
						many = high
					}
					want := wide >= 1 && wide <= 10 && high >= 1 && high <= 10 && wall >= 0 && wall <= 3 && at >= 0 && at < many
					if impl.ValidRoom(r) != want {
						t.Errorf("%v: valid %v", r, !want)
					}
				}
			}
		}
	}
}

func TestSameRooms(t *testing.T) {
	odd := math.Float32frombits(0xffc00001)
	window := impl.Window{Wall: 1, At: 2, Light: 0.5}
	changed := func(change func(w *impl.Window)) impl.Room {
		w := window
		change(&w)
		return impl.Room{Wide: 4, High: 5, Windows: []impl.Window{window, w}}
	}
	list := []impl.Room{
		{}, {Wide: 4, High: 5}, {Wide: 5, High: 5}, {Wide: 4, High: 4}, {Wide: -4, High: 5},
		{Wide: 4, High: 5, Windows: []impl.Window{window}}, {Wide: 4, High: 5, Windows: []impl.Window{{}}},
		{Wide: 4, High: 5, Windows: []impl.Window{window, window, window}}, {Wide: 4, High: 4, Windows: []impl.Window{window, window}},
		changed(func(w *impl.Window) {}), changed(func(w *impl.Window) { w.Wall = 3 }), changed(func(w *impl.Window) { w.At = 1 }),
		changed(func(w *impl.Window) { w.Light = above(0.5) }), changed(func(w *impl.Window) { w.Light = 0 }),
		changed(func(w *impl.Window) { w.Light = minus0 }), changed(func(w *impl.Window) { w.Light = nan }),
		changed(func(w *impl.Window) { w.Light = infinite }), changed(func(w *impl.Window) { w.Wall = -7 }),
	}
	swapped := changed(func(w *impl.Window) { w.At = 1 })
	slices.Reverse(swapped.Windows)
	list = append(list, swapped)
	for i, a := range list {
		for j, b := range list {
			b.Windows = slices.Clone(b.Windows)
			if impl.SameRoom(a, b) != (i == j) {
				t.Errorf("SameRoom of %v and %v is %v", a, b, i != j)
			}
		}
	}
	for _, many := range []int{0, 1, 1000000} {
		long := impl.Room{Wide: 1, Windows: slices.Repeat([]impl.Window{{Light: nan}}, many)}
		other := impl.Room{Wide: 1, Windows: slices.Repeat([]impl.Window{{Light: odd}}, many)}
		if !impl.SameRoom(long, other) {
			t.Errorf("two rooms with %d windows are not the same", many)
		}
	}
	if !impl.SameRoom(impl.Room{Windows: []impl.Window{}}, impl.Room{}) {
		t.Error("no windows are told as nil and as an empty list")
	}
}

func TestTilesOfWindows(t *testing.T) {
	for wide := int8(1); wide <= 10; wide++ {
		for high := int8(1); high <= 10; high++ {
			full := impl.Room{Wide: wide, High: high, Windows: make([]impl.Window, 12)}
			for _, r := range []impl.Room{{Wide: wide, High: high}, full} {
				for wall, many := range []int8{wide, high, wide, high} {
					for at := range many {
						w := impl.Window{Wall: int8(wall), At: at, Light: minus0}
						x, y := modelPlace(r, w)
						if got, code := impl.TileOf(r, w); got != (impl.Tile{X: int8(x), Y: int8(y)}) || code != impl.OK {
							t.Errorf("%v in %d by %d is at %v with %d", w, wide, high, got, code)
						}
					}
				}
			}
		}
	}
}

func TestLightOfRoomsIsAsTold(t *testing.T) {
	windowsMatter, tilesMatter := false, false
	for i, r := range someRooms() {
		lights, c1 := impl.LightMap(r)
		var want [10][10]float32
		var list []float32
		for _, at := range allTiles(r) {
			light, code := impl.LightAt(r, at)
			pieces := modelLights(r, int(at.X), int(at.Y))
			want[at.Y][at.X] = modelSum(pieces)
			list = append(list, modelSum(pieces))
			if code != impl.OK || !identical(light, modelSum(pieces)) {
				t.Fatalf("room %d, %v: got %v and %d, want %v", i, at, light, code, modelSum(pieces))
			}
			slices.Reverse(pieces)
			windowsMatter = windowsMatter || modelSum(pieces) != light
		}
		for y := range want {
			if !slices.EqualFunc(lights[y][:], want[y][:], identical) {
				t.Errorf("room %d, row %d: got %v, want %v", i, y, lights[y], want[y])
			}
		}
		mean, c2 := impl.MeanLight(r)
		wantNumber(t, fmt.Sprint("mean of room ", i), mean, div(modelSum(list), float32(len(list))))
		best, light, c3 := impl.Brightest(r)
		wantBest, wantLight := firstGreatest(list)
		if best != allTiles(r)[wantBest] || !identical(light, wantLight) {
			t.Errorf("room %d: brightest %v with %v, want %v with %v", i, best, light, allTiles(r)[wantBest], wantLight)
		}
		wantOK(t, "light", c1, c2, c3)
		tilesMatter = tilesMatter || meanByColumns(r, want) != mean
	}
	if !windowsMatter || !tilesMatter {
		t.Errorf("the order of windows matters: %v, that of tiles: %v", windowsMatter, tilesMatter)
	}
}

// meanByColumns takes the tiles in another order.
func meanByColumns(r impl.Room, lights [10][10]float32) float32 {
	var list []float32
	for x := range r.Wide {
		for y := range r.High {
			list = append(list, lights[y][x])
		}
	}
	return div(modelSum(list), float32(len(list)))
}

func TestTheFirstTileOfSeveralIsBrightest(t *testing.T) {
	even := func(wide, high int8, windows ...impl.Window) impl.Room {
		return impl.Room{Wide: wide, High: high, Windows: windows}
	}
	for _, c := range []struct {
		room impl.Room
		want impl.Tile
	}{
		{even(5, 5), impl.Tile{}},
		{even(5, 5, impl.Window{Light: minus0}), impl.Tile{}},
		{even(5, 5, impl.Window{At: 3, Light: tiniest}), impl.Tile{X: 3}},
		{even(9, 1, impl.Window{Wall: impl.WaEast, Light: 1}, impl.Window{Wall: impl.WaWest, Light: 1}), impl.Tile{}},
		{even(9, 9, impl.Window{At: 7, Light: 1}, impl.Window{Wall: impl.WaWest, At: 7, Light: 1}), impl.Tile{X: 7}},
		{even(9, 9, impl.Window{Wall: impl.WaSouth, At: 2, Light: 1}, impl.Window{Wall: impl.WaSouth, At: 6, Light: 1}), impl.Tile{X: 2, Y: 8}},
	} {
		if best, _, code := impl.Brightest(c.room); best != c.want || code != impl.OK {
			t.Errorf("%v: brightest %v with %d, want %v", c.room, best, code, c.want)
		}
	}
}

func TestLitTiles(t *testing.T) {
	for i, r := range someRooms() {
		bounds := []float32{0, minus0, tiniest, -tiniest, 0.25, 1, 2, infinite, -infinite, impl.MaxSize, -impl.MaxSize}
		for _, at := range allTiles(r)[:min(12, len(allTiles(r)))] {
			light := modelLight(r, int(at.X), int(at.Y))
			bounds = append(bounds, light, above(light))
		}
		for _, least := range bounds {
			var want [10]uint16
			for _, at := range modelLit(r, least) {
				want[at.Y] += uint16(math.Exp2(float64(at.X)))
			}
			if got, code := impl.LitTiles(r, least); got != want || code != impl.OK {
				t.Errorf("room %d, least %v: got %v and %d, want %v", i, least, got, code, want)
			}
		}
	}
	all, _ := impl.LitTiles(impl.Room{Wide: 10, High: 9}, minus0)
	if all != [10]uint16{1023, 1023, 1023, 1023, 1023, 1023, 1023, 1023, 1023, 0} {
		t.Errorf("with at least -0 the tiles %v are lit", all)
	}
}

func TestGlareIsAsTold(t *testing.T) {
	orderMatters := false
	for i, r := range someRooms() {
		for _, at := range allTiles(r) {
			var glares []float32
			for wall := range int8(4) {
				d := impl.Desk{At: at, Wall: wall}
				pieces := modelGlares(r, d)
				glares = append(glares, -modelSum(pieces))
				glare, code := impl.GlareAt(r, d)
				if code != impl.OK || !identical(glare, modelSum(pieces)) {
					t.Fatalf("room %d, %v: got %v and %d, want %v", i, d, glare, code, modelSum(pieces))
				}
				slices.Reverse(pieces)
				orderMatters = orderMatters || modelSum(pieces) != glare
			}
			want, least := firstGreatest(glares)
			wall, glare, code := impl.LeastGlare(r, at)
			if wall != want || !identical(glare, 0-least) || code != impl.OK {
				t.Errorf("room %d, %v: least glare to %d, %v, with %d, want to %d, %v", i, at, wall, glare, code, want, -least)
			}
		}
	}
	if !orderMatters {
		t.Error("no glare tells the order of the windows")
	}
}

// A desk at the tile of a window is glared at by it only if it is faced to its wall.
func TestDesksAtWindows(t *testing.T) {
	for wall := range int8(4) {
		for at := range int8(3) {
			r := impl.Room{Wide: 3, High: 3, Windows: []impl.Window{{Wall: wall, At: at, Light: 0.75}}}
			place, _ := impl.TileOf(r, r.Windows[0])
			for faced := range int8(4) {
				want := float32(0)
				if faced == wall {
					want = 0.75
				}
				glare, code := impl.GlareAt(r, impl.Desk{At: place, Wall: faced})
				wantNumber(t, fmt.Sprintf("wall %d at %d, faced to %d", wall, at, faced), glare, want)
				wantOK(t, "desk at a window", code)
			}
			best, least, code := impl.LeastGlare(r, place)
			if want := int64(0); wall == 0 && best != 1 || wall != 0 && best != want || !identical(least, 0) || code != impl.OK {
				t.Errorf("wall %d at %d: least glare to %d, %v, with %d", wall, at, best, least, code)
			}
		}
	}
	// A window ahead counts in whichever wall it is, and one beside or behind does not.
	r := impl.Room{Wide: 3, High: 3, Windows: []impl.Window{{Wall: impl.WaWest, At: 0, Light: 1}}}
	for faced, want := range []float32{0.2, 0, 0, 0.2} {
		glare, _ := impl.GlareAt(r, impl.Desk{At: impl.Tile{X: 1, Y: 2}, Wall: int8(faced)})
		if want != 0 {
			want = div(1, 6)
		}
		wantNumber(t, fmt.Sprint("faced to ", faced), glare, want)
	}
}

func TestGlareBits(t *testing.T) {
	source := rand.New(rand.NewSource(5))
	for i, r := range someRooms() {
		every := allDesks(r)
		for _, many := range []int{0, 1, 7, 8} {
			var desks []impl.Desk
			bounds := []float32{0, minus0, tiniest, -tiniest, 0.5, infinite, -infinite}
			for range many {
				d := every[source.Intn(len(every))]
				desks = append(desks, d)
				bounds = append(bounds, modelGlare(r, d), below(modelGlare(r, d)))
			}
			for _, bound := range bounds {
				want := uint16(0)
				for n, d := range desks {
					if modelGlare(r, d) > bound {
						want += uint16(math.Exp2(float64(n)))
					}
				}
				if got, code := impl.GlareBits(r, desks, bound); got != want || code != impl.OK {
					t.Errorf("room %d, %v, bound %v: got %b and %d, want %b", i, desks, bound, got, code, want)
				}
			}
		}
	}
}

func TestValidPeople(t *testing.T) {
	for _, p := range []impl.Person{
		{}, {Least: minus0, Most: minus0, Glare: minus0}, {Least: 0, Most: minus0}, {Least: minus0, Most: 0}, {Least: -2, Most: -1, Glare: -3},
		{Least: -impl.MaxSize, Most: impl.MaxSize, Glare: impl.MaxSize}, {Least: impl.MaxSize, Most: impl.MaxSize, Glare: -impl.MaxSize},
		{Least: 1, Most: 1, Glare: tiniest}, {Least: -tiniest, Most: tiniest},
	} {
		if !impl.ValidPerson(p) {
			t.Errorf("%v is not valid", p)
		}
	}
	for _, p := range badPeople() {
		if impl.ValidPerson(p) {
			t.Errorf("%v is valid", p)
		}
	}
}

func TestDesksSuitPeople(t *testing.T) {
	answers := map[bool]int{}
	for i, r := range someRooms() {
		for _, d := range allDesks(r)[:min(16, 4*int(r.Wide))] {
			light, glare := modelLight(r, int(d.At.X), int(d.At.Y)), modelGlare(r, d)
			for _, least := range []float32{-1, 0, below(light), light, above(light)} {
				for _, most := range []float32{below(light), light, above(light), 13} {
					for _, bound := range []float32{-1, minus0, below(glare), glare, above(glare)} {
						p := impl.Person{Least: least, Most: most, Glare: bound}
						if !impl.ValidPerson(p) {
							continue
						}
						want := modelSuits(r, d, p)
						answers[want]++
						if got, code := impl.Suits(r, d, p); got != want || code != impl.OK {
							t.Errorf("room %d, %v suits %v: %v with %d", i, d, p, got, code)
						}
					}
				}
			}
		}
	}
	if answers[true] < 100 || answers[false] < 100 {
		t.Errorf("only %v", answers)
	}
}

// somePeople want what desks of a room have, or nearly so; each sixth of them wants what no desk has.
func somePeople(source *rand.Rand, r impl.Room, many int) []impl.Person {
	every := allDesks(r)
	people := make([]impl.Person, many)
	for i := range people {
		d := every[source.Intn(len(every))]
		light := modelLight(r, int(d.At.X), int(d.At.Y))
		people[i] = impl.Person{Least: light / 2, Most: light * 2, Glare: modelGlare(r, d)}
		if source.Intn(6) == 0 {
			people[i] = impl.Person{Least: 100, Most: 100, Glare: 100}
		}
	}
	return people
}

func TestSuitBitsAndSeats(t *testing.T) {
	source := rand.New(rand.NewSource(6))
	rooms := someRooms()
	for i := range 300 {
		r := rooms[i%len(rooms)]
		every := allDesks(r)
		desks := make([]impl.Desk, source.Intn(6))
		for n := range desks {
			desks[n] = every[source.Intn(len(every))]
		}
		people := somePeople(source, r, source.Intn(6))
		want := make([]uint16, len(desks))
		for n, d := range desks {
			for m, p := range people {
				if modelSuits(r, d, p) {
					want[n] += uint16(math.Exp2(float64(m)))
				}
			}
		}
		got, code := impl.SuitBits(r, desks, people)
		if code != impl.OK || !slices.Equal(got, want) {
			t.Fatalf("%v, %v, %v: got %v and %d, want %v", r, desks, people, got, code, want)
		}
		wantSeats, wantMany := modelSeats(len(people), len(desks), func(person, desk int) bool {
			return modelSuits(r, desks[desk], people[person])
		})
		seats, seated, code := impl.SeatPeople(r, desks, people)
		if code != impl.OK || seated != wantMany || !slices.Equal(seats, wantSeats) {
			t.Fatalf("%v, %v, %v: got %v, %d and %d, want %v, %d", r, desks, people, seats, seated, code, wantSeats, wantMany)
		}
	}
}
