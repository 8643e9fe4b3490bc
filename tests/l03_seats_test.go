package tests

import (
	"math/rand"
	"slices"
	"testing"

	"loop.example/g01367/impl"
)

// longRoom has one window in the west, so that each tile of its row has less light than the one before.
func longRoom() impl.Room {
	return impl.Room{Wide: 10, High: 1, Windows: []impl.Window{{Wall: impl.WaWest, Light: 1}}}
}

// longDesks stand in a row, and have no glare.
func longDesks(many int8) []impl.Desk {
	var list []impl.Desk
	for x := range many {
		list = append(list, impl.Desk{At: impl.Tile{X: x}, Wall: impl.WaEast})
	}
	return list
}

// between is a person whom those longDesks suit that stand from first to last; if last is less than first, no desk does.
func between(first, last int) impl.Person {
	if last < first {
		return impl.Person{Least: 50, Most: 60}
	}
	r := longRoom()
	return impl.Person{Least: modelLight(r, last, 0), Most: modelLight(r, first, 0)}
}

func TestSeatsOfSeveralWays(t *testing.T) {
	anyone, nobody := between(0, 7), between(1, 0)
	for _, c := range []struct {
		name   string
		desks  int8
		people []impl.Person
		want   []int64
		many   int64
	}{
		{"no desks and no people", 0, nil, nil, 0},
		{"no people", 8, nil, nil, 0},
		{"no desks", 0, []impl.Person{anyone, nobody, anyone}, []int64{-1, -1, -1}, 0},
		{"all alike", 3, []impl.Person{anyone, anyone, anyone}, []int64{0, 1, 2}, 3},
		{"more people", 2, []impl.Person{anyone, anyone, anyone}, []int64{0, 1, -1}, 2},
		{"more desks", 4, []impl.Person{anyone, anyone}, []int64{0, 1}, 2},
		{"no desk suits", 3, []impl.Person{nobody, nobody}, []int64{-1, -1}, 0},
		{"no desk suits the first", 3, []impl.Person{nobody, anyone}, []int64{-1, 0}, 1},
		{"a choice makes room", 3, []impl.Person{anyone, between(0, 0)}, []int64{1, 0}, 2},
		{"a chain makes room", 4, []impl.Person{between(0, 1), between(1, 2), between(2, 3), between(0, 0)}, []int64{1, 2, 3, 0}, 4},
		{"the same desk for two", 2, []impl.Person{between(1, 1), between(1, 1)}, []int64{1, -1}, 1},
		{"the first one goes first", 1, []impl.Person{anyone, anyone}, []int64{0, -1}, 1},
		{"two for one, and one for two", 2, []impl.Person{between(0, 0), between(0, 0), between(0, 1)}, []int64{0, -1, 1}, 2},
		{"a seat late in the list", 2, []impl.Person{between(0, 1), between(0, 1), between(0, 0)}, []int64{0, 1, -1}, 2},
		{"eight for eight", 8, slices.Repeat([]impl.Person{anyone}, 8), []int64{0, 1, 2, 3, 4, 5, 6, 7}, 8},
		{"eight for seven", 8, slices.Repeat([]impl.Person{between(1, 7)}, 8), []int64{1, 2, 3, 4, 5, 6, 7, -1}, 7},
	} {
		seats, many, code := impl.SeatPeople(longRoom(), longDesks(c.desks), c.people)
		if !slices.Equal(seats, c.want) || many != c.many || code != impl.OK {
			t.Errorf("%s: got %v, %d and %d, want %v, %d", c.name, seats, many, code, c.want, c.many)
		}
	}
}

// mostFrom tells how many of the people from one on can have one of the desks that are not taken, by sets of desks.
func mostFrom(person int, taken int, whom [][]bool, known map[[2]int]int64) int64 {
	if person == len(whom) {
		return 0
	}
	key := [2]int{person, taken}
	if most, is := known[key]; is {
		return most
	}
	most := mostFrom(person+1, taken, whom, known)
	for desk, suits := range whom[person] {
		if suits && taken&(1<<desk) == 0 {
			most = max(most, 1+mostFrom(person+1, taken|1<<desk, whom, known))
		}
	}
	known[key] = most
	return most
}

// wantedSeats takes the first desk, and then none, that leaves as many people a desk as there can be.
func wantedSeats(whom [][]bool) ([]int64, int64) {
	known := map[[2]int]int64{}
	all := mostFrom(0, 0, whom, known)
	var seats []int64
	taken, done := 0, int64(0)
	for person, suits := range whom {
		seat := int64(-1)
		for desk := range suits {
			if seat == -1 && suits[desk] && taken&(1<<desk) == 0 && done+1+mostFrom(person+1, taken|1<<desk, whom, known) == all {
				seat = int64(desk)
			}
		}
		if seat != -1 {
			taken |= 1 << seat
			done++
		}
		seats = append(seats, seat)
	}
	return seats, all
}

func TestManyPeopleAtManyDesks(t *testing.T) {
	source := rand.New(rand.NewSource(7))
	left := 0
	for range 400 {
		desks := longDesks(int8(6 + source.Intn(3)))
		source.Shuffle(len(desks), func(i, j int) { desks[i], desks[j] = desks[j], desks[i] })
		var people []impl.Person
		var whom [][]bool
		for range 6 + source.Intn(3) {
			first := source.Intn(8)
			last := first + source.Intn(4) - source.Intn(2)
			people = append(people, between(first, min(last, 9)))
			suits := make([]bool, len(desks))
			for i, d := range desks {
				suits[i] = int(d.At.X) >= first && int(d.At.X) <= last
			}
			whom = append(whom, suits)
		}
		want, most := wantedSeats(whom)
		if most < int64(min(len(desks), len(people))) {
			left++
		}
		seats, many, code := impl.SeatPeople(longRoom(), desks, people)
		if !slices.Equal(seats, want) || many != most || code != impl.OK {
			t.Errorf("%v at %v: got %v, %d and %d, want %v, %d", people, desks, seats, many, code, want, most)
		}
	}
	if left == 0 {
		t.Error("no one has ever to stand")
	}
}

// Two desks may stand at one tile; they are two desks all the same.
func TestDesksAtOneTile(t *testing.T) {
	d := longDesks(1)[0]
	seats, many, code := impl.SeatPeople(longRoom(), []impl.Desk{d, d, d}, []impl.Person{between(0, 0), between(0, 3)})
	if !slices.Equal(seats, []int64{0, 1}) || many != 2 || code != impl.OK {
		t.Errorf("got %v, %d and %d", seats, many, code)
	}
}

func TestPlacesOfDesks(t *testing.T) {
	tiles := func(numbers ...int8) []impl.Tile {
		var list []impl.Tile
		for i := 0; i < len(numbers); i += 2 {
			list = append(list, impl.Tile{X: numbers[i], Y: numbers[i+1]})
		}
		return list
	}
	// Here only 1, 0 and 0, 1 and 2, 1 have more light than 1.52, and 1, 0 touches both others.
	notch := impl.Room{Wide: 3, High: 2, Windows: []impl.Window{{At: 1, Light: 1}, {Wall: impl.WaEast, At: 1, Light: 1}, {Wall: impl.WaWest, At: 1, Light: 1}}}
	for _, c := range []struct {
		name  string
		room  impl.Room
		least float32
		many  int64
		want  []impl.Tile
		code  int64
	}{
		{"none in the dark", longRoom(), infinite, 0, nil, impl.OK},
		{"one in the dark", longRoom(), infinite, 1, nil, impl.ErrNotFound},
		{"one in the light", longRoom(), 1, 1, tiles(0, 0), impl.OK},
		{"one too bright", longRoom(), above(1), 1, nil, impl.ErrNotFound},
		{"five in a row", longRoom(), 0, 5, tiles(0, 0, 2, 0, 4, 0, 6, 0, 8, 0), impl.OK},
		{"five in a row of nine", impl.Room{Wide: 9, High: 1}, 0, 5, tiles(0, 0, 2, 0, 4, 0, 6, 0, 8, 0), impl.OK},
		{"five in a row of eight", impl.Room{Wide: 8, High: 1}, 0, 5, nil, impl.ErrNotFound},
		{"four in two rows of eight", impl.Room{Wide: 8, High: 2}, 0, 4, tiles(0, 0, 2, 0, 4, 0, 6, 0), impl.OK},
		{"five in two rows of eight", impl.Room{Wide: 8, High: 2}, 0, 5, nil, impl.ErrNotFound},
		{"five in three rows of five", impl.Room{Wide: 5, High: 3}, minus0, 5, tiles(0, 0, 2, 0, 4, 0, 0, 2, 2, 2), impl.OK},
		{"five in a column", impl.Room{Wide: 1, High: 10}, -infinite, 5, tiles(0, 0, 0, 2, 0, 4, 0, 6, 0, 8), impl.OK},
		{"three in a column of four", impl.Room{Wide: 1, High: 4}, 0, 3, nil, impl.ErrNotFound},
		{"two in a small room", impl.Room{Wide: 2, High: 2}, 0, 2, nil, impl.ErrNotFound},
		{"one in the least room", impl.Room{Wide: 1, High: 1}, 0, 1, tiles(0, 0), impl.OK},
		{"two in the least room", impl.Room{Wide: 1, High: 1}, 0, 2, nil, impl.ErrNotFound},
		{"in no light", impl.Room{Wide: 1, High: 1}, tiniest, 1, nil, impl.ErrNotFound},
		{"one at a notch", notch, 1.52, 1, tiles(1, 0), impl.OK},
		{"two at a notch", notch, 1.52, 2, tiles(0, 1, 2, 1), impl.OK},
		{"three at a notch", notch, 1.52, 3, nil, impl.ErrNotFound},
		{"the greatest room", impl.Room{Wide: 10, High: 10}, 0, 5, tiles(0, 0, 2, 0, 4, 0, 6, 0, 8, 0), impl.OK},
	} {
		got, code := impl.PlaceDesks(c.room, c.least, c.many)
		if !slices.Equal(got, c.want) || code != c.code {
			t.Errorf("%s: got %v and %d, want %v and %d", c.name, got, code, c.want, c.code)
		}
	}
}

// greedyTiles takes each tile that is apart from those that it has taken.
func greedyTiles(lit []impl.Tile, many int) []impl.Tile {
	var list []impl.Tile
	for _, at := range lit {
		near := slices.ContainsFunc(list, func(other impl.Tile) bool { return !apartTiles(at, other) })
		if !near && len(list) < many {
			list = append(list, at)
		}
	}
	return list
}

func TestPlacesAreTheFirstOfSeveral(t *testing.T) {
	greedyFails, missing := 0, 0
	for i, r := range someRooms() {
		every := allTiles(r)
		for n, at := range every {
			// In large rooms the model goes through very many lists, so that not each light is taken as a bound.
			if n%(1+len(every)/12) != 0 {
				continue
			}
			least := modelLight(r, int(at.X), int(at.Y))
			lit := modelLit(r, least)
			for many := range 6 {
				want, found := firstApart(lit, many)
				wantCode := int64(impl.OK)
				if !found {
					wantCode = impl.ErrNotFound
					missing++
				} else if !slices.Equal(want, greedyTiles(lit, many)) {
					greedyFails++
				}
				got, code := impl.PlaceDesks(r, least, int64(many))
				if !slices.Equal(got, want) || code != wantCode {
					t.Fatalf("room %d, least %v, many %d: got %v and %d, want %v and %d", i, least, many, got, code, want, wantCode)
				}
			}
		}
	}
	if greedyFails == 0 || missing == 0 {
		t.Errorf("%d lists are not those that are taken at once, %d are missing", greedyFails, missing)
	}
}
