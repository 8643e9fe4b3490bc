package tests

import (
	"fmt"
	"math"
	"math/rand"
	"slices"
	"testing"

	"loop.example/g01367/impl"
)

// lightsIn are all lights and glares of a room that functions tell, by names.
func lightsIn(t *testing.T, r impl.Room) map[string]float32 {
	t.Helper()
	all := map[string]float32{}
	lights, c1 := impl.LightMap(r)
	for y, row := range lights {
		for x, light := range row {
			all[fmt.Sprint("map ", x, ", ", y)] = light
		}
	}
	var c2, c3 int64
	all["mean"], c2 = impl.MeanLight(r)
	_, all["brightest"], c3 = impl.Brightest(r)
	wantOK(t, "light", c1, c2, c3)
	for _, at := range allTiles(r) {
		light, c1 := impl.LightAt(r, at)
		_, least, c2 := impl.LeastGlare(r, at)
		all[fmt.Sprint("light at ", at)], all[fmt.Sprint("least glare at ", at)] = light, least
		wantOK(t, "light", c1, c2)
		for wall := range int8(4) {
			glare, code := impl.GlareAt(r, impl.Desk{At: at, Wall: wall})
			all[fmt.Sprint("glare at ", at, " to ", wall)] = glare
			wantOK(t, "glare", code)
		}
	}
	return all
}

// P7: light is never less than 0, nor -0, nor more than that of all windows.
func TestP7LightInRoomsIsNeverLess(t *testing.T) {
	lit := 0
	for i, r := range someRooms() {
		most := float32(len(r.Windows))
		for name, light := range lightsIn(t, r) {
			if !(light >= 0 && light <= most) || math.Signbit(float64(light)) {
				t.Errorf("room %d, %s: %v", i, name, light)
			}
			if light > 0 {
				lit++
			}
		}
	}
	if lit == 0 {
		t.Error("all rooms are dark")
	}
}

// P7: no window makes a room darker, wherever it stands among the others.
func TestP7NoWindowMakesDarker(t *testing.T) {
	source := rand.New(rand.NewSource(8))
	brighter := 0
	for i, r := range someRooms() {
		if len(r.Windows) == impl.MaxWindows {
			continue
		}
		before := lightsIn(t, r)
		for range 4 {
			w := roomWith(source, r.Wide, r.High, 1).Windows[0]
			more := r
			more.Windows = slices.Insert(slices.Clone(r.Windows), source.Intn(len(r.Windows)+1), w)
			for name, light := range lightsIn(t, more) {
				if light < before[name] {
					t.Errorf("room %d, %s: %v, and %v with %v", i, name, before[name], light, w)
				} else if light > before[name] {
					brighter++
				}
			}
		}
	}
	if brighter == 0 {
		t.Error("no window makes a room brighter")
	}
}

// P7: a window that is dimmed makes no room brighter, and dims nothing to less than 0.
func TestP7DimmedWindows(t *testing.T) {
	for i, r := range someRooms() {
		before := lightsIn(t, r)
		for window := range r.Windows {
			dim, code := impl.DimWindow(r, int64(window), 0.7)
			wantOK(t, "dim", code)
			for name, light := range lightsIn(t, dim) {
				if !(light >= 0 && light <= before[name]) {
					t.Errorf("room %d, window %d, %s: %v of %v", i, window, name, light, before[name])
				}
			}
		}
	}
}

// P8: who is seated has a desk that suits them, and no one else has it.
func TestP8SeatsSuit(t *testing.T) {
	source := rand.New(rand.NewSource(9))
	seated, standing := 0, 0
	for i, r := range someRooms() {
		every := allDesks(r)
		for range 8 {
			desks := make([]impl.Desk, source.Intn(9))
			for n := range desks {
				desks[n] = every[source.Intn(len(every))]
			}
			people := somePeople(source, r, source.Intn(9))
			seats, many, code := impl.SeatPeople(r, desks, people)
			bits, bitsCode := impl.SuitBits(r, desks, people)
			wantOK(t, "seats", code, bitsCode)
			if len(seats) != len(people) || len(bits) != len(desks) {
				t.Fatalf("room %d: %d seats of %d people, %d bits of %d desks", i, len(seats), len(people), len(bits), len(desks))
			}
			taken := map[int64]bool{}
			for person, desk := range seats {
				if desk == -1 {
					standing++
					continue
				}
				if desk < 0 || desk >= int64(len(desks)) || taken[desk] {
					t.Fatalf("room %d: seats %v at %d desks", i, seats, len(desks))
				}
				taken[desk] = true
				suits, code := impl.Suits(r, desks[desk], people[person])
				if !suits || code != impl.OK || bits[desk]>>person&1 != 1 || !modelSuits(r, desks[desk], people[person]) {
					t.Errorf("room %d: %v does not suit %v", i, desks[desk], people[person])
				}
			}
			if many != int64(len(taken)) {
				t.Errorf("room %d: %d are told, seats %v", i, many, seats)
			}
			seated += len(taken)
			whom := make([][]bool, len(people))
			for person := range whom {
				for desk := range desks {
					whom[person] = append(whom[person], bits[desk]>>person&1 == 1)
				}
			}
			if want, most := wantedSeats(whom); most != many || !slices.Equal(seats, want) {
				t.Errorf("room %d: seats %v, want %v", i, seats, want)
			}
		}
	}
	if seated == 0 || standing == 0 {
		t.Errorf("%d are seated, %d are not", seated, standing)
	}
}

// guarded returns a part of a list, and a function that tells whether the whole list is as before.
func guarded[T comparable](list []T, behind T) ([]T, func() bool) {
	whole := append(slices.Clone(list), behind, behind, behind)
	before := slices.Clone(whole)
	return whole[:len(list)], func() bool { return slices.Equal(whole, before) }
}

// P1: no list is modified, also behind its end, and what is returned shares memory with nothing.
func TestP1ListsOfRoomsAreNotShared(t *testing.T) {
	for i, r := range []impl.Room{exampleRoom(), cornerRoom(3, 2), {Wide: 3, High: 2, Windows: make([]impl.Window, 12)}} {
		args := goodRoomArgs()
		windows, windowsKept := guarded(r.Windows, impl.Window{Wall: 3, At: 1, Light: 0.125})
		desks, desksKept := guarded(args.desks, impl.Desk{Wall: 2})
		people, peopleKept := guarded(args.people, impl.Person{Most: 3})
		args.room.Windows, args.desks, args.people = windows, desks, people
		for _, call := range roomCalls() {
			call.run(args)
			if !windowsKept() || !desksKept() || !peopleKept() {
				t.Fatalf("%s of room %d modifies a list", call.name, i)
			}
		}
		for name, build := range map[string]func() (impl.Room, int64){
			"DimWindow":  func() (impl.Room, int64) { return impl.DimWindow(args.room, 0, 0.5) },
			"by 1":       func() (impl.Room, int64) { return impl.DimWindow(args.room, 0, 1) },
			"LitBy":      func() (impl.Room, int64) { return impl.LitBy(args.room, arcSun(), 12, 128) },
			"MirrorRoom": func() (impl.Room, int64) { return impl.MirrorRoom(args.room) },
			"ReadRoom":   func() (impl.Room, int64) { return impl.ReadRoom("3x2\nn0/3f800000\ns2/00000000\n") },
		} {
			first, code := build()
			text := impl.RoomText(first)
			second, _ := build()
			for n := range second.Windows {
				second.Windows[n] = impl.Window{Wall: 9}
			}
			_ = append(second.Windows, impl.Window{Wall: 9})
			third, _ := build()
			if code != impl.OK || text == "" || impl.RoomText(first) != text || impl.RoomText(third) != text || !windowsKept() {
				t.Errorf("%s of room %d: %q became %v, and %v, code %d", name, i, text, first, third, code)
			}
		}
	}
	wantUnshared(t, "SuitBits", func() ([]uint16, int64) {
		return impl.SuitBits(longRoom(), longDesks(3), []impl.Person{between(0, 1), between(1, 2)})
	})
	wantUnshared(t, "SeatPeople", func() ([]int64, int64) {
		seats, _, code := impl.SeatPeople(longRoom(), longDesks(3), []impl.Person{between(0, 1), between(1, 2)})
		return seats, code
	})
	wantUnshared(t, "PlaceDesks", func() ([]impl.Tile, int64) { return impl.PlaceDesks(longRoom(), 0, 4) })
}

func wantUnshared[T comparable](t *testing.T, name string, find func() ([]T, int64)) {
	t.Helper()
	var zero T
	first, code := find()
	want := slices.Clone(first)
	second, _ := find()
	for i := range second {
		second[i] = zero
	}
	_ = append(second, zero)
	if third, _ := find(); code != impl.OK || len(want) < 2 || !slices.Equal(first, want) || !slices.Equal(third, want) {
		t.Errorf("%s: %v became %v, and %v, code %d", name, want, first, third, code)
	}
}

// P1: equal arguments give equal results, nil and empty lists among them.
func TestP1EqualResultsOfRooms(t *testing.T) {
	for _, r := range someRooms() {
		args := goodRoomArgs()
		args.room, args.at, args.desk, args.desks, args.window = r, impl.Tile{}, impl.Desk{}, allDesks(r)[:4], 0
		copied := args
		copied.room.Windows = append([]impl.Window{}, r.Windows...)
		copied.desks, copied.people = slices.Clone(args.desks), slices.Clone(args.people)
		for _, call := range roomCalls() {
			if first, second := fmt.Sprint(call.run(args)), fmt.Sprint(call.run(copied)); first != second {
				t.Errorf("%s of %v: %s, then %s", call.name, r, first, second)
			}
		}
	}
}
