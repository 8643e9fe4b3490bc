package tests

import (
	"math/rand"

	"loop.example/g01367/impl"
)

// The model of chapter 3 knows windows by places alone, and makes sums and quotients as that of chapter 2 does.

// modelPlace returns the place of a window.
func modelPlace(r impl.Room, w impl.Window) (x, y int) {
	switch w.Wall {
	case impl.WaNorth:
		return int(w.At), 0
	case impl.WaEast:
		return int(r.Wide) - 1, int(w.At)
	case impl.WaSouth:
		return int(w.At), int(r.High) - 1
	}
	return 0, int(w.At)
}

// modelPieces returns what each window gives to a place, if it counts there.
func modelPieces(r impl.Room, x, y int, counts func(w impl.Window, wx, wy int) bool) []float32 {
	var list []float32
	for _, w := range r.Windows {
		wx, wy := modelPlace(r, w)
		if counts(w, wx, wy) {
			list = append(list, div(w.Light, float32(1+(x-wx)*(x-wx)+(y-wy)*(y-wy))))
		}
	}
	return list
}

func modelLights(r impl.Room, x, y int) []float32 {
	return modelPieces(r, x, y, func(impl.Window, int, int) bool { return true })
}

func modelLight(r impl.Room, x, y int) float32 { return modelSum(modelLights(r, x, y)) }

func modelGlares(r impl.Room, d impl.Desk) []float32 {
	x, y := int(d.At.X), int(d.At.Y)
	return modelPieces(r, x, y, func(w impl.Window, wx, wy int) bool {
		ahead := []bool{wy < y, wx > x, wy > y, wx < x}[d.Wall]
		return ahead || wx == x && wy == y && w.Wall == d.Wall
	})
}

func modelGlare(r impl.Room, d impl.Desk) float32 { return modelSum(modelGlares(r, d)) }

func modelSuits(r impl.Room, d impl.Desk, p impl.Person) bool {
	light := modelLight(r, int(d.At.X), int(d.At.Y))
	return p.Least <= light && light <= p.Most && modelGlare(r, d) <= p.Glare
}

// allTiles are the tiles of a room in their order.
func allTiles(r impl.Room) []impl.Tile {
	var list []impl.Tile
	for n := range int(r.Wide) * int(r.High) {
		list = append(list, impl.Tile{X: int8(n % int(r.Wide)), Y: int8(n / int(r.Wide))})
	}
	return list
}

// allDesks are a desk at each tile of a room, faced to each wall.
func allDesks(r impl.Room) []impl.Desk {
	var list []impl.Desk
	for _, at := range allTiles(r) {
		for wall := range int8(4) {
			list = append(list, impl.Desk{At: at, Wall: wall})
		}
	}
	return list
}

// allLists returns all lists of seats in which no desk is twice, in their order, -1 being behind all desks.
func allLists(people, desks int) [][]int64 {
	lists := [][]int64{{}}
	for range people {
		var longer [][]int64
		for _, list := range lists {
			for desk := range int64(desks) + 1 {
				if desk == int64(desks) {
					desk = -1
				}
				used := false
				for _, other := range list {
					used = used || desk != -1 && other == desk
				}
				if !used {
					longer = append(longer, append(append([]int64{}, list...), desk))
				}
			}
		}
		lists = longer
	}
	return lists
}

// modelSeats returns the first list that seats most people; suits tells whom which desk suits.
func modelSeats(people, desks int, suits func(person, desk int) bool) ([]int64, int64) {
	var best []int64
	most := int64(-1)
	for _, list := range allLists(people, desks) {
		many, right := int64(0), true
		for person, desk := range list {
			if desk != -1 {
				many++
				right = right && suits(person, int(desk))
			}
		}
		if right && many > most {
			best, most = list, many
		}
	}
	return best, most
}

// apartTiles reports whether two tiles share neither a side nor a corner.
func apartTiles(a, b impl.Tile) bool {
	x, y := int(a.X)-int(b.X), int(a.Y)-int(b.Y)
	return x < -1 || x > 1 || y < -1 || y > 1
}

// firstApart returns the first list of so many tiles that are apart, by going through all lists of tiles in their order.
func firstApart(lit []impl.Tile, many int) ([]impl.Tile, bool) {
	places := make([]int, many)
	for i := range places {
		places[i] = i
	}
	for many <= len(lit) {
		right := true
		for i, a := range places {
			for _, b := range places[:i] {
				right = right && apartTiles(lit[a], lit[b])
			}
		}
		if right {
			var list []impl.Tile
			for _, place := range places {
				list = append(list, lit[place])
			}
			return list, true
		}
		last := many - 1
		for last >= 0 && places[last] == len(lit)-many+last {
			last--
		}
		if last < 0 {
			break
		}
		places[last]++
		for i := last + 1; i < many; i++ {
			places[i] = places[i-1] + 1
		}
	}
	return nil, false
}

// modelLit returns all tiles with a light of at least least.
func modelLit(r impl.Room, least float32) []impl.Tile {
	var list []impl.Tile
	for _, at := range allTiles(r) {
		if modelLight(r, int(at.X), int(at.Y)) >= least {
			list = append(list, at)
		}
	}
	return list
}

// exampleRoom is that of the document's example.
func exampleRoom() impl.Room {
	return impl.Room{Wide: 3, High: 2, Windows: []impl.Window{{Light: 1}, {Wall: impl.WaEast, At: 1, Light: 0.5}}}
}

// cornerRoom has a window at the first and the last tile of each wall; the order of their lights matters for sums.
func cornerRoom(wide, high int8) impl.Room {
	r := impl.Room{Wide: wide, High: high}
	for wall, last := range []int8{wide - 1, high - 1, wide - 1, high - 1} {
		light := 1 / float32(wall*2+3)
		r.Windows = append(r.Windows, impl.Window{Wall: int8(wall), At: 0, Light: light})
		r.Windows = append(r.Windows, impl.Window{Wall: int8(wall), At: last, Light: sub(1, light)})
	}
	return r
}

// roomWith returns a room with windows that stand and give light anywhere.
func roomWith(source *rand.Rand, wide, high int8, many int) impl.Room {
	r := impl.Room{Wide: wide, High: high}
	for range many {
		wall := int8(source.Intn(4))
		w := impl.Window{Wall: wall, At: int8(source.Intn(int(wide))), Light: source.Float32()}
		if wall == impl.WaEast || wall == impl.WaWest {
			w.At = int8(source.Intn(int(high)))
		}
		if source.Intn(8) == 0 {
			w.Light = []float32{0, minus0, tiniest, below(1), 1}[source.Intn(5)]
		}
		r.Windows = append(r.Windows, w)
	}
	return r
}

// someRooms are the rooms of the edge cases, and some with any windows.
func someRooms() []impl.Room {
	list := []impl.Room{exampleRoom()}
	sides := []int8{1, 2, 3, 9, 10}
	for _, wide := range sides {
		for _, high := range sides {
			list = append(list, impl.Room{Wide: wide, High: high}, cornerRoom(wide, high))
		}
	}
	for _, light := range []float32{0, minus0, tiniest, below(1), 1} {
		// Two windows at one tile, in two walls and in the same one, and as many as there may be.
		r := impl.Room{Wide: 4, High: 3, Windows: []impl.Window{{Light: light}, {Wall: impl.WaWest, Light: light}, {Light: light}}}
		list = append(list, r)
		full := impl.Room{Wide: 10, High: 10}
		for n := range int8(12) {
			full.Windows = append(full.Windows, impl.Window{Wall: n % 4, At: 9 * (n % 2), Light: light})
		}
		list = append(list, full)
	}
	source := rand.New(rand.NewSource(4))
	for n := range 40 {
		list = append(list, roomWith(source, int8(1+source.Intn(10)), int8(1+source.Intn(10)), n%13))
	}
	return append(list, roomWith(source, 10, 10, 12), roomWith(source, 1, 10, 12), roomWith(source, 10, 1, 12))
}

// badRooms are not valid, each by a single number, or by one window too many.
func badRooms() []impl.Room {
	var list []impl.Room
	for _, side := range []int8{-128, -1, 0, 11, 127} {
		list = append(list, impl.Room{Wide: side, High: 2}, impl.Room{Wide: 2, High: side})
	}
	for _, w := range badWindows() {
		first, last := exampleRoom(), cornerRoom(3, 2)
		first.Windows[0] = w
		last.Windows[7] = w
		list = append(list, first, last)
	}
	for _, many := range []int{13, 256, 100000} {
		list = append(list, impl.Room{Wide: 3, High: 2, Windows: make([]impl.Window, many)})
	}
	return append(list, impl.Room{})
}

// badWindows are not valid in a room of 3 by 2 tiles.
func badWindows() []impl.Window {
	var list []impl.Window
	for _, wall := range []int8{-128, -4, -1, 4, 5, 127} {
		list = append(list, impl.Window{Wall: wall, Light: 1})
	}
	for wall, many := range []int8{3, 2, 3, 2} {
		for _, at := range []int8{-128, -1, many, many + 1, 127} {
			list = append(list, impl.Window{Wall: int8(wall), At: at, Light: 1})
		}
	}
	for _, light := range badParts() {
		list = append(list, impl.Window{Wall: impl.WaSouth, At: 1, Light: light})
	}
	return list
}

// badTiles are none of a room of 3 by 2 tiles.
func badTiles() []impl.Tile {
	return []impl.Tile{{X: 3}, {X: -1}, {X: 127}, {X: -128}, {Y: 2}, {Y: -1}, {Y: 127}, {Y: -128}, {X: 3, Y: 2}, {X: 2, Y: 2}, {X: 3, Y: 1}}
}

// badDesks are none in a room of 3 by 2 tiles.
func badDesks() []impl.Desk {
	list := []impl.Desk{{Wall: -1}, {Wall: 4}, {Wall: 127}, {Wall: -128}}
	for _, at := range badTiles() {
		list = append(list, impl.Desk{At: at, Wall: impl.WaEast})
	}
	return list
}

// badPeople are not valid, each by a single number.
func badPeople() []impl.Person {
	var list []impl.Person
	for _, number := range []float32{nan, infinite, -infinite, above(impl.MaxSize), below(-impl.MaxSize)} {
		list = append(list, impl.Person{Least: number, Most: 1, Glare: 1}, impl.Person{Most: number, Glare: 1}, impl.Person{Most: 1, Glare: number})
	}
	return append(list, impl.Person{Least: tiniest}, impl.Person{Most: -tiniest}, impl.Person{Least: above(1), Most: 1},
		impl.Person{Least: impl.MaxSize, Most: -impl.MaxSize})
}
