package tests

import (
	"fmt"
	"math"
	"slices"
	"strings"
	"testing"

	"loop.example/g01367/impl"
)

// roomArgs are the arguments of all functions of chapter 3 that have an error code.
type roomArgs struct {
	room         impl.Room
	wanted       impl.Window
	at           impl.Tile
	desk         impl.Desk
	desks        []impl.Desk
	person       impl.Person
	people       []impl.Person
	least, bound float32
	many, window int64
	part         float32
	sun          impl.Sun
	hour, north  int64
}

func goodRoomArgs() roomArgs {
	return roomArgs{
		room: cornerRoom(3, 2), wanted: impl.Window{Wall: impl.WaEast, At: 1, Light: 1}, at: impl.Tile{X: 2, Y: 1},
		desk: impl.Desk{At: impl.Tile{X: 1, Y: 1}}, desks: []impl.Desk{{}, {At: impl.Tile{X: 2, Y: 1}, Wall: 3}},
		person: impl.Person{Most: 9, Glare: 9}, people: []impl.Person{{Most: 9, Glare: 9}, {Least: 1, Most: 9, Glare: 9}},
		least: 0.5, bound: 0.25, many: 2, window: 1, part: 0.5, sun: arcSun(), hour: 12, north: 128,
	}
}

// roomAnswer is what a call returns: a code, whether all else is a zero value, and all of it as a text.
type roomAnswer struct {
	code   int64
	isZero bool
	other  string
}

// roomAnswerOf takes what a call returns, the code last.
func roomAnswerOf(list ...any) roomAnswer {
	last := len(list) - 1
	answer := roomAnswer{isZero: true, code: list[last].(int64)}
	for _, result := range list[:last] {
		answer.isZero = answer.isZero && isZeroInRooms(result)
		answer.other += fmt.Sprint(result, " ")
	}
	return answer
}

// isZeroInRooms reports whether a result is a zero value, or an empty list.
func isZeroInRooms(result any) bool {
	switch x := result.(type) {
	case []uint16:
		return len(x) == 0
	case []int64:
		return len(x) == 0
	case []impl.Tile:
		return len(x) == 0
	case impl.Room:
		return impl.SameRoom(x, impl.Room{})
	case float32:
		return identical(x, 0)
	case [10][10]float32:
		return x == [10][10]float32{}
	}
	return slices.Contains([]any{false, int64(0), uint16(0), impl.Tile{}, [10]uint16{}}, result)
}

type roomCall struct {
	name string
	uses string // the arguments that it has, each by a word
	run  func(a roomArgs) roomAnswer
}

func roomCalls() []roomCall {
	return []roomCall{
		{"TileOf", "room wanted", func(a roomArgs) roomAnswer { return roomAnswerOf(both(impl.TileOf(a.room, a.wanted))...) }},
		{"LightAt", "room at", func(a roomArgs) roomAnswer { return roomAnswerOf(both(impl.LightAt(a.room, a.at))...) }},
		{"LightMap", "room", func(a roomArgs) roomAnswer { return roomAnswerOf(both(impl.LightMap(a.room))...) }},
		{"MeanLight", "room", func(a roomArgs) roomAnswer { return roomAnswerOf(both(impl.MeanLight(a.room))...) }},
		{"Brightest", "room", func(a roomArgs) roomAnswer { return roomAnswerOf(three(impl.Brightest(a.room))...) }},
		{"LitTiles", "room least", func(a roomArgs) roomAnswer { return roomAnswerOf(both(impl.LitTiles(a.room, a.least))...) }},
		{"GlareAt", "room desk", func(a roomArgs) roomAnswer { return roomAnswerOf(both(impl.GlareAt(a.room, a.desk))...) }},
		{"LeastGlare", "room at", func(a roomArgs) roomAnswer { return roomAnswerOf(three(impl.LeastGlare(a.room, a.at))...) }},
		{"GlareBits", "room desks bound", func(a roomArgs) roomAnswer {
			return roomAnswerOf(both(impl.GlareBits(a.room, a.desks, a.bound))...)
		}},
		{"Suits", "room desk person", func(a roomArgs) roomAnswer {
			return roomAnswerOf(both(impl.Suits(a.room, a.desk, a.person))...)
		}},
		{"SuitBits", "room desks people", func(a roomArgs) roomAnswer {
			return roomAnswerOf(both(impl.SuitBits(a.room, a.desks, a.people))...)
		}},
		{"SeatPeople", "room desks people", func(a roomArgs) roomAnswer {
			return roomAnswerOf(three(impl.SeatPeople(a.room, a.desks, a.people))...)
		}},
		{"PlaceDesks", "room least many", func(a roomArgs) roomAnswer {
			return roomAnswerOf(both(impl.PlaceDesks(a.room, a.least, a.many))...)
		}},
		{"DimWindow", "room window part", func(a roomArgs) roomAnswer {
			return roomAnswerOf(both(impl.DimWindow(a.room, a.window, a.part))...)
		}},
		{"LitBy", "room sun hour north", func(a roomArgs) roomAnswer {
			return roomAnswerOf(both(impl.LitBy(a.room, a.sun, a.hour, a.north))...)
		}},
		{"MirrorRoom", "room", func(a roomArgs) roomAnswer { return roomAnswerOf(both(impl.MirrorRoom(a.room))...) }},
	}
}

// roomFault is an argument that is wrong, and the code that it gives.
type roomFault struct {
	argument string
	code     int64
	put      func(a *roomArgs)
}

func invalidInRooms() []roomFault {
	var list []roomFault
	for _, r := range badRooms() {
		list = append(list, roomFault{"room", impl.ErrInvalid, func(a *roomArgs) { a.room = r }})
	}
	for _, s := range badSuns() {
		list = append(list, roomFault{"sun", impl.ErrInvalid, func(a *roomArgs) { a.sun = s }})
	}
	for i, p := range badPeople() {
		list = append(list, roomFault{"person", impl.ErrInvalid, func(a *roomArgs) { a.person = p }})
		people := make([]impl.Person, 1+i%9)
		people[i%len(people)] = p
		list = append(list, roomFault{"people", impl.ErrInvalid, func(a *roomArgs) { a.people = people }})
	}
	// A person who is not valid is told before there being too many of them.
	late := append(make([]impl.Person, 8), badPeople()[0])
	return append(list, roomFault{"people", impl.ErrInvalid, func(a *roomArgs) { a.people = late }})
}

func outsideOfRooms() []roomFault {
	var list []roomFault
	add := func(argument string, put func(a *roomArgs)) {
		list = append(list, roomFault{argument, impl.ErrRange, put})
	}
	for _, w := range badWindows() {
		add("wanted", func(a *roomArgs) { a.wanted = w })
	}
	for _, at := range badTiles() {
		add("at", func(a *roomArgs) { a.at = at })
	}
	for i, d := range badDesks() {
		add("desk", func(a *roomArgs) { a.desk = d })
		desks := make([]impl.Desk, 1+i%8)
		desks[i%len(desks)] = d
		add("desks", func(a *roomArgs) { a.desks = desks })
		// A desk that is none is told before there being too many of them.
		late := append(make([]impl.Desk, 8+i), d)
		add("desks", func(a *roomArgs) { a.desks = late })
	}
	for _, part := range badParts() {
		add("part", func(a *roomArgs) { a.part = part })
	}
	for _, odd := range []float32{nan, math.Float32frombits(0xffc00001)} {
		add("least", func(a *roomArgs) { a.least = odd })
		add("bound", func(a *roomArgs) { a.bound = odd })
	}
	for argument, numbers := range map[string][]int64{"many": {-1, 6, 7}, "window": {-1, 8, 9, 12}, "hour": {-1, 24}, "north": {-1, 256, 512}} {
		// The numbers that would come back into their ranges if they were made narrow are outside as well.
		for _, n := range append(numbers, math.MinInt64, math.MaxInt64, 1<<8+256+1, 1<<16+1, 1<<32+1, -1<<32+1) {
			add(argument, func(a *roomArgs) {
				*map[string]*int64{"many": &a.many, "window": &a.window, "hour": &a.hour, "north": &a.north}[argument] = n
			})
		}
	}
	return list
}

func tooManyInRooms() []roomFault {
	var list []roomFault
	for _, many := range []int{9, 16, 17, 256} {
		desks, people := make([]impl.Desk, many), make([]impl.Person, many)
		list = append(list,
			roomFault{"desks", impl.ErrLimit, func(a *roomArgs) { a.desks = desks }},
			roomFault{"people", impl.ErrLimit, func(a *roomArgs) { a.people = people }})
	}
	return list
}

func codeOfRoomFault(call roomCall, fault roomFault) int64 {
	if slices.Contains(strings.Fields(call.uses), fault.argument) {
		return fault.code
	}
	return impl.OK
}

// worseInRooms returns the code that is told if there are both: here ErrRange comes before ErrLimit.
func worseInRooms(a, b int64) int64 {
	for _, code := range []int64{impl.ErrInvalid, impl.ErrRange, impl.ErrLimit} {
		if a == code || b == code {
			return code
		}
	}
	return impl.OK
}

// P1: each function returns for all arguments; an error comes in its order, and all else is a zero value then.
func TestP1ErrorsOfRooms(t *testing.T) {
	faults := slices.Concat(invalidInRooms(), outsideOfRooms(), tooManyInRooms())
	for _, call := range roomCalls() {
		if answer := call.run(goodRoomArgs()); answer.code != impl.OK || answer.isZero {
			t.Errorf("%s: %v", call.name, answer)
		}
		for i, one := range faults {
			want := codeOfRoomFault(call, one)
			args := goodRoomArgs()
			one.put(&args)
			if answer := call.run(args); answer.code != want || want != impl.OK && !answer.isZero {
				t.Fatalf("%s with %s %d: %v, want %d", call.name, one.argument, i, answer, want)
			}
		}
		for i, one := range faults {
			for j, two := range faults {
				if i > j || one.argument == two.argument {
					continue
				}
				want := worseInRooms(codeOfRoomFault(call, one), codeOfRoomFault(call, two))
				args := goodRoomArgs()
				one.put(&args)
				two.put(&args)
				if answer := call.run(args); answer.code != want || want != impl.OK && !answer.isZero {
					t.Fatalf("%s with %s %d and %s %d: %v, want %d", call.name, one.argument, i, two.argument, j, answer, want)
				}
			}
		}
	}
}

// ErrNotFound comes behind all other errors.
func TestP1PlacesThatAreNotFound(t *testing.T) {
	dark := impl.Room{Wide: 3, High: 2}
	for _, c := range []struct {
		room  impl.Room
		least float32
		many  int64
		want  int64
	}{
		{dark, 1, 1, impl.ErrNotFound},
		{dark, 0, 3, impl.ErrNotFound},
		{dark, infinite, 5, impl.ErrNotFound},
		{dark, infinite, 0, impl.OK},
		{dark, 1, 6, impl.ErrRange},
		{dark, 1, -1, impl.ErrRange},
		{dark, nan, 1, impl.ErrRange},
		{dark, nan, 0, impl.ErrRange},
		{impl.Room{Wide: 3}, 1, 1, impl.ErrInvalid},
		{impl.Room{Wide: 3}, nan, 6, impl.ErrInvalid},
	} {
		tiles, code := impl.PlaceDesks(c.room, c.least, c.many)
		if code != c.want || len(tiles) != 0 {
			t.Errorf("%v, least %v, many %d: %v and %d, want %d", c.room, c.least, c.many, tiles, code, c.want)
		}
	}
}

// There is no window to dim in a room without windows.
func TestP1NoWindowToDim(t *testing.T) {
	for _, window := range []int64{-1, 0, 1} {
		r, code := impl.DimWindow(impl.Room{Wide: 3, High: 2}, window, 1)
		if code != impl.ErrRange || !impl.SameRoom(r, impl.Room{}) {
			t.Errorf("window %d: %v and %d", window, r, code)
		}
	}
	full := impl.Room{Wide: 1, High: 1, Windows: make([]impl.Window, 12)}
	for window, want := range map[int64]int64{0: impl.OK, 11: impl.OK, 12: impl.ErrRange} {
		if _, code := impl.DimWindow(full, window, 1); code != want {
			t.Errorf("window %d of 12: %d, want %d", window, code, want)
		}
	}
}

// P1: lists that are as long as they may be at all are refused, or read to their ends.
func TestP1LongestListsInRooms(t *testing.T) {
	const most = 1000000
	r, p, d := exampleRoom(), impl.Person{Most: 1}, impl.Desk{}
	wide := impl.Room{Wide: 3, High: 2, Windows: make([]impl.Window, most)}
	desks, people := make([]impl.Desk, most), make([]impl.Person, most)
	for _, c := range []struct {
		name string
		got  roomAnswer
		want int64
	}{
		{"windows", roomAnswerOf(both(impl.MirrorRoom(wide))...), impl.ErrInvalid},
		{"glare", roomAnswerOf(both(impl.GlareBits(r, desks, 1))...), impl.ErrLimit},
		{"desks", roomAnswerOf(both(impl.SuitBits(r, desks, []impl.Person{p}))...), impl.ErrLimit},
		{"people", roomAnswerOf(three(impl.SeatPeople(r, []impl.Desk{d}, people))...), impl.ErrLimit},
		{"no such desk", roomAnswerOf(both(impl.SuitBits(r, append(desks, impl.Desk{Wall: 4}), nil))...), impl.ErrRange},
		{"no such person", roomAnswerOf(three(impl.SeatPeople(r, desks, append(people, impl.Person{Most: -1})))...), impl.ErrInvalid},
	} {
		if c.got.code != c.want || !c.got.isZero {
			t.Errorf("%s: %v, want %d", c.name, c.got, c.want)
		}
	}
	if impl.ValidRoom(wide) || impl.RoomText(wide) != "" || !impl.SameRoom(wide, wide) {
		t.Error("a room with very many windows is not valid, and the same")
	}
}
