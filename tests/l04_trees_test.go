package tests

import (
	"fmt"
	"slices"
	"testing"

	"loop.example/g01367/impl"
)

func TestValidTrees(t *testing.T) {
	for _, list := range someTrees() {
		if !impl.ValidTrees(list) {
			t.Errorf("%v are told to be bad", list)
		}
	}
	for i, list := range badTrees() {
		if impl.ValidTrees(list) {
			t.Errorf("bad trees %d are told to be valid", i)
		}
	}
}

// checkTrees holds all that trees do to a sun against the model.
func checkTrees(t *testing.T, list []impl.Tree, s impl.Sun) uint32 {
	t.Helper()
	want := modelHidden(list, s)
	hours, code := impl.HiddenHours(list, s)
	if hours != want || code != impl.OK {
		t.Errorf("%v hide %v in the hours %b with %d, want %b", list, s, hours, code, want)
	}
	bare, code := impl.BareSun(list, s)
	left := s
	for hour := range int64(24) {
		isHidden := want>>hour&1 == 1
		if isHidden {
			left.Height[hour] = 0
		}
		if hidden, code := impl.HiddenAt(list, s, hour); hidden != isHidden || code != impl.OK {
			t.Errorf("%v hide %v at %d: %v with %d", list, s, hour, hidden, code)
		}
	}
	if bare != left || code != impl.OK {
		t.Errorf("%v leave %v of %v with %d", list, bare, s, code)
	}
	return want
}

func TestTreesHideSuns(t *testing.T) {
	suns := someSuns()
	hidden := map[uint32]int{}
	for i, list := range someTrees() {
		for n := range 6 {
			hidden[checkTrees(t, list, suns[(i+n*13)%len(suns)])]++
		}
		hidden[checkTrees(t, list, arcSun())]++
	}
	if len(hidden) < 20 {
		t.Errorf("only %d sets of hours are hidden", len(hidden))
	}
}

// The angle between a tree and a sun is told the one way round or the other, also across the north.
func TestAnglesOfTrees(t *testing.T) {
	for _, turn := range []int16{0, 1, 3, 64, 127, 128, 129, 250, 255} {
		for _, width := range []int16{0, 1, 5, 64, 127, 128} {
			tree := impl.Tree{Turn: turn, Width: width, Top: 20}
			hides := 0
			for at := range int16(256) {
				s := impl.Sun{}
				s.Height[0], s.Turns[0] = 20, at
				hidden, code := impl.HiddenAt([]impl.Tree{tree}, s, 0)
				if hidden != modelHides(tree, s, 0) || code != impl.OK {
					t.Errorf("%v and the turn %d: %v with %d", tree, at, hidden, code)
				}
				if hidden {
					hides++
				}
			}
			if want := min(2*int(width)+1, 256); hides != want {
				t.Errorf("%v hides at %d angles, want %d", tree, hides, want)
			}
		}
	}
}

func TestEdgesOfTrees(t *testing.T) {
	for _, c := range []struct {
		tree         impl.Tree
		height, turn int16
		hides        bool
	}{
		{impl.Tree{Turn: 128, Width: 0, Top: 32}, 32, 128, true},
		{impl.Tree{Turn: 128, Width: 0, Top: 32}, 33, 128, false},
		{impl.Tree{Turn: 128, Width: 0, Top: 32}, 32, 129, false},
		{impl.Tree{Turn: 128, Width: 0, Top: 32}, 32, 127, false},
		{impl.Tree{Turn: 2, Width: 4, Top: 32}, 1, 254, true},
		{impl.Tree{Turn: 2, Width: 4, Top: 32}, 1, 253, false},
		{impl.Tree{Turn: 254, Width: 4, Top: 32}, 1, 2, true},
		{impl.Tree{Turn: 254, Width: 4, Top: 32}, 1, 3, false},
		{impl.Tree{Turn: 0, Width: 127, Top: 32}, 1, 128, false},
		{impl.Tree{Turn: 0, Width: 128, Top: 32}, 1, 128, true},
		{impl.Tree{Turn: 0, Width: 128, Top: 64}, 64, 77, true},
		{impl.Tree{Turn: 0, Width: 128, Top: 63}, 64, 77, false},
		{impl.Tree{Turn: 0, Width: 128, Top: 0}, 1, 0, false},
		{impl.Tree{Turn: 0, Width: 128, Top: 0}, 0, 0, false},
		{impl.Tree{Turn: 0, Width: 128, Top: 64}, 0, 0, false},
		{impl.Tree{Turn: 0, Width: 128, Top: 64}, -64, 0, false},
	} {
		for _, list := range [][]impl.Tree{{c.tree}, {{Turn: 5}, c.tree}, {c.tree, {Turn: 5}}, slices.Repeat([]impl.Tree{c.tree}, 8)} {
			hidden, code := impl.HiddenAt(list, evenSun(c.height, c.turn), 23)
			if hidden != c.hides || code != impl.OK {
				t.Errorf("%v, height %d, turn %d: %v with %d", list, c.height, c.turn, hidden, code)
			}
		}
	}
}

func TestNoTreesHideNothing(t *testing.T) {
	for _, s := range someSuns() {
		for _, list := range [][]impl.Tree{nil, {}} {
			if hours := checkTrees(t, list, s); hours != 0 {
				t.Errorf("hours %b", hours)
			}
		}
	}
}

// A sun behind trees gives no more light.
func TestBareSunsGiveNoMoreLight(t *testing.T) {
	suns := someSuns()
	less := 0
	for i, list := range someTrees() {
		s := suns[i%len(suns)]
		bare, code := impl.BareSun(list, s)
		wantOK(t, "bare sun", code)
		for hour := range int64(24) {
			hidden, _ := impl.HiddenAt(list, s, hour)
			for _, facing := range []int64{0, 70, 128, 200} {
				name := fmt.Sprint("hour ", hour, " to ", facing, " of ", s)
				before, _ := impl.FallOn(s, hour, facing)
				behind, code := impl.FallOn(bare, hour, facing)
				wantOK(t, name, code)
				want := before
				if hidden {
					want = 0
				}
				wantNumber(t, name, behind, want)
				if behind < before {
					less++
				}
			}
		}
		again, _ := impl.HiddenHours(list, bare)
		if again != 0 {
			t.Errorf("%v hide a sun once more in the hours %b", list, again)
		}
	}
	if less == 0 {
		t.Error("no tree takes light away")
	}
}
