package tests

import (
	"fmt"
	"slices"
	"testing"

	"loop.example/g01367/impl"
)

func wantRoom(t *testing.T, name string, got, want impl.Room, code int64) {
	t.Helper()
	same := got.Wide == want.Wide && got.High == want.High && slices.EqualFunc(got.Windows, want.Windows, func(a, b impl.Window) bool {
		return a.Wall == b.Wall && a.At == b.At && identical(a.Light, b.Light)
	})
	if !same || code != impl.OK {
		t.Errorf("%s: got %v and %d, want %v", name, got, code, want)
	}
}

func TestDimWindow(t *testing.T) {
	for i, r := range someRooms() {
		for window := range r.Windows {
			for _, part := range []float32{0, minus0, tiniest, 0.3, 0.5, below(1), 1} {
				want := r
				want.Windows = slices.Clone(r.Windows)
				want.Windows[window].Light = mul(want.Windows[window].Light, part)
				got, code := impl.DimWindow(r, int64(window), part)
				wantRoom(t, fmt.Sprintf("room %d, window %d, part %v", i, window, part), got, want, code)
			}
		}
	}
}

func TestLitBySuns(t *testing.T) {
	suns := someSuns()
	lit := 0
	for i, r := range someRooms() {
		for n, s := range []impl.Sun{suns[i%len(suns)], arcSun(), {}} {
			for _, north := range []int64{0, 1, 63, 64, 65, 127, 128, 191, 192, 193, 255} {
				for hour := range 24 {
					want := r
					want.Windows = nil
					for _, w := range r.Windows {
						facing := (north + []int64{0, 64, 128, 192}[w.Wall]) % 256
						w.Light = modelFall(s, hour, facing)
						want.Windows = append(want.Windows, w)
						if w.Light > 0 {
							lit++
						}
					}
					got, code := impl.LitBy(r, s, int64(hour), north)
					wantRoom(t, fmt.Sprintf("room %d, sun %d, hour %d, north %d", i, n, hour, north), got, want, code)
					if !impl.ValidRoom(got) {
						t.Errorf("%v is not valid", got)
					}
				}
			}
		}
	}
	if lit == 0 {
		t.Error("no window is lit")
	}
}

func TestMirroredRooms(t *testing.T) {
	for i, r := range someRooms() {
		want := r
		want.Windows = nil
		for _, w := range r.Windows {
			switch w.Wall {
			case impl.WaEast:
				w.Wall = impl.WaWest
			case impl.WaWest:
				w.Wall = impl.WaEast
			default:
				w.At = r.Wide - 1 - w.At
			}
			want.Windows = append(want.Windows, w)
		}
		mirror, code := impl.MirrorRoom(r)
		wantRoom(t, fmt.Sprint("mirror of room ", i), mirror, want, code)
		twice, code := impl.MirrorRoom(mirror)
		wantRoom(t, fmt.Sprint("room ", i, " mirrored twice"), twice, r, code)
		for _, at := range allTiles(r) {
			light, _ := impl.LightAt(r, at)
			other, code := impl.LightAt(mirror, impl.Tile{X: r.Wide - 1 - at.X, Y: at.Y})
			wantNumber(t, fmt.Sprint("light of room ", i, ", mirrored"), other, light)
			wantOK(t, "light", code)
			for wall := range int8(4) {
				glare, _ := impl.GlareAt(r, impl.Desk{At: at, Wall: wall})
				there := impl.Desk{At: impl.Tile{X: r.Wide - 1 - at.X, Y: at.Y}, Wall: []int8{0, 3, 2, 1}[wall]}
				other, code := impl.GlareAt(mirror, there)
				wantNumber(t, fmt.Sprint("glare of room ", i, ", mirrored"), other, glare)
				wantOK(t, "glare", code)
			}
		}
	}
}
