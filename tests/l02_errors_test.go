package tests

import (
	"fmt"
	"math"
	"slices"
	"strings"
	"testing"

	"loop.example/g01367/impl"
)

// slatArgs are the arguments of all functions of chapter 2 that have an error code.
type slatArgs struct {
	blind        impl.Blind
	sun          impl.Sun
	cord         impl.Cord
	tilt, height int64
	heights      []int64
	hour, facing int64
	low, high    float32
	load, place  float32
	stop         int64
}

func goodSlatArgs() slatArgs {
	return slatArgs{
		blind: tenSlats(), sun: arcSun(), cord: eightLong(), tilt: -32, height: 20, heights: []int64{1, 32, 64}, hour: 12,
		facing: 128, low: 0.25, high: 0.75, load: 0.5, place: 5, stop: 2,
	}
}

// slatAnswer is what a call returns: a code, and whether all else is a zero value.
type slatAnswer struct {
	code   int64
	isZero bool
	other  string
}

func answerOf[T any](result T, code int64) slatAnswer {
	var zero T
	text, none := fmt.Sprintf("%#v", result), fmt.Sprintf("%#v", zero)
	return slatAnswer{code, text == none || strings.HasSuffix(text, "{}"), text}
}

func answerOfBoth[A, B any](a A, b B, code int64) slatAnswer {
	one, two := answerOf(a, code), answerOf(b, code)
	return slatAnswer{code, one.isZero && two.isZero, one.other + " " + two.other}
}

type slatCall struct {
	name string
	uses string // the arguments that it has, each by a word
	run  func(a slatArgs) slatAnswer
}

func slatCalls() []slatCall {
	return []slatCall{
		{"TiltTo", "blind tilt", func(a slatArgs) slatAnswer { return answerOf(impl.TiltTo(a.blind, a.tilt)) }},
		{"BlockedBy", "blind height", func(a slatArgs) slatAnswer { return answerOf(impl.BlockedBy(a.blind, a.height)) }},
		{"OpenFor", "blind height", func(a slatArgs) slatAnswer { return answerOf(impl.OpenFor(a.blind, a.height)) }},
		{"PassFor", "blind height", func(a slatArgs) slatAnswer { return answerOf(impl.PassFor(a.blind, a.height)) }},
		{"PassAll", "blind heights", func(a slatArgs) slatAnswer { return answerOf(impl.PassAll(a.blind, a.heights)) }},
		{"CutOff", "blind height", func(a slatArgs) slatAnswer { return answerOf(impl.CutOff(a.blind, a.height)) }},
		{"ShutTilts", "blind height", func(a slatArgs) slatAnswer { return answerOf(impl.ShutTilts(a.blind, a.height)) }},
		{"TiltFor", "blind height low", func(a slatArgs) slatAnswer {
			return answerOfBoth(impl.TiltFor(a.blind, a.height, a.low))
		}},
		{"TiltsWithin", "blind height low high", func(a slatArgs) slatAnswer {
			return answerOf(impl.TiltsWithin(a.blind, a.height, a.low, a.high))
		}},
		{"GapFor", "blind height low", func(a slatArgs) slatAnswer { return answerOf(impl.GapFor(a.blind, a.height, a.low)) }},
		{"PassWindow", "blind sun hour facing", func(a slatArgs) slatAnswer {
			return answerOf(impl.PassWindow(a.blind, a.sun, a.hour, a.facing))
		}},
		{"PassDay", "blind sun facing", func(a slatArgs) slatAnswer { return answerOf(impl.PassDay(a.blind, a.sun, a.facing)) }},
		{"HighOf", "blind", func(a slatArgs) slatAnswer { return answerOf(impl.HighOf(a.blind)) }},
		{"StretchedCord", "cord load", func(a slatArgs) slatAnswer { return answerOf(impl.StretchedCord(a.cord, a.load)) }},
		{"PlaceOf", "cord load stop", func(a slatArgs) slatAnswer { return answerOf(impl.PlaceOf(a.cord, a.load, a.stop)) }},
		{"StopFor", "cord load place", func(a slatArgs) slatAnswer {
			return answerOfBoth(impl.StopFor(a.cord, a.load, a.place))
		}},
	}
}

// slatFault is an argument that is wrong, and the code that it gives.
type slatFault struct {
	argument string
	code     int64
	put      func(a *slatArgs)
}

func invalidSlats() []slatFault {
	var list []slatFault
	for _, b := range badBlinds() {
		list = append(list, slatFault{"blind", impl.ErrInvalid, func(a *slatArgs) { a.blind = b }})
	}
	for _, s := range badSuns() {
		list = append(list, slatFault{"sun", impl.ErrInvalid, func(a *slatArgs) { a.sun = s }})
	}
	for _, c := range badCords() {
		list = append(list, slatFault{"cord", impl.ErrInvalid, func(a *slatArgs) { a.cord = c }})
	}
	return list
}

func wholesOutside() []slatFault {
	var list []slatFault
	add := func(argument string, put func(a *slatArgs, n int64), numbers ...int64) {
		// The numbers that would come back into their ranges if they were made narrow are outside as well.
		for _, n := range append(numbers, math.MinInt64, math.MaxInt64, 1<<8+300, 1<<16+2, 1<<32+2, -1<<32+2) {
			list = append(list, slatFault{argument, impl.ErrRange, func(a *slatArgs) { put(a, n) }})
		}
	}
	add("tilt", func(a *slatArgs, n int64) { a.tilt = n }, -65, 65, 256, -256)
	add("height", func(a *slatArgs, n int64) { a.height = n }, 0, 65, -1, 256+32)
	add("hour", func(a *slatArgs, n int64) { a.hour = n }, -1, 24, 256+12)
	add("facing", func(a *slatArgs, n int64) { a.facing = n }, -1, 256, 512)
	add("stop", func(a *slatArgs, n int64) { a.stop = n }, -1, 5, 100, 101, 258)
	add("heights", func(a *slatArgs, n int64) { a.heights = []int64{n} }, 0, 65, -1)
	add("heights", func(a *slatArgs, n int64) { a.heights = []int64{1, 2, n} }, 0, 65, -1)
	add("heights", func(a *slatArgs, n int64) { a.heights = []int64{n, 2, 3} }, 0, 65, -1)
	full := slices.Repeat([]int64{5}, 100)
	add("heights", func(a *slatArgs, n int64) { a.heights = append(slices.Clone(full[1:]), n) }, 0, 65, -1)
	for _, heights := range [][]int64{append(full, 5), append(full, 0), make([]int64, 101), make([]int64, 1000000)} {
		list = append(list, slatFault{"heights", impl.ErrLimit, func(a *slatArgs) { a.heights = heights }})
	}
	return list
}

func partsOutside() []slatFault {
	var list []slatFault
	for _, part := range badParts() {
		list = append(list,
			slatFault{"low", impl.ErrRange, func(a *slatArgs) { a.low = part }},
			slatFault{"high", impl.ErrRange, func(a *slatArgs) { a.high = part }},
			slatFault{"load", impl.ErrRange, func(a *slatArgs) { a.load = part }})
	}
	for _, number := range []float32{nan, infinite, -infinite, above(impl.MaxSize), below(-impl.MaxSize)} {
		list = append(list, slatFault{"place", impl.ErrRange, func(a *slatArgs) { a.place = number }})
	}
	return list
}

// worse returns the code that is told if there are both: ErrInvalid comes first, then ErrLimit, then ErrRange.
func worse(a, b int64) int64 {
	for _, code := range []int64{impl.ErrInvalid, impl.ErrLimit, impl.ErrRange} {
		if a == code || b == code {
			return code
		}
	}
	return impl.OK
}

func codeOfFault(call slatCall, fault slatFault) int64 {
	if slices.Contains(strings.Fields(call.uses), fault.argument) {
		return fault.code
	}
	return impl.OK
}

// P1: each function returns for all arguments; an error comes in its order, and all else is a zero value then.
func TestP1ErrorsOfSlats(t *testing.T) {
	faults := slices.Concat(invalidSlats(), wholesOutside(), partsOutside())
	for _, call := range slatCalls() {
		if answer := call.run(goodSlatArgs()); answer.code != impl.OK || answer.isZero {
			t.Errorf("%s: %v", call.name, answer)
		}
		for i, one := range faults {
			for j, two := range faults {
				if i != j && one.argument == two.argument || codeOfFault(call, one) == impl.OK {
					continue
				}
				args := goodSlatArgs()
				one.put(&args)
				two.put(&args)
				want := worse(codeOfFault(call, one), codeOfFault(call, two))
				if answer := call.run(args); answer.code != want || !answer.isZero {
					t.Fatalf("%s with %s %d and %s %d: %v, want %d", call.name, one.argument, i, two.argument, j, answer, want)
				}
			}
		}
	}
}

// P1: a wrong argument that a function does not have changes nothing.
func TestP1OtherArgumentsOfSlats(t *testing.T) {
	for _, fault := range slices.Concat(invalidSlats(), wholesOutside(), partsOutside()) {
		for _, call := range slatCalls() {
			args := goodSlatArgs()
			fault.put(&args)
			want := codeOfFault(call, fault)
			if answer := call.run(args); answer.code != want {
				t.Errorf("%s with another %s: %v, want %d", call.name, fault.argument, answer, want)
			}
		}
	}
}

// ErrNotFound comes behind all other errors.
func TestP1WhatIsNotFound(t *testing.T) {
	narrow := impl.Blind{Slats: 1, Wide: 0.0625, Gap: 64}
	wide := impl.Blind{Slats: 1, Wide: 64, Gap: 1, Tilt: 32}
	for _, c := range []struct {
		name   string
		got    slatAnswer
		wanted int64
	}{
		{"no tilt shuts", answerOf(impl.CutOff(narrow, 1)), impl.ErrNotFound},
		{"none shuts, bad height", answerOf(impl.CutOff(narrow, 0)), impl.ErrRange},
		{"none shuts, bad blind", answerOf(impl.CutOff(impl.Blind{Wide: 0.0625, Gap: 64}, 0)), impl.ErrInvalid},
		{"no gap", answerOf(impl.GapFor(wide, 32, 1)), impl.ErrNotFound},
		{"no gap from straight above", answerOf(impl.GapFor(narrow, 64, tiniest)), impl.ErrNotFound},
		{"no gap, bad height", answerOf(impl.GapFor(wide, 65, 1)), impl.ErrRange},
		{"no gap, no part", answerOf(impl.GapFor(wide, 32, above(1))), impl.ErrRange},
		{"no gap, bad blind", answerOf(impl.GapFor(impl.Blind{Slats: 1, Wide: 64, Tilt: 32}, 32, 1)), impl.ErrInvalid},
	} {
		if c.got.code != c.wanted || !c.got.isZero {
			t.Errorf("%s: %v, want %d", c.name, c.got, c.wanted)
		}
	}
	// Only tilts below 0 shut this one, so that they are told, but no cut-off is.
	b := impl.Blind{Slats: 1, Wide: 1, Gap: 1}
	found := false
	for height := int64(1); height < 64; height++ {
		for b.Gap = 1; b.Gap <= 64; b.Gap++ {
			shut, _ := impl.ShutTilts(b, height)
			cut, code := impl.CutOff(b, height)
			none := len(shut) == 0 || shut[len(shut)-1] < 0
			if none != (code == impl.ErrNotFound) || none && cut != 0 {
				t.Errorf("%v at %d: shut %v, cut-off %d with %d", b, height, shut, cut, code)
			}
			found = found || none
		}
	}
	if !found {
		t.Error("each blind has a cut-off")
	}
}
