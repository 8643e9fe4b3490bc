package tests

import (
	"fmt"
	"reflect"
	"slices"
	"strings"
	"testing"

	"loop.example/g01367/impl"
)

// callAnswer is what a call returns: a code, whether all else is a zero value, and all of it as a text.
type callAnswer struct {
	code   int64
	isZero bool
	other  string
}

// callAnswerOf takes what a call returns, the code last.
func callAnswerOf(list []any) callAnswer {
	last := len(list) - 1
	answer := callAnswer{isZero: true, code: list[last].(int64)}
	for _, result := range list[:last] {
		value := reflect.ValueOf(result)
		isEmpty := value.Kind() == reflect.Slice && value.Len() == 0
		answer.isZero = answer.isZero && (isEmpty || value.IsZero())
		answer.other += fmt.Sprint(result, " ")
	}
	return answer
}

func both[A any](a A, code int64) []any { return []any{a, code} }

func three[A, B any](a A, b B, code int64) []any { return []any{a, b, code} }

// callOf is a function of a chapter, the arguments of all functions of which are told as one.
type callOf[A any] struct {
	name string
	uses string // the arguments that it has, each by a word; or what it asks of one, as in "list list.some"
	run  func(a A) []any
}

// faultOf is an argument that is wrong, or is not what some functions ask of it, and the code that it gives.
type faultOf[A any] struct {
	argument string
	code     int64
	put      func(a *A)
}

// codeOf returns the code of a function with a fault, which is OK if it does not mind it.
func (c callOf[A]) codeOf(fault faultOf[A]) int64 {
	if slices.Contains(strings.Fields(c.uses), fault.argument) {
		return fault.code
	}
	return impl.OK
}

// isWith reports whether two faults are about one argument, so that there is only the later one of them.
func (f faultOf[A]) isWith(other faultOf[A]) bool {
	one, _, _ := strings.Cut(f.argument, ".")
	two, _, _ := strings.Cut(other.argument, ".")
	return one == two
}

// wantErrors tries each fault, and each two of them, with the functions that mind them: the code that comes first is
// told, and all else is a zero value then.
func wantErrors[A any](t *testing.T, good func() A, calls []callOf[A], faults []faultOf[A], order ...int64) {
	t.Helper()
	for _, call := range calls {
		if answer := callAnswerOf(call.run(good())); answer.code != impl.OK || answer.isZero {
			t.Errorf("%s: %v", call.name, answer)
		}
		for i, one := range faults {
			for j, two := range faults {
				if i != j && one.isWith(two) || call.codeOf(one) == impl.OK || call.codeOf(two) == impl.OK {
					continue
				}
				args := good()
				one.put(&args)
				two.put(&args)
				want := order[min(slices.Index(order, one.code), slices.Index(order, two.code))]
				if answer := callAnswerOf(call.run(args)); answer.code != want || !answer.isZero {
					t.Fatalf("%s with %s %d and %s %d: %v, want %d", call.name, one.argument, i, two.argument, j, answer, want)
				}
			}
		}
	}
}

// wantOthersUnminded tries each fault with all functions: one that does not have the argument does not mind it.
func wantOthersUnminded[A any](t *testing.T, good func() A, calls []callOf[A], faults []faultOf[A]) {
	t.Helper()
	for i, fault := range faults {
		for _, call := range calls {
			args := good()
			fault.put(&args)
			want := call.codeOf(fault)
			if answer := callAnswerOf(call.run(args)); answer.code != want {
				t.Errorf("%s with %s %d: %v, want %d", call.name, fault.argument, i, answer, want)
			}
		}
	}
}
