// Package outcome writes what functions return as the tables of the chapters do. It is there for the tests.
package outcome

import (
	"strings"

	"metewand/api"
)

// Name returns the name of an error code.
func Name(e api.Errno) string {
	names := [...]string{"OK", "ErrForm", "ErrValue", "ErrRange", "ErrName", "ErrTwice", "ErrOrder", "ErrMany", "ErrFew", "ErrKind", "ErrUnits", "ErrShape", "ErrZero", "ErrLarge", "ErrNone", "ErrClash", "ErrLimit"}
	if e < 0 || int(e) >= len(names) {
		return e.Error()
	}
	return names[e]
}

// Of returns the results, or the name of the error.
func Of(e api.Errno, results ...string) string {
	if e != api.OK {
		return Name(e)
	}
	return strings.Join(results, ", ")
}

// ender is a test that may be ended.
type ender interface {
	Helper()
	Fatal(args ...any)
}

// Must returns a function that returns a result, or ends the test if there is an error.
func Must[T any](t ender) func(x T, e api.Errno) T {
	return func(x T, e api.Errno) T {
		t.Helper()
		if e != api.OK {
			t.Fatal(Name(e))
		}
		return x
	}
}
