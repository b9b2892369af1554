// Package outcome writes what functions return as the tables of the chapters do. It is there for the tests.
package outcome

import (
	"strings"

	"metewand/api"
)

// Name returns the name of an error code.
func Name(e api.Errno) string {
	names := [...]string{"OK", "ErrForm", "ErrValue", "ErrRange", "ErrName", "ErrTwice", "ErrOrder", "ErrMany", "ErrFew", "ErrKind", "ErrUnits", "ErrShape", "ErrZero", "ErrLarge", "ErrNone", "ErrClash", "ErrLimit"}
	if e < 0 || int(e) >= len(names) {
		return e.Error()
	}
	return names[e]
}

// Of returns the results, or the name of the error.
func Of(e api.Errno, results ...string) string {
	if e != api.OK {
		return Name(e)
	}
	return strings.Join(results, ", ")
}
