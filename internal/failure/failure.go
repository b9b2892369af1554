// Package failure ends computations with an error code, however deep they are. All layers share it; what they throw is guarded in the functions that they export, so that it never leaves one.
package failure

import (
	"errors"

	"metewand/api"
)

// failure is the error that ends a computation.
type failure struct{ api.Errno }

// Throw ends the computation that is guarded with an error code.
func Throw(code api.Errno) {
	panic(failure{code})
}

// Check ends the computation that is guarded, unless the code is api.OK.
func Check(code api.Errno) {
	if code != api.OK {
		Throw(code)
	}
}

// Guarded returns what work returns, or a zero value and the error code that it throws.
func Guarded[T any](work func() T) (result T, e api.Errno) {
	defer func() {
		if thrown := recover(); thrown != nil {
			e = codeOf(thrown)
		}
	}()
	return work(), api.OK
}

func codeOf(thrown any) api.Errno {
	if err, ok := thrown.(error); ok {
		var end failure
		if errors.As(err, &end) {
			return end.Errno
		}
	}
	// Nothing but a failure is thrown. Should a layer have a fault, its callers still get no panic.
	return api.ErrLimit
}
