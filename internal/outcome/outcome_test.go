package outcome

import (
	"testing"

	"metewand/api"
)

func TestOf(t *testing.T) {
	for want, got := range map[string]string{
		"OK": Name(api.OK), "ErrForm": Name(api.ErrForm), "ErrZero": Name(api.ErrZero), "ErrLimit": Name(api.ErrLimit), "error 17": Name(17), "error": Name(-1),
		"1, 2": Of(api.OK, "1", "2"), "": Of(api.OK), "ErrMany": Of(api.ErrMany, "1"),
	} {
		if got != want {
			t.Error(got, want)
		}
	}
}
