package outcome

import (
	"testing"

	"metewand/api"
)

func TestOf(t *testing.T) {
	for want, got := range map[string]string{
		"OK": Name(api.OK), "ErrForm": Name(api.ErrForm), "ErrZero": Name(api.ErrZero), "ErrLimit": Name(api.ErrLimit), "error 17": Name(17), "error": Name(-1),
		"1, 2": Of(api.OK, "1", "2"), "": Of(api.OK), "ErrMany": Of(api.ErrMany, "1"),
	} {
		if got != want {
			t.Error(got, want)
		}
	}
}

func TestPlain(t *testing.T) {
	for _, s := range []string{"0", "-7", "-3/2", "2/4", "x/0", "1/2/3", ""} {
		if got := Written(Number(s)); got != s {
			t.Errorf("%q is %q", s, got)
		}
	}
	for _, s := range []string{"0..0", "-1/2..7", "2/4..x/0", ".."} {
		if got := WrittenSpan(Span(s)); got != s {
			t.Errorf("%q is %q", s, got)
		}
	}
	for _, s := range []string{"", "m", "kg m^2 s^-3/2", "s m^0 M^1/0"} {
		if got := WrittenDim(Dim(s)); got != s {
			t.Errorf("%q is %q", s, got)
		}
	}
	if s := Written(api.Rat{}) + WrittenDim(nil); s != "" {
		t.Error(s)
	}
}

// reports counts what is reported.
type reports int

func (r *reports) Helper()               {}
func (r *reports) Errorf(string, ...any) { *r++ }
func (r *reports) Fatal(...any)          { *r++ }

func TestRow(t *testing.T) {
	n := new(reports)
	Row(n, []string{"1", "2"}, "1", "2")
	Row(n, nil)
	if *n != 0 {
		t.Error(*n)
	}
	Row(n, []string{"1", "2"}, "1")
	Row(n, []string{"1"}, "2")
	if *n != 2 {
		t.Error(*n)
	}
}

func TestMust(t *testing.T) {
	n := new(reports)
	if x := Must[string](n)("1", api.OK); x != "1" || *n != 0 {
		t.Error(x, *n)
	}
	Must[string](n)("", api.ErrForm)
	if *n != 1 {
		t.Error(*n)
	}
}
