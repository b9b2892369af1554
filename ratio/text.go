package ratio

import (
	"strings"

	"metewand/api"
	"metewand/internal/failure"
	"metewand/whole"
)

func (n number) text() string {
	if n.Den == "1" {
		return n.Num
	}
	return n.Num + "/" + n.Den
}

// reader cuts a text, byte by byte, into the parts of a number. Its state is the method that takes the next byte.
type reader struct {
	next          func(b byte)
	minus         string // a minus sign, or nothing
	mark          byte   // a slash or a point, if there is one
	front, behind []byte // what is before the mark, and behind it
}

func (r *reader) sign(b byte) {
	r.next = r.before
	if b == '-' {
		r.minus = "-"
		return
	}
	r.before(b)
}

func (r *reader) before(b byte) {
	if b == '/' || b == '.' {
		r.mark = b
		r.next = r.after
		return
	}
	r.front = append(r.front, b)
}

func (r *reader) after(b byte) {
	r.behind = append(r.behind, b)
}

func parsed(s string) number {
	r := new(reader)
	r.next = r.sign
	for i := range len(s) {
		r.next(s[i])
	}
	front, behind := string(r.front), string(r.behind)
	switch r.mark {
	case '.':
		return ofDecimal(r.minus != "", front, behind)
	case '/':
		if behind == "1" {
			failure.Throw(api.ErrForm)
		}
		return valid(api.Rat{Num: r.minus + front, Den: behind})
	}
	return valid(api.Rat{Num: r.minus + front, Den: "1"})
}

// ofDecimal returns the number of a decimal, of which the digits before and behind the point are given.
func ofDecimal(minus bool, front, behind string) number {
	e := whole.Check(front)
	places := len(behind)
	if e == api.ErrForm || negative(front) || places < 1 || places > api.RatioPlaces || strings.Trim(behind, "0123456789") != "" {
		failure.Throw(api.ErrForm)
	}
	must(front, e)
	num := strings.TrimLeft(behind[:places-1], "0") + behind[places-1:]
	n := mixed{front, lowest(num, "1"+strings.Repeat("0", places))}.improper()
	if minus {
		return n.negated()
	}
	return n
}
