package ratio

import (
	"bytes"
	"iter"

	"metewand/api"
	"metewand/internal/failure"
)

// digits goes through the digits behind the point of a number that is not less than 0, and less than 1, each one with the number whose first digit it is. There is no end.
func (n number) digits() iter.Seq2[number, byte] {
	return func(yield func(number, byte) bool) {
		rest := n
		for {
			digit, next := rest.shifted()
			if !yield(rest, digit) {
				return
			}
			rest = next
		}
	}
}

// shifted returns 10 n, for such a number: the digit before the point, and the part behind it.
func (n number) shifted() (digit byte, part number) {
	if len(n.Num) < api.Digits {
		quotient, rest := floor(mul(n.Num, "10"), n.Den)
		return quotient[0], of(rest, n.Den)
	}
	// One more digit would be too many. So n is added up, less 1 each time that the sum would reach it.
	digit, sum, lack := byte('0'), "0", sub(n.Den, n.Num)
	for range 10 {
		if order(sum, lack) < 0 {
			sum = add(sum, n.Num)
			continue
		}
		sum = sub(sum, lack)
		digit++
	}
	return digit, of(sum, n.Den)
}

// stage says how much of a decimal is written.
type stage int

const (
	unwritten stage = iota
	inFront         // the digits before the point are written
	pointed         // and the point, too
)

// writer writes a decimal.
type writer struct {
	stage
	minus bool
	text  []byte
}

// put writes the digits before the point when it is called first, then digits behind it.
func (w *writer) put(digits []byte) {
	switch w.stage {
	case unwritten:
		if w.minus {
			w.text = append(w.text, '-')
		}
		w.text = append(w.text, digits...)
		w.stage = inFront
	case inFront:
		w.text = append(w.text, '.')
		w.stage = pointed
		fallthrough
	case pointed:
		w.text = append(w.text, digits...)
	}
}

func (n number) decimal(places int) string {
	if places < 0 || places > api.RatioPlaces {
		failure.Throw(api.ErrValue)
	}
	x := n.amount().mixed()
	text := []byte(x.floor)
reading:
	for part, digit := range x.digits() {
		if len(text) < len(x.floor)+places {
			text = append(text, digit)
			continue reading
		}
		if part.goesUp(even{}, text[len(text)-1]) {
			text = increased(text)
		}
		break reading
	}
	point := len(text) - places
	w := writer{minus: n.negative() && len(bytes.Trim(text, "0")) > 0}
	w.put(text[:point])
	if places > 0 {
		w.put(text[point:])
	}
	return string(w.text)
}

// increased returns the digits of the next whole number. (They may be more than a whole number of layer 1 has.)
func increased(digits []byte) []byte {
	for i := len(digits) - 1; i >= 0; i-- {
		if digits[i] < '9' {
			digits[i]++
			return digits
		}
		digits[i] = '0'
	}
	return append([]byte{'1'}, digits...)
}

// expansion returns what comes before the period of n, and the period. It begins at the first digit of a number that was met before: the same digits come again.
func (n number) expansion() [2]string {
	x := n.amount().mixed()
	var text []byte
	var period int
	met := map[number]int{}
looking:
	for part, digit := range x.digits() {
		place, again := met[part]
		switch {
		case again:
			period = len(text) - place
			break looking
		case part.isZero():
			break looking
		case len(text) == api.RatioTerms:
			failure.Throw(api.ErrLarge)
		}
		met[part] = len(text)
		text = append(text, digit)
	}
	begin := len(text) - period
	w := writer{minus: n.negative()}
	w.put([]byte(x.floor))
	if len(text) > 0 {
		w.put(text[:begin])
	}
	return [2]string{string(w.text), string(text[begin:])}
}
