package whole

import (
	"cmp"
	"strconv"
)

// Limbs are digits in a base that is a power of 10, so that decimal text needs no division.
const (
	limbBase   = 1_000_000_000
	limbDigits = 9
)

// natural is the limbs of a number that is not less than 0, the least limb first. Where nothing else is said, the last limb is not 0.
type natural []uint32

// naturalOf returns the number of decimal digits.
func naturalOf(digits string) natural {
	n := make(natural, 0, (len(digits)+limbDigits-1)/limbDigits)
	for end := len(digits); end > 0; end -= limbDigits {
		limb := uint32(0)
		for _, r := range digits[max(0, end-limbDigits):end] {
			limb = limb*10 + uint32(r-'0')
		}
		n = append(n, limb)
	}
	return n.trimmed()
}

// naturalFrom returns a number that is less than the square of limbBase.
func naturalFrom(n uint64) natural {
	return natural{uint32(n % limbBase), uint32(n / limbBase)}.trimmed()
}

// powerOfTen returns 1 with so many zeros.
func powerOfTen(zeros int) natural {
	n := make(natural, zeros/limbDigits+1)
	n[len(n)-1] = 1
	n.scale(tenTo(zeros%limbDigits), 0)
	return n
}

func tenTo(n int) uint64 {
	power := uint64(1)
	for range n {
		power *= 10
	}
	return power
}

// trimmed returns the limbs without leading zeros, cut so that nothing can be appended over what lies behind them.
func (x natural) trimmed() natural {
	size := len(x)
	for size > 0 && x[size-1] == 0 {
		size--
	}
	return x[:size:size]
}

// copied returns x in new memory, with leading zeros up to a size.
func (x natural) copied(size int) natural {
	y := make(natural, size)
	copy(y, x)
	return y
}

// laid returns x in a room, with leading zeros in the rest of it, where limbs of other numbers may have been.
func (x natural) laid(room natural) natural {
	copy(room, x)
	clear(room[min(len(x), len(room)):])
	return room
}

// limb returns a limb, 0 where there is none.
func (x natural) limb(i int) int64 {
	if i < 0 || i >= len(x) {
		return 0
	}
	return int64(x[i])
}

// digits returns how many decimal digits the number has (0 has none).
func (x natural) digits() int {
	if len(x) == 0 {
		return 0
	}
	count := (len(x) - 1) * limbDigits
	for top := x[len(x)-1]; top > 0; top /= 10 {
		count++
	}
	return count
}

func (x natural) text() string {
	if len(x) == 0 {
		return "0"
	}
	text := make([]byte, 0, len(x)*limbDigits)
	text = strconv.AppendUint(text, uint64(x[len(x)-1]), 10)
	for i := len(x) - 2; i >= 0; i-- {
		for ten := uint32(limbBase / 10); ten > 0; ten /= 10 {
			text = append(text, byte('0'+x[i]/ten%10))
		}
	}
	return string(text)
}

func (x natural) compare(y natural) int {
	if len(x) != len(y) {
		return cmp.Compare(len(x), len(y))
	}
	for i := len(x) - 1; i >= 0; i-- {
		if x[i] != y[i] {
			return cmp.Compare(x[i], y[i])
		}
	}
	return 0
}

func (x natural) plus(y natural) natural {
	z := x.copied(max(len(x), len(y)) + 1)
	z.gain(y)
	return z.trimmed()
}

// minus returns x less y, which is not greater.
func (x natural) minus(y natural) natural {
	z := x.copied(len(x))
	z.lose(y)
	return z.trimmed()
}

// gain adds y to x, which has room for the sum.
func (x natural) gain(y natural) {
	carry := uint32(0)
	for i := 0; i < len(y) || carry > 0; i++ {
		limb := x[i] + carry
		if i < len(y) {
			limb += y[i]
		}
		carry = limb / limbBase
		x[i] = limb % limbBase
	}
}

// lose subtracts y, which is not greater, from x.
func (x natural) lose(y natural) {
	borrow := uint32(0)
	for i := 0; i < len(y) || borrow > 0; i++ {
		due := borrow
		if i < len(y) {
			due += y[i]
		}
		borrow = 0
		if x[i] < due {
			borrow = 1
			x[i] += limbBase
		}
		x[i] -= due
	}
}

// scale multiplies x by a factor that is at most limbBase, adds a limb, and returns what has no room.
func (x natural) scale(factor, limb uint64) (carry uint64) {
	carry = limb
	for i := range len(x) {
		t := uint64(x[i])*factor + carry
		carry = t / limbBase
		x[i] = uint32(t % limbBase)
	}
	return carry
}

// shrink divides x by a divisor that is at most limbBase, and returns the remainder. The last limbs may be 0 then.
func (x natural) shrink(divisor uint64) (remainder uint64) {
	for i := len(x) - 1; i >= 0; i-- {
		t := remainder*limbBase + uint64(x[i])
		x[i] = uint32(t / divisor)
		remainder = t % divisor
	}
	return remainder
}
