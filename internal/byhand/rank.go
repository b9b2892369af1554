package byhand

import (
	"slices"

	"metewand/api"
)

// modulus is a prime number that divides no determinant of the small numbers of the tests.
const modulus = 1_000_000_007

// Rank returns how many of the rows are no sums of multiples of others. It computes with remainders, so the numbers have to be small.
func Rank(rows [][]api.Rat) int {
	rest := make([][]int, len(rows))
	for i, row := range rows {
		for _, x := range row {
			rest[i] = append(rest[i], remainder(x.Num)*inverse(remainder(x.Den))%modulus)
		}
	}
	rank := 0
	for len(rest) > 0 {
		first := rest[0]
		rest = rest[1:]
		column := slices.IndexFunc(first, func(n int) bool { return n != 0 })
		if column < 0 {
			continue
		}
		rank++
		for _, row := range rest {
			times := modulus - row[column]*inverse(first[column])%modulus
			for i := range row {
				row[i] = (row[i] + times*first[i]) % modulus
			}
		}
	}
	return rank
}

func remainder(a string) int {
	n := 0
	for _, digit := range Amount(a) {
		n = (n*10 + int(digit-'0')) % modulus
	}
	if Negative(a) {
		return (modulus - n) % modulus
	}
	return n
}

func inverse(n int) int {
	power := 1
	for e := modulus - 2; e > 0; e /= 2 {
		if e%2 == 1 {
			power = power * n % modulus
		}
		n = n * n % modulus
	}
	return power
}
