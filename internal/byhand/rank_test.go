package byhand

import (
	"strings"
	"testing"

	"metewand/api"
)

func TestRank(t *testing.T) {
	for s, want := range map[string]int{"": 0, "0": 0, "0 0|0 0": 0, "7": 1, "1 2|2 4": 1, "1 2|2 5": 2, "1/2 -1/3|-3 2|0 0": 1, "1/2 -1/3|-3 2|0 1": 2, "0 1|1 0|1 1": 2, "1 2 3|4 5 6|7 8 9": 2, "1 2 3|4 5 6|7 8 10": 3, "0 0 1|0 0 2|1 0 0": 2} {
		var rows [][]api.Rat
		for line := range strings.SplitSeq(s, "|") {
			var row []api.Rat
			for word := range strings.FieldsSeq(line) {
				num, den, is := strings.Cut(word, "/")
				if !is {
					den = "1"
				}
				row = append(row, api.Rat{Num: num, Den: den})
			}
			rows = append(rows, row)
		}
		if got := Rank(rows); got != want {
			t.Errorf("%s: %d, not %d", s, got, want)
		}
	}
}
