package ratio

// rounding is a law by which a number between two neighbours becomes one of them.
type rounding interface {
	// up tells whether it becomes the upper one. Half is -1, 0 or 1 if it is below the middle, in the middle, or above it; odd is true if the lower neighbour is odd.
	up(half int, odd bool) bool
}

type (
	down struct{}
	even struct{}
)

func (down) up(int, bool) bool { return false }

func (even) up(half int, odd bool) bool { return half > 0 || half == 0 && odd }

// goesUp tells whether a number from 0 to 1, which is added to one with this last digit, is rounded up.
func (n number) goesUp(law rounding, last byte) bool {
	half := 0
	switch law.(type) {
	case even: // no other law asks where the middle is
		half = order(n.Num, sub(n.Den, n.Num))
	}
	return law.up(half, (last-'0')%2 == 1)
}

// rounded returns one of the two whole numbers next to n.
func (n number) rounded(law rounding) string {
	x := n.mixed()
	if x.goesUp(law, x.floor[len(x.floor)-1]) {
		return add(x.floor, "1")
	}
	return x.floor
}
