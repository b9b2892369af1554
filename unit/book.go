package unit

import (
	"slices"
	"strings"

	"metewand/api"
	"metewand/dim"
	"metewand/internal/exact"
	"metewand/internal/failure"
	"metewand/ratio"
)

const letters = "abcdefghijklmnopqrstuvwxyzABCDEFGHIJKLMNOPQRSTUVWXYZ"

func isWord(s string) bool {
	return s != "" && len(s) <= api.UnitWord && strings.Trim(s, letters) == ""
}

// valid throws the error of a book.
func valid(b api.UnitBook) api.UnitBook {
	checkPrefixes(b.Prefixes)
	checkEntries(b.Entries)
	return b
}

func checkPrefixes(prefixes []api.UnitPrefix) {
	if len(prefixes) > api.UnitPrefixes {
		failure.Throw(api.ErrMany)
	}
	known := map[string]bool{}
	for _, p := range prefixes {
		switch {
		case !isWord(p.Name):
			failure.Throw(api.ErrName)
		case known[p.Name]:
			failure.Throw(api.ErrTwice)
		}
		known[p.Name] = true
		checkFactor(p.Factor)
	}
}

func checkEntries(entries []api.UnitEntry) {
	if len(entries) > api.UnitEntries {
		failure.Throw(api.ErrMany)
	}
	for i, x := range entries {
		checkEntry(x)
		if slices.ContainsFunc(entries[:i], func(y api.UnitEntry) bool { return clash(x, y) }) {
			failure.Throw(api.ErrTwice)
		}
	}
}

// checkEntry throws the error that an entry has, whatever the others are.
func checkEntry(x api.UnitEntry) {
	if !isWord(x.Name) {
		failure.Throw(api.ErrName)
	}
	checkFactor(x.Factor)
	failure.Check(ratio.Check(x.Offset))
	checkDim(x.Dim)
	switch {
	case x.Prefixed != 0 && (x.Prefixed != 1 || hasOffset(x)):
		failure.Throw(api.ErrKind)
	case x.Since < 0 || x.Since > x.Until || x.Until > api.UnitVersion:
		failure.Throw(api.ErrRange)
	}
}

// clash tells whether two entries have the same name in one of their versions.
func clash(x, y api.UnitEntry) bool {
	return x.Name == y.Name && max(x.Since, y.Since) <= min(x.Until, y.Until)
}

func hasOffset(x api.UnitEntry) bool { return x.Offset.Num != "0" }

// checkFactor throws the error of a number, and ErrValue unless it is greater than 0.
func checkFactor(x api.Rat) {
	failure.Check(ratio.Check(x))
	if x.Num == "0" || x.Num[0] == '-' {
		failure.Throw(api.ErrValue)
	}
}

func checkDim(d []api.Power) { failure.Check(dim.Check(d)) }

// exactly throws the error of a number.
func exactly(x api.Rat) exact.Rat {
	failure.Check(ratio.Check(x))
	return exact.Of(x)
}
