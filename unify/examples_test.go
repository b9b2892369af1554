package unify_test

import (
	"strconv"
	"strings"
	"testing"

	"metewand/api"
	"metewand/internal/outcome"
	"metewand/unify"
)

var (
	q   = outcome.Number
	d   = outcome.Dim
	row = outcome.Row
)

// rats returns the numbers that are written with blanks between them.
func rats(s string) []api.Rat {
	var l []api.Rat
	for word := range strings.FieldsSeq(s) {
		l = append(l, q(word))
	}
	return l
}

// dims returns the dimensions that are written with commas between them.
func dims(s string) [][]api.Power {
	var l [][]api.Power
	for part := range strings.SplitSeq(s, ",") {
		l = append(l, d(part))
	}
	return l
}

// eq returns the equation that is written as exponents, and a dimension behind a semicolon.
func eq(s string) api.UnifyEq {
	exps, dimension, _ := strings.Cut(s, ";")
	return api.UnifyEq{Exps: rats(exps), Dim: d(dimension)}
}

// eqs returns the equations that are written with commas between them.
func eqs(s string) []api.UnifyEq {
	var l []api.UnifyEq
	for part := range strings.SplitSeq(s, ",") {
		l = append(l, eq(part))
	}
	return l
}

// The systems S, T and U of the chapter's examples, and what is written of them.
const (
	textS = "1 -1 0; m^-1, 0 1 -2"
	textT = textS + ", 1 0 0; s^-1"
	textU = textT + ", 0 0 1; kg^-1"
)

func numbers(l []api.Rat, e api.Errno) string {
	words := make([]string, len(l))
	for i, x := range l {
		words[i] = outcome.Written(x)
	}
	return outcome.Of(e, strings.Join(words, " "))
}

// list writes numbers of variables or equations.
func list(l []int, e api.Errno) string {
	words := make([]string, len(l))
	for i, n := range l {
		words[i] = strconv.Itoa(n)
	}
	return outcome.Of(e, strings.Join(words, " "))
}

// answers writes them as eqs reads them.
func answers(l []api.UnifyEq, e api.Errno) string {
	words := make([]string, len(l))
	for i, x := range l {
		words[i] = numbers(x.Exps, api.OK)
		if s := outcome.WrittenDim(x.Dim); s != "" {
			words[i] += "; " + s
		}
	}
	return outcome.Of(e, words...)
}

func one(d []api.Power, e api.Errno) string { return outcome.Of(e, outcome.WrittenDim(d)) }

func solution(l [][]api.Power, e api.Errno) string {
	words := make([]string, len(l))
	for i, d := range l {
		words[i] = outcome.WrittenDim(d)
	}
	return outcome.Of(e, words...)
}

func is(is bool, e api.Errno) string { return outcome.Of(e, strconv.FormatBool(is)) }

func TestExampleSolve(t *testing.T) {
	row(t, []string{answers(unify.Solve(3, eqs(textS)))}, "0 0 2; m, 0 0 2, 0 0 1")
}

func TestExampleFreeInstance(t *testing.T) {
	row(t, []string{list(unify.Free(3, eqs(textS))), list(unify.Free(3, eqs(textT)))}, "2", "")
	row(t, []string{solution(unify.Instance(3, eqs(textS), dims("s"))), solution(unify.Instance(3, eqs(textT), nil))}, "m s^2, s^2, s", "s, m^-1 s, m^-1/2 s^1/2")
}

func TestExampleClashProof(t *testing.T) {
	row(t, []string{answers(unify.Solve(3, eqs(textU))), list(unify.Clash(3, eqs(textU))), numbers(unify.Proof(3, eqs(textU)))}, "ErrClash", "0 1 2 3", "1 1 -1 2")
}

func TestExampleFollowsDerive(t *testing.T) {
	x := eq("2 0 -4; m^-2")
	row(t, []string{is(unify.Follows(3, eqs(textS), x)), is(unify.Follows(3, eqs(textS), eq("1 0 0"))), numbers(unify.Derive(3, eqs(textS), x))}, "true", "false", "2 2")
}

func TestExampleOnly(t *testing.T) {
	row(t, []string{one(unify.Only(3, eqs(textT), 2)), one(unify.Only(3, eqs(textS), 0)), one(unify.Only(3, eqs(textS), 3))}, "m^-1/2 s^1/2", "ErrNone", "ErrRange")
}

func TestExampleSame(t *testing.T) {
	row(t, []string{is(unify.Same(3, eqs(textS), eqs("0 -1 2, 1 0 -2; m^-1"))), is(unify.Same(3, eqs(textS), eqs(textT)))}, "true", "false")
}

func TestExampleHolds(t *testing.T) {
	row(t, []string{is(unify.Holds(3, eqs(textS), dims("m,,"))), is(unify.Holds(3, eqs(textS), dims("m,s,")))}, "true", "false")
}

func TestExampleCheck(t *testing.T) {
	row(t, []string{outcome.Name(unify.Check(1, eqs("1 1"))), outcome.Name(unify.Check(41, nil))}, "ErrMany", "ErrValue")
}

// TestExampleOfLayer is the row of this layer in the document's table of examples.
func TestExampleOfLayer(t *testing.T) {
	row(t, []string{answers(unify.Solve(3, eqs(textS)))}, "0 0 2; m, 0 0 2, 0 0 1")
}
