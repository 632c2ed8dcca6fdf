package mark

import (
	"slices"

	"sightbench/api"
)

// Encode returns the word of a message.
func Encode(message []uint8) ([]uint8, api.Errno) {
	if !isMessage(message) {
		return nil, api.ErrArg
	}
	factors := symbols(message)
	word := make([]uint8, api.MarkWord)
	for i, p := range powers {
		word[i] = uint8(value(factors, p))
	}
	return word, api.OK
}

// Decode returns the message that fits a received word, and the number of its errors.
func Decode(word []uint8, erased []bool, k int) ([]uint8, int, api.Errno) {
	if len(word) != api.MarkWord || !areSymbols(word) || len(erased) != api.MarkWord || !isLength(k) {
		return nil, 0, api.ErrArg
	}
	list := samples(word, erased)
	message, ok := fitting(list, k)
	if !ok {
		return nil, 0, api.ErrMark
	}
	wrong := 0
	for _, s := range list {
		if value(message, s.at) != s.got {
			wrong++
		}
	}
	return numbers(message), wrong, api.OK
}

// isMessage reports whether a message is valid.
func isMessage(message []uint8) bool { return isLength(len(message)) && areSymbols(message) }

// isLength reports whether a message may have n symbols.
func isLength(n int) bool { return within(n, 1, api.MaxMessage) }

// within reports whether n is from least to most.
func within(n, least, most int) bool { return n >= least && n <= most }

// symbols returns the symbols with those numbers.
func symbols(list []uint8) []symbol {
	var all []symbol
	for _, n := range list {
		all = append(all, symbol(n))
	}
	return all
}

// numbers returns the numbers of those symbols.
func numbers(list []symbol) []uint8 {
	var all []uint8
	for _, s := range list {
		all = append(all, uint8(s))
	}
	return all
}

// value returns the sum of some factors, each times a power of p, from the power 0 on.
func value(factors []symbol, p symbol) symbol {
	sum := symbol(0)
	for _, f := range slices.Backward(factors) {
		sum = sum.times(p).plus(f)
	}
	return sum
}

// sample is a symbol of a received word that is not erased, and its point.
type sample struct{ at, got symbol }

// samples returns the samples of a received word.
func samples(word []uint8, erased []bool) []sample {
	var list []sample
	for i, p := range powers {
		if !erased[i] {
			list = append(list, sample{p, symbol(word[i])})
		}
	}
	return list
}

// fitting returns the message of k symbols that fits some samples, and whether there is one.
//
// At most n samples may be wrong. If a message fits, there are polynomials b, which is 0 at the points of the wrong samples, and a, the product of b and the message; at each sample, a is b times the symbol that was received. Whatever polynomials of as few factors these are, a less b times the message is 0 at the points of all right samples. There are at least as many of these as it may have factors, so it is 0 everywhere; and then b is 0 at the points of all wrong samples, and elsewhere at so few that the message can be told by those that are left.
func fitting(list []sample, k int) ([]symbol, bool) {
	if len(list) < k {
		return nil, false
	}
	n := (len(list) - k) / 2
	_, b, ok := relation(list, n+k, n+1)
	if !ok {
		return nil, false
	}
	// At most n samples are left out. So a message whose word has all the others fits.
	message, _, ok := relation(without(list, b), k, 1)
	return message, ok
}

// without returns the samples at whose points the value of some factors is not 0.
func without(list []sample, factors []symbol) []sample {
	return slices.DeleteFunc(slices.Clone(list), func(s sample) bool { return value(factors, s.at) == 0 })
}
