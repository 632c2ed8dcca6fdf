package judge

import "cmp"

// wordBits is how many bits a word of a long number has.
const wordBits = 32

// long is a whole number from 0 on of any size: its words, the lowest one first.
type long []uint32

// newLong returns a number of one word as a long number.
func newLong(n int) long { return long{uint32(n)} }

// multiply makes a number n times as great; n has one word, so that what is carried has one, too.
func (a *long) multiply(n int) {
	carry := uint64(0)
	for i, word := range *a {
		carry += uint64(word) * uint64(n)
		(*a)[i] = uint32(carry)
		carry >>= wordBits
	}
	a.extend(carry)
}

// divide divides a number by one of one word that leaves no remainder.
func (a *long) divide(n int) {
	rest := uint64(0)
	for i := len(*a) - 1; i >= 0; i-- {
		rest = rest<<wordBits | uint64((*a)[i])
		(*a)[i] = uint32(rest / uint64(n))
		rest %= uint64(n)
	}
}

// add makes a number greater by b.
func (a *long) add(b long) {
	for len(*a) < len(b) {
		*a = append(*a, 0)
	}
	carry := uint64(0)
	for i, word := range *a {
		carry += uint64(word) + uint64(b.word(i))
		(*a)[i] = uint32(carry)
		carry >>= wordBits
	}
	a.extend(carry)
}

// extend puts what is carried before the highest word.
func (a *long) extend(carry uint64) {
	if carry > 0 {
		*a = append(*a, uint32(carry))
	}
}

// word returns the word with that index; beyond the highest one all are 0.
func (a long) word(i int) uint32 {
	if i < len(a) {
		return a[i]
	}
	return 0
}

// compare returns -1, 0 or 1: whether a is less than b, equal, or greater.
func (a long) compare(b long) int {
	for i := max(len(a), len(b)) - 1; i >= 0; i-- {
		if order := cmp.Compare(a.word(i), b.word(i)); order != 0 {
			return order
		}
	}
	return 0
}

// repeat does the same thing with n so often.
func repeat(times int, do func(n int), n int) {
	for range times {
		do(n)
	}
}
