package mark

import "sightbench/api"

// symbol is one of the 16 numbers in which a mark's word is written.
type symbol uint8

// powers has the powers of 2: the points at which a message is taken for its word.
var powers = [api.MarkWord]symbol{1, 2, 4, 8, 3, 6, 12, 11, 5, 10, 7, 14, 15, 13, 9}

// exponents says by its number which power of 2 a symbol is; 0 is none.
var exponents = [api.MarkWord + 1]int{0, 0, 1, 4, 2, 8, 5, 10, 3, 14, 9, 7, 6, 13, 11, 12}

func (a symbol) plus(b symbol) symbol { return a ^ b }

func (a symbol) times(b symbol) symbol {
	if a == 0 || b == 0 {
		return 0
	}
	return powers[(exponents[a]+exponents[b])%len(powers)]
}

// inverse returns the inverse of a symbol other than 0.
func (a symbol) inverse() symbol {
	return powers[(len(powers)-exponents[a])%len(powers)]
}

// isSymbol reports whether n may be a symbol.
func isSymbol(n uint8) bool { return int(n) < len(exponents) }

// areSymbols reports whether each number of a list may be a symbol.
func areSymbols(list []uint8) bool {
	for _, n := range list {
		if !isSymbol(n) {
			return false
		}
	}
	return true
}

// Mul returns the product of two symbols.
func Mul(a, b uint8) (uint8, api.Errno) {
	if !isSymbol(a) || !isSymbol(b) {
		return 0, api.ErrArg
	}
	return uint8(symbol(a).times(symbol(b))), api.OK
}

// Inverse returns the inverse of a symbol.
func Inverse(a uint8) (uint8, api.Errno) {
	if !isSymbol(a) || a == 0 {
		return 0, api.ErrArg
	}
	return uint8(symbol(a).inverse()), api.OK
}
