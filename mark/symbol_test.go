package mark_test

import (
	"testing"

	"sightbench/api"
	"sightbench/mark"
)

// mul returns a product of symbols.
func mul(t *testing.T, a, b uint8) uint8 {
	t.Helper()
	p, e := mark.Mul(a, b)
	if e != api.OK {
		t.Fatal(a, b, e)
	}
	return p
}

// P6.1
func TestMul(t *testing.T) {
	for _, x := range [][3]uint8{{2, 8, 3}, {7, 9, 10}, {0, 5, 0}, {5, 0, 0}, {0, 0, 0}, {1, 13, 13}, {15, 15, 10}} {
		if p := mul(t, x[0], x[1]); p != x[2] {
			t.Errorf("%v: %d", x, p)
		}
	}
	for a := range 256 {
		for b := range 256 {
			p, e := mark.Mul(uint8(a), uint8(b))
			if a > 15 || b > 15 {
				fails(t, "Mul", p == 0, e, api.ErrArg)
			} else if want := product(uint8(a), uint8(b)); p != want || e != api.OK {
				t.Errorf("%d * %d: %d, %v instead of %d", a, b, p, e, want)
			}
		}
	}
}

// P6.1
func TestInverse(t *testing.T) {
	for a := range 256 {
		b, e := mark.Inverse(uint8(a))
		if a == 0 || a > 15 {
			fails(t, "Inverse", b == 0, e, api.ErrArg)
		} else if e != api.OK || b > 15 || product(uint8(a), b) != 1 {
			t.Errorf("inverse of %d: %d, %v", a, b, e)
		}
	}
	if b, _ := mark.Inverse(2); b != 9 {
		t.Error(b)
	}
	if b, _ := mark.Inverse(1); b != 1 {
		t.Error(b)
	}
}

// P6.6: the symbols are a field.
func TestField(t *testing.T) {
	for a := range uint8(16) {
		inverses := 0
		for b := range uint8(16) {
			p := mul(t, a, b)
			if p == 1 {
				inverses++
				if i, e := mark.Inverse(a); i != b || e != api.OK {
					t.Error(a, b, i, e)
				}
			}
			if p > 15 || p != mul(t, b, a) || p == 0 && a != 0 && b != 0 {
				t.Error(a, b, p)
			}
			for c := range uint8(16) {
				if mul(t, p, c) != mul(t, a, mul(t, b, c)) || mul(t, a, b^c) != p^mul(t, a, c) {
					t.Error(a, b, c)
				}
			}
		}
		if (a == 0) != (inverses == 0) || inverses > 1 || mul(t, a, 1) != a {
			t.Error(a, inverses)
		}
	}
}
