package mark_test

import (
	"slices"
	"testing"

	"sightbench/api"
	"sightbench/mark"
)

// P6.3: modules of each size, with sums near the bounds of ink and paper.
func TestModules(t *testing.T) {
	c := api.Contrast{Low: 50, High: 100}
	row := img(6, 50, 51, 99, 100, 0, 255)
	if got, e := mark.Modules(row, 1, c); e != api.OK || !slices.Equal(got, []uint8{1, 2, 2, 0, 1, 0}) {
		t.Error(got, e)
	}
	two := img(8, 200, 0, 201, 0, 250, 0, 250, 1, 0, 0, 0, 0, 149, 0, 149, 0)
	if got, e := mark.Modules(two, 2, c); e != api.OK || !slices.Equal(got, []uint8{1, 2, 2, 0}) {
		t.Error(got, e)
	}
	two = img(2, 0, 0, 1, 0, 0, 0, 100, 100, 255, 255, 255, 255)
	for _, x := range []struct {
		c    api.Contrast
		want []uint8
	}{{api.Contrast{Low: 0, High: 1}, []uint8{2, 0, 0}}, {api.Contrast{Low: 0, High: 255}, []uint8{2, 2, 0}}, {api.Contrast{Low: 254, High: 255}, []uint8{1, 1, 0}}, {api.Contrast{Low: 49, High: 50}, []uint8{1, 0, 0}}, {api.Contrast{Low: 50, High: 51}, []uint8{1, 1, 0}}} {
		if got, e := mark.Modules(two, 2, x.c); e != api.OK || !slices.Equal(got, x.want) {
			t.Error(x.c, got, e)
		}
	}
}

// P6.3: all sizes of images.
func TestModulesOfSizes(t *testing.T) {
	d := newDice(20)
	for w := 1; w <= 16; w++ {
		for h := 1; h <= 16; h++ {
			m := filled(w, h, 0)
			c := d.contrast()
			for i := range m.Pix {
				m.Pix[i] = max(0, min(255, d.from(c.Low-20, c.High+20)))
			}
			for s := 1; s <= 2; s++ {
				got, e := mark.Modules(m, s, c)
				if w%s != 0 || h%s != 0 {
					fails(t, "Modules", len(got) == 0, e, api.ErrSize)
				} else if e != api.OK || !slices.Equal(got, modulesOf(m, s, c)) {
					t.Error(m, s, c, got, e)
				}
			}
		}
	}
}

// P6.3, P1 (R1): each error, and with several of them the first one.
func TestModulesErrors(t *testing.T) {
	good := api.Contrast{Low: 50, High: 100}
	odd := filled(3, 5, 9)
	check := func(m api.Image, s int, c api.Contrast, want api.Errno) {
		t.Helper()
		got, e := mark.Modules(m, s, c)
		fails(t, "Modules", len(got) == 0, e, want)
	}
	for _, m := range badImages() {
		check(m, 1, good, api.ErrImage)
		check(m, 0, good, api.ErrImage)
		check(m, 3, api.Contrast{}, api.ErrImage)
	}
	for _, s := range badSizes() {
		check(odd, s, good, api.ErrArg)
		check(filled(8, 8, 0), s, good, api.ErrArg)
		check(filled(15, 15, 0), s, api.Contrast{}, api.ErrArg)
	}
	for _, c := range badContrasts() {
		check(odd, 1, c, api.ErrArg)
		check(odd, 2, c, api.ErrArg)
	}
	check(odd, 2, good, api.ErrSize)
	check(filled(4, 5, 0), 2, good, api.ErrSize)
	check(filled(5, 4, 0), 2, good, api.ErrSize)
}
