package mark

import (
	"sightbench/api"
	"sightbench/image"
)

// What a module is.
const (
	paper      uint8 = 0
	ink        uint8 = 1
	unreadable uint8 = 2
)

// Modules returns the modules of an image.
func Modules(m api.Image, s int, c api.Contrast) ([]uint8, api.Errno) {
	if !isCamera(m) {
		return nil, api.ErrImage
	}
	if !isSize(s) || !isContrast(c) {
		return nil, api.ErrArg
	}
	if m.W%s != 0 || m.H%s != 0 {
		return nil, api.ErrSize
	}
	var list []uint8
	for y := 0; y < m.H; y += s {
		for x := 0; x < m.W; x += s {
			sum, _ := image.Box(m, x, y, x+s, y+s)
			list = append(list, kind(sum, s*s, c))
		}
	}
	return list, api.OK
}

// kind returns what a module is whose pixels, so many, have that sum.
func kind(sum, pixels int, c api.Contrast) uint8 {
	switch {
	case sum <= c.Low*pixels:
		return ink
	case sum >= c.High*pixels:
		return paper
	}
	return unreadable
}

// isCamera reports whether m is a camera image.
func isCamera(m api.Image) bool {
	if image.Check(m) != api.OK {
		return false
	}
	for _, v := range m.Pix {
		if !within(v, 0, api.MaxValue) {
			return false
		}
	}
	return true
}

// isContrast reports whether a contrast is valid.
func isContrast(c api.Contrast) bool {
	return c.Low >= 0 && c.Low < c.High && c.High <= api.MaxValue
}

// isSize reports whether a module may have s * s pixels.
func isSize(s int) bool { return within(s, 1, api.MaxModule) }

// colours are the values of the pixels of an image that is made.
type colours struct{ ink, paper int }

// areValid reports whether ink is darker than paper, and both are values of a camera.
func (c colours) areValid() bool { return isContrast(api.Contrast{Low: c.ink, High: c.paper}) }

// paint returns the image of some modules, so many in a row, with s * s pixels for each.
func (c colours) paint(modules []uint8, columns, s int) api.Image {
	m := api.Image{W: columns * s, H: len(modules) / columns * s}
	for i := range m.W * m.H {
		x, y := i%m.W/s, i/m.W/s
		v := c.paper
		if modules[y*columns+x] == ink {
			v = c.ink
		}
		m.Pix = append(m.Pix, v)
	}
	return m
}
