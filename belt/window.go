package belt

import "sightbench/api"

// window is the counts from one to another.
type window struct{ first, final int }

// windowOf returns the window of a place, for a part that passes the sensor at the count 0.
func windowOf(b api.Belt, place int) window {
	least, most := moves(b)
	return window{(place + most - 1) / most, (place+b.Length)/least + 1}
}

// after returns the window for a part that passes the sensor at a count.
func (w window) after(at int) window { return window{at + w.first, at + w.final} }

// has reports whether a count is in a window.
func (w window) has(count int) bool { return within(count, w.first, w.final) }
