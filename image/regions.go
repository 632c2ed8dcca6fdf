package image

import "sightbench/api"

// Distance returns the distances to the nearest pixel with the value 0.
func Distance(m api.Image) (api.Image, api.Errno) {
	if e := Check(m); e != api.OK {
		return api.Image{}, e
	}
	var zeros []place
	for p, v := range picture(m).pixels() {
		if v == 0 {
			zeros = append(zeros, p)
		}
	}
	return build(m.W, m.H, func(p place) int {
		least := m.W + m.H
		for _, q := range zeros {
			least = min(least, p.steps(q))
		}
		return least
	}), api.OK
}

// Label returns the numbers of the parts, and how many there are.
func Label(m api.Image, eight bool) (api.Image, int, api.Errno) {
	if e := Check(m); e != api.OK {
		return api.Image{}, 0, e
	}
	numbers := picture{W: m.W, H: m.H, Pix: make([]int, len(m.Pix))}
	count := 0
	for p, v := range picture(m).pixels() {
		if v != 0 && numbers.at(p) == 0 {
			count++
			number(picture(m), numbers, p, count, around(eight))
		}
	}
	return api.Image(numbers), count, api.OK
}

// number writes n into the numbers of all pixels of the part that p is in.
func number(m, numbers picture, p place, n int, steps []place) {
	numbers.Pix[numbers.index(p)] = n
	for open := []place{p}; len(open) > 0; {
		p = open[len(open)-1]
		open = open[:len(open)-1]
		for _, o := range steps {
			if q := p.plus(o); m.has(q) && m.at(q) != 0 && numbers.at(q) == 0 {
				numbers.Pix[numbers.index(q)] = n
				open = append(open, q)
			}
		}
	}
}

// around returns the steps to the neighbours of a pixel: four, or eight.
func around(eight bool) []place {
	steps := []place{{0, -1}, {-1, 0}, {1, 0}, {0, 1}}
	if eight {
		steps = append(steps, place{-1, -1}, place{1, -1}, place{-1, 1}, place{1, 1})
	}
	return steps
}

// Basins returns the numbers of the basins, and how many there are.
func Basins(m api.Image) (api.Image, int, api.Errno) {
	if e := Check(m); e != api.OK {
		return api.Image{}, 0, e
	}
	numbers := make(map[place]int)
	for p := range picture(m).pixels() {
		if picture(m).lowest(p) == p {
			numbers[p] = len(numbers) + 1
		}
	}
	return build(m.W, m.H, func(p place) int { return numbers[picture(m).end(p)] }), len(numbers), api.OK
}

// lowest returns the lowest neighbour of a pixel.
func (m picture) lowest(p place) place {
	first := p
	for _, o := range around(false) {
		if q := p.plus(o); m.has(q) && m.lower(q, first) {
			first = q
		}
	}
	return first
}

// lower reports whether q is taken as the lowest neighbour rather than p.
func (m picture) lower(q, p place) bool {
	if m.at(q) == m.at(p) {
		return m.index(q) < m.index(p)
	}
	return m.at(q) < m.at(p)
}

// end returns the pixel that the way from lowest neighbour to lowest neighbour ends in. It ends, because the values never rise, and where they stay the same the way goes to an earlier pixel.
func (m picture) end(p place) place {
	for {
		q := m.lowest(p)
		if q == p {
			return p
		}
		p = q
	}
}
