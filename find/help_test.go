package find_test

import (
	"math"
	"math/rand"
	"slices"
	"testing"

	"sightbench/api"
)

const (
	least = -1 << 63
	over  = 1<<63 - 1
	most  = 64 * 255 // of a limit
)

// directions has the direction of each turn.
var directions = [12]complex128{5, 4 + 3i, 3 + 4i, 5i, -3 + 4i, -4 + 3i, -5, -4 - 3i, -3 - 4i, -5i, 3 - 4i, 4 - 3i}

// offsetOf returns the offset of the pixel (i, j) of a template: its place from the middle, times the direction.
func offsetOf(t api.Template, turn, scale, i, j int) (int, int) {
	middle := complex(float64(t.W-1), float64(t.H-1))
	z := complex(float64(scale), 0) * directions[turn] * (complex(2*float64(i), 2*float64(j)) - middle)
	return int(math.Floor((real(z) + 10) / 20)), int(math.Floor((imag(z) + 10) / 20))
}

// adds returns what a pixel of a template adds to its distance for a pose.
func adds(m api.Image, t api.Template, p api.Pose, i, j int) int {
	v := t.Pix[j*t.W+i]
	if v < 0 {
		return 0
	}
	x, y := offsetOf(t, p.Turn, p.Scale, i, j)
	x, y = x+p.X, y+p.Y
	if x < 0 || x >= m.W || y < 0 || y >= m.H {
		return 255
	}
	d := m.Pix[y*m.W+x] - v
	if d < 0 {
		return -d
	}
	return d
}

// distanceOf returns the distance of a template from an image for a pose.
func distanceOf(m api.Image, t api.Template, p api.Pose) int {
	sum := 0
	for i := range t.W {
		for j := range t.H {
			sum += adds(m, t, p, i, j)
		}
	}
	return sum
}

// boundOf returns the bound of an area.
func boundOf(m api.Image, t api.Template, a api.Area) int {
	lowest := slices.Repeat([]int{255}, t.W*t.H)
	for _, p := range posesOf(a) {
		for k := range lowest {
			lowest[k] = min(lowest[k], adds(m, t, p, k%t.W, k/t.W))
		}
	}
	sum := 0
	for _, n := range lowest {
		sum += n
	}
	return sum
}

// isArea reports whether an area is allowed for an image.
func isArea(m api.Image, a api.Area) bool {
	return 0 <= a.X0 && a.X0 <= a.X1 && a.X1 < m.W && 0 <= a.Y0 && a.Y0 <= a.Y1 && a.Y1 < m.H && 0 <= a.Turn && a.Turn < 12 && 1 <= a.Scale && a.Scale <= 4
}

// single returns the area of one pose.
func single(p api.Pose) api.Area {
	return api.Area{X0: p.X, Y0: p.Y, X1: p.X, Y1: p.Y, Turn: p.Turn, Scale: p.Scale}
}

// posesOf returns the poses of an area.
func posesOf(a api.Area) []api.Pose {
	var list []api.Pose
	for x := a.X0; x <= a.X1; x++ {
		for y := a.Y0; y <= a.Y1; y++ {
			list = append(list, api.Pose{X: x, Y: y, Turn: a.Turn, Scale: a.Scale})
		}
	}
	return list
}

// allPoses returns all allowed poses, in the order of matches.
func allPoses(m api.Image) []api.Pose {
	var list []api.Pose
	for i := range 48 * m.W * m.H {
		n := m.W * m.H
		list = append(list, api.Pose{X: i % m.W, Y: i % n / m.W, Turn: i / n / 4, Scale: i/n%4 + 1})
	}
	return list
}

// matchesOf returns all matches for a limit.
func matchesOf(m api.Image, t api.Template, limit int) []api.Match {
	var list []api.Match
	for _, p := range allPoses(m) {
		if d := distanceOf(m, t, p); d <= limit {
			list = append(list, api.Match{Pose: p, Distance: d})
		}
	}
	return list
}

// areasOf returns the areas without a match that a search finds: those that are still to be searched are on a pile.
func areasOf(m api.Image, t api.Template, limit int) []api.Area {
	var list, pile []api.Area
	for i := 47; i >= 0; i-- {
		pile = append(pile, api.Area{X1: m.W - 1, Y1: m.H - 1, Turn: i / 4, Scale: i%4 + 1})
	}
	for len(pile) > 0 {
		a := pile[len(pile)-1]
		pile = pile[:len(pile)-1]
		if boundOf(m, t, a) > limit {
			list = append(list, a)
		} else if b, c, ok := parts(a); ok {
			pile = append(pile, c, b)
		}
	}
	return list
}

// parts returns the parts of an area, and whether it has several poses.
func parts(a api.Area) (first, second api.Area, ok bool) {
	wide, high := a.X1-a.X0+1, a.Y1-a.Y0+1
	if wide*high == 1 {
		return a, a, false
	}
	first, second = a, a
	if wide < high {
		second.Y0 += (high + 1) / 2
		first.Y1 = second.Y0 - 1
	} else {
		second.X0 += (wide + 1) / 2
		first.X1 = second.X0 - 1
	}
	return first, second, true
}

// proved reports whether a search is proved.
func proved(m api.Image, t api.Template, limit int, s api.Search) bool {
	times := map[api.Pose]int{}
	for _, x := range s.Matches {
		if !isArea(m, single(x.Pose)) || distanceOf(m, t, x.Pose) != x.Distance || x.Distance > limit {
			return false
		}
		times[x.Pose]++
	}
	for _, a := range s.Areas {
		if !isArea(m, a) || boundOf(m, t, a) <= limit {
			return false
		}
		for _, p := range posesOf(a) {
			times[p]++
		}
	}
	for _, p := range allPoses(m) {
		if times[p] != 1 {
			return false
		}
	}
	return true
}

// holdsAt reports whether a grasp is allowed and holds, cell by cell.
func holdsAt(m api.Image, t api.Tool, g api.Grasp) bool {
	if g.Width < 1 || g.Width > 8 || g.Z < 0 || g.Z > 255 {
		return false
	}
	height := func(along, beside int) (int, bool) {
		x, y := beside, along
		if g.Across {
			x, y = along, beside
		}
		if x < 0 || x >= m.W || y < 0 || y >= m.H {
			return 0, false
		}
		return m.Pix[y*m.W+x], true
	}
	along, beside := g.Y, g.X
	if g.Across {
		along, beside = g.X, g.Y
	}
	for lane := along; lane <= along+t.Length-1; lane++ {
		highest := -1
		for c := beside - 1; c <= beside+g.Width; c++ {
			v, ok := height(lane, c)
			isFinger := c == beside-1 || c == beside+g.Width
			if !ok || isFinger && v > g.Z {
				return false
			}
			if !isFinger {
				highest = max(highest, v)
			}
		}
		if highest < g.Z+t.Grip || highest > g.Z+t.Palm {
			return false
		}
	}
	return true
}

// holdsWith reports whether a grasp holds with a slack.
func holdsWith(m api.Image, t api.Tool, g api.Grasp, slack int) bool {
	for dx := -slack; dx <= slack; dx++ {
		for dy := -slack; dy <= slack; dy++ {
			moved := g
			moved.X, moved.Y = g.X+dx, g.Y+dy
			if !holdsAt(m, t, moved) {
				return false
			}
		}
	}
	return true
}

// planOf returns the plan: each grasp at its least depth that holds.
func planOf(m api.Image, t api.Tool, slack int) []api.Grasp {
	var list []api.Grasp
	for _, across := range []bool{false, true} {
		for width := 1; width <= 8; width++ {
			for y := range m.H {
				for x := range m.W {
					for z := range 256 {
						g := api.Grasp{X: x, Y: y, Across: across, Width: width, Z: z}
						if holdsWith(m, t, g, slack) {
							list = append(list, g)
							break
						}
					}
				}
			}
		}
	}
	return list
}

// flipped returns an image with columns and rows exchanged.
func flipped(m api.Image) api.Image {
	f := api.Image{W: m.H, H: m.W}
	for x := range m.W {
		for y := range m.H {
			f.Pix = append(f.Pix, m.Pix[y*m.W+x])
		}
	}
	return f
}

// dice makes random values.
type dice struct{ *rand.Rand }

func newDice(seed int64) dice { return dice{rand.New(rand.NewSource(seed))} }

// from returns a number from lo to hi.
func (d dice) from(lo, hi int) int { return lo + d.Intn(hi-lo+1) }

// value returns a value of a camera: any one, or mostly a low one.
func (d dice) value() int {
	if d.Intn(4) == 0 {
		return d.Intn(256)
	}
	return d.Intn(6)
}

// image returns a camera image.
func (d dice) image(w, h int) api.Image {
	m := api.Image{W: w, H: h}
	for range w * h {
		m.Pix = append(m.Pix, d.value())
	}
	return m
}

// template returns a template, some of whose pixels may be anything.
func (d dice) template(w, h int) api.Template {
	t := api.Template{W: w, H: h}
	for range w * h {
		v := d.value()
		if d.Intn(5) == 0 {
			v = -1
		}
		t.Pix = append(t.Pix, v)
	}
	t.Pix[d.Intn(w*h)] = d.value()
	return t
}

// limit returns a limit: low, or any one.
func (d dice) limit() int {
	return []int{0, d.Intn(10), d.Intn(100), d.Intn(1000), d.from(0, most), most}[d.Intn(6)]
}

// pose returns an allowed pose.
func (d dice) pose(m api.Image) api.Pose {
	return api.Pose{X: d.Intn(m.W), Y: d.Intn(m.H), Turn: d.Intn(12), Scale: d.from(1, 4)}
}

// area returns an allowed area.
func (d dice) area(m api.Image) api.Area {
	p, q := d.pose(m), d.pose(m)
	return api.Area{X0: min(p.X, q.X), Y0: min(p.Y, q.Y), X1: max(p.X, q.X), Y1: max(p.Y, q.Y), Turn: p.Turn, Scale: p.Scale}
}

// heights returns a height map with bars that stand up from uneven ground, and here and there a value of another kind. The bars are narrow, and most of the room between them broad, as grasps with a slack need it.
func (d dice) heights(w, h int) api.Image {
	m := api.Image{W: w, H: h}
	if d.Intn(2) == 0 {
		m = api.Image{W: h, H: w}
	}
	tops := make([]int, m.W)
	for x := d.from(1, 6); x < m.W; x += d.from(3, 7) {
		for range d.from(1, 3) {
			if x < m.W {
				tops[x] = d.from(5, 9)
				x++
			}
		}
	}
	odd := d.from(20, 100)
	for i := range m.W * m.H {
		v := tops[i%m.W] + d.Intn(3)
		if d.Intn(odd) == 0 {
			v = d.Intn(12)
		}
		m.Pix = append(m.Pix, v)
	}
	if m.W != w {
		m = flipped(m)
	}
	return m
}

// tool returns a valid tool for low parts.
func (d dice) tool() api.Tool {
	grip := d.from(1, 3)
	return api.Tool{Length: d.from(1, 4), Grip: grip, Palm: d.from(grip+2, 12)}
}

// row returns the image of one row.
func row(pix ...int) api.Image { return api.Image{W: len(pix), H: 1, Pix: pix} }

// filled returns an image of one value.
func filled(w, h, value int) api.Image {
	return api.Image{W: w, H: h, Pix: slices.Repeat([]int{value}, w*h)}
}

// pattern returns a template of one value.
func pattern(w, h, value int) api.Template {
	return api.Template{W: w, H: h, Pix: slices.Repeat([]int{value}, w*h)}
}

// badImages returns images that are none of a camera.
func badImages() []api.Image {
	list := []api.Image{
		{}, {W: 3, H: 3}, {W: 3, H: 3, Pix: make([]int, 8)}, {W: 3, H: 3, Pix: make([]int, 10)}, {W: -3, H: -3, Pix: make([]int, 9)}, {W: 0, H: 3}, {W: 3, H: 0},
		{W: 17, H: 1, Pix: make([]int, 17)}, {W: 1, H: 17, Pix: make([]int, 17)}, {W: over, H: over, Pix: make([]int, 1)}, {W: least, H: least}, {W: 1 << 32, H: 1 << 32},
	}
	for _, v := range []int{-1, 256, 257, -256, api.MaxPix, -api.MaxPix, api.MaxPix + 1, least, over} {
		for _, i := range []int{0, 4, 8} {
			m := filled(3, 3, 0)
			m.Pix[i] = v
			list = append(list, m)
		}
	}
	return list
}

// badTemplates returns templates that are not valid.
func badTemplates() []api.Template {
	list := []api.Template{
		{}, {W: 3, H: 3}, {W: 3, H: 3, Pix: make([]int, 8)}, {W: 3, H: 3, Pix: make([]int, 10)}, {W: -3, H: -3, Pix: make([]int, 9)}, {W: 0, H: 3}, {W: 3, H: 0}, {W: 0, H: 0, Pix: []int{}},
		{W: 9, H: 1, Pix: make([]int, 9)}, {W: 1, H: 9, Pix: make([]int, 9)}, {W: over, H: over, Pix: make([]int, 1)}, {W: least, H: least}, {W: 1 << 32, H: 1 << 32}, {W: 1 << 32, H: 1 << 32, Pix: make([]int, 1)},
		pattern(1, 1, -1), pattern(8, 8, -1), pattern(3, 3, -1),
	}
	for _, v := range []int{-2, 256, 257, -256, least, over} {
		for _, i := range []int{0, 4, 8} {
			t := pattern(3, 3, 0)
			t.Pix[i] = v
			list = append(list, t)
		}
	}
	return list
}

// badTools returns tools that are not valid.
func badTools() []api.Tool {
	return []api.Tool{
		{}, {Length: 0, Grip: 1, Palm: 1}, {Length: 5, Grip: 1, Palm: 1}, {Length: -1, Grip: 1, Palm: 1}, {Length: 1, Grip: 0, Palm: 1}, {Length: 1, Grip: 0, Palm: 0}, {Length: 1, Grip: -1, Palm: 5},
		{Length: 1, Grip: 2, Palm: 1}, {Length: 1, Grip: 1, Palm: 256}, {Length: 1, Grip: 256, Palm: 256}, {Length: 1, Grip: 256, Palm: 255}, {Length: 1, Grip: 1, Palm: 0}, {Length: 1, Grip: 1, Palm: -1},
		{Length: over, Grip: 1, Palm: 1}, {Length: least, Grip: 1, Palm: 1}, {Length: 1, Grip: least, Palm: 1}, {Length: 1, Grip: 1, Palm: over}, {Length: 1, Grip: over, Palm: over}, {Length: 1, Grip: least, Palm: least},
	}
}

// beyond returns numbers outside of the range from lo to hi.
func beyond(lo, hi int) []int {
	return []int{lo - 1, lo - 2, hi + 1, hi + 2, -1 << 32, 1 << 32, least, least + 1, over - 1, over}
}

// fails fails the test unless a call returned that error and zero values.
func fails(t *testing.T, name string, zero bool, e, want api.Errno) {
	t.Helper()
	if !zero || e != want {
		t.Errorf("%s: %v with zero values (%v) instead of %v", name, e, zero, want)
	}
}
