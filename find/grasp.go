package find

import (
	"slices"

	"sightbench/api"
	"sightbench/image"
)

// hand is a tool over a height map, which may be off by the slack; its fingers are left and right of what it takes. For grasps across it is one over the map with columns and rows exchanged.
type hand struct {
	picture
	api.Tool
	slack  int
	across bool
}

// Holds reports whether a grasp holds with a slack.
func Holds(m api.Image, t api.Tool, g api.Grasp, slack int) (bool, api.Errno) {
	if e := checkHand(m, t, slack); e != api.OK {
		return false, e
	}
	d := handOver(m, t, slack, g.Across).holding(g)
	return within(g.Z, d.least, d.most), api.OK
}

// Plan returns the grasps of a height map that hold with a slack.
func Plan(m api.Image, t api.Tool, slack int) ([]api.Grasp, api.Errno) {
	if e := checkHand(m, t, slack); e != api.OK {
		return nil, e
	}
	var list []api.Grasp
	for _, across := range [...]bool{false, true} {
		h := handOver(m, t, slack, across)
		for width := 1; width <= api.MaxOpen; width++ {
			for i := range m.Pix {
				g := api.Grasp{X: i % m.W, Y: i / m.W, Across: across, Width: width}
				if d := h.holding(g); d.least <= d.most {
					g.Z = d.least
					list = append(list, g)
				}
			}
		}
	}
	return list, api.OK
}

// checkHand returns the error of what a grasp is asked for.
func checkHand(m api.Image, t api.Tool, slack int) api.Errno {
	if !isCamera(m) {
		return api.ErrImage
	}
	if !within(t.Length, 1, api.MaxFinger) || !within(t.Grip, 1, t.Palm) || t.Palm > api.MaxValue {
		return api.ErrTool
	}
	if !within(slack, 0, api.MaxSlack) {
		return api.ErrArg
	}
	return api.OK
}

// handOver returns the hand for grasps of one kind.
func handOver(m api.Image, t api.Tool, slack int, across bool) hand {
	if across {
		m = exchanged(m)
	}
	return hand{picture{m}, t, slack, across}
}

// exchanged returns an image with columns and rows exchanged.
func exchanged(m api.Image) api.Image {
	m, _ = image.Turn(m)
	m, _ = image.Flip(m)
	return m
}

// depths is how far down the tips of fingers may go: from the least to the most, if that is not less.
type depths struct{ least, most int }

// meet returns what two depths have in common.
func (d depths) meet(o depths) depths {
	return depths{max(d.least, o.least), min(d.most, o.most)}
}

// holding returns the depths at which a grasp holds, wherever within the slack the hand is.
func (h hand) holding(g api.Grasp) depths {
	p := place{g.X, g.Y}
	if h.across {
		p = place{g.Y, g.X}
	}
	if !h.isAllowed(p, g.Width) {
		return depths{1, 0}
	}
	d := depths{0, api.MaxValue}
	for y := p.y - h.slack; y < p.y+h.Length+h.slack; y++ {
		for x := p.x - h.slack; x <= p.x+h.slack; x++ {
			d = d.meet(h.lane(place{x, y}, g.Width))
		}
	}
	return d
}

// isAllowed reports whether all cells of a grasp are pixels, wherever within the slack the hand is.
func (h hand) isAllowed(p place, width int) bool {
	return within(width, 1, api.MaxOpen) && within(p.x, h.slack+1, h.W-1-width-h.slack) && within(p.y, h.slack, h.H-h.Length-h.slack)
}

// lane returns the depths at which the fingers hold a part in the lane that begins at p.
func (h hand) lane(p place, width int) depths {
	fingers := max(h.at(place{p.x - 1, p.y}), h.at(place{p.x + width, p.y}))
	top := slices.Max(h.Pix[p.y*h.W+p.x:][:width])
	return depths{max(fingers, top-h.Palm), top - h.Grip}
}
