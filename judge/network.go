package judge

import (
	"sightbench/api"
	"sightbench/image"
)

// CheckNetwork returns ErrNetwork unless a network is valid.
func CheckNetwork(n api.Network) api.Errno {
	if !isDivided(n.W, n.GX) || !isDivided(n.H, n.GY) || !within(len(n.Layers), 1, api.MaxLayers) {
		return api.ErrNetwork
	}
	if n.Low < -maxScore || n.Low >= n.High || n.High > maxScore {
		return api.ErrNetwork
	}
	before := n.GX * n.GY
	for _, layer := range n.Layers {
		if !isLayer(layer, before) {
			return api.ErrNetwork
		}
		before = len(layer.Bias)
	}
	if before != 1 {
		return api.ErrNetwork
	}
	return api.OK
}

// Features returns the features of a camera image.
func Features(n api.Network, m api.Image) ([]int, api.Errno) {
	if e := checkSeen(n, m); e != api.OK {
		return nil, e
	}
	return features(n, m), api.OK
}

// Classify returns the score of a camera image, and its verdict.
func Classify(n api.Network, m api.Image) (int, uint8, api.Errno) {
	if e := checkSeen(n, m); e != api.OK {
		return 0, 0, e
	}
	var list []number
	for _, f := range features(n, m) {
		list = append(list, number(f))
	}
	score := int(carried(n.Layers, list))
	return score, verdict(n, bounds{score, score}), api.OK
}

// isDivided reports whether a side of an image is divided into so many cells.
func isDivided(side, cells int) bool {
	return within(side, 1, api.MaxSide) && within(cells, 1, api.MaxGrid) && side%cells == 0
}

// isLayer reports whether a layer is valid behind so many numbers.
func isLayer(l api.Layer, before int) bool {
	if !within(len(l.Bias), 1, api.MaxWidth) || len(l.Weights) != len(l.Bias) || !areWithin(l.Bias, -api.MaxBias, api.MaxBias) {
		return false
	}
	for _, weights := range l.Weights {
		if len(weights) != before || !areWithin(weights, -api.MaxWeight, api.MaxWeight) {
			return false
		}
	}
	return true
}

// checkSeen returns the error of a network, and of images that it is to judge.
func checkSeen(n api.Network, list ...api.Image) api.Errno {
	if e := CheckNetwork(n); e != api.OK {
		return e
	}
	for _, m := range list {
		if !isCamera(m) {
			return api.ErrImage
		}
	}
	for _, m := range list {
		if m.W != n.W || m.H != n.H {
			return api.ErrSize
		}
	}
	return api.OK
}

// features returns the features of an image of a network's size.
func features(n api.Network, m api.Image) []int {
	w, h := n.W/n.GX, n.H/n.GY
	list := make([]int, n.GX*n.GY)
	for i := range list {
		x, y := i%n.GX*w, i/n.GX*h
		// It does not fail, as cells are within the image.
		list[i], _ = image.Box(m, x, y, x+w, y+h)
	}
	return list
}

// verdict returns the verdict of all scores within bounds, if they have the same one.
func verdict(n api.Network, score bounds) uint8 {
	switch {
	case score[0] >= n.High:
		return api.Pass
	case score[1] <= n.Low:
		return api.Fail
	}
	return api.Undecided
}
