package judge

import "sightbench/api"

// value is what is carried through the layers of a network. Nothing overflows: the features add up to less than 2^16, and each of at most three layers makes numbers less than 2^14 times as great.
type value[T any] interface {
	plus(other T) T
	times(weight int) T
	raised(bias int) T
	cut() T
}

// number is a number before or of a layer.
type number int

func (a number) plus(b number) number { return a + b }

func (a number) times(weight int) number { return a * number(weight) }

func (a number) raised(bias int) number { return a + number(bias) }

// cut returns 0 instead of a number below 0.
func (a number) cut() number { return max(a, 0) }

// bounds are the lower and the upper bound of a number.
type bounds [2]int

func (b bounds) plus(c bounds) bounds { return bounds{b[0] + c[0], b[1] + c[1]} }

func (b bounds) times(weight int) bounds {
	if weight < 0 {
		return bounds{b[1] * weight, b[0] * weight}
	}
	return bounds{b[0] * weight, b[1] * weight}
}

func (b bounds) raised(bias int) bounds { return bounds{b[0] + bias, b[1] + bias} }

// cut returns 0 instead of what is below 0.
func (b bounds) cut() bounds { return bounds{max(b[0], 0), max(b[1], 0)} }

// carried returns the number of the last layer for the values before the first one.
func carried[T value[T]](layers []api.Layer, list []T) T {
	for i, layer := range layers {
		list = next(layer, list)
		if i == len(layers)-1 {
			break
		}
		for j, v := range list {
			list[j] = v.cut()
		}
	}
	return list[0]
}

// next returns the values of a layer, none of them cut, for those before it.
func next[T value[T]](layer api.Layer, before []T) []T {
	after := make([]T, len(layer.Bias))
	for j, bias := range layer.Bias {
		for k, weight := range layer.Weights[j] {
			after[j] = after[j].plus(before[k].times(weight))
		}
		after[j] = after[j].raised(bias)
	}
	return after
}
