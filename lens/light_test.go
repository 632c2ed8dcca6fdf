package lens_test

import (
	"testing"

	"sightbench/api"
	"sightbench/lens"
)

func light(exposure, dark, noise int) api.Light {
	return api.Light{Exposure: exposure, Dark: dark, Noise: noise}
}

// invalidLights returns lights that are not valid.
func invalidLights() []api.Light {
	list := []api.Light{{}, light(0, -1, -1)}
	for _, n := range []int{least, -257, -1, 0, 257, over} {
		list = append(list, light(n, 10, 2))
	}
	for _, n := range []int{least, -64, -1, 64, over} {
		list = append(list, light(64, n, 2))
	}
	for _, n := range []int{least, -65, -1, 65, over} {
		list = append(list, light(64, 10, n))
	}
	return list
}

// lights returns valid lights: all of the least and greatest numbers, and others.
func lights() []api.Light {
	var list []api.Light
	for _, exposure := range []int{1, 2, 128, 255, 256} {
		for _, dark := range []int{0, 63} {
			for _, noise := range []int{0, 1, 64} {
				list = append(list, light(exposure, dark, noise))
			}
		}
	}
	d := newDice(8)
	for range 30 {
		list = append(list, d.light())
	}
	return list
}

// ideals returns the ideal values of all radiances by their definition: the greatest number whose part above Dark is at most Exposure * r / 256, and at most 255.
func ideals(l api.Light) []int {
	var list []int
	for r := range 4096 {
		v := l.Dark
		for v < 255 && (v+1-l.Dark)*256 <= l.Exposure*r {
			v++
		}
		list = append(list, v)
	}
	return list
}

// mayBe reports whether a value may be that of a radiance with that ideal value.
func mayBe(l api.Light, value, ideal int) bool {
	return value-ideal <= l.Noise && ideal-value <= l.Noise
}

// P4.2
func TestCheckLight(t *testing.T) {
	for _, l := range invalidLights() {
		if e := lens.CheckLight(l); e != api.ErrLight {
			t.Errorf("CheckLight(%v): %v", l, e)
		}
	}
	for _, l := range lights() {
		if e := lens.CheckLight(l); e != api.OK {
			t.Errorf("CheckLight(%v): %v", l, e)
		}
	}
}

// P4.2: the document's examples.
func TestLightExamples(t *testing.T) {
	l := light(64, 10, 2)
	if n := must[int](t)(lens.Value(l, 100)); n != 35 {
		t.Error(n)
	}
	if lo, hi, e := lens.Radiances(l, 35); lo != 92 || hi != 111 || e != api.OK {
		t.Error(lo, hi, e)
	}
	if n := must[int](t)(lens.Expose(l, 1000)); n != 62 {
		t.Error(n)
	}
}

// P4.2
func TestValue(t *testing.T) {
	for _, l := range lights() {
		for r, want := range ideals(l) {
			if n := must[int](t)(lens.Value(l, r)); n != want {
				t.Fatalf("Value(%v, %v): %v instead of %v", l, r, n, want)
			}
		}
	}
}

// P4.2, P4.6: Radiances has exactly the radiances that a value may be.
func TestRadiances(t *testing.T) {
	none := 0
	for _, l := range lights() {
		list := ideals(l)
		for value := range 256 {
			lo, hi, e := lens.Radiances(l, value)
			found := e == api.OK && lo >= 0 && hi < len(list) && lo <= hi && mayBe(l, value, list[lo]) && mayBe(l, value, list[hi])
			if e == api.ErrNone {
				found = lo == 0 && hi == 0
				lo, none = len(list), none+1
			}
			if !found {
				t.Fatalf("Radiances(%v, %v): %v, %v, %v", l, value, lo, hi, e)
			}
			for r, v := range list {
				if mayBe(l, value, v) != (lo <= r && r <= hi) {
					t.Fatalf("Radiances(%v, %v): %v, %v, %v, but %v", l, value, lo, hi, e, r)
				}
			}
		}
	}
	if none == 0 {
		t.Error("no case without radiances")
	}
}

// P4.2: values that are darker or brighter than any radiance may make.
func TestRadiancesNone(t *testing.T) {
	for _, x := range []struct {
		l      api.Light
		value  int
		lo, hi int
		e      api.Errno
	}{
		{light(256, 10, 2), 7, 0, 0, api.ErrNone},
		{light(256, 10, 2), 8, 0, 0, api.OK},
		{light(1, 10, 2), 27, 3840, 4095, api.OK},
		{light(1, 10, 2), 28, 0, 0, api.ErrNone},
		{light(1, 0, 0), 0, 0, 255, api.OK},
		{light(256, 0, 0), 255, 255, 4095, api.OK},
		{light(256, 0, 0), 254, 254, 254, api.OK},
		{light(256, 63, 64), 255, 128, 4095, api.OK},
		{light(256, 63, 64), 0, 0, 1, api.OK},
	} {
		if lo, hi, e := lens.Radiances(x.l, x.value); lo != x.lo || hi != x.hi || e != x.e {
			t.Errorf("Radiances(%v, %v): %v, %v, %v", x.l, x.value, lo, hi, e)
		}
	}
}

// P4.2, P4.6: the greatest exposure with which no radiance up to the given one is too bright.
func TestExpose(t *testing.T) {
	for _, l := range lights() {
		for _, radiance := range []int{0, 1, 2, 100, 254, 255, 256, 257, 1000, 2047, 4000, 4094, 4095} {
			n := must[int](t)(lens.Expose(l, radiance))
			for exposure := 1; exposure <= 256; exposure++ {
				tried := light(exposure, l.Dark, l.Noise)
				v := must[int](t)(lens.Value(tried, radiance))
				if (v+l.Noise <= 255) != (exposure <= n) {
					t.Fatalf("Expose(%v, %v): %v, but %v with %v", l, radiance, n, v, exposure)
				}
			}
			for _, v := range ideals(light(n, l.Dark, l.Noise))[:radiance+1] {
				if v+l.Noise > 255 || l.Noise > 0 && v == 255 {
					t.Fatalf("Expose(%v, %v): %v", l, radiance, n)
				}
			}
		}
	}
}

// P4.2: the exposure of the light itself does not matter; without a noise nothing is too bright; with the greatest numbers there is still an exposure.
func TestExposeEdges(t *testing.T) {
	for _, x := range []struct {
		l              api.Light
		radiance, want int
	}{
		{light(1, 10, 2), 1000, 62}, {light(256, 10, 2), 1000, 62}, {light(7, 63, 0), 4095, 256}, {light(7, 63, 64), 4095, 8}, {light(7, 63, 64), 0, 256}, {light(7, 0, 1), 4095, 15}, {light(7, 0, 1), 254, 256}, {light(7, 0, 1), 255, 255},
	} {
		if n := must[int](t)(lens.Expose(x.l, x.radiance)); n != x.want {
			t.Errorf("Expose(%v, %v): %v", x.l, x.radiance, n)
		}
	}
}

// P4.2 (R1, R2, R5)
func TestLightErrors(t *testing.T) {
	radiances := func(name string, l api.Light, value int, want api.Errno) {
		t.Helper()
		if lo, hi, e := lens.Radiances(l, value); lo != 0 || hi != 0 || e != want {
			t.Errorf("%s: Radiances(%v, %v): %v, %v, %v", name, l, value, lo, hi, e)
		}
	}
	for _, l := range invalidLights() {
		for _, n := range []int{least, -1, 0, 100, 256, 4096, over} {
			fails[int](t, "Value", api.ErrLight)(lens.Value(l, n))
			fails[int](t, "Expose", api.ErrLight)(lens.Expose(l, n))
			radiances("light", l, n, api.ErrLight)
		}
	}
	for _, n := range []int{least, -4096, -1, 4096, over} {
		fails[int](t, "Value", api.ErrArg)(lens.Value(light(1, 0, 0), n))
		fails[int](t, "Expose", api.ErrArg)(lens.Expose(light(1, 0, 0), n))
	}
	for _, n := range []int{least, -255, -1, 256, over} {
		radiances("value", light(256, 63, 64), n, api.ErrArg)
	}
}
