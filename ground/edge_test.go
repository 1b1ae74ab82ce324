package ground_test

import (
	"reflect"
	"testing"

	"shunter/api"
	"shunter/ground"
	"shunter/image"
	"shunter/pack"
)

func TestImagesHaveNoFlaw(t *testing.T) {
	l := ground.Images()
	for i, m := range l {
		if err := image.Check(m); err != nil {
			t.Errorf("the image %d: %v", i, err)
		}
		for j, other := range l[:i] {
			if image.Same(m, other) {
				t.Errorf("the images %d and %d are the same", i, j)
			}
		}
	}
	if !reflect.DeepEqual(l, ground.Images()) {
		t.Error("the images aren't the same each time")
	}
}

func TestSized(t *testing.T) {
	for _, n := range []int{40000, 50000, 65534, 65535, 65536, 65537, 70000} {
		m := ground.Sized(n)
		if err := image.Check(m); err != nil || pack.Size(m) != n {
			t.Errorf("an image of %d bytes has %d; %v", n, pack.Size(m), err)
		}
	}
}

func TestSeveral(t *testing.T) {
	l := ground.Several(api.Reg{W: 3}, 2, func(x *api.Reg, s string) { x.Name = s })
	if want := []api.Reg{{Name: "name-0", W: 3}, {Name: "name-1", W: 3}}; !reflect.DeepEqual(l, want) {
		t.Errorf("Several = %v; want %v", l, want)
	}
}
