package tests

import (
	"testing"

	"loop.example/corbel/impl"
)

func TestBoundsAreThoseOfTheDocument(t *testing.T) {
	for _, c := range []struct {
		name string
		has  int
		want int
	}{
		{"BitMax", impl.BitMax, 16},
		{"LenMax", impl.LenMax, 15},
		{"SymMax", impl.SymMax, 300},
		{"CountMax", impl.CountMax, 100000},
		{"TextMax", impl.TextMax, 300},
		{"BackMax", impl.BackMax, 250},
		{"LongMax", impl.LongMax, 60},
		{"LongMin", impl.LongMin, 3},
		{"FlateMax", impl.FlateMax, 700},
		{"NameMax", impl.NameMax, 10},
		{"PartMax", impl.PartMax, 4},
		{"ZipMax", impl.ZipMax, 6},
		{"TreeMax", impl.TreeMax, 8},
	} {
		if c.has != c.want {
			t.Errorf("%s is %d, not %d", c.name, c.has, c.want)
		}
	}
}
