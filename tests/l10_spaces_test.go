package tests

import (
	"math/rand"
	"testing"

	"loop.example/g01219/impl"
)

// dimensionOfF, widthOf, pageDimension, pageRow and stopOf return what the functions do for what is within the limits.
func dimensionOfF(t *testing.T, a impl.Algebra, p, n int64) int64 {
	t.Helper()
	k, code := impl.DimensionOfF(a, p, n)
	if code != impl.ErrNone {
		t.Fatalf("DimensionOfF(%v, %d, %d): code %d", a, p, n, code)
	}
	return k
}

func widthOf(t *testing.T, a impl.Algebra, n int64) int64 {
	t.Helper()
	k, code := impl.WidthOf(a, n)
	if code != impl.ErrNone {
		t.Fatalf("WidthOf(%v, %d): code %d", a, n, code)
	}
	return k
}

// TestKnownSpacesOfForms has the dimensions of F(0, n), F(1, n) and so on, up to the width and one more.
func TestKnownSpacesOfForms(t *testing.T) {
	for _, c := range []struct {
		text       string
		n          int64
		dimensions []int64
	}{
		{"", 0, []int64{1, 0}},
		{"", 1, []int64{0, 0}},
		{"", 20, []int64{0, 0}},
		{"2:0;3:1*a2", 0, []int64{1, 0}},
		{"2:0;3:1*a2", 1, []int64{0, 0}},
		{"2:0;3:1*a2", 2, []int64{1, 1, 0}},
		{"2:0;3:1*a2", 3, []int64{1, 1, 0}},
		{"2:0;3:1*a2", 4, []int64{1, 1, 1, 0}},
		{"2:0;3:1*a2", 5, []int64{1, 1, 1, 0}},
		{"2:0;3:1*a2", 20, []int64{1, 1, 1, 1, 1, 1, 1, 1, 1, 1, 1, 0}},
		{"2:0;4:0;5:1*a3+1*ab;5:1*ab", 6, []int64{2, 2, 2, 1, 0}},
		{"2:0;4:0;5:1*a3+1*ab;5:1*ab", 8, []int64{3, 3, 3, 2, 1, 0}},
		{"2:0;4:0;6:0;8:0;10:0;12:0", 12, []int64{11, 11, 10, 7, 4, 2, 1, 0}},
		{"1:0;1:0;1:1*ab", 0, []int64{1, 0}},
		{"1:0;1:0;1:1*ab", 1, []int64{3, 3, 0}},
		{"1:0;1:0;1:1*ab", 2, []int64{3, 3, 3, 0}},
		{"1:0;1:0;1:1*ab", 3, []int64{1, 1, 1, 1, 0}},
		{"1:0;1:0;1:1*ab", 4, []int64{0, 0}},
		{"1:0;1:0;1:0;1:0;1:0;1:0;1:0;1:0", 8, []int64{1, 1, 1, 1, 1, 1, 1, 1, 1, 0}},
		{"12:0", 12, []int64{1, 1, 0}},
		{"1:0;1:0;1:0;1:0;1:0;1:0;1:0;2:0", 20, []int64{64, 64, 64, 64, 64, 64, 64, 64, 64, 64, 64, 63, 42, 7, 0}},
	} {
		a := algebra(t, c.text)
		if got := widthOf(t, a, c.n); got != int64(len(c.dimensions)-2) {
			t.Errorf("WidthOf(%q, %d) = %d", c.text, c.n, got)
		}
		for p := range int64(impl.MaxPage + 1) {
			want := int64(0)
			if p < int64(len(c.dimensions)) {
				want = c.dimensions[p]
			}
			if got := dimensionOfF(t, a, p, c.n); got != want {
				t.Errorf("DimensionOfF(%q, %d, %d) = %d, not %d", c.text, p, c.n, got, want)
			}
		}
	}
}

func TestSpacesOfFormsByWords(t *testing.T) {
	r := rand.New(rand.NewSource(215))
	for range 250 {
		a := pageAlgebra(t, r, 120)
		x := filteredOf(a)
		for n := range int64(impl.MaxAsked + 1) {
			if got, want := widthOf(t, a, n), x.width(n); got != want {
				t.Fatalf("WidthOf(%v, %d) = %d, not %d", a, n, got, want)
			}
			for p := range int64(impl.MaxPage + 1) {
				if got, want := dimensionOfF(t, a, p, n), int64(len(x.f(p, n))); got != want {
					t.Fatalf("DimensionOfF(%v, %d, %d) = %d, not %d", a, p, n, got, want)
				}
			}
		}
	}
}

// TestWidthsAndSpaces checks that the width is the last number p for which F(p, n) is not 0.
func TestWidthsAndSpaces(t *testing.T) {
	for _, text := range pageTexts() {
		a := algebra(t, text)
		for n := range int64(impl.MaxAsked + 1) {
			width, all := widthOf(t, a, n), int64(len(allMonomials(a.Degrees, n)))
			if dimensionOfF(t, a, 0, n) != all || dimensionOfF(t, a, width+1, n) != 0 || all > 0 && dimensionOfF(t, a, width, n) == 0 || all == 0 && width != 0 {
				t.Errorf("%q has the width %d of %d", text, width, n)
			}
		}
	}
}
