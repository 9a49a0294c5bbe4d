package tests

import (
	"math/rand"
	"slices"
	"testing"

	"loop.example/g01219/impl"
)

// binomial returns the number of choices of k of n things.
func binomial(n, k int64) int64 {
	x := int64(1)
	for i := range k {
		x = x * (n - i) / (i + 1)
	}
	return x
}

func TestFreeSeries(t *testing.T) {
	for _, c := range []struct {
		degrees []int64
		want    []int64
	}{
		{nil, []int64{1}},
		{nil, []int64{1, 0, 0, 0}},
		{[]int64{1}, []int64{1}},
		{[]int64{1}, []int64{1, 1, 0, 0}},
		{[]int64{2}, []int64{1, 0, 1, 0, 1, 0, 1}},
		{[]int64{3}, []int64{1, 0, 0, 1, 0, 0, 0, 0}},
		{[]int64{4}, []int64{1, 0, 0, 0, 1, 0, 0, 0, 1, 0}},
		{[]int64{11}, []int64{1, 0, 0, 0, 0, 0, 0, 0, 0, 0, 0, 1, 0, 0, 0, 0, 0, 0, 0, 0, 0, 0, 0}},
		{[]int64{12}, []int64{1, 0, 0, 0, 0, 0, 0, 0, 0, 0, 0, 0, 1, 0, 0, 0, 0, 0, 0, 0, 0, 0, 0, 0, 1, 0}},
		{[]int64{2, 3}, []int64{1, 0, 1, 1, 1, 1}},
		{[]int64{3, 2}, []int64{1, 0, 1, 1, 1, 1, 1, 1}},
		{[]int64{2, 2}, []int64{1, 0, 2, 0, 3, 0, 4, 0, 5}},
		{[]int64{2, 4}, []int64{1, 0, 1, 0, 2, 0, 2, 0, 3, 0, 3}},
		{[]int64{3, 3}, []int64{1, 0, 0, 2, 0, 0, 1, 0, 0, 0}},
		{[]int64{1, 2}, []int64{1, 1, 1, 1, 1, 1, 1}},
		{[]int64{1, 1, 2}, []int64{1, 2, 2, 2, 2, 2, 2}},
		{[]int64{1, 3, 5}, []int64{1, 1, 0, 1, 1, 1, 1, 0, 1, 1, 0}},
		{[]int64{1, 1, 1, 1, 1, 1, 1, 1}, []int64{1, 8, 28, 56, 70, 56, 28, 8, 1, 0, 0}},
		{[]int64{2, 3, 4, 5}, []int64{1, 0, 1, 1, 2, 2, 2, 3, 4, 4}},
	} {
		m := int64(len(c.want)) - 1
		if got, code := impl.FreeSeries(c.degrees, m); !slices.Equal(got, c.want) || code != impl.ErrNone {
			t.Errorf("FreeSeries(%v, %d) = %v, %d", c.degrees, m, got, code)
		}
	}
}

// TestGreatFreeSeries has the greatest numbers that there are, and exponents up to 20.
func TestGreatFreeSeries(t *testing.T) {
	for count := int64(1); count <= 8; count++ {
		for _, n := range []int64{2, 4, 6, 12} {
			degrees := slices.Repeat([]int64{n}, int(count))
			got, code := impl.FreeSeries(degrees, 40)
			if code != impl.ErrNone || len(got) != 41 {
				t.Fatalf("FreeSeries(%v, 40) = %v, %d", degrees, got, code)
			}
			for r, x := range got {
				want := int64(0)
				if int64(r)%n == 0 {
					want = binomial(int64(r)/n+count-1, count-1)
				}
				if x != want {
					t.Errorf("FreeSeries(%v, 40) has %d in the degree %d, not %d", degrees, x, r, want)
				}
			}
		}
	}
	if got, _ := impl.FreeSeries(slices.Repeat([]int64{2}, 8), 40); len(got) != 41 || got[40] != 888030 {
		t.Errorf("FreeSeries of eight generators = %v", got)
	}
}

// TestFreeSeriesByWords compares series with the monomials, counted one by one, and shorter series with their beginnings.
func TestFreeSeriesByWords(t *testing.T) {
	r := rand.New(rand.NewSource(162))
	for range 300 {
		degrees := randomDegrees(r)
		m := r.Int63n(31)
		got, code := impl.FreeSeries(degrees, m)
		if want := seriesByWords(degrees, m); !slices.Equal(got, want) || code != impl.ErrNone {
			t.Fatalf("FreeSeries(%v, %d) = %v, %d, not %v", degrees, m, got, code, want)
		}
		for k := range int64(41) {
			other, code := impl.FreeSeries(degrees, k)
			if both := min(k, m) + 1; int64(len(other)) != k+1 || code != impl.ErrNone || !slices.Equal(other[:both], got[:both]) {
				t.Fatalf("FreeSeries(%v, %d) = %v, %d, but up to %d %v", degrees, k, other, code, m, got)
			}
		}
		monomials, code := impl.MonomialsOf(degrees, m)
		if code == impl.ErrNone && int64(len(monomials)) != got[m] {
			t.Fatalf("FreeSeries(%v, %d) has %d at the end, and there are %d monomials", degrees, m, got[m], len(monomials))
		}
	}
}

// TestSeriesOfProducts checks that the series of a product is the product of the series.
func TestSeriesOfProducts(t *testing.T) {
	r := rand.New(rand.NewSource(163))
	for range 300 {
		a, b := randomAlgebra(t, r, 4), randomAlgebra(t, r, 4)
		product, code := impl.ProductOfAlgebras(a, b)
		if code != impl.ErrNone {
			t.Fatalf("ProductOfAlgebras(%v, %v): code %d", a, b, code)
		}
		m := r.Int63n(41)
		x, one := impl.FreeSeries(a.Degrees, m)
		y, two := impl.FreeSeries(b.Degrees, m)
		both, three := impl.FreeSeries(product.Degrees, m)
		if one+two+three != impl.ErrNone || !slices.Equal(both, convolution(x, y, m)) {
			t.Fatalf("the series of %v and %v are %v and %v, and that of the product %v", a.Degrees, b.Degrees, x, y, both)
		}
		x, one = impl.LoopSeries(a, m)
		y, two = impl.LoopSeries(b, m)
		both, three = impl.LoopSeries(product, m)
		if one+two == impl.ErrNone && (three != impl.ErrNone || !slices.Equal(both, convolution(x, y, m))) {
			t.Fatalf("the loop series of %v and %v are %v and %v, and that of the product %v, %d", a.Degrees, b.Degrees, x, y, both, three)
		}
		if (one+two == impl.ErrNone) != (three == impl.ErrNone) {
			t.Fatalf("the codes of loop series of %v and %v are %d and %d, and that of the product %d", a.Degrees, b.Degrees, one, two, three)
		}
	}
}

func TestLoopSeries(t *testing.T) {
	for _, c := range []struct {
		text string
		want []int64
	}{
		{"", []int64{1}},
		{"", []int64{1, 0, 0, 0}},
		{"2:0", []int64{1, 1, 0, 0}},
		{"3:0", []int64{1}},
		{"3:0", []int64{1, 0, 1, 0, 1, 0, 1}},
		{"12:0", []int64{1, 0, 0, 0, 0, 0, 0, 0, 0, 0, 0, 1, 0, 0, 0, 0, 0, 0, 0, 0, 0, 0, 0}},
		{"11:0", []int64{1, 0, 0, 0, 0, 0, 0, 0, 0, 0, 1, 0, 0, 0, 0, 0, 0, 0, 0, 0, 1}},
		{"2:0;3:1*a2", []int64{1, 1, 1, 1, 1, 1}},
		{"3:1*b2;2:0", []int64{1, 1, 1, 1, 1, 1}},
		{"2:0;3:0", []int64{1, 1, 1, 1, 1, 1}},
		{"2:0;5:1*a3", []int64{1, 1, 0, 0, 1, 1, 0, 0, 1, 1}},
		{"4:0;7:1*a2", []int64{1, 0, 0, 1, 0, 0, 1, 0, 0, 1}},
		{"3:0;3:0", []int64{1, 0, 2, 0, 3, 0, 4}},
		{"2:0;2:0;3:1*a2;3:1*ab;3:1*b2", []int64{1, 2, 4, 6, 9, 12}},
		{"4:5*b;5:0", []int64{1, 0, 0, 1, 1, 0, 0, 1, 1}},
	} {
		m := int64(len(c.want)) - 1
		if got, code := impl.LoopSeries(algebra(t, c.text), m); !slices.Equal(got, c.want) || code != impl.ErrNone {
			t.Errorf("LoopSeries(%q, %d) = %v, %d", c.text, m, got, code)
		}
	}
}

// TestLoopSeriesByWords compares loop series with the monomials for the degrees less 1, and has generators of the degree 1.
func TestLoopSeriesByWords(t *testing.T) {
	r := rand.New(rand.NewSource(164))
	codes := map[int64]int{}
	for range 1000 {
		a := randomAlgebra(t, r, 8)
		m := r.Int63n(25)
		got, code := impl.LoopSeries(a, m)
		codes[code]++
		if slices.Contains(a.Degrees, 1) {
			if len(got) != 0 || code != impl.ErrState {
				t.Fatalf("LoopSeries(%v, %d) = %v, %d", a, m, got, code)
			}
			continue
		}
		var less []int64
		for _, n := range a.Degrees {
			less = append(less, n-1)
		}
		if want := seriesByWords(less, m); !slices.Equal(got, want) || code != impl.ErrNone {
			t.Fatalf("LoopSeries(%v, %d) = %v, %d, not %v", a, m, got, code, want)
		}
	}
	if codes[impl.ErrNone] < 200 || codes[impl.ErrState] < 200 {
		t.Errorf("the codes are %v", codes)
	}
}
