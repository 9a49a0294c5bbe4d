package tests

import (
	"math/rand"
	"testing"

	"loop.example/g01219/impl"
)

// sumOf and times return the sum and the product of forms that stay within the limits.
func sumOf(t *testing.T, degrees []int64, f, g impl.Form) impl.Form {
	t.Helper()
	h, code := impl.AddForms(degrees, f, g)
	if code != impl.ErrNone || !impl.IsForm(degrees, h) {
		t.Fatalf("AddForms(%v, %v, %v) = %v, %d", degrees, f, g, h, code)
	}
	return h
}

func times(t *testing.T, degrees []int64, f, g impl.Form) impl.Form {
	t.Helper()
	h, code := impl.MultiplyForms(degrees, f, g)
	if code != impl.ErrNone || !impl.IsForm(degrees, h) {
		t.Fatalf("MultiplyForms(%v, %v, %v) = %v, %d", degrees, f, g, h, code)
	}
	return h
}

func TestPromise1Distributive(t *testing.T) {
	r := rand.New(rand.NewSource(1))
	for range 3000 {
		degrees := randomDegrees(r)
		f, g, h := randomForm(r, degrees, 6, 4), randomForm(r, degrees, 6, 4), randomForm(r, degrees, 6, 4)
		left := times(t, degrees, f, sumOf(t, degrees, g, h))
		if right := sumOf(t, degrees, times(t, degrees, f, g), times(t, degrees, f, h)); !sameForms(left, right) {
			t.Fatalf("%v: f (g + h) of %v, %v, %v: %v and %v", degrees, f, g, h, left, right)
		}
		left = times(t, degrees, sumOf(t, degrees, f, g), h)
		if right := sumOf(t, degrees, times(t, degrees, f, h), times(t, degrees, g, h)); !sameForms(left, right) {
			t.Fatalf("%v: (f + g) h of %v, %v, %v: %v and %v", degrees, f, g, h, left, right)
		}
	}
}

func TestPromise1Associative(t *testing.T) {
	r := rand.New(rand.NewSource(2))
	for range 3000 {
		degrees := randomDegrees(r)
		f, g, h := randomForm(r, degrees, 6, 4), randomForm(r, degrees, 6, 4), randomForm(r, degrees, 6, 4)
		left := times(t, degrees, times(t, degrees, f, g), h)
		if right := times(t, degrees, f, times(t, degrees, g, h)); !sameForms(left, right) {
			t.Fatalf("%v: %v, %v, %v: %v and %v", degrees, f, g, h, left, right)
		}
		left = sumOf(t, degrees, sumOf(t, degrees, f, g), h)
		if right := sumOf(t, degrees, f, sumOf(t, degrees, h, g)); !sameForms(left, right) {
			t.Fatalf("%v: sums of %v, %v, %v: %v and %v", degrees, f, g, h, left, right)
		}
	}
}

func TestPromise1Texts(t *testing.T) {
	r := rand.New(rand.NewSource(3))
	for range 3000 {
		degrees := randomDegrees(r)
		f := randomForm(r, degrees, 30, 20)
		text, code := impl.FormText(degrees, f)
		if code != impl.ErrNone {
			t.Fatalf("FormText(%v, %v): code %d", degrees, f, code)
		}
		if g := parse(t, degrees, text); !sameForms(f, g) {
			t.Fatalf("%v: %v comes back from %q as %v", degrees, f, text, g)
		}
	}
}

// TestProductsByWords compares products with those of words of generators.
func TestProductsByWords(t *testing.T) {
	r := rand.New(rand.NewSource(6))
	for range 1000 {
		degrees := randomDegrees(r)
		f, g := randomForm(r, degrees, 6, 5), randomForm(r, degrees, 6, 5)
		sum := map[impl.Monomial]int64{}
		for _, x := range f.Terms {
			for _, y := range g.Terms {
				m, sign := wordProduct(degrees, x.Monomial, y.Monomial)
				sum[m] += sign * x.Factor * y.Factor
			}
		}
		if got, want := times(t, degrees, f, g), formOfSum(sum); !sameForms(got, want) {
			t.Fatalf("%v: product of %v and %v = %v, not %v", degrees, f, g, got, want)
		}
	}
}

// TestProductsTurnedRound checks that forms of degrees n and k, turned round, get the sign -1 if n
// and k are odd, part by part.
func TestProductsTurnedRound(t *testing.T) {
	r := rand.New(rand.NewSource(7))
	for range 1000 {
		degrees := randomDegrees(r)
		f, g := randomForm(r, degrees, 4, 3), randomForm(r, degrees, 4, 3)
		for _, s := range f.Terms {
			n, _ := impl.DegreeOfMonomial(degrees, s.Monomial)
			part, _ := impl.PartOfForm(degrees, f, n)
			for _, u := range g.Terms {
				k, _ := impl.DegreeOfMonomial(degrees, u.Monomial)
				other, _ := impl.PartOfForm(degrees, g, k)
				sign := int64(1)
				if n%2 == 1 && k%2 == 1 {
					sign = impl.FieldPrime - 1
				}
				turned, code := impl.ScaleForm(degrees, sign, times(t, degrees, other, part))
				if got := times(t, degrees, part, other); !sameForms(got, turned) || code != impl.ErrNone {
					t.Fatalf("%v: %v and %v: %v and %v", degrees, part, other, got, turned)
				}
			}
		}
	}
}

// TestPartsAddUp checks that the parts of all degrees are homogeneous and add up to the form.
func TestPartsAddUp(t *testing.T) {
	r := rand.New(rand.NewSource(8))
	for range 200 {
		degrees := randomDegrees(r)
		f := randomForm(r, degrees, 20, 3)
		var sum impl.Form
		for n := range int64(8*12*3 + 1) {
			part, code := impl.PartOfForm(degrees, f, n)
			if degree, err := impl.DegreeOfForm(degrees, part); code != impl.ErrNone || err != impl.ErrNone || len(part.Terms) > 0 && degree != n {
				t.Fatalf("PartOfForm(%v, %v, %d) = %v, %d", degrees, f, n, part, code)
			}
			sum = sumOf(t, degrees, part, sum)
		}
		if !sameForms(sum, f) {
			t.Fatalf("%v: parts of %v add up to %v", degrees, f, sum)
		}
	}
}

// TestScalesAreSums checks that k times a form is the form added k times.
func TestScalesAreSums(t *testing.T) {
	r := rand.New(rand.NewSource(9))
	for range 50 {
		degrees := randomDegrees(r)
		f := randomForm(r, degrees, 5, 20)
		var sum impl.Form
		for k := range int64(60) {
			if got, code := impl.ScaleForm(degrees, k, f); !sameForms(got, sum) || code != impl.ErrNone {
				t.Fatalf("ScaleForm(%v, %d, %v) = %v, %d", degrees, k, f, got, code)
			}
			sum = sumOf(t, degrees, sum, f)
		}
	}
}
