package tests

import (
	"math"
	"math/rand"
	"testing"

	"loop.example/g01219/impl"
)

// derivationCase has the texts of an algebra and of a derivation.
type derivationCase struct {
	a      string
	drop   int64
	images []string
}

func (c derivationCase) parts(t *testing.T) (impl.Algebra, impl.Derivation) {
	t.Helper()
	a := algebra(t, c.a)
	return a, derivation(t, a, c.drop, c.images...)
}

// goodDerivations has derivations of even and odd Drops, the least and the greatest one too, without generators, with 0,
// numbers, sums and products as images, which need not go along with d.
func goodDerivations() []derivationCase {
	return []derivationCase{
		{"", 0, nil},
		{"", 1, nil},
		{"", 12, nil},
		{"2:0;3:1*a2", 0, []string{"0", "0"}},
		{"2:0;3:1*a2", 12, []string{"0", "0"}},
		{"2:0;3:1*a2", 0, []string{"1*a", "0"}},
		{"2:0;3:1*a2", 0, []string{"5*a", "10006*b"}},
		{"2:0;3:1*a2", 1, []string{"0", "1*a"}},
		{"2:0;3:1*a2", 2, []string{"1*1", "0"}},
		{"2:0;3:1*a2", 3, []string{"0", "7*1"}},
		{"2:0;5:1*a3", 1, []string{"0", "1*a2"}},
		{"2:0;5:1*a3", 3, []string{"0", "1*a"}},
		{"1:0;1:0;1:1*ab", 0, []string{"1*a+2*b+3*c", "4*a", "5*c"}},
		{"1:0;1:0;1:1*ab", 1, []string{"1*1", "2*1", "3*1"}},
		{"12:0", 12, []string{"10006*1"}},
		{"12:1*ab;1:0;12:0", 12, []string{"1*1", "0", "2*1"}},
		{"12:1*ab;1:0;12:0", 11, []string{"1*b", "0", "2*b"}},
		{"12:0;2:0;1:0;3:0", 0, []string{"1*b6+5*b4cd", "1*b", "0", "1*bc+1*d"}},
		{"12:0;2:0;1:0;3:0", 2, []string{"1*b5+1*b3cd", "1*1", "0", "4*c"}},
		{"2:0;2:0;2:0;2:0;2:0;2:0;2:0;2:0", 0, []string{"1*b", "1*c", "1*d", "1*e", "1*f", "1*g", "1*h", "1*a"}},
	}
}

// otherDerivations has lists of forms that are no derivations: too short or too long, not homogeneous, or of another
// degree.
func otherDerivations() []derivationCase {
	return []derivationCase{
		{"", 0, []string{"0"}},
		{"", 1, []string{"0"}},
		{"2:0;3:1*a2", 0, nil},
		{"2:0;3:1*a2", 0, []string{"0"}},
		{"2:0;3:1*a2", 0, []string{"1*a"}},
		{"2:0;3:1*a2", 0, []string{"0", "0", "0"}},
		{"2:0;3:1*a2", 0, []string{"1*a", "1*b", "0"}},
		{"2:0;3:1*a2", 0, []string{"1*1", "0"}},
		{"2:0;3:1*a2", 0, []string{"1*b", "0"}},
		{"2:0;3:1*a2", 0, []string{"0", "1*a"}},
		{"2:0;3:1*a2", 0, []string{"1*a2", "0"}},
		{"2:0;3:1*a2", 1, []string{"1*a", "0"}},
		{"2:0;3:1*a2", 1, []string{"1*1", "0"}},
		{"2:0;3:1*a2", 1, []string{"0", "1*b"}},
		{"2:0;3:1*a2", 2, []string{"1*a", "0"}},
		{"2:0;3:1*a2", 2, []string{"0", "1*1"}},
		{"2:0;3:1*a2", 3, []string{"1*1", "0"}},
		{"2:0;3:1*a2", 3, []string{"0", "1*a+1*1"}},
		{"2:0;3:1*a2", 1, []string{"0", "1*a+1*1"}},
		{"2:0;3:1*a2", 12, []string{"0", "1*1"}},
		{"2:0;3:1*a2", -1, []string{"0", "0"}},
		{"2:0;3:1*a2", -1, []string{"0", "1*a2"}},
		{"2:0;3:1*a2", -1, []string{"1*b", "1*a2"}},
		{"2:0;3:1*a2", 13, []string{"0", "0"}},
		{"12:0", 13, []string{"0"}},
		{"", -1, nil},
		{"", 13, nil},
		{"", math.MinInt64, nil},
		{"", math.MaxInt64, nil},
		{"1:0", math.MinInt64, []string{"0"}},
		{"1:0", math.MaxInt64, []string{"0"}},
		{"1:0;12:0", math.MinInt64 + 1, []string{"0", "0"}},
		{"2:0;2:0", 0, []string{"1*a+1*1", "0"}},
		{"2:0;2:0", 0, []string{"1*ab+1*b", "0"}},
		{"2:0;2:0", 0, []string{"1*a", "1*a+1*b+1*1"}},
	}
}

func TestIsDerivation(t *testing.T) {
	for _, c := range goodDerivations() {
		if a, d := c.parts(t); !impl.IsDerivation(a, d) {
			t.Errorf("IsDerivation(%q, %d, %v) is false", c.a, c.drop, c.images)
		}
	}
	for _, c := range otherDerivations() {
		if a, d := c.parts(t); impl.IsDerivation(a, d) {
			t.Errorf("IsDerivation(%q, %d, %v) is true", c.a, c.drop, c.images)
		}
	}
	for _, f := range badForms() {
		a := algebra(t, "1:0;2:0")
		for drop := range int64(4) {
			if impl.IsDerivation(a, impl.Derivation{Drop: drop, Images: []impl.Form{{}, f}}) || impl.IsDerivation(a, impl.Derivation{Drop: drop, Images: []impl.Form{f, {}}}) {
				t.Errorf("IsDerivation with the Drop %d and the image %v is true", drop, f)
			}
		}
	}
}

// TestDerivationsOfNoAlgebra has what is no algebra, with as many images that are 0 as degrees.
func TestDerivationsOfNoAlgebra(t *testing.T) {
	for _, a := range badAlgebras(t) {
		for drop := range int64(14) {
			for _, count := range []int{0, len(a.Degrees), len(a.Images)} {
				if impl.IsDerivation(a, impl.Derivation{Drop: drop, Images: make([]impl.Form, count)}) {
					t.Errorf("IsDerivation(%v, %d) is true", a, drop)
				}
			}
		}
	}
}

// TestDropsOfZero has 0 as all images, which is a derivation of each Drop in its range.
func TestDropsOfZero(t *testing.T) {
	for _, a := range goodAlgebras(t) {
		for drop := int64(-3); drop < 16; drop++ {
			if got := impl.IsDerivation(a, impl.Derivation{Drop: drop, Images: make([]impl.Form, len(a.Degrees))}); got != (drop >= 0 && drop <= 12) {
				t.Errorf("IsDerivation(%v, %d) = %v", a, drop, got)
			}
		}
	}
}

// applyCase has a derivation, and the texts of a form and of what it is led to, or no text if this is no form.
type applyCase struct {
	derivationCase
	form, want string
}

func applyCases() []applyCase {
	swap := derivationCase{"2:0;2:0", 0, []string{"1*b", "1*a"}}
	turn := derivationCase{"2:0;2:0", 0, []string{"1*b", "10006*a"}}
	third := derivationCase{"2:0;5:1*a3", 3, []string{"0", "1*a"}}
	mixed := derivationCase{"3:0;4:0;3:0", 1, []string{"0", "1*c", "0"}}
	return []applyCase{
		{third, "2*a2b", "2*a3"},
		{third, "0", "0"},
		{third, "1*1", "0"},
		{third, "7*1", "0"},
		{third, "1*a3", "0"},
		{third, "3*a19b+2*a5b+5*a+1*1", "3*a20+2*a6"},
		{third, "3*a20b+2*a5b+5*a+1*1", ""},
		// Even Drops, on even and odd generators.
		{derivationCase{"", 0, nil}, "5*1", "0"},
		{derivationCase{"2:0", 0, []string{"3*a"}}, "1*a20", "60*a20"},
		{derivationCase{"2:0", 0, []string{"3*a"}}, "1*a20+2*a3+4*a+5*1", "60*a20+18*a3+12*a"},
		{derivationCase{"2:0", 2, []string{"1*1"}}, "1*a20", "20*a19"},
		{derivationCase{"4:0", 4, []string{"2*1"}}, "5*a3+1*1", "30*a2"},
		{derivationCase{"4:0;2:0", 2, []string{"1*b", "0"}}, "1*a3", "3*a2b"},
		{derivationCase{"4:0;2:0", 2, []string{"1*b", "5*1"}}, "1*a3b2", "10*a3b+3*a2b3"},
		{derivationCase{"1:0;1:0", 0, []string{"1*b", "0"}}, "1*ab", "0"},
		{derivationCase{"1:0;1:0", 0, []string{"1*b", "0"}}, "1*a", "1*b"},
		{derivationCase{"1:0;1:0", 0, []string{"1*a+1*b", "3*b"}}, "1*ab", "4*ab"},
		{derivationCase{"1:0;1:0", 0, []string{"0", "1*a"}}, "1*ab", "0"},
		{derivationCase{"1:0;1:0;1:0", 0, []string{"0", "1*c", "0"}}, "1*ab", "1*ac"},
		{derivationCase{"1:0;1:0;1:0", 0, []string{"1*c", "0", "0"}}, "1*ab", "10006*bc"},
		{derivationCase{"3:0;3:0;1:0", 2, []string{"0", "1*c", "0"}}, "1*ab", "1*ac"},
		{derivationCase{"3:0;3:0;1:0", 2, []string{"1*c", "1*c", "0"}}, "1*ab", "1*ac+10006*bc"},
		// Odd Drops, which change their sign behind odd generators.
		{derivationCase{"1:0;1:0", 1, []string{"1*1", "0"}}, "1*ab", "1*b"},
		{derivationCase{"1:0;1:0", 1, []string{"0", "1*1"}}, "1*ab", "10006*a"},
		{derivationCase{"1:0;1:0", 1, []string{"2*1", "3*1"}}, "1*ab+5*a+7*b", "10004*a+2*b+31*1"},
		{derivationCase{"1:0;1:0;1:0", 1, []string{"1*1", "1*1", "1*1"}}, "1*abc", "1*ab+10006*ac+1*bc"},
		{derivationCase{"3:0;2:0", 1, []string{"1*b", "0"}}, "1*ab", "1*b2"},
		{derivationCase{"2:0;3:0", 1, []string{"0", "1*a"}}, "1*ab", "1*a2"},
		{derivationCase{"3:0;3:0;2:0", 1, []string{"0", "1*c", "0"}}, "1*ab", "10006*ac"},
		{derivationCase{"4:0;3:0", 1, []string{"1*b", "0"}}, "5*a3", "15*a2b"},
		{derivationCase{"4:0;3:0", 1, []string{"1*b", "0"}}, "1*a2b", "0"},
		{derivationCase{"12:0;1:0", 11, []string{"1*b", "0"}}, "1*a2+1*ab", "2*ab"},
		{mixed, "1*b2", "2*bc"},
		{mixed, "1*ab2", "10005*abc"},
		{mixed, "1*bc", "0"},
		{mixed, "1*ac", "0"},
		// Sums in which terms cancel.
		{swap, "1*a2+10006*b2", "0"},
		{swap, "1*a+10006*b", "10006*a+1*b"},
		{turn, "1*a2+1*b2", "0"},
		{turn, "1*a2+1*ab", "10006*a2+2*ab+1*b2"},
		{derivationCase{"2:0;2:0;2:0", 0, []string{"1*c", "1*c", "0"}}, "1*ac20+10006*bc20", "0"},
		{derivationCase{"2:0;2:0;2:0", 0, []string{"1*c", "1*c", "0"}}, "1*a2+1*ac20+10006*bc20", "2*ac"},
		{derivationCase{"2:0;2:0;2:0", 0, []string{"1*c", "0", "1*c"}}, "1*ac20", ""},
		{derivationCase{"2:0;2:0;2:0", 0, []string{"1*c", "0", "1*c"}}, "1*ac19", "19*ac19+1*c20"},
		{derivationCase{"2:0;2:0;2:0", 0, []string{"1*a", "10006*b", "0"}}, "1*a20b20", "0"},
		{derivationCase{"2:0;2:0;2:0", 0, []string{"1*a", "10006*b", "0"}}, "1*a20b19", "1*a20b19"},
	}
}

func TestApplyDerivation(t *testing.T) {
	for _, c := range applyCases() {
		a, d := c.parts(t)
		got, code := impl.ApplyDerivation(a, d, parse(t, a.Degrees, c.form))
		if c.want == "" {
			if len(got.Terms) != 0 || code != impl.ErrLimit {
				t.Errorf("ApplyDerivation(%v, %q) = %v, %d, not ErrLimit", c.derivationCase, c.form, got, code)
			}
			continue
		}
		if want := parse(t, a.Degrees, c.want); !sameForms(got, want) || code != impl.ErrNone {
			t.Errorf("ApplyDerivation(%v, %q) = %v, %d, not %q", c.derivationCase, c.form, got, code, c.want)
		}
	}
}

func TestApplyRandomDerivations(t *testing.T) {
	r := rand.New(rand.NewSource(180))
	counts := map[[2]int64]int{}
	for range 4000 {
		a := derivable(t, r)
		d := randomDerivation(r, a, someDrop(r, a, 0))
		f := randomForm(r, a.Degrees, 5, 3)
		want := leaderOf(a, d).of(f)
		if got := led(t, a, d, f); !sameForms(got, want) {
			t.Fatalf("ApplyDerivation(%v, %v, %v) = %v, not %v", a, d, f, got, want)
		}
		if len(want.Terms) > 0 {
			counts[[2]int64{d.Drop % 2, degreeOf(a, formOf(want.Terms[0])) % 2}]++
		}
	}
	if len(counts) != 4 || min(counts[[2]int64{0, 0}], counts[[2]int64{0, 1}], counts[[2]int64{1, 0}], counts[[2]int64{1, 1}]) < 100 {
		t.Errorf("forms other than 0, by Drop and degree: %v", counts)
	}
}

// TestDerivationsOfGenerators checks that a derivation leads generators to its images, and numbers to 0.
func TestDerivationsOfGenerators(t *testing.T) {
	for _, c := range goodDerivations() {
		a, d := c.parts(t)
		for i, f := range d.Images {
			if got := led(t, a, d, generator(i, 1)); !sameForms(got, f) {
				t.Errorf("%v leads the generator %d to %v", c, i, got)
			}
		}
		if got := led(t, a, d, formOf(term(5))); len(got.Terms) != 0 {
			t.Errorf("%v leads 5 to %v", c, got)
		}
		if got := led(t, a, d, impl.Form{}); len(got.Terms) != 0 {
			t.Errorf("%v leads 0 to %v", c, got)
		}
	}
}

// TestDerivationsOfProducts checks the rule of products for homogeneous forms.
func TestDerivationsOfProducts(t *testing.T) {
	r := rand.New(rand.NewSource(181))
	some, signs := 0, 0
	for range 6000 {
		a := derivable(t, r)
		d := randomDerivation(r, a, someDrop(r, a, 0))
		f, n := randomPart(r, a.Degrees, 3, 2)
		g, _ := randomPart(r, a.Degrees, 3, 2)
		left := led(t, a, d, times(t, a.Degrees, f, g))
		first := times(t, a.Degrees, led(t, a, d, f), g)
		second := scaled(t, a.Degrees, signed(d.Drop*n), times(t, a.Degrees, f, led(t, a, d, g)))
		if right := sumOf(t, a.Degrees, first, second); !sameForms(left, right) {
			t.Fatalf("%v: %v leads the product of %v and %v to %v, not %v", a, d, f, g, left, right)
		}
		if len(first.Terms) > 0 && len(second.Terms) > 0 {
			some++
		}
		if len(second.Terms) > 0 && d.Drop*n%2 == 1 {
			signs++
		}
	}
	if some < 100 || signs < 100 {
		t.Errorf("only %d products with two parts, and %d with a sign", some, signs)
	}
}

func TestDerivationsOfSums(t *testing.T) {
	r := rand.New(rand.NewSource(182))
	for range 1000 {
		a := derivable(t, r)
		d := randomDerivation(r, a, someDrop(r, a, 0))
		f, g := randomForm(r, a.Degrees, 5, 3), randomForm(r, a.Degrees, 5, 3)
		k := r.Int63n(impl.FieldPrime)
		left := led(t, a, d, sumOf(t, a.Degrees, f, scaled(t, a.Degrees, k, g)))
		right := sumOf(t, a.Degrees, led(t, a, d, f), scaled(t, a.Degrees, k, led(t, a, d, g)))
		if !sameForms(left, right) {
			t.Fatalf("%v: %v leads the sum of %v and %d times %v to %v, not %v", a, d, f, k, g, left, right)
		}
	}
}

func TestAddDerivations(t *testing.T) {
	for _, c := range []struct {
		a           string
		drop        int64
		s, d, image []string
	}{
		{"", 0, nil, nil, nil},
		{"", 12, nil, nil, nil},
		{"2:0;5:1*a3", 3, []string{"0", "1*a"}, []string{"0", "1*a"}, []string{"0", "2*a"}},
		{"2:0;5:1*a3", 3, []string{"0", "1*a"}, []string{"0", "10006*a"}, []string{"0", "0"}},
		{"2:0;5:1*a3", 0, []string{"1*a", "0"}, []string{"0", "1*b"}, []string{"1*a", "1*b"}},
		{"2:0;5:1*a3", 2, []string{"5000*1", "0"}, []string{"5008*1", "0"}, []string{"1*1", "0"}},
		{"1:0;1:0;1:1*ab", 0, []string{"1*a+2*b", "3*c", "0"}, []string{"10006*a+4*c", "1*b", "5*c"}, []string{"2*b+4*c", "1*b+3*c", "5*c"}},
		{"12:0;2:0", 0, []string{"1*a", "0"}, []string{"1*b6", "1*b"}, []string{"1*a+1*b6", "1*b"}},
		{"12:0", 12, []string{"1*1"}, []string{"1*1"}, []string{"2*1"}},
	} {
		a := algebra(t, c.a)
		s, d := derivation(t, a, c.drop, c.s...), derivation(t, a, c.drop, c.d...)
		if got, want := added(t, a, s, d), derivation(t, a, c.drop, c.image...); !sameDerivations(got, want) {
			t.Errorf("AddDerivations(%q, %v, %v) = %v", c.a, c.s, c.d, textsOf(t, a, got))
		}
		if got, want := added(t, a, d, s), derivation(t, a, c.drop, c.image...); !sameDerivations(got, want) {
			t.Errorf("AddDerivations(%q, %v, %v) = %v", c.a, c.d, c.s, textsOf(t, a, got))
		}
	}
}

func TestAddRandomDerivations(t *testing.T) {
	r := rand.New(rand.NewSource(183))
	for range 2000 {
		a := derivable(t, r)
		drop := someDrop(r, a, 0)
		s, d := randomDerivation(r, a, drop), randomDerivation(r, a, drop)
		got, code := impl.AddDerivations(a, s, d)
		checkDerivation(t, "AddDerivations", a, got, code, sumByWords(leaderOf(a, s), leaderOf(a, d)))
		if rest := added(t, a, got, multiple(impl.FieldPrime-1, d)); !sameDerivations(rest, s) {
			t.Fatalf("%v: the sum of %v and %v less the second one is %v", a, s, d, rest)
		}
		f := randomForm(r, a.Degrees, 4, 3)
		if left, right := led(t, a, got, f), sumOf(t, a.Degrees, led(t, a, s, f), led(t, a, d, f)); !sameForms(left, right) {
			t.Fatalf("%v: the sum of %v and %v leads %v to %v, not %v", a, s, d, f, left, right)
		}
	}
}

// TestDropsOfSums checks that derivations with different Drops have no sum, also if both are 0.
func TestDropsOfSums(t *testing.T) {
	for _, a := range goodAlgebras(t) {
		for k := range int64(13) {
			for m := range int64(13) {
				s, d := impl.Derivation{Drop: k, Images: make([]impl.Form, len(a.Degrees))}, impl.Derivation{Drop: m, Images: make([]impl.Form, len(a.Degrees))}
				got, code := impl.AddDerivations(a, s, d)
				if k == m && (code != impl.ErrNone || !sameDerivations(got, s)) || k != m && (code != impl.ErrRange || !isZeroDerivation(got)) {
					t.Errorf("AddDerivations(%v, %d, %d) = %v, %d", a, k, m, got, code)
				}
			}
		}
	}
}
