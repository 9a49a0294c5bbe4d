package tests

import (
	"math/rand"
	"testing"

	"loop.example/g01219/impl"
)

// sevenAndOne has seven generators of degree 2, which have 924 monomials of the degree 12, and one of this degree.
const sevenAndOne = "2:0;2:0;2:0;2:0;2:0;2:0;2:0;12:0"

// ledLast returns the derivation that leads the last generator to a form, and all others to 0.
func ledLast(a impl.Algebra, drop int64, f impl.Form) impl.Derivation {
	d := impl.Derivation{Drop: drop, Images: make([]impl.Form, len(a.Degrees))}
	d.Images[len(d.Images)-1] = f
	return d
}

// lastTerms returns how many terms the last image has.
func (l leader) lastTerms() int {
	if len(l.images) == 0 {
		return 0
	}
	return len(l.images[len(l.images)-1].Terms)
}

// someMonomials returns the sum of some of the monomials of a degree n, each times a factor: of those from a place on, in
// order, up to another one.
func someMonomials(degrees []int64, n int64, from int, to int, factor int64) impl.Form {
	var f impl.Form
	for _, m := range allMonomials(degrees, n)[from:to] {
		f.Terms = append(f.Terms, impl.Term{Monomial: m, Factor: factor})
	}
	return f
}

// codeOf returns ErrLimit if one of some forms is none.
func codeOf(forms ...impl.Form) int64 {
	for _, f := range forms {
		if isBeyond(f) {
			return impl.ErrLimit
		}
	}
	return impl.ErrNone
}

// checkLed checks ApplyDerivation, and returns how many terms there are.
func checkLed(t *testing.T, a impl.Algebra, d impl.Derivation, f impl.Form) int {
	t.Helper()
	want := leaderOf(a, d).of(f)
	got, code := impl.ApplyDerivation(a, d, f)
	if code != codeOf(want) || code == impl.ErrNone && !sameForms(got, want) || code != impl.ErrNone && len(got.Terms) != 0 {
		t.Fatalf("ApplyDerivation in %v has %d terms of %d; code %d", a.Degrees, len(got.Terms), len(want.Terms), code)
	}
	return len(want.Terms)
}

// TestTermsOfApply leads forms, mostly with g, to ones with 400 and 401 terms.
func TestTermsOfApply(t *testing.T) {
	a := algebra(t, sevenAndOne)
	met := map[int]bool{}
	f := someMonomials(a.Degrees[:7], 12, 0, 400, 3)
	identity := derivation(t, a, 0, "1*a", "1*b", "1*c", "1*d", "1*e", "1*f", "1*g", "1*h")
	met[checkLed(t, a, identity, f)] = true
	lower := derivation(t, a, 2, "0", "0", "0", "0", "0", "0", "5*1", "0")
	for count := 380; count <= 400; count++ {
		met[checkLed(t, a, lower, productByWords(a.Degrees, someMonomials(a.Degrees[:7], 10, 0, count, 1), generator(6, 1)))] = true
	}
	if !met[400] || met[401] {
		t.Errorf("forms with 400 terms: %v; with 401 terms: %v", met[400], met[401])
	}
	d := derivation(t, a, 0, "0", "0", "0", "0", "0", "0", "1*a+2*b+3*c", "0")
	for count := 150; count <= 252; count++ {
		for _, from := range []int{0, 1, 3} {
			part := someMonomials(a.Degrees[:6], 10, from, count, 1)
			met[checkLed(t, a, d, productByWords(a.Degrees, part, generator(6, 1)))] = true
		}
	}
	if !met[401] {
		t.Error("no forms with 401 terms")
	}
}

// TestTermsThatCancelInApply has forms of which parts are led to more than 400 terms, and all of them to 0 or to few.
func TestTermsThatCancelInApply(t *testing.T) {
	a := algebra(t, "2:0;2:0;2:0;2:0;2:0")
	d := derivation(t, a, 0, "0", "0", "1*a+1*b+1*e", "1*a+1*b+1*e", "0")
	var f impl.Form
	for _, last := range []impl.Term{term(1, 0, 0, 1), term(impl.FieldPrime-1, 0, 0, 0, 1)} {
		part := productByWords(a.Degrees, grid(200, 1), formOf(last))
		if image := leaderOf(a, d).of(part); len(image.Terms) <= 400 {
			t.Fatalf("a part is led to %d terms only", len(image.Terms))
		}
		f = combination([]int64{1, 1}, []impl.Form{f, part})
	}
	if n := checkLed(t, a, d, f); n != 0 || len(f.Terms) != 400 {
		t.Errorf("%d terms are led to %d terms", len(f.Terms), n)
	}
	f.Terms = f.Terms[:399]
	if n := checkLed(t, a, d, f); n == 0 || n > 3 {
		t.Errorf("%d terms are led to %d terms", len(f.Terms), n)
	}
}

func TestTermsOfSums(t *testing.T) {
	a := algebra(t, sevenAndOne)
	const least = impl.FieldPrime - 1
	for _, c := range []struct {
		f, g impl.Form
		want int
	}{
		{someMonomials(a.Degrees[:7], 12, 0, 400, 1), impl.Form{}, 400},
		{someMonomials(a.Degrees[:7], 12, 0, 400, 1), someMonomials(a.Degrees[:7], 12, 0, 400, 5), 400},
		{someMonomials(a.Degrees[:7], 12, 0, 400, 1), someMonomials(a.Degrees[:7], 12, 0, 400, least), 0},
		{someMonomials(a.Degrees[:7], 12, 0, 399, 1), someMonomials(a.Degrees[:7], 12, 399, 400, 1), 400},
		{someMonomials(a.Degrees[:7], 12, 0, 400, 1), someMonomials(a.Degrees[:7], 12, 400, 401, 1), 401},
		{someMonomials(a.Degrees[:7], 12, 0, 400, 1), someMonomials(a.Degrees[:7], 12, 900, 901, 1), 401},
		{someMonomials(a.Degrees[:7], 12, 0, 200, 1), someMonomials(a.Degrees[:7], 12, 200, 400, 1), 400},
		{someMonomials(a.Degrees[:7], 12, 0, 200, 1), someMonomials(a.Degrees[:7], 12, 200, 401, 1), 401},
		{someMonomials(a.Degrees[:7], 12, 0, 400, 1), someMonomials(a.Degrees[:7], 12, 1, 401, 1), 401},
		{someMonomials(a.Degrees[:7], 12, 0, 400, 1), someMonomials(a.Degrees[:7], 12, 1, 401, least), 2},
		{someMonomials(a.Degrees[:7], 12, 0, 400, 1), someMonomials(a.Degrees[:7], 12, 400, 800, 1), 800},
	} {
		s, d := ledLast(a, 0, c.f), ledLast(a, 0, c.g)
		s.Images[0] = generator(3, 1)
		want := sumByWords(leaderOf(a, s), leaderOf(a, d))
		if len(want.images[7].Terms) != c.want {
			t.Fatalf("a sum has %d terms, not %d", len(want.images[7].Terms), c.want)
		}
		got, code := impl.AddDerivations(a, s, d)
		checkDerivation(t, "AddDerivations", a, got, code, want)
		got, code = impl.AddDerivations(a, d, s)
		checkDerivation(t, "AddDerivations turned round", a, got, code, want)
	}
}

// checkBrackets checks the bracket and the one turned round, and returns how many terms the last image has.
func checkBrackets(t *testing.T, a impl.Algebra, s, d impl.Derivation) int {
	t.Helper()
	want := bracketByWords(leaderOf(a, s), leaderOf(a, d))
	got, code := impl.BracketOf(a, s, d)
	checkDerivation(t, "BracketOf", a, got, code, want)
	turned, code := impl.BracketOf(a, d, s)
	checkDerivation(t, "BracketOf turned round", a, turned, code, bracketByWords(leaderOf(a, d), leaderOf(a, s)))
	return want.lastTerms()
}

// TestTermsOfBrackets has brackets that lead the last generator, h, to a form f with g and another one with a for it,
// less f.
func TestTermsOfBrackets(t *testing.T) {
	a := algebra(t, sevenAndOne)
	s := ledLast(a, 0, generator(7, 1))
	s.Images[6] = generator(0, 1)
	lower := someMonomials(a.Degrees[:6], 10, 0, 200, 1)
	withG := productByWords(a.Degrees, lower, generator(6, 1))
	withA := productByWords(a.Degrees, lower, generator(0, 1))
	fewer := formOf(withG.Terms[1:]...)
	other := formOf(term(3, 0, 6))
	for _, c := range []struct {
		numbers []int64
		forms   []impl.Form
		want    int
	}{
		{[]int64{1}, []impl.Form{withG}, 400},
		{[]int64{1, 1}, []impl.Form{withG, other}, 401},
		{[]int64{1, 1}, []impl.Form{fewer, other}, 399},
		{[]int64{1, 2}, []impl.Form{withG, withA}, 400},
		// The part with g is led to what is taken away with a: 600 terms, of which 200 or fewer are left.
		{[]int64{1, 1}, []impl.Form{withG, withA}, 200},
		{[]int64{1, 1}, []impl.Form{fewer, withA}, 200},
	} {
		if got := checkBrackets(t, a, s, ledLast(a, 0, combination(c.numbers, c.forms))); got != c.want {
			t.Errorf("a bracket has %d terms, not %d", got, c.want)
		}
	}
}

// TestTermsThatCancelInBrackets has two derivations that lead h as they would lead a form p. They lead all other
// generators to sums of a, b and c, and so their bracket is 0, but both parts of it have more than 400 terms.
func TestTermsThatCancelInBrackets(t *testing.T) {
	a := algebra(t, sevenAndOne)
	s, d := derivation(t, a, 0, "0", "0", "0", "0", "0", "1*c", "1*a+1*b+1*d", "0"), derivation(t, a, 0, "0", "0", "0", "0", "1*a", "1*a+1*b+1*d", "1*c", "0")
	r := rand.New(rand.NewSource(198))
	all := someMonomials(a.Degrees[:7], 12, 0, 924, 1)
	for tries := 0; ; tries++ {
		if tries == 1000 {
			t.Fatal("there is no such form")
		}
		var p impl.Form
		for _, x := range all.Terms {
			if x.Monomial[6] > 0 && r.Intn(6) == 0 {
				p.Terms = append(p.Terms, x)
			}
		}
		s.Images[7], d.Images[7] = leaderOf(a, s).of(p), leaderOf(a, d).of(p)
		if isBeyond(s.Images[7]) || isBeyond(d.Images[7]) || !isBeyond(leaderOf(a, s).of(d.Images[7])) {
			continue
		}
		if got := checkBrackets(t, a, s, d); got != 0 {
			t.Errorf("the bracket has %d terms", got)
		}
		d.Images[7].Terms = d.Images[7].Terms[1:]
		if got := checkBrackets(t, a, s, d); got == 0 {
			t.Error("the bracket has no terms")
		}
		return
	}
}

// TestDropsOfBrackets has Drops that add up to MaxWeight, and to one more, also if all images are 0.
func TestDropsOfBrackets(t *testing.T) {
	for _, text := range []string{"", "2:0;3:1*a2", "12:0", "2:0;10:0;12:0", "1:0;11:0;12:0", "6:0;12:0"} {
		a := algebra(t, text)
		for k := range int64(13) {
			for m := range int64(13) {
				s, d := impl.Derivation{Drop: k, Images: make([]impl.Form, len(a.Degrees))}, impl.Derivation{Drop: m, Images: make([]impl.Form, len(a.Degrees))}
				for i, n := range a.Degrees {
					if n == k {
						s.Images[i] = formOf(term(1))
					}
					if n == m {
						d.Images[i] = formOf(term(1))
					}
				}
				checkBrackets(t, a, s, d)
				_, code := impl.BracketOf(a, s, d)
				if (code == impl.ErrLimit) != (k+m > 12) || k+m <= 12 && code != impl.ErrNone {
					t.Errorf("BracketOf(%q, %d, %d): code %d", text, k, m, code)
				}
			}
		}
	}
}

// checkLowered checks DifferentialOfDerivation, and returns how many terms the last image has.
func checkLowered(t *testing.T, a impl.Algebra, d impl.Derivation) int {
	t.Helper()
	want := bracketByWords(leaderOfD(a), leaderOf(a, d))
	got, code := impl.DifferentialOfDerivation(a, d)
	checkDerivation(t, "DifferentialOfDerivation", a, got, code, want)
	return want.lastTerms()
}

// TestTermsOfDifferentials has forms g p, for which d leads the odd generator g to squares, and images of d that the
// derivation leads to many terms.
func TestTermsOfDifferentials(t *testing.T) {
	a := algebra(t, "2:0;2:0;2:0;2:0;2:0;2:0;3:1*a2+1*b2+1*c2+1*d2+1*e2+1*f2;12:0")
	r := rand.New(rand.NewSource(199))
	met := map[int]int{}
	cancelled := 0
	for range 400 {
		factors := []int64{1, impl.FieldPrime - 1}[:1+r.Intn(2)]
		var f, plain impl.Form // f has other factors, so that terms cancel
		few := r.Intn(8)
		for _, m := range allMonomials(a.Degrees[:6], 8) {
			m[6] = 1
			if r.Intn(10) >= few {
				f.Terms = append(f.Terms, impl.Term{Monomial: m, Factor: factors[r.Intn(len(factors))]})
				plain.Terms = append(plain.Terms, impl.Term{Monomial: m, Factor: 1})
			}
		}
		n := checkLowered(t, a, ledLast(a, 1, f))
		met[n]++
		if n <= 400 && isBeyond(differentialByWords(a, plain)) {
			cancelled++
		}
	}
	if met[400] == 0 || met[401] == 0 || cancelled < 20 {
		t.Errorf("%d differentials with 400 terms, %d with 401, and %d in which terms cancel", met[400], met[401], cancelled)
	}
	// Here the derivation leads g, which is closed, to a sum.
	met = map[int]int{}
	for count := 180; count <= 252; count++ {
		for from := range 4 {
			b := algebra(t, "2:0;2:0;2:0;2:0;2:0;2:0;3:0;12:0")
			b.Images[7] = productByWords(b.Degrees, someMonomials(b.Degrees[:6], 10, from, count, 1), generator(6, 1))
			d := derivation(t, b, 1, "0", "0", "0", "0", "0", "0", "1*a+1*b+1*c+1*d+7*f", "0")
			met[checkLowered(t, b, d)]++
		}
	}
	if met[400] == 0 || met[401] == 0 {
		t.Errorf("%d differentials with 400 terms, %d with 401", met[400], met[401])
	}
}
