package tests

import (
	"math/rand"
	"slices"
	"testing"

	"loop.example/g01219/impl"
)

// leader leads generators to forms, and follows the rule of products of a Drop. That of d is -1.
type leader struct {
	degrees []int64
	drop    int64
	images  []impl.Form
}

func leaderOf(a impl.Algebra, t impl.Derivation) leader {
	return leader{a.Degrees, t.Drop, t.Images}
}

func leaderOfD(a impl.Algebra) leader {
	return leader{a.Degrees, -1, a.Images}
}

// signed returns the number of the field -1 if n is odd, and 1 otherwise.
func signed(n int64) int64 {
	if n%2 == 0 {
		return 1
	}
	return impl.FieldPrime - 1
}

// ofWord leads the product of the generators of a word, in order. It takes the first letter away, as the rule of
// products tells it.
func (l leader) ofWord(word []int) impl.Form {
	if len(word) == 0 {
		return impl.Form{}
	}
	first, rest := word[0], formOf(impl.Term{Monomial: monomialOf(word[1:]), Factor: 1})
	left := productByWords(l.degrees, l.images[first], rest)
	right := productByWords(l.degrees, generator(first, 1), l.ofWord(word[1:]))
	return combination([]int64{1, signed(l.drop * l.degrees[first])}, []impl.Form{left, right})
}

// of leads a form, without asking for limits.
func (l leader) of(f impl.Form) impl.Form {
	sum := map[impl.Monomial]int64{}
	for _, x := range f.Terms {
		addTerms(sum, x.Factor, l.ofWord(wordOf(x.Monomial)))
	}
	return formOfSum(sum)
}

// bracketByWords returns the bracket, without asking for limits. The differential of t is the bracket of d and t.
func bracketByWords(s, t leader) leader {
	bracket := leader{s.degrees, s.drop + t.drop, nil}
	minus := signed(s.drop*t.drop + 1)
	for i := range s.degrees {
		images := []impl.Form{s.of(t.images[i]), t.of(s.images[i])}
		bracket.images = append(bracket.images, combination([]int64{1, minus}, images))
	}
	return bracket
}

func sumByWords(s, t leader) leader {
	sum := leader{s.degrees, s.drop, nil}
	for i := range s.degrees {
		sum.images = append(sum.images, combination([]int64{1, 1}, []impl.Form{s.images[i], t.images[i]}))
	}
	return sum
}

// isBeyond reports whether terms are no form because of their number or their exponents.
func isBeyond(f impl.Form) bool {
	great := func(x impl.Term) bool { return slices.Max(x.Monomial[:]) > impl.MaxPower }
	return len(f.Terms) > impl.MaxTerms || slices.ContainsFunc(f.Terms, great)
}

func (l leader) isBeyond() bool {
	return slices.ContainsFunc(l.images, isBeyond)
}

func sameDerivations(s, t impl.Derivation) bool {
	return s.Drop == t.Drop && sameFormLists(s.Images, t.Images)
}

func isZeroDerivation(t impl.Derivation) bool {
	return t.Drop == 0 && len(t.Images) == 0
}

// isNothing reports whether a derivation leads everything to 0.
func isNothing(t impl.Derivation) bool {
	return !slices.ContainsFunc(t.Images, func(f impl.Form) bool { return len(f.Terms) > 0 })
}

// checkDerivation compares a result with what it must be: within the limits this leader, and ErrLimit beyond them.
func checkDerivation(t *testing.T, name string, a impl.Algebra, got impl.Derivation, code int64, want leader) {
	t.Helper()
	if want.isBeyond() || want.drop > impl.MaxWeight {
		if !isZeroDerivation(got) || code != impl.ErrLimit {
			t.Fatalf("%s in %v = %v, %d, not ErrLimit", name, a, got, code)
		}
		return
	}
	if code != impl.ErrNone || !sameDerivations(got, impl.Derivation{Drop: want.drop, Images: want.images}) {
		t.Fatalf("%s in %v = %v, %d, not %v", name, a, got, code, want)
	}
	if !impl.IsDerivation(a, got) {
		t.Fatalf("%s in %v = %v is no derivation", name, a, got)
	}
}

// derivation returns the derivation with a Drop and the texts of its images.
func derivation(t *testing.T, a impl.Algebra, drop int64, images ...string) impl.Derivation {
	t.Helper()
	return impl.Derivation{Drop: drop, Images: parseAll(t, a.Degrees, images)}
}

func textsOf(t *testing.T, a impl.Algebra, d impl.Derivation) []string {
	t.Helper()
	var texts []string
	for _, f := range d.Images {
		text, code := impl.FormText(a.Degrees, f)
		if code != impl.ErrNone {
			t.Fatalf("FormText(%v, %v): code %d", a.Degrees, f, code)
		}
		texts = append(texts, text)
	}
	return texts
}

// led, added, bracket and lowered return what the functions do for what is within the limits.
func led(t *testing.T, a impl.Algebra, d impl.Derivation, f impl.Form) impl.Form {
	t.Helper()
	g, code := impl.ApplyDerivation(a, d, f)
	if code != impl.ErrNone || !impl.IsForm(a.Degrees, g) {
		t.Fatalf("ApplyDerivation(%v, %v, %v) = %v, %d", a, d, f, g, code)
	}
	return g
}

func added(t *testing.T, a impl.Algebra, s, d impl.Derivation) impl.Derivation {
	t.Helper()
	sum, code := impl.AddDerivations(a, s, d)
	if code != impl.ErrNone || !impl.IsDerivation(a, sum) {
		t.Fatalf("AddDerivations(%v, %v, %v) = %v, %d", a, s, d, sum, code)
	}
	return sum
}

func bracket(t *testing.T, a impl.Algebra, s, d impl.Derivation) impl.Derivation {
	t.Helper()
	b, code := impl.BracketOf(a, s, d)
	if code != impl.ErrNone || !impl.IsDerivation(a, b) {
		t.Fatalf("BracketOf(%v, %v, %v) = %v, %d", a, s, d, b, code)
	}
	return b
}

func lowered(t *testing.T, a impl.Algebra, d impl.Derivation) impl.Derivation {
	t.Helper()
	b, code := impl.DifferentialOfDerivation(a, d)
	if code != impl.ErrNone || !impl.IsDerivation(a, b) {
		t.Fatalf("DifferentialOfDerivation(%v, %v) = %v, %d", a, d, b, code)
	}
	return b
}

// multiple returns a derivation whose images are those of d times a number.
func multiple(k int64, d impl.Derivation) impl.Derivation {
	product := impl.Derivation{Drop: d.Drop}
	for _, f := range d.Images {
		product.Images = append(product.Images, combination([]int64{k}, []impl.Form{f}))
	}
	return product
}

// derivableTexts returns texts of algebras with many derivations, of nearly all Drops.
func derivableTexts() []string {
	return []string{
		heisenberg, twoSquares, evenThird,
		"2:0;3:1*a2;3:0;4:0",
		"2:0;5:1*a3;3:0;7:1*a4",
		"1:0;2:0;3:1*b2;4:1*ab2",
		"1:0;2:1*ab;3:1*ac;4:1*ad",
		"1:1*b;2:0;3:0;4:0",
		"4:5*b;5:0;2:0;3:1*c2",
		"2:0;4:0;5:1*a3+2*ab;7:1*b2;3:0",
		"2:0;3:0;4:1*ab;6:1*bc;9:0",
		"1:0;1:0;1:1*ab;2:1*abc;3:0;6:0",
		"12:1*ab;1:0;12:0",
		"2:0;3:1*a2;6:0;11:1*c2",
		"1:0;3:0;5:0;7:0",
		"2:0;4:0;6:0;8:0",
	}
}

// derivable returns an algebra with derivations of many Drops, told by other generators, or any small one.
func derivable(t *testing.T, r *rand.Rand) impl.Algebra {
	t.Helper()
	texts := derivableTexts()
	if k := r.Intn(2 * len(texts)); k < len(texts) {
		return shuffled(r, algebra(t, texts[k]))
	}
	return randomAlgebra(t, r, 6)
}

// fewOfDegree returns a form of a degree n with at most count terms.
func fewOfDegree(r *rand.Rand, a impl.Algebra, n int64, count int) impl.Form {
	monomials := allMonomials(a.Degrees, n)
	sum := map[impl.Monomial]int64{}
	for range r.Intn(count + 1) {
		if len(monomials) > 0 {
			sum[monomials[r.Intn(len(monomials))]] = []int64{1, impl.FieldPrime - 1, 1 + r.Int63n(impl.FieldPrime-1)}[r.Intn(3)]
		}
	}
	return formOfSum(sum)
}

// randomDerivation returns a derivation with images of few terms.
func randomDerivation(r *rand.Rand, a impl.Algebra, drop int64) impl.Derivation {
	d := impl.Derivation{Drop: drop}
	for _, n := range a.Degrees {
		d.Images = append(d.Images, fewOfDegree(r, a, n-drop, 3))
	}
	return d
}

// someDrop returns a Drop from low on, mostly one that is so low that there are derivations other than 0.
func someDrop(r *rand.Rand, a impl.Algebra, low int64) int64 {
	most := slices.Max(append(slices.Clone(a.Degrees), low))
	if r.Intn(10) == 0 {
		most = impl.MaxWeight
	}
	return low + r.Int63n(most-low+1)
}

// elementaryByWords returns the elementary derivations of a Drop.
func elementaryByWords(a impl.Algebra, drop int64) []impl.Derivation {
	var list []impl.Derivation
	for i, n := range a.Degrees {
		for _, m := range allMonomials(a.Degrees, n-drop) {
			d := impl.Derivation{Drop: drop, Images: make([]impl.Form, len(a.Degrees))}
			d.Images[i] = formOf(impl.Term{Monomial: m, Factor: 1})
			list = append(list, d)
		}
	}
	return list
}

// matrixByWords returns the matrix of a Drop of at least 1.
func matrixByWords(a impl.Algebra, drop int64) [][]int64 {
	var matrix [][]int64
	to := elementaryByWords(a, drop-1)
	for _, d := range elementaryByWords(a, drop) {
		lower := bracketByWords(leaderOfD(a), leaderOf(a, d))
		numbers := make([]int64, len(to))
		for k, e := range to {
			for i, f := range e.Images {
				if len(f.Terms) > 0 {
					numbers[k] = factorOf(lower.images[i], f.Terms[0].Monomial)
				}
			}
		}
		matrix = append(matrix, numbers)
	}
	return matrix
}

// rankByWords returns the homology rank of a Drop of at least 1.
func rankByWords(a impl.Algebra, drop int64) int64 {
	matrix := matrixByWords(a, drop)
	return int64(len(matrix) - rankOfTable(matrix) - rankOfTable(matrixByWords(a, drop+1)))
}

// constantsByWords asks for the factor of each pair of letters in each image.
func constantsByWords(a impl.Algebra) [][]int64 {
	var constants [][]int64
	for i := range a.Degrees {
		for j := range a.Degrees {
			for k := j; k < len(a.Degrees); k++ {
				if c := factorOf(a.Images[i], monomialOf([]int{j, k})); c != 0 {
					constants = append(constants, []int64{int64(i), int64(j), int64(k), c})
				}
			}
		}
	}
	return constants
}
