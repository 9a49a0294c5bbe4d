package tests

import (
	"math"
	"math/rand"
	"slices"
	"testing"

	"loop.example/g01219/impl"
)

// dropCall calls a function that takes a Drop, which has to be in least..most.
type dropCall struct {
	degreeCall
	least, most int64
}

func callsOfDrops() []dropCall {
	return []dropCall{
		{degreeCall{"ElementaryDerivations", func(a impl.Algebra, k int64) (bool, int64) {
			x, code := impl.ElementaryDerivations(a, k)
			return len(x) == 0, code
		}}, 0, 12},
		{degreeCall{"MatrixOfDrop", func(a impl.Algebra, k int64) (bool, int64) {
			x, code := impl.MatrixOfDrop(a, k)
			return len(x) == 0, code
		}}, 1, 12},
		{degreeCall{"HomologyRank", func(a impl.Algebra, k int64) (bool, int64) {
			x, code := impl.HomologyRank(a, k)
			return x == 0, code
		}}, 1, 11},
	}
}

// derivationCall calls a function with two derivations, of which it may take one alone. It returns whether the result is
// the zero value.
type derivationCall struct {
	name string
	call func(a impl.Algebra, s, d impl.Derivation) (bool, int64)
}

// callsOfOneDerivation has the functions that take the first derivation alone.
func callsOfOneDerivation() []derivationCall {
	return []derivationCall{
		{"ApplyDerivation", func(a impl.Algebra, s, _ impl.Derivation) (bool, int64) {
			x, code := impl.ApplyDerivation(a, s, formOf(term(1)))
			return len(x.Terms) == 0, code
		}},
		{"DifferentialOfDerivation", func(a impl.Algebra, s, _ impl.Derivation) (bool, int64) {
			x, code := impl.DifferentialOfDerivation(a, s)
			return isZeroDerivation(x), code
		}},
	}
}

func callsOfTwoDerivations() []derivationCall {
	return []derivationCall{
		{"AddDerivations", func(a impl.Algebra, s, d impl.Derivation) (bool, int64) {
			x, code := impl.AddDerivations(a, s, d)
			return isZeroDerivation(x), code
		}},
		{"BracketOf", func(a impl.Algebra, s, d impl.Derivation) (bool, int64) {
			x, code := impl.BracketOf(a, s, d)
			return isZeroDerivation(x), code
		}},
	}
}

func checkDerivationCode(t *testing.T, c derivationCall, a impl.Algebra, s, d impl.Derivation, want int64) {
	t.Helper()
	if zero, code := c.call(a, s, d); code != want || code != impl.ErrNone && !zero {
		t.Errorf("%s(%v, %v, %v): code %d, not %d; the zero value: %v", c.name, a, s, d, code, want, zero)
	}
}

// zeroDerivation returns the derivation of a Drop that leads everything to 0.
func zeroDerivation(a impl.Algebra, drop int64) impl.Derivation {
	return impl.Derivation{Drop: drop, Images: make([]impl.Form, len(a.Degrees))}
}

// TestNoAlgebraOfDerivations has what is no algebra, also with Drops that are in no range or different.
func TestNoAlgebraOfDerivations(t *testing.T) {
	for _, a := range badAlgebras(t) {
		for _, c := range callsOfDrops() {
			for _, k := range []int64{0, 1, 3, 11, 12, 13, -1, math.MinInt64, math.MaxInt64} {
				checkCode(t, c.degreeCall, a, k, impl.ErrInvalid)
			}
		}
		for _, c := range append(callsOfOneDerivation(), callsOfTwoDerivations()...) {
			for _, drops := range [][2]int64{{0, 0}, {1, 1}, {0, 3}, {12, 12}, {13, -1}} {
				checkDerivationCode(t, c, a, zeroDerivation(a, drops[0]), zeroDerivation(a, drops[1]), impl.ErrInvalid)
			}
		}
		if x, code := impl.ConstantsOf(a); len(x) != 0 || code != impl.ErrInvalid {
			t.Errorf("ConstantsOf(%v) = %v, %d", a, x, code)
		}
	}
}

// TestNoDerivations has what is no derivation on either side, together with Drops that are different, 0 or too great.
func TestNoDerivations(t *testing.T) {
	for _, c := range otherDerivations() {
		a, bad := c.parts(t)
		for _, call := range callsOfOneDerivation() {
			checkDerivationCode(t, call, a, bad, bad, impl.ErrInvalid)
		}
		for _, call := range callsOfTwoDerivations() {
			for drop := range int64(13) {
				checkDerivationCode(t, call, a, bad, zeroDerivation(a, drop), impl.ErrInvalid)
				checkDerivationCode(t, call, a, zeroDerivation(a, drop), bad, impl.ErrInvalid)
			}
			checkDerivationCode(t, call, a, bad, bad, impl.ErrInvalid)
		}
	}
	a := algebra(t, "1:0;2:0")
	for _, f := range badForms() {
		for drop := range int64(13) {
			for _, images := range [][]impl.Form{{f, {}}, {{}, f}} {
				bad := impl.Derivation{Drop: drop, Images: images}
				for _, call := range append(callsOfOneDerivation(), callsOfTwoDerivations()...) {
					checkDerivationCode(t, call, a, bad, zeroDerivation(a, 1), impl.ErrInvalid)
				}
				for _, call := range callsOfTwoDerivations() {
					checkDerivationCode(t, call, a, zeroDerivation(a, 1), bad, impl.ErrInvalid)
				}
			}
		}
	}
}

func TestNoFormsOfDerivations(t *testing.T) {
	a := algebra(t, "1:0;2:0")
	for _, f := range badForms() {
		for drop := range int64(13) {
			if x, code := impl.ApplyDerivation(a, zeroDerivation(a, drop), f); len(x.Terms) != 0 || code != impl.ErrInvalid {
				t.Errorf("ApplyDerivation(%d, %v) = %v, %d", drop, f, x, code)
			}
		}
	}
	b := algebra(t, "2:0;2:0")
	for _, d := range []impl.Derivation{zeroDerivation(b, 0), derivation(t, b, 0, "1*a", "1*b")} {
		if x, code := impl.ApplyDerivation(b, d, grid(401, 1)); len(x.Terms) != 0 || code != impl.ErrInvalid {
			t.Errorf("ApplyDerivation(%v) of 401 terms has %d terms; code %d", d, len(x.Terms), code)
		}
		if x, code := impl.ApplyDerivation(b, d, grid(400, 1)); code != impl.ErrNone || len(x.Terms) != 0 != (len(d.Images[0].Terms) > 0) {
			t.Errorf("ApplyDerivation(%v) of 400 terms has %d terms; code %d", d, len(x.Terms), code)
		}
	}
	if x, code := impl.ApplyDerivation(impl.Algebra{}, impl.Derivation{}, formOf(term(1, 1))); len(x.Terms) != 0 || code != impl.ErrInvalid {
		t.Errorf("ApplyDerivation without generators = %v, %d", x, code)
	}
}

// TestRangesOfDrops meets the ends of the ranges, and exceeds them by one, also where there are too many elementary
// derivations.
func TestRangesOfDrops(t *testing.T) {
	list := append(goodAlgebras(t), algebra(t, sevenAndOne), algebra(t, eight))
	for _, a := range list {
		for _, c := range callsOfDrops() {
			for _, k := range []int64{c.least - 1, c.most + 1, -1, 13, 14, math.MinInt64, math.MinInt64 + 1, math.MaxInt64, math.MaxInt64 - 1} {
				checkCode(t, c.degreeCall, a, k, impl.ErrRange)
			}
			for k := c.least; k <= c.most; k++ {
				if zero, code := c.call(a, k); code != impl.ErrNone && (code != impl.ErrLimit || !zero) {
					t.Errorf("%s(%v, %d): code %d", c.name, a, k, code)
				}
			}
			checkCode(t, c.degreeCall, algebra(t, "3:0"), c.least, impl.ErrNone)
			checkCode(t, c.degreeCall, algebra(t, "12:0"), c.most, impl.ErrNone)
		}
	}
}

// TestDropsOfDifferentials has ErrRange for the Drop 0 alone.
func TestDropsOfDifferentials(t *testing.T) {
	for _, a := range goodAlgebras(t) {
		for drop := range int64(13) {
			got, code := impl.DifferentialOfDerivation(a, zeroDerivation(a, drop))
			if drop == 0 && (!isZeroDerivation(got) || code != impl.ErrRange) || drop > 0 && (!sameDerivations(got, zeroDerivation(a, drop-1)) || code != impl.ErrNone) {
				t.Errorf("DifferentialOfDerivation(%v, %d) = %v, %d", a, drop, got, code)
			}
		}
	}
}

// TestOrderOfDerivationErrors has several causes of errors at once.
func TestOrderOfDerivationErrors(t *testing.T) {
	a := algebra(t, sevenAndOne)
	wide := ledLast(a, 0, someMonomials(a.Degrees[:7], 12, 0, 400, 1))
	other := ledLast(a, 2, someMonomials(a.Degrees[:7], 10, 0, 400, 1))
	bad := ledLast(a, 0, someMonomials(a.Degrees[:7], 12, 0, 401, 1))
	calls := callsOfTwoDerivations()
	for _, c := range calls {
		checkDerivationCode(t, c, a, bad, other, impl.ErrInvalid)
		checkDerivationCode(t, c, a, other, bad, impl.ErrInvalid)
	}
	// Different Drops count more than terms: the images together would have 800 ones.
	checkDerivationCode(t, calls[0], a, wide, other, impl.ErrRange)
	checkDerivationCode(t, calls[0], a, other, wide, impl.ErrRange)
	checkDerivationCode(t, calls[0], a, wide, wide, impl.ErrNone)
	lowered := callsOfOneDerivation()[1]
	// The Drop 0 counts more than terms: d of the image would have more than MaxTerms.
	b := algebra(t, "2:0;2:0;2:0;2:0;2:0;2:0;3:1*a2+1*b2+1*c2+1*d2+1*e2+1*f2;11:0")
	f := productByWords(b.Degrees, someMonomials(b.Degrees[:6], 8, 0, 126, 1), generator(6, 1))
	if !isBeyond(differentialByWords(b, f)) {
		t.Fatal("d of the image is a form")
	}
	checkDerivationCode(t, lowered, b, ledLast(b, 0, f), impl.Derivation{}, impl.ErrRange)
	b.Degrees[7] = 12
	checkDerivationCode(t, lowered, b, ledLast(b, 1, f), impl.Derivation{}, impl.ErrLimit)
	checkDerivationCode(t, lowered, b, ledLast(b, 0, f), impl.Derivation{}, impl.ErrInvalid)
	// No algebra, no derivation and a Drop of the sum beyond MaxWeight.
	checkDerivationCode(t, calls[1], a, zeroDerivation(a, 12), zeroDerivation(a, 12), impl.ErrLimit)
	checkDerivationCode(t, calls[1], a, zeroDerivation(a, 12), impl.Derivation{Drop: 12}, impl.ErrInvalid)
	checkDerivationCode(t, calls[1], a, zeroDerivation(a, 13), zeroDerivation(a, 0), impl.ErrInvalid)
	// There are no elementary derivations of Drop 1, but too many of the Drops 0 and 2.
	wants := []int64{impl.ErrNone, impl.ErrLimit, impl.ErrLimit}
	for i, c := range callsOfDrops() {
		checkCode(t, c.degreeCall, a, 1, wants[i])
		checkCode(t, c.degreeCall, a, 2, impl.ErrLimit)
		checkCode(t, c.degreeCall, a, 13, impl.ErrRange)
	}
}

// anyDerivation returns a derivation, or one with a wrong part.
func anyDerivation(t *testing.T, r *rand.Rand, a impl.Algebra) impl.Derivation {
	t.Helper()
	d := impl.Derivation{Drop: r.Int63n(5)}
	for _, n := range a.Degrees {
		f := impl.Form{}
		if impl.AreDegrees(a.Degrees) {
			f = fewOfDegree(r, a, n-d.Drop, 2)
		}
		d.Images = append(d.Images, f)
	}
	switch r.Intn(12) {
	case 0:
		d.Images = append(d.Images, impl.Form{})
	case 1:
		d.Drop += r.Int63n(3) - 1
	case 2:
		d.Drop = []int64{-1, 13, 12, 0, math.MinInt64, math.MaxInt64}[r.Intn(6)]
	case 3:
		if len(d.Images) > 0 {
			d.Images = d.Images[1:]
		}
	case 4:
		m := anyMonomial(r)
		for i := range d.Images {
			d.Images[i] = formOf(term(r.Int63n(3), m[:]...))
		}
	}
	return d
}

// isDerivationByWords reports whether forms are the images of a derivation of an algebra.
func isDerivationByWords(a impl.Algebra, d impl.Derivation) bool {
	if d.Drop < 0 || d.Drop > 12 || len(d.Images) != len(a.Degrees) {
		return false
	}
	for i, f := range d.Images {
		if !impl.IsForm(a.Degrees, f) {
			return false
		}
		if slices.ContainsFunc(f.Terms, func(x impl.Term) bool { return degreeOf(a, formOf(x)) != a.Degrees[i]-d.Drop }) {
			return false
		}
	}
	return true
}

// TestAnyDerivation calls everything with what is often invalid, and compares the codes with those that the chapter tells.
func TestAnyDerivation(t *testing.T) {
	r := rand.New(rand.NewSource(200))
	codes := map[int64]int{}
	for range 6000 {
		a := anyAlgebra(t, r)
		good := impl.IsAlgebra(a)
		s, d := anyDerivation(t, r, a), anyDerivation(t, r, a)
		first, second := good && isDerivationByWords(a, s), good && isDerivationByWords(a, d)
		if impl.IsDerivation(a, s) != first || impl.IsDerivation(a, d) != second {
			t.Fatalf("IsDerivation(%v, %v or %v) is wrong", a, s, d)
		}
		wants := []int64{impl.ErrNone, impl.ErrNone, impl.ErrNone, impl.ErrNone}
		switch {
		case !first:
			wants = []int64{impl.ErrInvalid, impl.ErrInvalid, impl.ErrInvalid, impl.ErrInvalid}
		case !second:
			wants[2], wants[3] = impl.ErrInvalid, impl.ErrInvalid
		default:
			if s.Drop != d.Drop {
				wants[2] = impl.ErrRange
			}
			if s.Drop+d.Drop > 12 || bracketByWords(leaderOf(a, s), leaderOf(a, d)).isBeyond() {
				wants[3] = impl.ErrLimit
			}
		}
		if first && s.Drop == 0 {
			wants[1] = impl.ErrRange
		}
		for i, c := range append(callsOfOneDerivation(), callsOfTwoDerivations()...) {
			checkDerivationCode(t, c, a, s, d, wants[i])
			codes[wants[i]]++
		}
		k := []int64{r.Int63n(16) - 2, math.MinInt64, math.MaxInt64}[min(2, r.Intn(10)/8)]
		for _, c := range callsOfDrops() {
			zero, code := c.call(a, k)
			if (code == impl.ErrInvalid) == good || good && (code == impl.ErrRange) == (k >= c.least && k <= c.most) || code != impl.ErrNone && !zero || code > impl.ErrLimit {
				t.Fatalf("%s(%v, %d): code %d", c.name, a, k, code)
			}
		}
		if x, code := impl.ConstantsOf(a); (code == impl.ErrInvalid) == good || code != impl.ErrNone && len(x) != 0 {
			t.Fatalf("ConstantsOf(%v) = %v, %d", a, x, code)
		}
	}
	for _, code := range []int64{impl.ErrNone, impl.ErrInvalid, impl.ErrRange, impl.ErrLimit} {
		if codes[code] < 10 {
			t.Errorf("the code %d was met %d times", code, codes[code])
		}
	}
}
