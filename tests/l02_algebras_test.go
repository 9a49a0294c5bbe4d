package tests

import (
	"math"
	"math/rand"
	"slices"
	"testing"

	"loop.example/g01219/impl"
)

func TestIsAlgebra(t *testing.T) {
	if !impl.IsAlgebra(impl.Algebra{}) || !impl.IsAlgebra(impl.Algebra{Degrees: []int64{}, Images: []impl.Form{}}) {
		t.Errorf("no generators are no algebra")
	}
	for _, a := range goodAlgebras(t) {
		if !impl.IsAlgebra(a) {
			t.Errorf("IsAlgebra(%v) is false", a)
		}
	}
	for _, a := range badAlgebras(t) {
		if impl.IsAlgebra(a) {
			t.Errorf("IsAlgebra(%v) is true", a)
		}
	}
}

// TestIsAlgebraByWords changes single factors of algebras, which leaves few of them algebras.
func TestIsAlgebraByWords(t *testing.T) {
	r := rand.New(rand.NewSource(30))
	good, bad := 0, 0
	for range 3000 {
		a := randomAlgebra(t, r, 8)
		for _, f := range a.Images {
			for i := range f.Terms {
				if r.Intn(4) == 0 {
					f.Terms[i].Factor = 1 + r.Int63n(impl.FieldPrime-1)
				}
			}
		}
		want := isAlgebraByWords(a)
		if got := impl.IsAlgebra(a); got != want {
			t.Fatalf("IsAlgebra(%v) = %v", a, got)
		}
		if want {
			good++
		} else {
			bad++
		}
	}
	if good < 100 || bad < 100 {
		t.Errorf("%d algebras and %d others", good, bad)
	}
}

func TestDifferentialOfForm(t *testing.T) {
	cases := []struct{ algebra, f, want string }{
		{"", "0", "0"},
		{"", "5*1", "0"},
		{"2:0;3:1*a2", "0", "0"},
		{"2:0;3:1*a2", "7*1", "0"},
		{"2:0;3:1*a2", "1*ab", "1*a3"},
		{"2:0;3:1*a2", "3*a2b+5*a2+2*b+1*1", "3*a4+2*a2"},
		{"2:0;3:1*a2", "1*a18b", "1*a20"},
		{"2:0;3:1*a2", "1*a20", "0"},
		{"3:1*b2;2:0", "1*ab", "1*b3"},
		{"2:0;3:0;4:1*ab", "1*c2", "2*abc"},
		{"2:0;3:0;4:1*ab", "1*c20", "20*abc19"},
		{"2:0;3:0;4:1*ab", "1*bc", "0"},
		{"1:0;1:0;4:0;3:1*c", "1*abd", "1*abc"},
		{"1:0;1:0;4:0;3:1*c", "1*ad", "10006*ac"},
		{"3:1*b;4:0;1:0", "1*ac", "1*bc"},
		{"1:1*c;1:1*d;2:0;2:0", "1*ab", "10006*ad+1*bc"},
		{"1:1*b;2:0", "1*ab20+1*b20", "ErrLimit"},
		{"2:0;3:1*a2", "1*a19b", "ErrLimit"},
		{"2:0;3:1*a2", "1*a20b+1*a2b+1*b", "ErrLimit"},
		{"2:0;3:1*a2;3:1*a2", "1*a20b+10006*a20c", "0"},
		{"2:0;3:1*a2;3:1*a2", "1*a20b+10006*a20c+1*b", "1*a2"},
		{"2:0;3:1*a2;3:1*a2", "1*a20b+10005*a20c", "ErrLimit"},
	}
	for _, c := range cases {
		a := algebra(t, c.algebra)
		want, wantCode := impl.Form{}, int64(impl.ErrLimit)
		if c.want != "ErrLimit" {
			want, wantCode = parse(t, a.Degrees, c.want), impl.ErrNone
		}
		f := parse(t, a.Degrees, c.f)
		if got, code := impl.DifferentialOfForm(a, f); !sameForms(got, want) || code != wantCode {
			t.Errorf("DifferentialOfForm(%q, %q) = %v, %d", c.algebra, c.f, got, code)
		}
		if closed, code := impl.IsClosed(a, f); closed != (c.want == "0") || code != impl.ErrNone {
			t.Errorf("IsClosed(%q, %q) = %v, %d", c.algebra, c.f, closed, code)
		}
	}
}

// TestDifferentialsAtTheLimitOfTerms takes forms with more and more terms, until their
// differentials have more than MaxTerms.
func TestDifferentialsAtTheLimitOfTerms(t *testing.T) {
	a := algebra(t, "2:0;2:0;3:1*a2+1*b2")
	var f impl.Form
	sum := map[impl.Monomial]int64{}
	seen := map[int]bool{}
	for i := range 19 * 19 {
		x := term(1, byte(18-i/19), byte(18-i%19), 1)
		f.Terms = append(f.Terms, x)
		addByWords(sum, a, x)
		got, code := impl.DifferentialOfForm(a, f)
		seen[len(sum)] = true
		if len(sum) <= 400 && (!sameForms(got, formOfSum(sum)) || code != impl.ErrNone) {
			t.Fatalf("differential of %d terms: %d terms, code %d", len(sum), len(got.Terms), code)
		}
		if len(sum) > 400 && (len(got.Terms) != 0 || code != impl.ErrLimit) {
			t.Fatalf("differential of %d terms: %d terms, code %d", len(sum), len(got.Terms), code)
		}
		if closed, code := impl.IsClosed(a, f); closed || code != impl.ErrNone {
			t.Fatalf("IsClosed of %d terms = %v, %d", i+1, closed, code)
		}
	}
	if !seen[400] || !seen[401] {
		t.Errorf("the limit was not met")
	}
}

// TestDifferentialsWithCancelledTerms has a form whose differential goes through 600 monomials, all
// of which cancel.
func TestDifferentialsWithCancelledTerms(t *testing.T) {
	a := algebra(t, "2:0;2:0;2:0;3:1*a2+1*b2+1*c2;3:1*a2+1*b2+1*c2")
	var f impl.Form
	for i := range 200 {
		x, y, z := byte(18-i/40*4), byte(18-i/10%4*4), byte(18-i%10)
		f.Terms = append(f.Terms, term(1, x, y, z, 1), term(impl.FieldPrime-1, x, y, z, 0, 1))
	}
	if got, code := impl.DifferentialOfForm(a, f); len(got.Terms) != 0 || code != impl.ErrNone {
		t.Errorf("differential that cancels: %d terms, code %d", len(got.Terms), code)
	}
	if closed, code := impl.IsClosed(a, f); !closed || code != impl.ErrNone {
		t.Errorf("IsClosed of a differential that cancels = %v, %d", closed, code)
	}
}

// TestTablesOfImages checks the linear table, the quadratic parts, and whether algebras are minimal.
func TestTablesOfImages(t *testing.T) {
	cases := []struct {
		algebra string
		table   [][]int64
		parts   []string
		minimal bool
	}{
		{"", nil, nil, true},
		{"1:0", [][]int64{{0}}, []string{"0"}, true},
		{"2:0;3:7*a2", [][]int64{{0, 0}, {0, 0}}, []string{"0", "7*a2"}, true},
		{"2:0;5:7*a3", [][]int64{{0, 0}, {0, 0}}, []string{"0", "0"}, true},
		{"1:10006*b;2:0", [][]int64{{0, 10006}, {0, 0}}, []string{"0", "0"}, false},
		{"2:0;1:3*a;1:0", [][]int64{{0, 0, 0}, {3, 0, 0}, {0, 0, 0}}, []string{"0", "0", "0"}, false},
		{"2:0;4:0;6:0;5:1*a3+2*ab+3*c", [][]int64{{0, 0, 0, 0}, {0, 0, 0, 0}, {0, 0, 0, 0}, {0, 0, 3, 0}}, []string{"0", "0", "0", "2*ab"}, false},
		{"2:0;2:0;1:4*a+5*b;1:0;1:6*a", [][]int64{{0, 0, 0, 0, 0}, {0, 0, 0, 0, 0}, {4, 5, 0, 0, 0}, {0, 0, 0, 0, 0}, {6, 0, 0, 0, 0}}, []string{"0", "0", "0", "0", "0"}, false},
		{"2:0;4:0;3:1*a2+2*b;7:1*a4+3*a2b+4*b2", [][]int64{{0, 0, 0, 0}, {0, 0, 0, 0}, {0, 2, 0, 0}, {0, 0, 0, 0}}, []string{"0", "0", "1*a2", "4*b2"}, false},
		{"2:0;4:0;7:1*a4+3*a2b+4*b2", [][]int64{{0, 0, 0}, {0, 0, 0}, {0, 0, 0}}, []string{"0", "0", "4*b2"}, true},
		{"1:0;1:0;3:0;4:0;4:1*abc+2*ad+3*bd", nil, nil, true},
		{"1:0;2:1*ab", [][]int64{{0, 0}, {0, 0}}, []string{"0", "1*ab"}, true},
		{"1:0;1:0;1:0;1:0;1:0;1:0;1:0;2:0", nil, nil, true},
		{"1:1*h;1:0;1:0;1:0;1:0;1:0;1:0;2:0", nil, nil, false},
		{"1:0;1:0;1:0;1:0;1:0;1:0;2:0;1:1*g", nil, nil, false},
	}
	for _, c := range cases {
		a := algebra(t, c.algebra)
		table, code := impl.LinearTable(a)
		if code != impl.ErrNone || len(table) != len(a.Degrees) || c.table != nil && !slices.EqualFunc(table, c.table, slices.Equal[[]int64]) {
			t.Errorf("LinearTable(%q) = %v, %d", c.algebra, table, code)
		}
		parts, code := impl.QuadraticParts(a)
		if code != impl.ErrNone || len(parts) != len(a.Degrees) {
			t.Errorf("QuadraticParts(%q) = %v, %d", c.algebra, parts, code)
		}
		for i, text := range c.parts {
			if !sameForms(parts[i], parse(t, a.Degrees, text)) {
				t.Errorf("QuadraticParts(%q) = %v", c.algebra, parts)
			}
		}
		if minimal, code := impl.IsMinimal(a); minimal != c.minimal || code != impl.ErrNone {
			t.Errorf("IsMinimal(%q) = %v, %d", c.algebra, minimal, code)
		}
	}
}

// TestTablesOfRandomImages counts the generators of the monomials of images.
func TestTablesOfRandomImages(t *testing.T) {
	r := rand.New(rand.NewSource(31))
	for range 2000 {
		a := randomAlgebra(t, r, 8)
		table, one := impl.LinearTable(a)
		parts, two := impl.QuadraticParts(a)
		minimal, three := impl.IsMinimal(a)
		wantMinimal := true
		for i, f := range a.Images {
			row, part := make([]int64, len(a.Degrees)), impl.Form{}
			for _, x := range f.Terms {
				word := wordOf(x.Monomial)
				if len(word) == 1 {
					row[word[0]] = x.Factor
					wantMinimal = false
				}
				if len(word) == 2 {
					part.Terms = append(part.Terms, x)
				}
			}
			if !slices.Equal(table[i], row) || !sameForms(parts[i], part) {
				t.Fatalf("%v: the row %d is %v, the part %v", a, i, table[i], parts[i])
			}
			length, code := impl.WordLengthOf(a, f)
			if code != impl.ErrNone || minimal && len(f.Terms) > 0 && length < 2 {
				t.Fatalf("%v: the word length of the image %d is %d", a, i, length)
			}
		}
		if one+two+three != impl.ErrNone || minimal != wantMinimal {
			t.Fatalf("IsMinimal(%v) = %v; codes %d, %d, %d", a, minimal, one, two, three)
		}
	}
}

func TestWordLengthOf(t *testing.T) {
	cases := []struct {
		algebra, f string
		want       int64
	}{
		{"", "0", 0},
		{"", "5*1", 0},
		{"2:0;3:1*a2", "0", 0},
		{"2:0;3:1*a2", "1*a2+1*1", 0},
		{"2:0;3:1*a2", "1*a20", 20},
		{"2:0;3:1*a2", "1*a20b", 21},
		{"2:0;3:1*a2", "1*a3+1*a2b+1*a2", 2},
		{"2:0;3:1*a2", "1*a3b+1*a3+1*b", 1},
		{"2:0;3:1*a2", "1*a3+1*a2b+1*ab", 2},
		{"12:0;12:0;12:0;12:0;12:0;12:0;12:0;12:0", "1*a20b20c20d20e20f20g20h20", 160},
		{"12:0;12:0;12:0;12:0;12:0;12:0;12:0;12:0", "1*a20b20c20d20e20f20g20h20+1*a20b20c20d20e20f20g20h19", 159},
	}
	for _, c := range cases {
		a := algebra(t, c.algebra)
		if got, code := impl.WordLengthOf(a, parse(t, a.Degrees, c.f)); got != c.want || code != impl.ErrNone {
			t.Errorf("WordLengthOf(%q, %q) = %d, %d", c.algebra, c.f, got, code)
		}
	}
}

func TestRanksOf(t *testing.T) {
	cases := []struct {
		algebra string
		want    []int64
		code    int64
	}{
		{"", nil, impl.ErrNone},
		{"5:0", []int64{1}, impl.ErrNone},
		{"2:0;3:1*a2", []int64{1, 2}, impl.ErrNone},
		{"3:1*b2;2:0", []int64{2, 1}, impl.ErrNone},
		{"1:1*b;2:0", []int64{2, 1}, impl.ErrNone},
		{"1:0;1:0;1:1*ab;1:3*ac;1:1*ad;1:0", []int64{1, 1, 2, 3, 4, 1}, impl.ErrNone},
		{"1:1*be;1:1*ce;1:1*de;1:1*ef;1:0;1:0", []int64{5, 4, 3, 2, 1, 1}, impl.ErrNone},
		{"1:1*bh;1:1*ch;1:1*dh;1:1*eh;1:1*fh;1:1*gh;1:0;1:0", []int64{7, 6, 5, 4, 3, 2, 1, 1}, impl.ErrNone},
		{"2:0;3:1*a2;3:1*a2;4:1*ab+10006*ac", []int64{1, 2, 2, 3}, impl.ErrNone},
		{"4:10006*bd+1*cd;3:1*d2;3:1*d2;2:0", []int64{3, 2, 2, 1}, impl.ErrNone},
		{"2:0;3:0;4:1*ab;6:1*bc;5:1*a3", []int64{1, 1, 2, 3, 2}, impl.ErrNone},
		{"1:0;2:1*ab", nil, impl.ErrState},
		{"2:1*ab;1:0", nil, impl.ErrState},
		{"1:0;2:1*ab;12:0", nil, impl.ErrState},
		{"1:0;2:1*ac;2:1*ab", nil, impl.ErrState},
		{"1:0;2:1*ac;2:1*ad;2:1*ab", nil, impl.ErrState},
		{"1:0;2:1*ab;2:1*ab+1*ac", nil, impl.ErrState},
		{"1:0;2:0;1:1*b;2:1*ad", nil, impl.ErrState},
		{"1:1*bc;1:1*ac;1:1*ab", nil, impl.ErrState},
	}
	for _, c := range cases {
		if got, code := impl.RanksOf(algebra(t, c.algebra)); !slices.Equal(got, c.want) || code != c.code {
			t.Errorf("RanksOf(%q) = %v, %d", c.algebra, got, code)
		}
	}
}

// longestChain returns the number of the generators of the longest chain that begins with i, and in
// which each one occurs in the image of the one before; 0 if there is no longest one.
func longestChain(a impl.Algebra, i int, depth int) int64 {
	if depth > len(a.Degrees) {
		return 0
	}
	longest := int64(1)
	for _, x := range a.Images[i].Terms {
		for _, j := range wordOf(x.Monomial) {
			n := longestChain(a, j, depth+1)
			if n == 0 {
				return 0
			}
			longest = max(longest, n+1)
		}
	}
	return longest
}

func TestRanksAreChains(t *testing.T) {
	r := rand.New(rand.NewSource(32))
	none := 0
	for range 2000 {
		a := randomAlgebra(t, r, 8)
		want := make([]int64, len(a.Degrees))
		for i := range want {
			want[i] = longestChain(a, i, 1)
		}
		wantCode := int64(impl.ErrNone)
		if slices.Contains(want, 0) {
			want, wantCode = nil, impl.ErrState
			none++
		}
		if got, code := impl.RanksOf(a); !slices.Equal(got, want) || code != wantCode {
			t.Fatalf("RanksOf(%v) = %v, %d", a, got, code)
		}
	}
	if none < 50 {
		t.Errorf("only %d algebras without ranks", none)
	}
}

// checkInvalidAlgebra calls all functions of the chapter with what is no algebra, or no form for it,
// and with what would be other errors.
func checkInvalidAlgebra(t *testing.T, a impl.Algebra, f impl.Form) {
	t.Helper()
	for _, n := range []int64{0, 1, 13} {
		if got, code := impl.WithGenerator(a, n, f); !isZeroAlgebra(got) || code != impl.ErrInvalid {
			t.Errorf("WithGenerator(%v, %d, %v) = %v, %d", a, n, f, got, code)
		}
	}
	if got, code := impl.DifferentialOfForm(a, f); len(got.Terms) != 0 || code != impl.ErrInvalid {
		t.Errorf("DifferentialOfForm(%v, %v) = %v, %d", a, f, got, code)
	}
	if got, code := impl.IsClosed(a, f); got || code != impl.ErrInvalid {
		t.Errorf("IsClosed(%v, %v) = %v, %d", a, f, got, code)
	}
	if got, code := impl.WordLengthOf(a, f); got != 0 || code != impl.ErrInvalid {
		t.Errorf("WordLengthOf(%v, %v) = %d, %d", a, f, got, code)
	}
}

func TestInvalidAlgebras(t *testing.T) {
	eight := algebra(t, "1:0;1:0;1:0;1:0;1:0;1:0;1:0;1:0")
	for _, a := range badAlgebras(t) {
		checkInvalidAlgebra(t, a, impl.Form{})
		checkInvalidAlgebra(t, a, formOf(term(1)))
		if got, code := impl.LinearTable(a); len(got) != 0 || code != impl.ErrInvalid {
			t.Errorf("LinearTable(%v) = %v, %d", a, got, code)
		}
		if got, code := impl.QuadraticParts(a); len(got) != 0 || code != impl.ErrInvalid {
			t.Errorf("QuadraticParts(%v) = %v, %d", a, got, code)
		}
		if got, code := impl.IsMinimal(a); got || code != impl.ErrInvalid {
			t.Errorf("IsMinimal(%v) = %v, %d", a, got, code)
		}
		if got, code := impl.RanksOf(a); len(got) != 0 || code != impl.ErrInvalid {
			t.Errorf("RanksOf(%v) = %v, %d", a, got, code)
		}
		if got, code := impl.AlgebraText(a); got != "" || code != impl.ErrInvalid {
			t.Errorf("AlgebraText(%v) = %q, %d", a, got, code)
		}
		for _, b := range []impl.Algebra{{}, eight, a} {
			if got, code := impl.ProductOfAlgebras(a, b); !isZeroAlgebra(got) || code != impl.ErrInvalid {
				t.Errorf("ProductOfAlgebras(%v, %v) = %v, %d", a, b, got, code)
			}
			if got, code := impl.ProductOfAlgebras(b, a); !isZeroAlgebra(got) || code != impl.ErrInvalid {
				t.Errorf("ProductOfAlgebras(%v, %v) = %v, %d", b, a, got, code)
			}
		}
	}
	for _, f := range badForms() {
		checkInvalidAlgebra(t, algebra(t, "1:0;2:0"), f)
		checkInvalidAlgebra(t, algebra(t, "1:1*b;2:0"), f)
	}
	checkInvalidAlgebra(t, algebra(t, "2:0;2:0"), grid(401, 1))
	checkInvalidAlgebra(t, impl.Algebra{}, formOf(term(1, 1)))
	checkInvalidAlgebra(t, eight, formOf(term(1, 0, 0, 0, 0, 0, 0, 0, 2)))
}

// TestAnyAlgebras calls everything with what is often invalid: nothing panics, results beside errors
// are zero values, and what comes out are algebras and forms.
func TestAnyAlgebras(t *testing.T) {
	r := rand.New(rand.NewSource(33))
	for range 5000 {
		a, b := anyAlgebra(t, r), anyAlgebra(t, r)
		m, k := anyMonomial(r), anyMonomial(r)
		f := []impl.Form{formOf(term(r.Int63n(3)-1, m[:]...), term(1, k[:]...)), randomForm(r, a.Degrees[:min(8, len(a.Degrees))], 3, 4), {}}[r.Intn(3)]
		n := []int64{r.Int63n(16) - 1, math.MinInt64, math.MaxInt64}[r.Intn(3)]
		product, one := impl.ProductOfAlgebras(a, b)
		longer, two := impl.WithGenerator(a, n, f)
		free, three := impl.FreeAlgebra(a.Degrees)
		for i, x := range []impl.Algebra{product, longer, free} {
			code := []int64{one, two, three}[i]
			if code != impl.ErrNone && !isZeroAlgebra(x) || code == impl.ErrNone && !impl.IsAlgebra(x) {
				t.Fatalf("function %d of %v, %v, %v, %d = %v, %d", i, a, b, f, n, x, code)
			}
		}
		if g, code := impl.DifferentialOfForm(a, f); code != impl.ErrNone && len(g.Terms) != 0 || code == impl.ErrNone && !impl.IsForm(a.Degrees, g) {
			t.Fatalf("DifferentialOfForm(%v, %v) = %v, %d", a, f, g, code)
		}
		if closed, code := impl.IsClosed(a, f); closed && code != impl.ErrNone || (code == impl.ErrNone) != (impl.IsAlgebra(a) && impl.IsForm(a.Degrees, f)) {
			t.Fatalf("IsClosed(%v, %v) = %v, %d", a, f, closed, code)
		}
		impl.AlgebraText(a)
		impl.LinearTable(a)
		impl.QuadraticParts(a)
		impl.RanksOf(a)
		impl.IsMinimal(a)
		impl.WordLengthOf(a, f)
	}
}

// anyAlgebra returns an algebra, or one with a wrong part.
func anyAlgebra(t *testing.T, r *rand.Rand) impl.Algebra {
	t.Helper()
	a := randomAlgebra(t, r, 8)
	switch r.Intn(8) {
	case 0:
		a.Degrees = append(a.Degrees, r.Int63n(20)-3)
	case 1:
		a.Images = append(a.Images, impl.Form{})
	case 2:
		for i := range a.Degrees {
			a.Degrees[i] += r.Int63n(2)
		}
	case 3:
		m := anyMonomial(r)
		for i := range a.Images {
			a.Images[i] = formOf(term(1, m[:]...))
		}
	}
	return a
}
