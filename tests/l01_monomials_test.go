package tests

import (
	"math"
	"slices"
	"testing"

	"loop.example/g01219/impl"
)

// badDegrees returns lists that are not degrees.
func badDegrees() [][]int64 {
	return [][]int64{
		{0}, {13}, {-1}, {2, 0}, {2, 3, 13}, {math.MinInt64}, {math.MaxInt64}, {257},
		{1, 1, 1, 1, 1, 1, 1, 1, 1}, {2, 2, 2, 2, 2, 2, 2, 2, 13},
	}
}

func TestConstants(t *testing.T) {
	codes := []int64{impl.ErrNone, impl.ErrInvalid, impl.ErrRange, impl.ErrLimit, impl.ErrNotFound, impl.ErrState, impl.ErrSyntax}
	if !slices.Equal(codes, []int64{0, 1, 2, 3, 4, 5, 6}) {
		t.Errorf("codes are %v", codes)
	}
	limits := []int64{impl.FieldPrime, impl.MaxGenerators, impl.MaxWeight, impl.MaxPower, impl.MaxTerms, impl.MaxDegree}
	if !slices.Equal(limits, []int64{10007, 8, 12, 20, 400, 40}) {
		t.Errorf("limits are %v", limits)
	}
}

func TestInverseNumber(t *testing.T) {
	for x := int64(1); x < impl.FieldPrime; x++ {
		y, code := impl.InverseNumber(x)
		if code != impl.ErrNone || y < 1 || y >= impl.FieldPrime || x*y%impl.FieldPrime != 1 {
			t.Fatalf("InverseNumber(%d) = %d, %d", x, y, code)
		}
	}
	for _, x := range []int64{0, -1, impl.FieldPrime, impl.FieldPrime + 1, math.MinInt64, math.MaxInt64} {
		if y, code := impl.InverseNumber(x); y != 0 || code != impl.ErrRange {
			t.Errorf("InverseNumber(%d) = %d, %d", x, y, code)
		}
	}
}

func TestAreDegrees(t *testing.T) {
	for _, degrees := range [][]int64{nil, {}, {1}, {12}, {12, 1, 7, 7}, {1, 2, 3, 4, 5, 6, 7, 8}, {12, 12, 12, 12, 12, 12, 12, 12}} {
		if !impl.AreDegrees(degrees) {
			t.Errorf("AreDegrees(%v) is false", degrees)
		}
	}
	for _, degrees := range badDegrees() {
		if impl.AreDegrees(degrees) {
			t.Errorf("AreDegrees(%v) is true", degrees)
		}
	}
}

func TestIsMonomial(t *testing.T) {
	cases := []struct {
		degrees []int64
		m       impl.Monomial
		want    bool
	}{
		{nil, impl.Monomial{}, true},
		{nil, impl.Monomial{1}, false},
		{nil, impl.Monomial{0, 0, 0, 0, 0, 0, 0, 1}, false},
		{[]int64{1}, impl.Monomial{}, true},
		{[]int64{1}, impl.Monomial{1}, true},
		{[]int64{1}, impl.Monomial{2}, false},
		{[]int64{11}, impl.Monomial{2}, false},
		{[]int64{2}, impl.Monomial{20}, true},
		{[]int64{2}, impl.Monomial{21}, false},
		{[]int64{12}, impl.Monomial{20}, true},
		{[]int64{12}, impl.Monomial{255}, false},
		{[]int64{2, 3}, impl.Monomial{20, 1}, true},
		{[]int64{2, 3}, impl.Monomial{1, 20}, false},
		{[]int64{2, 3}, impl.Monomial{20, 1, 1}, false},
		{[]int64{1, 2, 1, 2, 1, 2, 1, 2}, impl.Monomial{1, 20, 1, 20, 1, 20, 1, 20}, true},
		{[]int64{1, 2, 1, 2, 1, 2, 1, 2}, impl.Monomial{1, 20, 1, 20, 1, 20, 1, 21}, false},
		{[]int64{2, 2, 2, 2, 2, 2, 2, 1}, impl.Monomial{0, 0, 0, 0, 0, 0, 0, 2}, false},
	}
	for _, c := range cases {
		if got := impl.IsMonomial(c.degrees, c.m); got != c.want {
			t.Errorf("IsMonomial(%v, %v) = %v", c.degrees, c.m, got)
		}
	}
	for _, degrees := range badDegrees() {
		if impl.IsMonomial(degrees, impl.Monomial{}) {
			t.Errorf("IsMonomial(%v, 1) is true", degrees)
		}
	}
}

func TestDegreeOfMonomial(t *testing.T) {
	cases := []struct {
		degrees []int64
		m       impl.Monomial
		want    int64
		code    int64
	}{
		{nil, impl.Monomial{}, 0, impl.ErrNone},
		{[]int64{5}, impl.Monomial{}, 0, impl.ErrNone},
		{[]int64{1, 3, 2}, impl.Monomial{1, 1, 2}, 8, impl.ErrNone},
		{[]int64{4, 7}, impl.Monomial{0, 1}, 7, impl.ErrNone},
		{[]int64{12, 12, 12, 12, 12, 12, 12, 12}, impl.Monomial{20, 20, 20, 20, 20, 20, 20, 20}, 1920, impl.ErrNone},
		{[]int64{12, 12, 12, 12, 12, 12, 12, 12}, impl.Monomial{20, 20, 20, 20, 20, 20, 20, 21}, 0, impl.ErrInvalid},
		{[]int64{1, 3, 2}, impl.Monomial{1, 2, 2}, 0, impl.ErrInvalid},
		{[]int64{1, 3, 2}, impl.Monomial{1, 1, 2, 1}, 0, impl.ErrInvalid},
		{nil, impl.Monomial{1}, 0, impl.ErrInvalid},
	}
	for _, c := range cases {
		if got, code := impl.DegreeOfMonomial(c.degrees, c.m); got != c.want || code != c.code {
			t.Errorf("DegreeOfMonomial(%v, %v) = %d, %d", c.degrees, c.m, got, code)
		}
	}
	for _, degrees := range badDegrees() {
		if got, code := impl.DegreeOfMonomial(degrees, impl.Monomial{}); got != 0 || code != impl.ErrInvalid {
			t.Errorf("DegreeOfMonomial(%v, 1) = %d, %d", degrees, got, code)
		}
	}
}

func TestMultiplyMonomials(t *testing.T) {
	cases := []struct {
		degrees []int64
		m, k    impl.Monomial
		want    impl.Monomial
		sign    int64
		code    int64
	}{
		{nil, impl.Monomial{}, impl.Monomial{}, impl.Monomial{}, 1, impl.ErrNone},
		{[]int64{1, 3, 2}, impl.Monomial{0, 1, 1}, impl.Monomial{1, 0, 1}, impl.Monomial{1, 1, 2}, -1, impl.ErrNone},
		{[]int64{1, 3, 2}, impl.Monomial{1, 0, 1}, impl.Monomial{0, 1, 1}, impl.Monomial{1, 1, 2}, 1, impl.ErrNone},
		{[]int64{2, 3}, impl.Monomial{0, 1}, impl.Monomial{3}, impl.Monomial{3, 1}, 1, impl.ErrNone},
		{[]int64{2, 4}, impl.Monomial{0, 3}, impl.Monomial{3}, impl.Monomial{3, 3}, 1, impl.ErrNone},
		{[]int64{1, 1, 1}, impl.Monomial{0, 1, 1}, impl.Monomial{1}, impl.Monomial{1, 1, 1}, 1, impl.ErrNone},
		{[]int64{1, 1, 1}, impl.Monomial{0, 0, 1}, impl.Monomial{1, 1}, impl.Monomial{1, 1, 1}, 1, impl.ErrNone},
		{[]int64{1, 1, 1}, impl.Monomial{0, 1}, impl.Monomial{1, 0, 1}, impl.Monomial{1, 1, 1}, -1, impl.ErrNone},
		{[]int64{1, 2, 1}, impl.Monomial{0, 7, 1}, impl.Monomial{1, 5}, impl.Monomial{1, 12, 1}, -1, impl.ErrNone},
		{[]int64{2}, impl.Monomial{19}, impl.Monomial{1}, impl.Monomial{20}, 1, impl.ErrNone},
		{[]int64{2}, impl.Monomial{20}, impl.Monomial{1}, impl.Monomial{}, 0, impl.ErrLimit},
		{[]int64{2}, impl.Monomial{20}, impl.Monomial{20}, impl.Monomial{}, 0, impl.ErrLimit},
		{[]int64{1, 2}, impl.Monomial{1, 20}, impl.Monomial{0, 1}, impl.Monomial{}, 0, impl.ErrLimit},
		{[]int64{1}, impl.Monomial{1}, impl.Monomial{1}, impl.Monomial{}, 0, impl.ErrNone},
		{[]int64{2, 3}, impl.Monomial{4, 1}, impl.Monomial{5, 1}, impl.Monomial{}, 0, impl.ErrNone},
		{[]int64{3, 2}, impl.Monomial{1, 20}, impl.Monomial{1, 20}, impl.Monomial{}, 0, impl.ErrNone},
		{[]int64{2, 3}, impl.Monomial{20, 1}, impl.Monomial{20, 1}, impl.Monomial{}, 0, impl.ErrNone},
		{[]int64{2, 3}, impl.Monomial{20, 2}, impl.Monomial{20, 0}, impl.Monomial{}, 0, impl.ErrInvalid},
		{[]int64{2, 3}, impl.Monomial{20}, impl.Monomial{20, 0, 1}, impl.Monomial{}, 0, impl.ErrInvalid},
		{[]int64{2, 3}, impl.Monomial{21}, impl.Monomial{}, impl.Monomial{}, 0, impl.ErrInvalid},
		{[]int64{2, 13}, impl.Monomial{20}, impl.Monomial{20}, impl.Monomial{}, 0, impl.ErrInvalid},
	}
	for _, c := range cases {
		if got, sign, code := impl.MultiplyMonomials(c.degrees, c.m, c.k); got != c.want || sign != c.sign || code != c.code {
			t.Errorf("MultiplyMonomials(%v, %v, %v) = %v, %d, %d", c.degrees, c.m, c.k, got, sign, code)
		}
	}
	for _, degrees := range badDegrees() {
		if got, sign, code := impl.MultiplyMonomials(degrees, impl.Monomial{}, impl.Monomial{}); got != (impl.Monomial{}) || sign != 0 || code != impl.ErrInvalid {
			t.Errorf("MultiplyMonomials(%v, 1, 1) = %v, %d, %d", degrees, got, sign, code)
		}
	}
}

// wordProduct writes the generators of m and k one behind the other and sorts them by exchanges
// of neighbours. Its sign is 0 if an odd generator meets itself.
func wordProduct(degrees []int64, m, k impl.Monomial) (impl.Monomial, int64) {
	var word []int
	for _, x := range []impl.Monomial{m, k} {
		for i, e := range x {
			for range e {
				word = append(word, i)
			}
		}
	}
	sign := int64(1)
	for range word {
		for i := 1; i < len(word); i++ {
			if word[i-1] > word[i] {
				sign *= 1 - 2*(degrees[word[i-1]]%2)*(degrees[word[i]]%2)
				word[i-1], word[i] = word[i], word[i-1]
			}
		}
	}
	var product impl.Monomial
	for _, i := range word {
		product[i]++
		if degrees[i]%2 == 1 && product[i] == 2 {
			return impl.Monomial{}, 0
		}
	}
	return product, sign
}

func TestSignsOfAllOddMonomials(t *testing.T) {
	for _, degrees := range [][]int64{{1, 1, 1, 1, 1, 1, 1, 1}, {1, 2, 3, 4, 5, 6, 7, 8}} {
		for i := range 256 {
			for j := range 256 {
				var m, k impl.Monomial
				for b := range 8 {
					m[b], k[b] = byte(i>>b&1), byte(j>>b&1)
				}
				want, wantSign := wordProduct(degrees, m, k)
				got, sign, code := impl.MultiplyMonomials(degrees, m, k)
				if got != want || sign != wantSign || code != impl.ErrNone {
					t.Fatalf("MultiplyMonomials(%v, %v, %v) = %v, %d, %d", degrees, m, k, got, sign, code)
				}
			}
		}
	}
}

// allMonomials counts the exponents up like an odometer that runs down, so the order is that of
// the document.
func allMonomials(degrees []int64, n int64) []impl.Monomial {
	var found []impl.Monomial
	var visit func(m impl.Monomial, i int, rest int64)
	visit = func(m impl.Monomial, i int, rest int64) {
		if i == len(degrees) {
			if rest == 0 {
				found = append(found, m)
			}
			return
		}
		for e := 20; e >= 0; e-- {
			if degrees[i]%2 == 0 && int64(e)*degrees[i] <= rest || e < 2 && int64(e)*degrees[i] <= rest {
				m[i] = byte(e)
				visit(m, i+1, rest-int64(e)*degrees[i])
			}
		}
	}
	visit(impl.Monomial{}, 0, n)
	return found
}

func TestMonomialsOf(t *testing.T) {
	lists := [][]int64{nil, {1}, {2}, {12}, {11}, {2, 3}, {3, 2}, {2, 3, 4}, {1, 2, 1}, {4, 4, 4}, {1, 1, 1, 1, 1, 1, 1, 1}, {2, 3, 5, 7, 9, 11, 12, 12}, {12, 10, 8, 6, 5, 3, 1, 4}}
	for _, degrees := range lists {
		for n := range int64(41) {
			want := allMonomials(degrees, n)
			got, code := impl.MonomialsOf(degrees, n)
			if len(want) > 400 && (len(got) != 0 || code != impl.ErrLimit) {
				t.Errorf("MonomialsOf(%v, %d) has code %d", degrees, n, code)
			}
			if len(want) <= 400 && (!slices.Equal(got, want) || code != impl.ErrNone) {
				t.Errorf("MonomialsOf(%v, %d) = %v, %d", degrees, n, got, code)
			}
		}
	}
	if got, code := impl.MonomialsOf([]int64{2}, 40); len(got) != 1 || got[0] != (impl.Monomial{20}) || code != impl.ErrNone {
		t.Errorf("MonomialsOf({2}, 40) = %v, %d", got, code)
	}
}

func TestMonomialsOfLimits(t *testing.T) {
	cases := []struct {
		degrees []int64
		n       int64
		count   int
		code    int64
	}{
		{[]int64{1, 1, 2, 2, 2}, 38, 400, impl.ErrNone},
		{[]int64{2, 2, 2, 2, 10, 10}, 20, 0, impl.ErrLimit},
		{[]int64{2, 2, 2, 2, 2, 2, 2, 2}, 40, 0, impl.ErrLimit},
		{[]int64{2, 2, 2, 2, 2, 2, 2, 2}, 39, 0, impl.ErrNone},
		{[]int64{2, 2, 2, 2, 2, 2, 2, 2}, 42, 0, impl.ErrRange},
		{[]int64{2, 3}, 41, 0, impl.ErrRange},
		{[]int64{2, 3}, -1, 0, impl.ErrRange},
		{nil, math.MaxInt64, 0, impl.ErrRange},
		{nil, math.MinInt64, 0, impl.ErrRange},
		{nil, 0, 1, impl.ErrNone},
		{nil, 40, 0, impl.ErrNone},
		{[]int64{0}, 5, 0, impl.ErrInvalid},
		{[]int64{13}, 41, 0, impl.ErrInvalid},
		{[]int64{2, 2, 2, 2, 2, 2, 2, 2, 2}, -1, 0, impl.ErrInvalid},
	}
	for _, c := range cases {
		if got, code := impl.MonomialsOf(c.degrees, c.n); len(got) != c.count || code != c.code {
			t.Errorf("MonomialsOf(%v, %d) has %d monomials, code %d", c.degrees, c.n, len(got), code)
		}
	}
	if all := allMonomials([]int64{2, 2, 2, 2, 10, 10}, 20); len(all) != 401 {
		t.Errorf("the list beyond the limit has %d monomials", len(all))
	}
}
