package impl

import (
	"bytes"
	"slices"
	"strconv"
	"strings"
)

// Monomial is described in chapter 1.
type Monomial [8]byte

// Error codes of all chapters.
const (
	ErrNone = iota
	ErrInvalid
	ErrRange
	ErrLimit
	ErrNotFound
	ErrState
	ErrSyntax
)

// Limits of chapter 1.
const (
	FieldPrime    = 10007
	MaxGenerators = 8
	MaxWeight     = 12
	MaxPower      = 20
	MaxTerms      = 400
	MaxDegree     = 40
)

// Term is described in chapter 1.
type Term struct {
	Monomial Monomial
	Factor   int64
}

// Form is described in chapter 1.
type Form struct {
	Terms []Term
}

// InverseNumber returns the number y of the field with x y = 1, for x in 1..FieldPrime - 1, and
// ErrNone. (ErrInvalid is not returned.)
func InverseNumber(x int64) (int64, int64) {
	if x < 1 || x >= FieldPrime {
		return 0, ErrRange
	}
	// By Fermat's little theorem the power FieldPrime - 1 of x is 1.
	return powerOfNumber(x, FieldPrime-2), ErrNone
}

// AreDegrees reports whether a list is degrees.
func AreDegrees(degrees []int64) bool {
	for _, n := range degrees {
		if n < 1 || n > MaxWeight {
			return false
		}
	}
	return len(degrees) <= MaxGenerators
}

// IsMonomial reports whether degrees are degrees, and m is a monomial for them.
func IsMonomial(degrees []int64, m Monomial) bool {
	return AreDegrees(degrees) && exponentsFit(degrees, m)
}

// DegreeOfMonomial returns the degree of m, and ErrNone.
func DegreeOfMonomial(degrees []int64, m Monomial) (int64, int64) {
	if !IsMonomial(degrees, m) {
		return 0, ErrInvalid
	}
	return degreeOf(degrees, m), ErrNone
}

// MultiplyMonomials returns the product of m and k as a monomial and 1 or -1, and ErrNone; if it
// is 0, both are zero values. Errors: ErrLimit if it is not 0, and an exponent would be greater
// than MaxPower.
func MultiplyMonomials(degrees []int64, m Monomial, k Monomial) (Monomial, int64, int64) {
	if !IsMonomial(degrees, m) || !IsMonomial(degrees, k) {
		return Monomial{}, 0, ErrInvalid
	}
	product, sign := productOf(degrees, m, k)
	if !withinPowers(product) {
		return Monomial{}, 0, ErrLimit
	}
	return product, sign, ErrNone
}

// IsForm reports whether degrees are degrees, and f is a form for them.
func IsForm(degrees []int64, f Form) bool {
	if !AreDegrees(degrees) || len(f.Terms) > MaxTerms {
		return false
	}
	for i, t := range f.Terms {
		if t.Factor < 1 || t.Factor >= FieldPrime || !exponentsFit(degrees, t.Monomial) {
			return false
		}
		if i > 0 && compareMonomials(f.Terms[i-1].Monomial, t.Monomial) >= 0 {
			return false
		}
	}
	return true
}

// DegreeOfForm returns the degree of a homogeneous form, and ErrNone. Errors: ErrState if it is
// not homogeneous.
func DegreeOfForm(degrees []int64, f Form) (int64, int64) {
	if !IsForm(degrees, f) {
		return 0, ErrInvalid
	}
	if len(f.Terms) == 0 {
		return -1, ErrNone
	}
	n := degreeOf(degrees, f.Terms[0].Monomial)
	for _, t := range f.Terms {
		if degreeOf(degrees, t.Monomial) != n {
			return 0, ErrState
		}
	}
	return n, ErrNone
}

// AddForms returns the sum, and ErrNone.
func AddForms(degrees []int64, f Form, g Form) (Form, int64) {
	if !IsForm(degrees, f) || !IsForm(degrees, g) {
		return Form{}, ErrInvalid
	}
	terms := mergeTerms(f.Terms, g.Terms)
	if len(terms) > MaxTerms {
		return Form{}, ErrLimit
	}
	return Form{Terms: terms}, ErrNone
}

// ScaleForm returns k times f, for k in 0..FieldPrime - 1, and ErrNone.
func ScaleForm(degrees []int64, k int64, f Form) (Form, int64) {
	if !IsForm(degrees, f) {
		return Form{}, ErrInvalid
	}
	if k < 0 || k >= FieldPrime {
		return Form{}, ErrRange
	}
	var scaled Form
	if k == 0 {
		return scaled, ErrNone
	}
	for _, t := range f.Terms {
		scaled.Terms = append(scaled.Terms, Term{t.Monomial, numberOf(k * t.Factor)})
	}
	return scaled, ErrNone
}

// MultiplyForms returns the product, and ErrNone.
func MultiplyForms(degrees []int64, f Form, g Form) (Form, int64) {
	if !IsForm(degrees, f) || !IsForm(degrees, g) {
		return Form{}, ErrInvalid
	}
	sum := termSum{}
	for _, s := range f.Terms {
		for _, t := range g.Terms {
			if m, sign := productOf(degrees, s.Monomial, t.Monomial); sign != 0 {
				sum.add(m, sign*s.Factor*t.Factor)
			}
		}
	}
	return sum.form()
}

// PartOfForm returns the part of f of a degree n, for n of at least 0, and ErrNone.
func PartOfForm(degrees []int64, f Form, n int64) (Form, int64) {
	if !IsForm(degrees, f) {
		return Form{}, ErrInvalid
	}
	if n < 0 {
		return Form{}, ErrRange
	}
	var part Form
	for _, t := range f.Terms {
		if degreeOf(degrees, t.Monomial) == n {
			part.Terms = append(part.Terms, t)
		}
	}
	return part, ErrNone
}

// MonomialsOf returns all monomials of a degree n in order, n in 0..MaxDegree, and ErrNone.
// Errors: ErrLimit if there are more than MaxTerms.
func MonomialsOf(degrees []int64, n int64) ([]Monomial, int64) {
	if !AreDegrees(degrees) {
		return nil, ErrInvalid
	}
	if n < 0 || n > MaxDegree {
		return nil, ErrRange
	}
	counts := countMonomials(degrees, n)
	if counts[0][n] > MaxTerms {
		return nil, ErrLimit
	}
	search := monomialSearch{degrees: degrees, counts: counts, exponents: make([]byte, MaxGenerators)}
	search.visit(0, n)
	return search.found, ErrNone
}

// FormText returns the text of f, and ErrNone.
func FormText(degrees []int64, f Form) (string, int64) {
	if !IsForm(degrees, f) {
		return "", ErrInvalid
	}
	return textOfForm(f), ErrNone
}

// ParseForm returns the form with a text, and ErrNone. Errors: ErrSyntax if there is none.
func ParseForm(degrees []int64, text string) (Form, int64) {
	if !AreDegrees(degrees) {
		return Form{}, ErrInvalid
	}
	f, ok := readForm(text)
	// The reader is lenient: comparing the texts leaves only the spelling of FormText.
	if !ok || !IsForm(degrees, f) || textOfForm(f) != text {
		return Form{}, ErrSyntax
	}
	return f, ErrNone
}

// numberOf returns the number of the field that x stands for.
func numberOf(x int64) int64 {
	return (x%FieldPrime + FieldPrime) % FieldPrime
}

func timesNumbers(x int64, y int64) int64 {
	return numberOf(x * y)
}

// powerOfNumber returns the power n of a number x of the field, for n of at least 0.
func powerOfNumber(x int64, n int64) int64 {
	return powerOf(1, x, n, timesNumbers)
}

// powerOf returns the power n of x, for n of at least 0, the power 0 being one.
func powerOf[T any](one T, x T, n int64, times func(T, T) T) T {
	power := one
	for ; n > 0; n /= 2 {
		if n%2 == 1 {
			power = times(power, x)
		}
		x = times(x, x)
	}
	return power
}

func isOdd(n int64) bool {
	return n%2 != 0
}

// greatestExponent returns the greatest exponent at place i of monomials for degrees.
func greatestExponent(degrees []int64, i int) byte {
	if i >= len(degrees) {
		return 0
	}
	if isOdd(degrees[i]) {
		return 1
	}
	return MaxPower
}

func exponentsFit(degrees []int64, m Monomial) bool {
	for i, e := range m {
		if e > greatestExponent(degrees, i) {
			return false
		}
	}
	return true
}

func withinPowers(m Monomial) bool {
	return slices.Max(m[:]) <= MaxPower
}

func degreeOf(degrees []int64, m Monomial) int64 {
	sum := int64(0)
	for i, n := range degrees {
		sum += n * int64(m[i])
	}
	return sum
}

// compareMonomials is negative if m comes ahead of k: the greater exponent is the first one.
func compareMonomials(m Monomial, k Monomial) int {
	return bytes.Compare(k[:], m[:])
}

// productOf returns the product of two monomials and its sign, 0 if it is 0. Its exponents may be
// greater than MaxPower, since the limit counts only for terms that do not cancel later.
func productOf(degrees []int64, m Monomial, k Monomial) (Monomial, int64) {
	var product Monomial
	sign := int64(1)
	behind := int64(1) // the sign of passing all odd generators of m behind place i
	for i := len(degrees) - 1; i >= 0; i-- {
		product[i] = m[i] + k[i]
		if !isOdd(degrees[i]) {
			continue
		}
		if product[i] > 1 {
			return Monomial{}, 0
		}
		if k[i] == 1 {
			sign *= behind
		}
		if m[i] == 1 {
			behind = -behind
		}
	}
	return product, sign
}

// compareTerms is negative if the monomial of s comes ahead of that of t.
func compareTerms(s Term, t Term) int {
	return compareMonomials(s.Monomial, t.Monomial)
}

// mergeTerms adds two lists of terms in order.
func mergeTerms(f []Term, g []Term) []Term {
	sum := make([]Term, 0, len(f)+len(g))
	for len(f) > 0 && len(g) > 0 {
		order := compareTerms(f[0], g[0])
		switch {
		case order == 0:
			if factor := numberOf(f[0].Factor + g[0].Factor); factor != 0 {
				sum = append(sum, Term{f[0].Monomial, factor})
			}
			f, g = f[1:], g[1:]
		case order < 0:
			sum = append(sum, f[0])
			f = f[1:]
		default:
			sum = append(sum, g[0])
			g = g[1:]
		}
	}
	return append(append(sum, f...), g...)
}

// termSum has the factors of the monomials of a sum that grows term by term.
type termSum map[Monomial]int64

func (s termSum) add(m Monomial, factor int64) {
	s[m] = numberOf(s[m] + factor)
}

func (s termSum) isZero() bool {
	for _, factor := range s {
		if factor != 0 {
			return false
		}
	}
	return true
}

// terms returns the terms of the sum in order, without those that have cancelled.
func (s termSum) terms() []Term {
	var terms []Term
	for m, factor := range s {
		if factor != 0 {
			terms = append(terms, Term{m, factor})
		}
	}
	slices.SortFunc(terms, compareTerms)
	return terms
}

// form returns the sum as a form, and ErrNone, or ErrLimit if it is none.
func (s termSum) form() (Form, int64) {
	count := 0
	for m, factor := range s {
		if factor == 0 {
			continue
		}
		if !withinPowers(m) || count == MaxTerms {
			return Form{}, ErrLimit
		}
		count++
	}
	return Form{Terms: s.terms()}, ErrNone
}

// countMonomials returns, for each i up to the number of generators and each degree up to n, how
// many monomials of this degree have no generators ahead of x(i).
func countMonomials(degrees []int64, n int64) [][]int64 {
	counts := make([][]int64, len(degrees)+1)
	counts[len(degrees)] = make([]int64, n+1)
	counts[len(degrees)][0] = 1
	for i := len(degrees) - 1; i >= 0; i-- {
		counts[i] = make([]int64, n+1)
		for e := int64(0); e <= int64(greatestExponent(degrees, i)); e++ {
			for r := e * degrees[i]; r <= n; r++ {
				counts[i][r] += counts[i+1][r-e*degrees[i]]
			}
		}
	}
	return counts
}

// monomialSearch finds monomials in order. Its counts keep it out of branches without any.
type monomialSearch struct {
	degrees   []int64
	counts    [][]int64
	exponents []byte
	found     []Monomial
}

// visit finds the monomials with the exponents chosen ahead of x(i), and the degree rest from there.
func (s *monomialSearch) visit(i int, rest int64) {
	if s.counts[i][rest] == 0 {
		return
	}
	if i == len(s.degrees) {
		s.found = append(s.found, Monomial(s.exponents))
		return
	}
	most := min(int64(greatestExponent(s.degrees, i)), rest/s.degrees[i])
	for e := most; e >= 0; e-- {
		s.exponents[i] = byte(e)
		s.visit(i+1, rest-e*s.degrees[i])
	}
}

func textOfForm(f Form) string {
	if len(f.Terms) == 0 {
		return "0"
	}
	var text strings.Builder
	for i, t := range f.Terms {
		if i > 0 {
			text.WriteByte('+')
		}
		text.WriteString(strconv.FormatInt(t.Factor, 10))
		text.WriteByte('*')
		text.WriteString(textOfMonomial(t.Monomial))
	}
	return text.String()
}

func textOfMonomial(m Monomial) string {
	if m == (Monomial{}) {
		return "1"
	}
	var text strings.Builder
	for i, e := range m {
		if e > 0 {
			text.WriteByte('a' + byte(i))
		}
		if e > 1 {
			text.WriteString(strconv.Itoa(int(e)))
		}
	}
	return text.String()
}

// readForm reads a text that may be spelled otherwise than FormText does it.
func readForm(text string) (Form, bool) {
	var f Form
	if text == "0" {
		return f, true
	}
	if strings.Count(text, "+") >= MaxTerms {
		return Form{}, false
	}
	for _, part := range strings.Split(text, "+") {
		t, ok := readTerm(part)
		if !ok {
			return Form{}, false
		}
		f.Terms = append(f.Terms, t)
	}
	return f, true
}

func readTerm(text string) (Term, bool) {
	left, right, found := strings.Cut(text, "*")
	factor, err := strconv.ParseInt(left, 10, 64)
	m, ok := readMonomial(right)
	if !found || err != nil || !ok {
		return Term{}, false
	}
	return Term{m, factor}, true
}

func readMonomial(text string) (Monomial, bool) {
	if text == "1" {
		return Monomial{}, true
	}
	exponents := make([]byte, MaxGenerators)
	for text != "" {
		i := int(text[0]) - 'a'
		rest := strings.TrimLeft(text[1:], "0123456789")
		e, ok := readExponent(text[1 : len(text)-len(rest)])
		if i < 0 || i >= MaxGenerators || !ok {
			return Monomial{}, false
		}
		exponents[i] = e
		text = rest
	}
	return Monomial(exponents), true
}

func readExponent(digits string) (byte, bool) {
	if digits == "" {
		return 1, true
	}
	e, err := strconv.ParseUint(digits, 10, 8)
	return byte(e), err == nil
}
