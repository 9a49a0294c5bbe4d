package tests

import (
	"math"
	"math/rand"
	"testing"

	"loop.example/g01219/impl"
)

// badForms returns what is no form for the degrees 1 and 2.
func badForms() []impl.Form {
	return []impl.Form{
		formOf(term(1, 2)),
		formOf(term(1, 0, 21)),
		formOf(term(1, 0, 0, 1)),
		formOf(term(1, 0, 0, 0, 0, 0, 0, 0, 1)),
		formOf(term(0, 1)),
		formOf(term(-1, 1)),
		formOf(term(impl.FieldPrime, 1)),
		formOf(term(math.MinInt64, 1)),
		formOf(term(math.MaxInt64, 1)),
		formOf(term(1, 1), term(0, 0, 1)),
		formOf(term(1, 1), term(1, 0, 1), term(1, 0, 0, 1)),
		formOf(term(1, 0, 1), term(1, 1)),
		formOf(term(1, 0, 1), term(1, 0, 2)),
		formOf(term(1), term(1, 1)),
		formOf(term(1, 1, 1), term(2, 1, 1)),
		formOf(term(1), term(1)),
	}
}

func TestIsForm(t *testing.T) {
	degrees := []int64{1, 2}
	good := []impl.Form{
		{}, {Terms: []impl.Term{}}, formOf(term(1)), formOf(term(impl.FieldPrime - 1)), formOf(term(1, 1)), formOf(term(5, 1, 20)),
		formOf(term(1, 1, 1), term(1, 1), term(1, 0, 20), term(1, 0, 19), term(1)),
	}
	for _, f := range good {
		if !impl.IsForm(degrees, f) {
			t.Errorf("IsForm(%v) is false", f)
		}
	}
	for _, f := range badForms() {
		if impl.IsForm(degrees, f) {
			t.Errorf("IsForm(%v) is true", f)
		}
	}
	for _, d := range badDegrees() {
		if impl.IsForm(d, impl.Form{}) {
			t.Errorf("IsForm(%v, 0) is true", d)
		}
	}
	if !impl.IsForm(nil, impl.Form{}) || !impl.IsForm(nil, formOf(term(3))) || impl.IsForm(nil, formOf(term(3, 1))) {
		t.Errorf("IsForm without generators is wrong")
	}
	evens := []int64{2, 2}
	if !impl.IsForm(evens, grid(400, 1)) || impl.IsForm(evens, grid(401, 1)) {
		t.Errorf("the limit of terms is wrong")
	}
}

func TestDegreeOfForm(t *testing.T) {
	degrees := []int64{2, 3, 5}
	cases := []struct {
		text string
		want int64
		code int64
	}{
		{"0", -1, impl.ErrNone},
		{"7*1", 0, impl.ErrNone},
		{"1*a", 2, impl.ErrNone},
		{"1*ab+9*c", 5, impl.ErrNone},
		{"1*a20bc", 48, impl.ErrNone},
		{"5*a2+1*ab", 0, impl.ErrState},
		{"1*ab+1*c+1*1", 0, impl.ErrState},
		{"1*a+1*1", 0, impl.ErrState},
	}
	for _, c := range cases {
		if got, code := impl.DegreeOfForm(degrees, parse(t, degrees, c.text)); got != c.want || code != c.code {
			t.Errorf("DegreeOfForm(%q) = %d, %d", c.text, got, code)
		}
	}
	mixed := formOf(term(1, 1), term(1, 0, 1), term(0))
	if got, code := impl.DegreeOfForm(degrees, mixed); got != 0 || code != impl.ErrInvalid {
		t.Errorf("DegreeOfForm of no form = %d, %d", got, code)
	}
}

func TestAddForms(t *testing.T) {
	degrees := []int64{2, 3}
	cases := []struct{ f, g, want string }{
		{"0", "0", "0"},
		{"0", "3*ab", "3*ab"},
		{"3*ab", "0", "3*ab"},
		{"5*a2+1*ab", "10002*a2+1*1", "1*ab+1*1"},
		{"1*a", "10006*a", "0"},
		{"5004*a", "5004*a", "1*a"},
		{"10006*a", "10006*a", "10005*a"},
		{"1*a3+1*a", "1*a2+1*b", "1*a3+1*a2+1*a+1*b"},
		{"1*a2+1*b", "1*a3+1*a+1*1", "1*a3+1*a2+1*a+1*b+1*1"},
		{"2*b", "3*1", "2*b+3*1"},
	}
	for _, c := range cases {
		got, code := impl.AddForms(degrees, parse(t, degrees, c.f), parse(t, degrees, c.g))
		if !sameForms(got, parse(t, degrees, c.want)) || code != impl.ErrNone {
			t.Errorf("AddForms(%q, %q) = %v, %d", c.f, c.g, got, code)
		}
	}
}

func TestAddFormsLimits(t *testing.T) {
	degrees := []int64{2, 2}
	first, last := grid(400, 1), formOf(grid(401, 3).Terms[400])
	if got, code := impl.AddForms(degrees, first, last); len(got.Terms) != 0 || code != impl.ErrLimit {
		t.Errorf("sum of 401 terms: %d terms, code %d", len(got.Terms), code)
	}
	if got, code := impl.AddForms(degrees, last, first); len(got.Terms) != 0 || code != impl.ErrLimit {
		t.Errorf("sum of 401 terms, turned round: %d terms, code %d", len(got.Terms), code)
	}
	if got, code := impl.AddForms(degrees, grid(399, 1), last); len(got.Terms) != 400 || code != impl.ErrNone {
		t.Errorf("sum of 400 terms: %d terms, code %d", len(got.Terms), code)
	}
	if got, code := impl.AddForms(degrees, first, grid(400, impl.FieldPrime-1)); len(got.Terms) != 0 || code != impl.ErrNone {
		t.Errorf("sum of opposites: %d terms, code %d", len(got.Terms), code)
	}
	// One of 401 different monomials cancels.
	swap := formOf(term(impl.FieldPrime-1, 20, 20), last.Terms[0])
	if got, code := impl.AddForms(degrees, first, swap); len(got.Terms) != 400 || code != impl.ErrNone {
		t.Errorf("sum in which a term cancels: %d terms, code %d", len(got.Terms), code)
	}
}

func TestScaleForm(t *testing.T) {
	degrees := []int64{2, 3}
	cases := []struct {
		k       int64
		f, want string
		code    int64
	}{
		{2, "5*a2+1*ab", "10*a2+2*ab", impl.ErrNone},
		{0, "5*a2+1*ab", "0", impl.ErrNone},
		{1, "5*a2+1*ab", "5*a2+1*ab", impl.ErrNone},
		{10006, "5*a2+1*ab+10006*1", "10002*a2+10006*ab+1*1", impl.ErrNone},
		{5004, "2*a", "1*a", impl.ErrNone},
		{7, "0", "0", impl.ErrNone},
		{10007, "1*a", "0", impl.ErrRange},
		{10007, "0", "0", impl.ErrRange},
		{-1, "1*a", "0", impl.ErrRange},
		{math.MaxInt64, "1*a", "0", impl.ErrRange},
		{math.MinInt64, "1*a", "0", impl.ErrRange},
	}
	for _, c := range cases {
		got, code := impl.ScaleForm(degrees, c.k, parse(t, degrees, c.f))
		if !sameForms(got, parse(t, degrees, c.want)) || code != c.code {
			t.Errorf("ScaleForm(%d, %q) = %v, %d", c.k, c.f, got, code)
		}
	}
}

func TestMultiplyForms(t *testing.T) {
	cases := []struct {
		degrees    []int64
		f, g, want string
	}{
		{[]int64{1, 1}, "1*b", "1*a", "10006*ab"},
		{[]int64{1, 1}, "1*a", "1*b", "1*ab"},
		{[]int64{1, 1}, "1*a", "1*a", "0"},
		{[]int64{1, 1}, "1*a+1*b", "1*a+1*b", "0"},
		{[]int64{1, 1}, "1*a+1*b", "1*a+10006*b", "10005*ab"},
		{[]int64{2, 2}, "1*a+1*b", "1*a+10006*b", "1*a2+10006*b2"},
		{[]int64{2, 3}, "5*a2+1*ab", "5*a2+1*ab", "25*a4+10*a3b"},
		{[]int64{2, 3}, "0", "1*a", "0"},
		{[]int64{2, 3}, "1*a", "0", "0"},
		{[]int64{2, 3}, "3*1", "1*a+4*b+5004*1", "3*a+12*b+5005*1"},
		{[]int64{2, 3}, "1*a19", "1*a", "1*a20"},
		{[]int64{2, 3}, "1*a20b", "1*a20b", "0"},
		{[]int64{2, 3}, "2*a", "5004*a", "1*a2"},
		{[]int64{2}, "10006*a", "10006*a", "1*a2"},
		{[]int64{3, 2, 5}, "1*bc", "1*ab", "10006*ab2c"},
		{nil, "3*1", "4*1", "12*1"},
		{nil, "0", "0", "0"},
	}
	for _, c := range cases {
		got, code := impl.MultiplyForms(c.degrees, parse(t, c.degrees, c.f), parse(t, c.degrees, c.g))
		if !sameForms(got, parse(t, c.degrees, c.want)) || code != impl.ErrNone {
			t.Errorf("MultiplyForms(%v, %q, %q) = %v, %d", c.degrees, c.f, c.g, got, code)
		}
	}
}

// powers returns the sum of the powers of the generator i below a number.
func powers(i int, below byte) impl.Form {
	var f impl.Form
	for e := below; e > 0; e-- {
		s := term(1)
		s.Monomial[i] = e - 1
		f.Terms = append(f.Terms, s)
	}
	return f
}

func TestMultiplyFormsLimits(t *testing.T) {
	evens := []int64{2, 2}
	if got, code := impl.MultiplyForms(evens, powers(0, 20), powers(1, 20)); len(got.Terms) != 400 || code != impl.ErrNone {
		t.Errorf("product of 400 terms: %d terms, code %d", len(got.Terms), code)
	}
	if got, code := impl.MultiplyForms(evens, powers(0, 20), powers(1, 21)); len(got.Terms) != 0 || code != impl.ErrLimit {
		t.Errorf("product of 420 terms: %d terms, code %d", len(got.Terms), code)
	}
	for _, g := range []string{"1*a", "1*a+1*1", "1*a20"} {
		if got, code := impl.MultiplyForms(evens, parse(t, evens, "1*a20"), parse(t, evens, g)); len(got.Terms) != 0 || code != impl.ErrLimit {
			t.Errorf("power beyond the limit of %q: %v, code %d", g, got, code)
		}
	}
	// The square of b + c is 0, so the terms with the power 21 or 40 of a cancel.
	odds := []int64{2, 1, 1}
	for _, g := range []string{"1*ab+1*ac", "1*a20b+1*a20c"} {
		if got, code := impl.MultiplyForms(odds, parse(t, odds, "1*a20b+1*a20c"), parse(t, odds, g)); len(got.Terms) != 0 || code != impl.ErrNone {
			t.Errorf("powers that cancel: %v, code %d", got, code)
		}
	}
}

func TestMultiplyFormsCancelledTerms(t *testing.T) {
	// Each of the 441 different monomials of the product of f and g arises twice and cancels.
	degrees := []int64{2, 2, 1, 1}
	var f, g impl.Form
	for e := byte(21); e > 0; e-- {
		f.Terms = append(f.Terms, term(1, e-1, 0, 1), term(1, e-1, 0, 0, 1))
		g.Terms = append(g.Terms, term(1, 0, e-1, 1), term(1, 0, e-1, 0, 1))
	}
	if got, code := impl.MultiplyForms(degrees, f, g); len(got.Terms) != 0 || code != impl.ErrNone {
		t.Errorf("product that cancels: %d terms, code %d", len(got.Terms), code)
	}
	more := formOf(append(g.Terms, term(1))...)
	if got, code := impl.MultiplyForms(degrees, f, more); !sameForms(got, f) || code != impl.ErrNone {
		t.Errorf("product of which a part cancels: %d terms, code %d", len(got.Terms), code)
	}
}

func TestPartOfForm(t *testing.T) {
	degrees := []int64{2, 3}
	f := "5*a3+7*a2+1*ab+2*a+9*b+4*1"
	cases := []struct {
		n    int64
		want string
		code int64
	}{
		{0, "4*1", impl.ErrNone},
		{1, "0", impl.ErrNone},
		{2, "2*a", impl.ErrNone},
		{3, "9*b", impl.ErrNone},
		{4, "7*a2", impl.ErrNone},
		{5, "1*ab", impl.ErrNone},
		{6, "5*a3", impl.ErrNone},
		{41, "0", impl.ErrNone},
		{math.MaxInt64, "0", impl.ErrNone},
		{-1, "0", impl.ErrRange},
		{math.MinInt64, "0", impl.ErrRange},
	}
	for _, c := range cases {
		if got, code := impl.PartOfForm(degrees, parse(t, degrees, f), c.n); !sameForms(got, parse(t, degrees, c.want)) || code != c.code {
			t.Errorf("PartOfForm(%d) = %v, %d", c.n, got, code)
		}
	}
	wide := []int64{12, 12}
	top := parse(t, wide, "1*a20b20+1*a20b19+1*a19b20")
	if got, code := impl.PartOfForm(wide, top, 468); !sameForms(got, parse(t, wide, "1*a20b19+1*a19b20")) || code != impl.ErrNone {
		t.Errorf("PartOfForm of a great degree = %v, %d", got, code)
	}
	if got, code := impl.PartOfForm(degrees, impl.Form{}, 0); len(got.Terms) != 0 || code != impl.ErrNone {
		t.Errorf("PartOfForm of 0 = %v, %d", got, code)
	}
}

// checkInvalid calls all functions with forms on degrees and forms of which one is wrong. The other
// errors that they could report are there too, so ErrInvalid must come first.
func checkInvalid(t *testing.T, degrees []int64, f, g impl.Form, one impl.Form) {
	t.Helper()
	forms := map[string]func() (impl.Form, int64){
		"AddForms":      func() (impl.Form, int64) { return impl.AddForms(degrees, f, g) },
		"MultiplyForms": func() (impl.Form, int64) { return impl.MultiplyForms(degrees, f, g) },
		"ScaleForm":     func() (impl.Form, int64) { return impl.ScaleForm(degrees, 1, one) },
		"ScaleForm -1":  func() (impl.Form, int64) { return impl.ScaleForm(degrees, -1, one) },
		"PartOfForm":    func() (impl.Form, int64) { return impl.PartOfForm(degrees, one, 0) },
		"PartOfForm -1": func() (impl.Form, int64) { return impl.PartOfForm(degrees, one, -1) },
	}
	for name, call := range forms {
		if got, code := call(); len(got.Terms) != 0 || code != impl.ErrInvalid {
			t.Errorf("%s(%v, %v, %v) = %v, %d", name, degrees, f, g, got, code)
		}
	}
	if got, code := impl.DegreeOfForm(degrees, one); got != 0 || code != impl.ErrInvalid {
		t.Errorf("DegreeOfForm(%v, %v) = %d, %d", degrees, one, got, code)
	}
	if got, code := impl.FormText(degrees, one); got != "" || code != impl.ErrInvalid {
		t.Errorf("FormText(%v, %v) = %q, %d", degrees, one, got, code)
	}
}

func TestInvalidForms(t *testing.T) {
	degrees := []int64{1, 2}
	top := formOf(term(1, 0, 20))
	for _, bad := range badForms() {
		checkInvalid(t, degrees, bad, top, bad)
		checkInvalid(t, degrees, top, bad, bad)
	}
	for _, d := range badDegrees() {
		checkInvalid(t, d, impl.Form{}, impl.Form{}, impl.Form{})
		for _, text := range []string{"0", "1*a", "", "?"} {
			if got, code := impl.ParseForm(d, text); len(got.Terms) != 0 || code != impl.ErrInvalid {
				t.Errorf("ParseForm(%v, %q) = %v, %d", d, text, got, code)
			}
		}
	}
	evens := []int64{2, 2}
	checkInvalid(t, evens, grid(401, 1), grid(401, 1), grid(401, 1))
	checkInvalid(t, evens, grid(400, 1), grid(401, 1), grid(401, 1))
}

// TestAnyArguments calls everything with what is often invalid: nothing panics, results beside
// errors are zero values, and all forms that come out are forms.
func TestAnyArguments(t *testing.T) {
	r := rand.New(rand.NewSource(5))
	for range 20000 {
		degrees := make([]int64, r.Intn(10))
		for i := range degrees {
			degrees[i] = r.Int63n(15) - 1
		}
		m, k := anyMonomial(r), anyMonomial(r)
		f, g := formOf(term(r.Int63n(4)-1, m[:]...), term(1, k[:]...)), formOf(term(r.Int63n(2), k[:]...))
		n := r.Int63n(50) - 5
		a, code1 := impl.AddForms(degrees, f, g)
		b, code2 := impl.MultiplyForms(degrees, f, g)
		c, code3 := impl.ScaleForm(degrees, n, f)
		d, code4 := impl.PartOfForm(degrees, f, n)
		for i, x := range []impl.Form{a, b, c, d} {
			code := []int64{code1, code2, code3, code4}[i]
			if code != impl.ErrNone && len(x.Terms) != 0 || code == impl.ErrNone && !impl.IsForm(degrees, x) {
				t.Fatalf("function %d of %v, %v, %v, %d = %v, %d", i, degrees, f, g, n, x, code)
			}
		}
		if x, sign, code := impl.MultiplyMonomials(degrees, m, k); (code != impl.ErrNone || sign == 0) && x != (impl.Monomial{}) || code != impl.ErrNone && sign != 0 {
			t.Fatalf("MultiplyMonomials(%v, %v, %v) = %v, %d, %d", degrees, m, k, x, sign, code)
		}
		if list, code := impl.MonomialsOf(degrees, n); code != impl.ErrNone && len(list) != 0 || len(list) > impl.MaxTerms {
			t.Fatalf("MonomialsOf(%v, %d) = %v, %d", degrees, n, list, code)
		}
	}
}

// anyMonomial returns exponents that are mostly small, with rare great ones.
func anyMonomial(r *rand.Rand) impl.Monomial {
	var m impl.Monomial
	for i := range m {
		m[i] = []byte{0, 0, 0, 0, 1, 1, 20, byte(r.Intn(256))}[r.Intn(8)]
	}
	return m
}
