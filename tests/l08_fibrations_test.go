package tests

import (
	"math"
	"math/rand"
	"slices"
	"testing"

	"loop.example/g01219/impl"
)

// fibrationCase has the texts of a fibration: each form is one for the generators ahead of it.
type fibrationCase struct {
	base    string
	degrees []int64
	forms   []string
	want    string
}

func (c fibrationCase) fibration(t *testing.T) fibration {
	t.Helper()
	base := algebra(t, c.base)
	ahead := slices.Clone(base.Degrees)
	var forms []impl.Form
	for i, text := range c.forms {
		forms = append(forms, parse(t, ahead, text))
		ahead = append(ahead, c.degrees[i])
	}
	return fibration{base, c.degrees, forms}
}

// goodFibrations has none, one and several further generators, up to the greatest number, over bases with and without
// differentials, and images that use the base, further generators, both, and linear ones.
func goodFibrations() []fibrationCase {
	const seven = "1:0;1:0;1:0;1:0;1:0;1:0;1:0"
	return []fibrationCase{
		{"", nil, nil, ""},
		{"", []int64{}, []string{}, ""},
		{"2:0;3:1*a2", nil, nil, "2:0;3:1*a2"},
		{"1:1*b;2:0", nil, nil, "1:1*b;2:0"},
		{seven + ";1:1*ab", nil, nil, seven + ";1:1*ab"},
		{"", []int64{1}, []string{"0"}, "1:0"},
		{"", []int64{12}, []string{"0"}, "12:0"},
		{"2:0", []int64{3}, []string{"1*a2"}, "2:0;3:1*a2"},
		{"2:0;3:1*a2", []int64{1}, []string{"1*a"}, "2:0;3:1*a2;1:1*a"},
		{"2:0;3:1*a2", []int64{3}, []string{"7*a2"}, "2:0;3:1*a2;3:7*a2"},
		{"4:0;7:1*a2", []int64{3}, []string{"5*a"}, "4:0;7:1*a2;3:5*a"},
		{"2:0;5:1*a3", []int64{2, 3}, []string{"0", "1*a2+3*ac+1*c2"}, "2:0;5:1*a3;2:0;3:1*a2+3*ac+1*c2"},
		{"", []int64{2, 3}, []string{"0", "1*a2"}, "2:0;3:1*a2"},
		{"", []int64{1, 1, 1}, []string{"0", "0", "1*ab"}, "1:0;1:0;1:1*ab"},
		{"1:0;1:0", []int64{1, 1, 1}, []string{"1*ab", "1*ac", "1*ad+1*bc"}, "1:0;1:0;1:1*ab;1:1*ac;1:1*ad+1*bc"},
		{"2:0;2:0", []int64{3, 3, 3, 4}, []string{"1*a2", "1*ab", "1*b2", "10006*ad+1*bc"}, "2:0;2:0;3:1*a2;3:1*ab;3:1*b2;4:10006*ad+1*bc"},
		{"1:0", []int64{2, 2, 3}, []string{"0", "1*ab", "1*b2"}, "1:0;2:0;2:1*ab;3:1*b2"},
		{"5:0", []int64{4, 4}, []string{"2*a", "3*a"}, "5:0;4:2*a;4:3*a"},
		{"12:0", []int64{11, 12, 11}, []string{"1*a", "0", "2*a+3*c"}, "12:0;11:1*a;12:0;11:2*a+3*c"},
		{"", []int64{1, 1, 1, 1, 1, 1, 1, 1}, []string{"0", "0", "0", "0", "0", "0", "0", "1*ab+1*cd+1*ef"}, seven + ";1:1*ab+1*cd+1*ef"},
		{seven, []int64{12}, []string{"0"}, seven + ";12:0"},
		{"1:0;1:0;1:0;1:0", []int64{1, 1, 1, 1}, []string{"1*ab", "1*ac", "1*cd", "1*ae"}, "1:0;1:0;1:0;1:0;1:1*ab;1:1*ac;1:1*cd;1:1*ae"},
	}
}

func TestFibrationOver(t *testing.T) {
	for _, c := range goodFibrations() {
		x := c.fibration(t)
		got, code := impl.FibrationOver(x.base, x.degrees, x.forms)
		if !sameAlgebras(got, algebra(t, c.want)) || code != impl.ErrNone || !impl.IsAlgebra(got) {
			t.Errorf("FibrationOver(%v) = %v, %d", c, got, code)
		}
		x.check(t)
	}
}

// TestFibrationsByWords compares fibrations, many of which have something wrong, with those that are made by words.
func TestFibrationsByWords(t *testing.T) {
	r := rand.New(rand.NewSource(160))
	codes := map[int64]int{}
	long := 0
	for range 3000 {
		x := randomFibration(t, r, 6)
		for range r.Intn(3) {
			x.spoil(t, r)
		}
		code := x.check(t)
		codes[code]++
		if code == impl.ErrNone && slices.ContainsFunc(x.forms, func(f impl.Form) bool { return len(f.Terms) > 1 }) {
			long++
		}
	}
	for _, code := range []int64{impl.ErrNone, impl.ErrInvalid, impl.ErrRange, impl.ErrState, impl.ErrLimit} {
		if codes[code] < 50 {
			t.Errorf("the code %d was met %d times", code, codes[code])
		}
	}
	if long < 100 {
		t.Errorf("only %d fibrations have images with several terms", long)
	}
}

// spoil makes one thing wrong in a fibration, mostly.
func (x *fibration) spoil(t *testing.T, r *rand.Rand) {
	t.Helper()
	switch i := r.Intn(len(x.degrees) + 1); {
	case r.Intn(12) == 0:
		x.base = anyAlgebra(t, r)
	case r.Intn(8) == 0:
		x.forms = append(x.forms, impl.Form{})
	case i == len(x.degrees) || i >= len(x.forms):
		for len(x.degrees) < 1+r.Intn(9) || len(x.degrees) > len(x.forms) {
			x.degrees, x.forms = append(x.degrees, 1+r.Int63n(12)), append(x.forms, impl.Form{})
		}
	case r.Intn(3) == 0:
		x.degrees[i] = []int64{0, 13, -1, math.MinInt64, math.MaxInt64, x.degrees[i] + 1}[r.Intn(6)]
	case r.Intn(2) == 0:
		m := anyMonomial(r)
		x.forms[i] = formOf(term(1, m[:]...))
	default:
		x.forms[i] = formOf(term(r.Int63n(3), byte(r.Intn(2)), byte(r.Intn(2)), byte(r.Intn(2))))
	}
}

// TestFirstErrorOfFibrations has several wrong things, of which the first one counts that is met. Forms are told by
// their terms, since some are none.
func TestFirstErrorOfFibrations(t *testing.T) {
	zero := impl.Form{}
	a, square, cube := formOf(term(1, 1)), formOf(term(1, 2)), formOf(term(1, 3))
	b, ab, c := formOf(term(1, 0, 1)), formOf(term(1, 1, 1)), formOf(term(1, 0, 0, 1))
	h := formOf(term(1, 0, 0, 0, 0, 0, 0, 0, 1))
	none, mixed := formOf(term(0, 1)), formOf(term(1, 2), term(1, 1))
	const base, sphere = "2:0", "2:0;3:1*a2"
	const seven, eight = sphere + ";1:0;1:0;1:0;1:0;1:0", sphere + ";1:0;1:0;1:0;1:0;1:0;1:0"
	for _, x := range []struct {
		base    string
		degrees []int64
		forms   []impl.Form
		want    int64
	}{
		// Not as many forms as degrees, ahead of all that is wrong with any of them.
		{base, []int64{3}, nil, impl.ErrRange},
		{base, nil, []impl.Form{square}, impl.ErrRange},
		{base, []int64{3, 5}, []impl.Form{square}, impl.ErrRange},
		{base, []int64{3}, []impl.Form{square, cube}, impl.ErrRange},
		{base, []int64{3}, []impl.Form{none, none}, impl.ErrRange},
		{base, []int64{2}, []impl.Form{square, square}, impl.ErrRange},
		{eight, []int64{1}, nil, impl.ErrRange},
		{eight, []int64{1, 1}, []impl.Form{zero}, impl.ErrRange},
		{base, nil, []impl.Form{none}, impl.ErrRange},
		// One generator.
		{base, []int64{0}, []impl.Form{zero}, impl.ErrRange},
		{base, []int64{-1}, []impl.Form{zero}, impl.ErrRange},
		{base, []int64{13}, []impl.Form{zero}, impl.ErrRange},
		{base, []int64{math.MinInt64}, []impl.Form{zero}, impl.ErrRange},
		{base, []int64{math.MaxInt64}, []impl.Form{zero}, impl.ErrRange},
		{base, []int64{3}, []impl.Form{none}, impl.ErrInvalid},
		{base, []int64{3}, []impl.Form{b}, impl.ErrInvalid},
		{base, []int64{0}, []impl.Form{none}, impl.ErrInvalid},
		{base, []int64{13}, []impl.Form{b}, impl.ErrInvalid},
		{base, []int64{13}, []impl.Form{mixed}, impl.ErrRange},
		{base, []int64{0}, []impl.Form{cube}, impl.ErrRange},
		{base, []int64{3}, []impl.Form{mixed}, impl.ErrState},
		{base, []int64{3}, []impl.Form{cube}, impl.ErrState},
		{base, []int64{2}, []impl.Form{square}, impl.ErrState},
		{sphere, []int64{4}, []impl.Form{ab}, impl.ErrState},
		{sphere, []int64{2}, []impl.Form{b}, impl.ErrState},
		{sphere, []int64{3}, []impl.Form{c}, impl.ErrInvalid},
		// Several generators.
		{base, []int64{3, 13}, []impl.Form{cube, zero}, impl.ErrState},
		{base, []int64{3, 5}, []impl.Form{cube, none}, impl.ErrState},
		{base, []int64{13, 5}, []impl.Form{square, none}, impl.ErrRange},
		{base, []int64{13, 5}, []impl.Form{square, square}, impl.ErrRange},
		{base, []int64{3, 13}, []impl.Form{none, square}, impl.ErrInvalid},
		{base, []int64{3, 5}, []impl.Form{b, square}, impl.ErrInvalid},
		{base, []int64{3, 5}, []impl.Form{square, c}, impl.ErrInvalid},
		{base, []int64{3, 5}, []impl.Form{square, square}, impl.ErrState},
		{base, []int64{3, 4}, []impl.Form{square, ab}, impl.ErrState},
		{base, []int64{3, 4}, []impl.Form{zero, ab}, impl.ErrNone},
		{base, []int64{3, 0}, []impl.Form{square, zero}, impl.ErrRange},
		{base, []int64{3, 5, 13}, []impl.Form{square, square, none}, impl.ErrState},
		{base, []int64{3, 13, 3}, []impl.Form{square, zero, none}, impl.ErrRange},
		{base, []int64{3, 13, 3}, []impl.Form{square, c, cube}, impl.ErrInvalid},
		{base, []int64{1, 1, 1, 1}, []impl.Form{a, a, cube, none}, impl.ErrState},
		// Too many generators.
		{eight, []int64{1}, []impl.Form{zero}, impl.ErrLimit},
		{eight, []int64{1}, []impl.Form{a}, impl.ErrLimit},
		{eight, []int64{2}, []impl.Form{a}, impl.ErrState},
		{eight, []int64{4}, []impl.Form{ab}, impl.ErrState},
		{eight, []int64{13}, []impl.Form{zero}, impl.ErrRange},
		{eight, []int64{13}, []impl.Form{none}, impl.ErrInvalid},
		{eight, []int64{1, 13}, []impl.Form{zero, none}, impl.ErrLimit},
		{seven, []int64{1, 1}, []impl.Form{a, a}, impl.ErrLimit},
		{seven, []int64{1, 1}, []impl.Form{h, a}, impl.ErrInvalid},
		{seven, []int64{1, 12}, []impl.Form{a, h}, impl.ErrState},
		{seven, []int64{1, 13}, []impl.Form{a, h}, impl.ErrRange},
		{seven, []int64{1, 1}, []impl.Form{cube, a}, impl.ErrState},
		{seven, []int64{1, 1}, []impl.Form{a, none}, impl.ErrInvalid},
		{seven, []int64{1, 1, 1}, []impl.Form{a, a, none}, impl.ErrLimit},
		{"", []int64{1, 1, 1, 1, 1, 1, 1, 1, 1}, make([]impl.Form, 9), impl.ErrLimit},
		{"", []int64{1, 1, 1, 1, 1, 1, 1, 1, 13}, make([]impl.Form, 9), impl.ErrRange},
		{"", []int64{1, 1, 1, 1, 1, 1, 1, 1, 1, 13}, make([]impl.Form, 10), impl.ErrLimit},
		{"", []int64{1, 1, 1, 1, 1, 1, 1, 13, 1}, make([]impl.Form, 9), impl.ErrRange},
	} {
		f := fibration{algebra(t, x.base), x.degrees, x.forms}
		got, code := impl.FibrationOver(f.base, f.degrees, f.forms)
		if code != x.want || code != impl.ErrNone && !isZeroAlgebra(got) {
			t.Errorf("FibrationOver(%q, %v, %v) = %v, %d, not %d", x.base, x.degrees, x.forms, got, code, x.want)
		}
		f.check(t)
	}
}

// TestInvalidBases has what is no algebra, with good further generators, bad ones, and too few forms.
func TestInvalidBases(t *testing.T) {
	for _, a := range badAlgebras(t) {
		for _, x := range []fibration{
			{a, nil, nil}, {a, []int64{3}, []impl.Form{{}}}, {a, []int64{3}, nil}, {a, nil, []impl.Form{{}}},
			{a, []int64{13}, []impl.Form{{}}}, {a, []int64{3}, []impl.Form{formOf(term(0, 1))}}, {a, []int64{2, 3}, []impl.Form{{}}},
		} {
			if got, code := impl.FibrationOver(x.base, x.degrees, x.forms); !isZeroAlgebra(got) || code != impl.ErrInvalid {
				t.Errorf("FibrationOver(%v) = %v, %d", x, got, code)
			}
		}
	}
}

// TestInvalidFormsOfFibrations has all sorts of what is no form for a generator of the degrees 1 and 2.
func TestInvalidFormsOfFibrations(t *testing.T) {
	a := algebra(t, "1:0;2:0")
	for _, f := range badForms() {
		for _, x := range []fibration{{a, []int64{3}, []impl.Form{f}}, {a, []int64{13}, []impl.Form{f}}, {a, []int64{3, 3}, []impl.Form{f, {}}}} {
			if got, code := impl.FibrationOver(x.base, x.degrees, x.forms); !isZeroAlgebra(got) || code != impl.ErrInvalid {
				t.Errorf("FibrationOver(%v) = %v, %d", x, got, code)
			}
		}
	}
	plane := algebra(t, "2:0;2:0")
	if got, code := impl.FibrationOver(plane, []int64{13}, []impl.Form{grid(401, 1)}); !isZeroAlgebra(got) || code != impl.ErrInvalid {
		t.Errorf("FibrationOver with 401 terms = %v, %d", got, code)
	}
	if got, code := impl.FibrationOver(plane, []int64{13}, []impl.Form{grid(400, 1)}); !isZeroAlgebra(got) || code != impl.ErrRange {
		t.Errorf("FibrationOver with 400 terms = %v, %d", got, code)
	}
	if got, code := impl.FibrationOver(plane, []int64{12}, []impl.Form{grid(400, 1)}); !isZeroAlgebra(got) || code != impl.ErrState {
		t.Errorf("FibrationOver with 400 terms of many degrees = %v, %d", got, code)
	}
}

// TestFibrationsInSteps checks that a fibration over a fibration is one over the first base, and that products are
// fibrations.
func TestFibrationsInSteps(t *testing.T) {
	r := rand.New(rand.NewSource(161))
	for range 500 {
		x := randomFibration(t, r, 4)
		whole, code := impl.FibrationOver(x.base, x.degrees, x.forms)
		if code != impl.ErrNone {
			t.Fatalf("FibrationOver(%v): code %d", x, code)
		}
		k := r.Intn(len(x.degrees) + 1)
		part, one := impl.FibrationOver(x.base, x.degrees[:k], x.forms[:k])
		rest, two := impl.FibrationOver(part, x.degrees[k:], x.forms[k:])
		if one != impl.ErrNone || two != impl.ErrNone || !sameAlgebras(whole, rest) {
			t.Fatalf("FibrationOver(%v) = %v, but %v, %d, %d in two steps", x, whole, rest, one, two)
		}
		base, code := impl.SubAlgebra(whole, int64(len(x.base.Degrees)))
		if code != impl.ErrNone || !sameAlgebras(base, x.base) {
			t.Fatalf("the base of %v is %v, %d", x, base, code)
		}
		own := algebra(t, "2:0;3:1*a2")
		var forms []impl.Form
		for _, f := range own.Images {
			forms = append(forms, behind(f, len(x.base.Degrees)))
		}
		trivial, one := impl.FibrationOver(x.base, own.Degrees, forms)
		product, two := impl.ProductOfAlgebras(x.base, own)
		if one != two || !sameAlgebras(trivial, product) {
			t.Fatalf("the trivial fibration over %v is %v, %d, and the product %v, %d", x.base, trivial, one, product, two)
		}
	}
}
