package tests

import (
	"math/rand"
	"testing"

	"loop.example/g01219/impl"
)

func TestNewDesk(t *testing.T) {
	d := impl.NewDesk()
	if !sameDesks(d, newTexts.desk(t)) || !impl.IsDesk(d) {
		t.Errorf("NewDesk() = %v", d)
	}
	sphere, code := impl.SphereModel(2)
	if code != impl.ErrNone || !sameAlgebras(d.First, sphere) || !sameAlgebras(d.Second, sphere) || len(d.Form.Terms) != 0 {
		t.Errorf("NewDesk() = %v has other algebras than %v", d, sphere)
	}
}

// TestDesks has desks, the first algebra of which may have other generators than the second one.
func TestDesks(t *testing.T) {
	for _, x := range []deskTexts{
		newTexts,
		{"", "", "0"},
		{"", "", "7*1"},
		{"", "2:0", "7*1"},
		{"2:0", "", "1*a20+1*1"},
		{"2:0", "1:0", "1*a2"},
		{"1:0;2:0", "2:0;1:0", "1*ab2+3*b"},
		{"1:1*b;2:0", "4:5*b;5:0;2:0", "1*ab"},
		{many(12), many(1), "1*a20b20c20d20e20f20g20h20"},
		{many(1), many(12), "1*abcdefgh"},
	} {
		d := x.desk(t)
		if !impl.IsDesk(d) {
			t.Errorf("IsDesk(%v) is false", d)
		}
		checkLine(t, d, "show", x.first, d)
		checkLine(t, d, "other", x.second, d)
	}
	d := impl.Desk{First: algebra(t, "2:0;2:0"), Form: grid(400, 1)}
	if !impl.IsDesk(d) || !impl.IsDesk(impl.Desk{}) {
		t.Errorf("IsDesk of a form with 400 terms, or of the zero value, is false")
	}
}

// noDesks returns what is no desk.
func noDesks(t *testing.T) []impl.Desk {
	t.Helper()
	plain := algebra(t, "1:0;2:0")
	list := []impl.Desk{
		{First: algebra(t, "2:0;2:0"), Form: grid(401, 1)},
		{First: algebra(t, "2:0;2:0"), Second: algebra(t, "2:0;2:0"), Form: formOf(grid(400, 1).Terms[399], grid(400, 1).Terms[0])},
		// Forms for the degrees of the second algebra alone.
		{First: algebra(t, "2:0"), Second: algebra(t, "2:0;2:0"), Form: formOf(term(1, 0, 1))},
		{First: algebra(t, "1:0"), Second: algebra(t, "2:0"), Form: formOf(term(1, 2))},
		{Second: algebra(t, "2:0"), Form: formOf(term(1, 1))},
		{First: algebra(t, "1:0;2:0"), Second: algebra(t, "2:0;1:0"), Form: formOf(term(1, 2, 1))},
	}
	for _, a := range badAlgebras(t) {
		list = append(list, impl.Desk{First: a}, impl.Desk{Second: a}, impl.Desk{First: a, Second: a}, impl.Desk{First: a, Second: plain}, impl.Desk{First: plain, Second: a})
		list = append(list, impl.Desk{First: plain, Second: a, Form: formOf(term(1, 1))}, impl.Desk{First: a, Second: plain, Form: formOf(term(1))})
	}
	for _, f := range badForms() {
		list = append(list, impl.Desk{First: plain, Second: plain, Form: f}, impl.Desk{First: plain, Form: f})
	}
	return list
}

// someLines returns lines that are accepted on nearly all desks, and others that are refused on all.
func someLines() []string {
	return []string{
		"show", "other", "reset", "swap", "product", "reduce", "sort", "first ", "first 2:0", "second ", "second 2:0", "sphere 2", "torus 1", "form 0", "form 3*1", "plus 2*1",
		"times 0", "d", "closed", "class", "betti 0", "dimension", "minimal", "series 3", "", " ", "fly", "show ", "betti", "betti -1", "sphere 0", "first x", "form x",
	}
}

func TestNoDesks(t *testing.T) {
	for _, d := range noDesks(t) {
		if impl.IsDesk(d) {
			t.Errorf("IsDesk(%v) is true", d)
		}
		for _, line := range someLines() {
			if next, output := impl.RunLine(d, line); output != "" || !isZeroDesk(next) {
				t.Fatalf("RunLine(%v, %q) = %v, %q", d, line, next, output)
			}
		}
	}
}

// TestIsDesk has random desks with parts that belong to others, which mostly are none.
func TestIsDesk(t *testing.T) {
	r := rand.New(rand.NewSource(242))
	found := map[bool]int{}
	for range 2000 {
		d := randomDesk(t, r)
		switch r.Intn(4) {
		case 0:
			d.First = randomAlgebra(t, r, 6)
		case 1:
			d.First.Degrees = randomDegrees(r)
		case 2:
			d.Second.Images = append(d.Second.Images, impl.Form{})
		}
		want := isDeskByParts(d)
		found[want]++
		if impl.IsDesk(d) != want {
			t.Fatalf("IsDesk(%v) = %v", d, !want)
		}
		if next, output := impl.RunLine(d, "show"); isZeroDesk(next) && output == "" && want && len(d.First.Degrees) > 0 || !want && (output != "" || !isZeroDesk(next)) {
			t.Fatalf("RunLine(%v, show) = %v, %q", d, next, output)
		}
	}
	if min(found[true], found[false]) < 300 {
		t.Errorf("desks and others: %v", found)
	}
}
