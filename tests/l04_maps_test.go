package tests

import (
	"math/rand"
	"testing"

	"loop.example/g01219/impl"
)

func TestIsMap(t *testing.T) {
	for _, c := range goodMaps() {
		if x := c.mapping(t); !impl.IsMap(x.a, x.b, x.m) {
			t.Errorf("IsMap(%v) is false", c)
		}
	}
	for _, c := range badMaps() {
		if x := c.mapping(t); impl.IsMap(x.a, x.b, x.m) {
			t.Errorf("IsMap(%v) is true", c)
		}
	}
}

func TestIsMapOfInvalidParts(t *testing.T) {
	a := algebra(t, "1:0;2:0")
	for _, bad := range badAlgebras(t) {
		zeros := make([]impl.Form, len(bad.Degrees))
		if impl.IsMap(bad, bad, zeros) || impl.IsMap(bad, impl.Algebra{}, zeros) || impl.IsMap(impl.Algebra{}, bad, nil) {
			t.Errorf("IsMap is true for %v", bad)
		}
	}
	for _, f := range badForms() {
		if impl.IsMap(a, a, []impl.Form{f, {}}) || impl.IsMap(a, a, []impl.Form{{}, f}) {
			t.Errorf("IsMap is true with %v", f)
		}
	}
	if !impl.IsMap(a, a, []impl.Form{{}, {}}) {
		t.Errorf("IsMap is false for 0")
	}
}

// TestIsMapByWords has maps and others.
func TestIsMapByWords(t *testing.T) {
	r := rand.New(rand.NewSource(80))
	good, bad := 0, 0
	for range 3000 {
		x := changedMap(t, r)
		want := x.isMapByWords()
		if got := impl.IsMap(x.a, x.b, x.m); got != want {
			t.Fatalf("IsMap(%v) = %v", x, got)
		}
		if !want {
			bad++
		} else if !x.isZeroMap() {
			good++
		}
	}
	if good < 300 || bad < 300 {
		t.Errorf("%d maps and %d others", good, bad)
	}
}

// wideMap returns a map that leads the differential of its second generator to a form with 924 terms,
// which is no form of chapter 1.
func wideMap(t *testing.T) mapping {
	t.Helper()
	const sum = "1*a+1*b+1*c+1*d+1*e+1*f+1*g"
	seven := algebra(t, "2:0;2:0;2:0;2:0;2:0;2:0;2:0")
	square := productByWords(seven.Degrees, parse(t, seven.Degrees, sum), parse(t, seven.Degrees, sum))
	b, code := impl.WithGenerator(seven, 3, square)
	if code != impl.ErrNone {
		t.Fatalf("WithGenerator: code %d", code)
	}
	power := productByWords(b.Degrees, square, square)
	image := productByWords(b.Degrees, power, parse(t, b.Degrees, "1*h"))
	return mapping{algebra(t, "2:0;11:1*a6"), b, []impl.Form{parse(t, b.Degrees, sum), image}}
}

func TestIsMapBeyondTheLimitOfTerms(t *testing.T) {
	x := wideMap(t)
	if !impl.IsMap(x.a, x.b, x.m) {
		t.Fatalf("IsMap is false, as if 924 terms were too many on the way")
	}
	if f := applied(t, x, parse(t, x.a.Degrees, "3*b")); len(f.Terms) != 210 {
		t.Errorf("the image of a generator has %d terms", len(f.Terms))
	}
	if f, code := impl.ApplyMap(x.a, x.b, x.m, x.a.Images[1]); len(f.Terms) != 0 || code != impl.ErrLimit {
		t.Errorf("ApplyMap = %v, %d", f, code)
	}
	x.m[1].Terms[100].Factor++
	if impl.IsMap(x.a, x.b, x.m) {
		t.Errorf("IsMap is true with another factor")
	}
}

func TestApplyMap(t *testing.T) {
	cases := []struct {
		mapCase
		f, want string
	}{
		{mapCase{"", "", nil}, "0", "0"},
		{mapCase{"", "2:0", nil}, "7*1", "7*1"},
		{mapCase{"2:0", "", []string{"0"}}, "5*a2+2*a+3*1", "3*1"},
		{mapCase{"2:0;3:1*a2", "2:0;3:1*a2", []string{"3*a", "9*b"}}, "0", "0"},
		{mapCase{"2:0;3:1*a2", "2:0;3:1*a2", []string{"3*a", "9*b"}}, "1*a2+1*ab+1*b+5*1", "9*a2+27*ab+9*b+5*1"},
		{mapCase{"2:0;3:1*a2", "2:0;3:1*a2", []string{"0", "0"}}, "1*a2+1*ab+1*b+5*1", "5*1"},
		{mapCase{"2:0;3:1*a2", "3:0", []string{"0", "5*a"}}, "1*ab+3*b", "15*a"},
		{mapCase{"2:0;3:1*a2", "3:7*b2;2:0", []string{"7*b", "7*a"}}, "1*a2b", "343*ab2"},
		{mapCase{"2:0", "2:0;2:0", []string{"1*a+1*b"}}, "1*a3", "1*a3+3*a2b+3*ab2+1*b3"},
		{mapCase{"2:0", "1:0;1:0;1:0;1:0", []string{"1*ab+1*cd"}}, "1*a2", "2*abcd"},
		{mapCase{"2:0", "1:0;1:0;1:0;1:0", []string{"1*ab+1*cd"}}, "1*a20+1*a3", "0"},
		{mapCase{"1:0;1:0;1:0", "1:0;1:0;1:0", []string{"1*b", "1*c", "1*a"}}, "1*abc+1*ab+1*ac", "1*abc+10006*ab+1*bc"},
		{mapCase{"1:0;1:0", "1:0;1:0", []string{"1*b", "1*a"}}, "1*ab", "10006*ab"},
		{mapCase{"1:0;1:0", "1:0;1:0", []string{"2*a+3*b", "5*a+7*b"}}, "1*ab", "10006*ab"},
		{mapCase{"1:0;2:0;1:0", "1:0;2:0;1:0", []string{"1*c", "1*b", "1*a"}}, "1*abc", "10006*abc"},
		{mapCase{"1:0;2:0;3:0", "3:0;1:0;2:0", []string{"1*b", "1*c", "1*a"}}, "1*abc+1*ab", "10006*abc+1*bc"},
		{mapCase{"3:0;3:0", "3:0", []string{"1*a", "2*a"}}, "1*ab+5*a+1*b", "7*a"},
		{mapCase{"3:0;3:0", "3:0", []string{"1*a", "2*a"}}, "10005*a+1*b", "0"},
		{mapCase{"2:0;2:0", "2:0", []string{"1*a", "1*a"}}, "1*a+10006*b", "0"},
		{mapCase{"2:0;2:0", "2:0", []string{"1*a", "1*a"}}, "1*a2+10006*ab+1*b", "1*a"},
		{mapCase{"2:0;2:0", "2:0;2:0", []string{"1*a+1*b", "1*a+10006*b"}}, "1*ab", "1*a2+10006*b2"},
		{mapCase{"2:0;3:0;4:1*ab", "2:0;3:0;4:1*ab", []string{"2*a", "3*b", "5*a2+6*c"}}, "1*abc", "30*a3b+36*abc"},
	}
	for _, c := range cases {
		x := c.mapping(t)
		f, want := parse(t, x.a.Degrees, c.f), parse(t, x.b.Degrees, c.want)
		if got, code := impl.ApplyMap(x.a, x.b, x.m, f); !sameForms(got, want) || code != impl.ErrNone {
			t.Errorf("ApplyMap(%v, %q) = %v, %d", c.mapCase, c.f, got, code)
		}
	}
}

func TestApplyMapByWords(t *testing.T) {
	r := rand.New(rand.NewSource(81))
	some, cancelled := 0, 0
	for range 2000 {
		x := randomMap(t, r, 40)
		f := randomForm(r, x.a.Degrees, 4, 2)
		want := x.imageByWords(f)
		got, code := impl.ApplyMap(x.a, x.b, x.m, f)
		if !impl.IsForm(x.b.Degrees, want) {
			if len(got.Terms) != 0 || code != impl.ErrLimit {
				t.Fatalf("ApplyMap(%v, %v) = %v, %d", x, f, got, code)
			}
			continue
		}
		if !sameForms(got, want) || code != impl.ErrNone {
			t.Fatalf("ApplyMap(%v, %v) = %v, %d, not %v", x, f, got, code, want)
		}
		if len(want.Terms) > 1 {
			some++
		} else if len(want.Terms) == 0 && len(f.Terms) > 0 && !x.isZeroMap() {
			cancelled++
		}
	}
	if some < 200 || cancelled < 20 {
		t.Errorf("only %d images with more terms, and %d that are 0", some, cancelled)
	}
}

// TestApplyMapToGenerators checks that a generator is led to its form, and 1 to 1.
func TestApplyMapToGenerators(t *testing.T) {
	for _, x := range mappingsOf(t, goodMaps()) {
		for i, f := range x.m {
			if got := applied(t, x, generator(i, 1)); !sameForms(got, f) {
				t.Errorf("%v leads the generator %d to %v", x, i, got)
			}
		}
		if one := formOf(term(1)); !sameForms(applied(t, x, one), one) {
			t.Errorf("%v does not lead 1 to 1", x)
		}
	}
}

func TestComposeMaps(t *testing.T) {
	cases := []struct {
		a, b, c string
		m, k    []string
		want    []string
	}{
		{"", "", "", nil, nil, nil},
		{"", "2:0", "", nil, []string{"0"}, nil},
		{"2:0;3:1*a2", "", "2:0;3:1*a2", []string{"0", "0"}, nil, []string{"0", "0"}},
		{"2:0;3:1*a2", "2:0;3:1*a2", "2:0;3:1*a2", []string{"3*a", "9*b"}, []string{"5*a", "25*b"}, []string{"15*a", "225*b"}},
		{"2:0;3:1*a2", "2:0;3:1*a2", "3:7*b2;2:0", []string{"3*a", "9*b"}, []string{"7*b", "7*a"}, []string{"21*b", "63*a"}},
		{"2:0;5:1*a3", "2:0;3:1*a2", "3:7*b2;2:0", []string{"1*a", "1*ab"}, []string{"7*b", "7*a"}, []string{"7*b", "49*ab"}},
		{"2:0;5:1*a3", "2:0;3:1*a2", "3:0", []string{"1*a", "1*ab"}, []string{"0", "5*a"}, []string{"0", "0"}},
		{"2:0;2:0", "2:0;2:0", "2:0;2:0", []string{"1*a+1*b", "1*a+10006*b"}, []string{"1*a+1*b", "1*a+10006*b"}, []string{"2*a", "2*b"}},
		{"2:0", "2:0;2:0", "2:0", []string{"1*a+10006*b"}, []string{"1*a", "1*a"}, []string{"0"}},
		{"2:0", eight, "2:0", []string{sumOfEight}, []string{"1*a", "2*a", "3*a", "4*a", "5*a", "6*a", "7*a", "8*a"}, []string{"36*a"}},
		{"1:0;1:0;1:0", "1:0;1:0;1:0", "1:0;1:0;1:0", []string{"1*b", "1*c", "1*a"}, []string{"1*b", "1*c", "1*a"}, []string{"1*c", "1*a", "1*b"}},
		{"3:0", "1:0;1:0;1:0", "1:0;1:0;1:0", []string{"7*abc"}, []string{"1*b", "1*a", "1*c"}, []string{"10000*abc"}},
		{"3:0", "1:0;1:0;1:0", "1:0;1:0", []string{"7*abc"}, []string{"1*b", "1*a", "1*a+1*b"}, []string{"0"}},
		{"1:1*b;2:0", "1:0;1:0;1:1*ab", "1:0;1:0;1:1*ab", []string{"4*a+1*c", "1*ab"}, []string{"1*b", "1*a", "10006*c"}, []string{"4*b+10006*c", "10006*ab"}},
	}
	for _, c := range cases {
		x, y := mapCase{c.a, c.b, c.m}.mapping(t), mapCase{c.b, c.c, c.k}.mapping(t)
		want := parseAll(t, y.b.Degrees, c.want)
		if got, code := impl.ComposeMaps(x.a, x.b, y.b, x.m, y.m); !sameFormLists(got, want) || code != impl.ErrNone {
			t.Errorf("ComposeMaps(%v) = %v, %d", c, got, code)
		}
	}
}

// TestComposeThreeMaps checks that it does not matter which two of three maps are composed first.
func TestComposeThreeMaps(t *testing.T) {
	r := rand.New(rand.NewSource(82))
	some := 0
	for range 1000 {
		x := randomMap(t, r, 40)
		y := randomMapping(r, x.b, randomTarget(t, r, x.b, 40))
		z := randomMapping(r, y.b, randomTarget(t, r, y.b, 40))
		left, right := composed(t, composed(t, x, y), z), composed(t, x, composed(t, y, z))
		if !sameFormLists(left.m, right.m) || !impl.IsMap(x.a, z.b, left.m) {
			t.Fatalf("%v, %v and %v are composed to %v and %v", x, y, z, left.m, right.m)
		}
		for i, f := range x.m {
			if want := z.imageByWords(y.imageByWords(f)); !sameForms(left.m[i], want) {
				t.Fatalf("%v, %v and %v lead the generator %d to %v, not %v", x, y, z, i, left.m[i], want)
			}
		}
		if !left.isZeroMap() {
			some++
		}
	}
	if some < 100 {
		t.Errorf("only %d compositions are not 0", some)
	}
}

// TestComposeMapsWithTheIdentity checks that the identity, on either side, changes no map.
func TestComposeMapsWithTheIdentity(t *testing.T) {
	for _, x := range mappingsOf(t, goodMaps()) {
		first := mapping{x.a, x.a, identityForms(x.a)}
		second := mapping{x.b, x.b, identityForms(x.b)}
		if !sameFormLists(composed(t, first, x).m, x.m) || !sameFormLists(composed(t, x, second).m, x.m) {
			t.Errorf("the identity changes %v", x)
		}
	}
}
