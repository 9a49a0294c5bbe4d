package tests

import (
	"math/rand"
	"testing"

	"loop.example/g01219/impl"
)

func checkChain(t *testing.T, x mapping, want bool) {
	t.Helper()
	if got, code := impl.IsChainMap(x.a, x.b, x.m); got != want || code != impl.ErrNone {
		t.Errorf("IsChainMap(%v) = %v, %d", x, got, code)
	}
}

func TestIsChainMap(t *testing.T) {
	for _, x := range mappingsOf(t, goodMaps()) {
		checkChain(t, x, true)
	}
	for _, x := range mappingsOf(t, otherAssignments()) {
		checkChain(t, x, false)
	}
}

// TestIsChainMapByWords has maps and others.
func TestIsChainMapByWords(t *testing.T) {
	r := rand.New(rand.NewSource(104))
	good, bad := 0, 0
	for range 2000 {
		x := changedMap(t, r)
		want := x.isMapByWords()
		checkChain(t, x, want)
		if !want {
			bad++
		} else if !x.isZeroMap() {
			good++
		}
	}
	if good < 200 || bad < 200 {
		t.Errorf("%d chain maps and %d others", good, bad)
	}
}

// fourHundred returns an assignment that leads d of the last generator of b to a form with 400 terms, which is
// d of what this generator is led to. Without the last generator of a, it leads it to a form with one more
// term.
func fourHundred(t *testing.T) mapping {
	t.Helper()
	const triples = "1*b3+1*b2c+1*b2d+1*bc2+1*bcd+1*bd2+1*c3+1*c2d+1*cd2+1*d3"
	four, a := algebra(t, "2:0;2:0;2:0;2:0"), algebra(t, "2:0;2:0;2:0;2:0;2:0;2:0;2:0")
	cube, square := parse(t, four.Degrees, "1*a3"), parse(t, four.Degrees, "1*a2")
	quarter := productByWords(four.Degrees, parse(t, four.Degrees, "1*b+1*c+1*d"), parse(t, four.Degrees, triples))
	fifth := parse(t, four.Degrees, "1*ab5+1*ab4c+1*ab4d+1*ab3c2+1*ab3cd+1*ab3d2+1*ab2c3+1*ab2c2d+1*ab2cd2+1*ab2d3+1*abc4+1*abc3d+1*b6+1*c6")
	d := combination([]int64{1, 1, 1}, []impl.Form{productByWords(four.Degrees, cube, parse(t, four.Degrees, triples)), productByWords(four.Degrees, square, quarter), fifth})
	b, code := impl.WithGenerator(four, 11, d)
	x := mapping{b, a, append(parseAll(t, a.Degrees, []string{"1*a+1*b+1*c+1*d", "1*e", "1*f", "1*g"}), impl.Form{})}
	grown, second := impl.WithGenerator(a, 11, x.imageByWords(d))
	if code != impl.ErrNone || second != impl.ErrNone {
		t.Fatalf("WithGenerator: codes %d and %d", code, second)
	}
	x.b, x.m[4] = grown, generator(7, 1)
	if count := len(x.imageByWords(d).Terms); count != 400 {
		t.Fatalf("d of the last generator is led to a form with %d terms", count)
	}
	return x
}

// withOneMore returns an assignment from an algebra in which d of the last generator has one more term.
func withOneMore(t *testing.T, x mapping) mapping {
	t.Helper()
	d := combination([]int64{1, 1}, []impl.Form{x.a.Images[4], parse(t, x.a.Degrees, "1*d6")})
	last := len(x.a.Images) - 1
	b := impl.Algebra{Degrees: x.a.Degrees, Images: append(append([]impl.Form{}, x.a.Images[:last]...), d)}
	return mapping{b, x.b, x.m}
}

// TestLimitsOfChainMaps meets MaxTerms in the form to which d of a generator is led, and exceeds it by one.
func TestLimitsOfChainMaps(t *testing.T) {
	x := fourHundred(t)
	checkChain(t, x, true)
	checkChain(t, mapping{x.a, x.b, append(append([]impl.Form{}, x.m[:4]...), impl.Form{})}, false)
	y := withOneMore(t, x)
	for _, last := range []impl.Form{generator(7, 1), {}} {
		y.m = append(append([]impl.Form{}, x.m[:4]...), last)
		if got, code := impl.IsChainMap(y.a, y.b, y.m); got || code != impl.ErrLimit {
			t.Errorf("IsChainMap with 401 terms = %v, %d", got, code)
		}
		if got, code := impl.IsModel(y.a, y.b, y.m, 2); got || code != impl.ErrLimit {
			t.Errorf("IsModel with 401 terms = %v, %d", got, code)
		}
		for _, n := range []int64{1, 11} {
			if got, code := impl.IsModel(y.a, y.b, y.m, n); got || code != impl.ErrRange {
				t.Errorf("IsModel with 401 terms up to %d = %v, %d", n, got, code)
			}
		}
	}
}

// TestLimitsOfChainMapsBehindOthers has a generator ahead of the one whose d is led to 924 terms, and already
// shows that the assignment is no chain map.
func TestLimitsOfChainMapsBehindOthers(t *testing.T) {
	x := wideMap(t)
	b := algebra(t, "2:0;3:1*a2;11:1*a6")
	for _, second := range []impl.Form{{}, generator(7, 1), generator(7, 2)} {
		m := []impl.Form{x.m[0], second, x.m[1]}
		if got, code := impl.IsChainMap(b, x.b, m); got || code != impl.ErrLimit {
			t.Errorf("IsChainMap with 924 terms = %v, %d", got, code)
		}
		if got, code := impl.IsModel(b, x.b, m, 2); got || code != impl.ErrLimit {
			t.Errorf("IsModel with 924 terms = %v, %d", got, code)
		}
	}
}

// TestChainMapsAskForNoOtherLimits has a form whose d has 924 terms, and terms that cancel.
func TestChainMapsAskForNoOtherLimits(t *testing.T) {
	x := wideMap(t)
	checkChain(t, mapping{algebra(t, "11:0"), x.b, x.m[1:]}, false)
	checkChain(t, mapping{algebra(t, "2:0;11:0"), x.b, x.m}, false)
	seven := algebra(t, "2:0;2:0;2:0;2:0;2:0;2:0;2:0")
	checkChain(t, mapping{algebra(t, "2:0;2:0;11:1*a6+10006*b6"), seven, []impl.Form{x.m[0], x.m[0], {}}}, true)
}

func TestImageOfForm(t *testing.T) {
	cases := []struct {
		mapCase
		f, want string
	}{
		{mapCase{"", "", nil}, "0", "0"},
		{mapCase{"", "2:0", nil}, "7*1", "7*1"},
		{mapCase{"2:0", "", []string{"0"}}, "5*a2+2*a+3*1", "3*1"},
		{mapCase{"2:0;3:1*a2", "2:0;3:1*a2", []string{"3*a", "9*b"}}, "1*a2+1*ab+1*b+5*1", "9*a2+27*ab+9*b+5*1"},
		{mapCase{"2:0;3:1*a2", "2:0;3:1*a2", []string{"3*a", "1*b"}}, "1*a2+1*ab+1*b+5*1", "9*a2+3*ab+1*b+5*1"},
		{mapCase{"2:0;3:1*a2", "2:0", []string{"3*a", "0"}}, "1*a20+1*ab", "5363*a20"},
		{mapCase{"3:0;3:0", "2:0;3:1*a2", []string{"1*b", "2*b"}}, "1*ab+5*a+1*b", "7*b"},
		{mapCase{"1:0;1:0;1:1*ab", "1:0;1:0;1:1*ab", []string{"1*b", "1*a", "1*c"}}, "1*abc+1*ac", "10006*abc+1*bc"},
		{mapCase{"2:0;2:0;3:1*a2+1*b2", "2:0", []string{"1*a", "1*a", "0"}}, "1*a2+10006*ab+1*b", "1*a"},
		{mapCase{"2:0", "1:0;1:0;1:0;1:1*bc", []string{"1*ab+1*cd"}}, "1*a2+1*a", "2*abcd+1*ab+1*cd"},
		{mapCase{"2:0;4:0", "2:0;2:0", []string{"1*a+1*b", "1*a2+2*ab+1*b2"}}, "1*a20b5+10006*a18b6+1*a2", "1*a2+2*ab+1*b2"},
	}
	for _, c := range cases {
		x := c.mapping(t)
		f, want := parse(t, x.a.Degrees, c.f), parse(t, x.b.Degrees, c.want)
		if got, code := impl.ImageOfForm(x.a, x.b, x.m, f); !sameForms(got, want) || code != impl.ErrNone {
			t.Errorf("ImageOfForm(%v, %q) = %v, %d", c.mapCase, c.f, got, code)
		}
	}
}

// randomAssignment returns an assignment, mostly no chain map.
func randomAssignment(t *testing.T, r *rand.Rand, most int) mapping {
	t.Helper()
	x := mapping{a: smallAlgebra(t, r, 13, most), b: smallAlgebra(t, r, 13, most)}
	for _, n := range x.a.Degrees {
		f := randomOfDegree(r, x.b, n)
		x.m = append(x.m, formOf(f.Terms[:min(len(f.Terms), r.Intn(4))]...))
	}
	return x
}

func TestImageOfFormByWords(t *testing.T) {
	r := rand.New(rand.NewSource(105))
	some, others := 0, 0
	for range 2000 {
		x := randomAssignment(t, r, 60)
		f := randomForm(r, x.a.Degrees, 4, 3)
		want, wantCode := x.imageByWords(f), int64(impl.ErrNone)
		if !impl.IsForm(x.b.Degrees, want) {
			want, wantCode = impl.Form{}, impl.ErrLimit
		}
		if got, code := impl.ImageOfForm(x.a, x.b, x.m, f); !sameForms(got, want) || code != wantCode {
			t.Fatalf("ImageOfForm(%v, %v) = %v, %d, not %v, %d", x, f, got, code, want, wantCode)
		}
		if len(want.Terms) > 1 {
			some++
		}
		if !impl.IsMap(x.a, x.b, x.m) {
			others++
		}
	}
	if some < 150 || others < 200 {
		t.Errorf("only %d images with more terms, and %d assignments that are no maps", some, others)
	}
}

// TestLimitsOfImagesOfForms meets MaxTerms and MaxPower, and exceeds them by one, also behind many terms that
// cancel.
func TestLimitsOfImagesOfForms(t *testing.T) {
	pairs := mapCase{"2:0;2:0;2:0;3:1*a2", "2:0;2:0;2:0;2:0;2:0;3:0", []string{"1*a+1*b", "1*c+2*d", "1*e", "1*f"}}
	same := heavyMapToEight([]int64{2, 2, 2, 2, 2}, "1*a", "1*a", "1*b", "1*c", "1*h")
	imageCall(impl.ImageOfForm).check(t, []imageCase{
		{pairs, "1*a19b19", 400},
		{pairs, "1*a20b18+1*c", 400},
		{pairs, "1*a19b19+1*d", -1},
		{pairs, "1*a19b20", -1},
		{pairs, "1*c20d", 1},
		{same, "1*a20b+1*c", -1},
		{same, "1*a19b+1*c", 2},
		{same, "1*f20g20+10006*f20h20", 0},
		{same, "1*a20b+10006*c+1*f20g20+10006*f20h20", -1},
		{same, "1*a19b+10006*c+1*f20g20+10006*f20h20", 2},
		{same, "1*f20g20+10005*f20h20", -1},
	})
}

func TestIsModel(t *testing.T) {
	const sphere, plane, heisenberg = "2:0;3:1*a2", "2:0;5:1*a3", "1:0;1:0;1:1*ab"
	cases := []struct {
		mapCase
		n    int64
		want bool
	}{
		{mapCase{"", "", nil}, 2, true},
		{mapCase{"", "", nil}, 10, true},
		{mapCase{"", "1:1*b;2:0", nil}, 10, true},
		{mapCase{"1:1*b;2:0", "", []string{"0", "0"}}, 10, true},
		{mapCase{"", "12:0", nil}, 10, true},
		{mapCase{"", "10:0", nil}, 9, true},
		{mapCase{"", "10:0", nil}, 10, false},
		{mapCase{"11:0", "", []string{"0"}}, 9, true},
		{mapCase{"11:0", "", []string{"0"}}, 10, false},
		{mapCase{"12:0", "", []string{"0"}}, 10, true},
		{mapCase{"", "1:0", nil}, 2, false},
		{mapCase{"", sphere, nil}, 2, false},
		{mapCase{sphere, sphere, []string{"1*a", "1*b"}}, 10, true},
		{mapCase{sphere, sphere, []string{"3*a", "9*b"}}, 10, true},
		{mapCase{sphere, sphere, []string{"0", "0"}}, 2, false},
		{mapCase{sphere, sphere, []string{"3*a", "3*b"}}, 2, false},
		{mapCase{sphere, "3:7*b2;2:0", []string{"1*b", "7148*a"}}, 10, true},
		{mapCase{"2:0", sphere, []string{"1*a"}}, 2, true},
		{mapCase{"2:0", sphere, []string{"1*a"}}, 3, false},
		{mapCase{"2:0", plane, []string{"5*a"}}, 4, true},
		{mapCase{"2:0", plane, []string{"5*a"}}, 5, false},
		{mapCase{sphere, plane, []string{"0", "0"}}, 2, false},
		{mapCase{plane, sphere, []string{"1*a", "1*ab"}}, 2, true},
		{mapCase{plane, sphere, []string{"1*a", "1*ab"}}, 3, false},
		{mapCase{"2:0;2:0", "2:0", []string{"1*a", "1*a"}}, 2, false},
		{mapCase{"2:0", "2:0;2:0", []string{"1*a"}}, 2, false},
		{mapCase{"2:0;2:0", "2:0;2:0", []string{"1*a+1*b", "1*a+10006*b"}}, 10, true},
		{mapCase{"2:0;2:0", "2:0;2:0", []string{"1*a+1*b", "2*a+2*b"}}, 10, false},
		{mapCase{heisenberg, heisenberg, []string{"1*a", "1*b", "1*c"}}, 10, true},
		{mapCase{"1:0;1:0", "1:0;1:0", []string{"1*b", "1*a"}}, 10, true},
		{mapCase{"1:0", "1:0;1:0", []string{"1*b"}}, 2, false},
		{mapCase{"3:0", "1:1*bc;1:1*ac;1:1*ab", []string{"5*abc"}}, 10, true},
		{mapCase{sphere, "2:0;3:1*a2;3:1*d;4:0", []string{"1*a", "1*b"}}, 10, true},
		{mapCase{"2:0;3:1*a2;3:1*d;4:0", sphere, []string{"1*a", "1*b", "0", "0"}}, 10, true},
	}
	for _, c := range cases {
		x := c.mapping(t)
		if got, code := impl.IsModel(x.a, x.b, x.m, c.n); got != c.want || code != impl.ErrNone {
			t.Errorf("IsModel(%v, %d) = %v, %d", c.mapCase, c.n, got, code)
		}
	}
	for _, x := range mappingsOf(t, otherAssignments()) {
		for n := int64(2); n <= impl.MaxModel; n++ {
			if got, code := impl.IsModel(x.a, x.b, x.m, n); got || code != impl.ErrNone {
				t.Errorf("IsModel(%v, %d) = %v, %d", x, n, got, code)
			}
		}
	}
}

// TestIsModelByWords asks for models and maps, also for one degree more than they are models up to.
func TestIsModelByWords(t *testing.T) {
	r := rand.New(rand.NewSource(106))
	good, bad, ended := 0, 0, 0
	for range 400 {
		n := 2 + r.Int63n(8)
		a := simpleAlgebra(t, r, 11, 60)
		b, images, code := impl.MinimalModel(a, n)
		list := []mapping{{b, a, images}, randomMap(t, r, 60)}
		for _, x := range list {
			if code != impl.ErrNone || mostMonomials(x.a, n+3) > 60 {
				continue
			}
			for _, m := range []int64{n, n + 1} {
				want := isModelByWords(t, x, m)
				if got, code := impl.IsModel(x.a, x.b, x.m, m); got != want || code != impl.ErrNone {
					t.Fatalf("IsModel(%v, %d) = %v, %d", x, m, got, code)
				}
				switch {
				case want:
					good++
				case m > n:
					ended++
				default:
					bad++
				}
			}
		}
	}
	if good < 100 || bad < 100 || ended < 100 {
		t.Errorf("%d models, %d maps that are none, and %d models up to one degree less", good, bad, ended)
	}
}
