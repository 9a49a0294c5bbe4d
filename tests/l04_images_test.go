package tests

import (
	"strings"
	"testing"

	"loop.example/g01219/impl"
)

// imageCase has the number of terms of an image, -1 if it is no form.
type imageCase struct {
	mapCase
	f    string
	want int
}

// imageCall is ApplyMap or ImageOfForm.
type imageCall func(a, b impl.Algebra, m []impl.Form, f impl.Form) (impl.Form, int64)

func (call imageCall) check(t *testing.T, cases []imageCase) {
	t.Helper()
	for _, c := range cases {
		x := c.mapping(t)
		want := int64(impl.ErrNone)
		if c.want < 0 {
			want = impl.ErrLimit
		}
		got, code := call(x.a, x.b, x.m, parse(t, x.a.Degrees, c.f))
		if code != want || len(got.Terms) != max(c.want, 0) || !impl.IsForm(x.b.Degrees, got) {
			t.Errorf("the image of %q by %v has %d terms, code %d", c.f, c.mapCase, len(got.Terms), code)
		}
	}
}

func checkImages(t *testing.T, cases []imageCase) {
	t.Helper()
	imageCall(impl.ApplyMap).check(t, cases)
}

// TestLimitOfTermsOfImages meets MaxTerms, and exceeds it by one.
func TestLimitOfTermsOfImages(t *testing.T) {
	pairs := mapCase{"2:0;2:0;2:0", "2:0;2:0;2:0;2:0;2:0", []string{"1*a+1*b", "1*c+2*d", "1*e"}}
	checkImages(t, []imageCase{
		{pairs, "1*a19b19", 400},
		{pairs, "1*a20b18", 399},
		{pairs, "1*a20b18+1*c", 400},
		{pairs, "1*a20b18+1*c2+1*c", -1},
		{pairs, "1*a19b19+1*c", -1},
		{pairs, "1*a19b19+1*1", -1},
		{pairs, "1*a19b20", -1},
		{pairs, "1*a20b20", -1},
	})
	x := mapCase{"2:0;2:0", "2:0;2:0", []string{"1*b", "1*a"}}.mapping(t)
	f := applied(t, x, grid(400, 7))
	if len(f.Terms) != 400 || !sameForms(applied(t, x, f), grid(400, 7)) {
		t.Errorf("exchanged twice, 400 terms are not the same again")
	}
}

// TestLimitOfPowersOfImages meets MaxPower, and exceeds it by one or by so much that no byte holds the
// exponents.
func TestLimitOfPowersOfImages(t *testing.T) {
	square := mapCase{"4:0;2:0;3:0;3:0", "2:0;3:0", []string{"1*a2", "1*a", "1*b", "2*b"}}
	six := mapCase{"12:0;12:0;12:0;12:0", "2:0", []string{"1*a6", "1*a6", "3*a6", "0"}}
	checkImages(t, []imageCase{
		{square, "1*a10", 1},
		{square, "1*a11", -1},
		{square, "1*a9b2", 1},
		{square, "1*a10b", -1},
		{square, "1*b20", 1},
		{square, "1*ab18c", 1},
		{square, "1*ab19c", -1},
		{square, "1*a20b20", -1},
		{square, "1*a11+1*b2", -1},
		{six, "1*a3", 1},
		{six, "1*a4", -1},
		{six, "1*a20b20c20", -1},
		{six, "1*a20b20c20d", 0},
		{six, "1*a20b20c20+1*a", -1},
	})
}

// TestImagesWhoseTermsCancel has images that are beyond the limits but for terms that cancel.
func TestImagesWhoseTermsCancel(t *testing.T) {
	square := mapCase{"4:0;2:0;3:0;3:0", "2:0;3:0", []string{"1*a2", "1*a", "1*b", "2*b"}}
	same := mapCase{"2:0;2:0;2:0", "2:0;2:0;2:0;2:0", []string{"1*a+1*b+1*c+1*d", "1*a+1*b+1*c+1*d", "1*a"}}
	opposite := mapCase{"2:0;2:0", "2:0;2:0;2:0", []string{"1*a+2*b+3*c", "10006*a+10005*b+10004*c"}}
	eighths := mapCase{"8:0;8:0;8:0;8:0;8:0;8:0;8:0;8:0", "2:0;2:0", []string{"1*a4", "1*a4", "1*a4", "1*a4", "1*b4", "1*b4", "1*b4", "1*b4"}}
	checkImages(t, []imageCase{
		{square, "1*a20cd", 0},
		{square, "1*a20b20cd+1*b", 1},
		{square, "1*a11+10006*a10b2", 0},
		{same, "1*a20+10006*b20", 0},
		{same, "1*a20+10006*b20+1*c20", 1},
		{same, "1*a20+10005*b20", -1},
		{same, "1*a20+1*b20", -1},
		{same, "1*a20c20+10006*b20c20", 0},
		{opposite, "1*a20+10006*b20", 0},
		{opposite, "1*a19+1*b19", 0},
		{opposite, "1*a20+1*b20", 231},
		{opposite, "1*a20b+1*ab20", 0},
		{opposite, "1*a20b+10006*ab20", -1},
		{eighths, "1*a20b20c20d4+10006*e20f20g20h4", -1},
		{eighths, "1*a20b20c20d4", -1},
		{eighths, "1*a20b20c20d4+10006*a20b20c4d20", 0},
		{eighths, "1*a5+1*e5", 2},
		{eighths, "1*a5e5", 1},
	})
}

// TestGreatImages has images with more monomials than any memory holds, and some whose terms cancel
// or are 0 because of odd generators.
func TestGreatImages(t *testing.T) {
	sums := strings.Split(strings.Repeat(sumOfEight+";", 7)+"1*a+2*b+3*c+4*d+5*e+6*f+7*g+8*h", ";")
	all := mapCase{eight, eight, sums}
	odd := mapCase{"2:0;2:0;2:0;2:0;2:0;3:0;3:0;3:0", "2:0;2:0;2:0;2:0;2:0;2:0;3:0;3:0", []string{
		"1*a+1*b+1*c+1*d+1*e+1*f", "1*a+2*b+3*c+4*d+5*e+6*f", "1*a+3*b", "1*f", "1*a", "1*g+1*h", "2*g+2*h", "1*g",
	}}
	checkImages(t, []imageCase{
		{all, "1*a20", -1},
		{all, "1*a20b20c20d20e20f20g20h20", -1},
		{all, "1*a20b20c20d20e20f20g20h20+1*h20", -1},
		{all, "1*a4", 330},
		{all, "1*a5", -1},
		{all, "1*a8+10006*b8", 0},
		{odd, "1*a20b20c20d20e20fg", 0},
		{odd, "1*a20b20c20d20e20fgh+1*d20h", 1},
		{odd, "1*a20b20c20d20e20fh", -1},
		{odd, "1*a20b20c20d20e20f", -1},
	})
}

// TestImagesThatTakeMuchWork has an image that is 0 in the end only, behind more terms than any memory
// holds.
func TestImagesThatTakeMuchWork(t *testing.T) {
	sums := []string{sumOfEight, sumOfEight, "1*a+2*b+3*c+4*d+5*e+6*f+7*g+8*h", "1*a+4*b+9*c+1*d", "1*e+1*f+2*g+3*h", "0", "0", "0"}
	checkImages(t, []imageCase{
		{mapCase{eight, eight, sums}, "1*a20c20d20e20+10006*b20c20d20e20", 0},
		{mapCase{eight, eight, sums}, "1*a20c20d20e20+10005*b20c20d20e20", -1},
	})
}

// TestLimitsOfCompositions has 400 and 401 terms. Exponents are never greater than six.
func TestLimitsOfCompositions(t *testing.T) {
	y := mapCase{"2:0;2:0;2:0", eight, []string{"1*a+1*b+1*c+1*d", "1*e+1*f+1*g+1*h", "1*a"}}.mapping(t)
	cases := []struct {
		forms []string
		want  int
	}{
		{[]string{"1*a3b3"}, 400},
		{[]string{"1*a3b3+1*c6"}, -1},
		{[]string{"1*a6"}, 84},
		{[]string{"1*a6+1*a3b3"}, -1},
		{[]string{"1*c6", "1*a3b3+1*c6"}, -1},
		{[]string{"1*a3b3+1*c6", "1*c6"}, -1},
		{[]string{"1*a3b3", "0", "1*c6"}, 400},
	}
	for _, c := range cases {
		a, _ := impl.FreeAlgebra([]int64{12, 12, 12}[:len(c.forms)])
		m := parseAll(t, y.a.Degrees, c.forms)
		got, code := impl.ComposeMaps(a, y.a, y.b, m, y.m)
		if c.want < 0 && (len(got) != 0 || code != impl.ErrLimit) {
			t.Errorf("ComposeMaps with %q = %v, %d", c.forms, got, code)
		}
		if c.want >= 0 && (len(got) != len(m) || len(got[0].Terms) != c.want || code != impl.ErrNone) {
			t.Errorf("ComposeMaps with %q = %v, %d", c.forms, got, code)
		}
	}
}
