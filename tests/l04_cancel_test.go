package tests

import (
	"fmt"
	"math/rand"
	"strings"
	"testing"

	"loop.example/g01219/impl"
)

// The last three of eight generators are led to the same form. So heavy is led to 0, but its terms, on the way,
// to very many ones.
const (
	heavy    = "1*f20g20+10006*f20h20"
	mixed    = "2:0;2:0;2:0;2:0;2:0;3:0;3:0;3:0"
	sumMixed = "1*a3+6*abc+2*b3+7*bde+3*c3+4*d3+5*e3+8*fg+9*gh"
)

// heavyMap leads five generators of some degrees to forms, and the other three to the same form.
func heavyMap(degrees []int64, b string, forms []string, last string, lastDegree int64) mapCase {
	var a []string
	for _, n := range append(degrees, lastDegree, lastDegree, lastDegree) {
		a = append(a, fmt.Sprint(n, ":0"))
	}
	return mapCase{strings.Join(a, ";"), b, append(forms, last, last, last)}
}

func heavyMapToEight(degrees []int64, forms ...string) mapCase {
	return heavyMap(degrees, eight, forms, sumOfEight, 2)
}

func heavyMapToMixed(degrees []int64, forms ...string) mapCase {
	return heavyMap(degrees, mixed, forms, sumMixed, 6)
}

// checkBehind adds a form that is led to 0, with many terms on the way, to another one, and checks that the
// image is that of the other one alone, or ErrLimit if that is none. It returns the number of its terms.
func checkBehind(t *testing.T, x mapping, light impl.Form) int {
	t.Helper()
	want, wantCode := x.imageByWords(light), int64(impl.ErrNone)
	if !impl.IsForm(x.b.Degrees, want) {
		want, wantCode = impl.Form{}, impl.ErrLimit
	}
	f := sumOf(t, x.a.Degrees, parse(t, x.a.Degrees, heavy), light)
	if got, code := impl.ApplyMap(x.a, x.b, x.m, f); !sameForms(got, want) || code != wantCode {
		t.Errorf("ApplyMap(%v, %v) = %v, %d, not %v, %d", x, f, got, code, want, wantCode)
	}
	return len(want.Terms)
}

// TestImagesBehindCancellations has images that are forms, or none, with terms that have nothing to do
// with the many ones that cancel on the way.
func TestImagesBehindCancellations(t *testing.T) {
	full := heavyMapToEight([]int64{12, 4, 2, 2, 2}, "1*abcdef", "1*gh", "1*a", "1*b+1*c", "3*h")
	same := heavyMapToEight([]int64{2, 2, 2, 2, 4}, "1*a", "1*a", "1*b", "1*h", "1*a2+10006*b2")
	odd := heavyMapToMixed([]int64{3, 3, 9, 10, 2}, "1*f+1*g", "1*f+2*h", "1*fgh", "1*a2fg+1*e5+5*e2gh", "1*a+1*b")
	cases := []struct {
		x     mapCase
		light string
		want  int
	}{
		{full, "0", 0},
		{full, "7*1", 1},
		{full, "1*e", 1},
		{full, "1*c20+1*d2", 4},
		{full, "9*a20b20", 1},
		{full, "1*a20b20+10006*a19b19+5*e20", 3},
		{full, "1*a20c", 0},
		{full, "1*a20b20c", 0},
		{full, "1*b20e", 0},
		{full, "1*a19+5*a18bcd+1*a18c2+1*b", 5},
		{same, "1*a20+1*b", 2},
		{same, "1*a20b", 0},
		{same, "1*a20b+10006*c", 0},
		{same, "1*a20b+10006*ab20", 0},
		{same, "1*a20b+10006*ab20+1*c20d20", 1},
		{same, "1*a20b20c20+10006*a19b20c20", 0},
		{same, "1*a2+10006*c2+10006*e", 0},
		{same, "1*a20b2+10006*a20c2+10006*a20e", 0},
		{same, "1*a19b2+10006*a19c2+10006*a19e+4*d3", 1},
		{odd, "1*ab", 3},
		{odd, "1*a+1*b", 3},
		{odd, "1*abc", 0},
		{odd, "1*ae2+1*c", 7},
		{odd, "1*ad+1*d4", 6},
		{odd, "2*d2", 3},
		{odd, "2*d5", 0},
	}
	for _, c := range cases {
		x := c.x.mapping(t)
		if got := checkBehind(t, x, parse(t, x.a.Degrees, c.light)); got != c.want {
			t.Errorf("the image of %q by %v has %d terms", c.light, c.x.m, got)
		}
	}
}

// TestLimitOfTermsBehindCancellations meets MaxTerms, and exceeds it by one.
func TestLimitOfTermsBehindCancellations(t *testing.T) {
	x := heavyMapToEight([]int64{2, 2, 2, 2, 2}, "1*a", "1*b", "1*c+2*d+3*e+4*f", "1*a", "1*h").mapping(t)
	light := impl.Form{}
	for i := range 100 {
		light.Terms = append(light.Terms, term(7, byte(9-i/10), byte(9-i%10), 1))
	}
	cases := []struct {
		more string
		want int
	}{
		{"0", 400},
		{"1*e", 0},
		{"1*1", 0},
		{"1*a20+10006*d20", 400},
		{"1*a20b20d20+10006*a19b20d20", 0},
		{"1*a20d19+10006*a19d20", 400},
		{"1*a20d19+10006*a19d20+1*e", 0},
		{"10000*c", 396},
		{"1*a20+1*b20+10000*c+1*e20+1*1", 400},
		{"1*a20+1*b20+10000*c+1*e20+1*e+1*1", 0},
	}
	for _, c := range cases {
		f := sumOf(t, x.a.Degrees, light, parse(t, x.a.Degrees, c.more))
		if got := checkBehind(t, x, f); got != c.want {
			t.Errorf("with %q the image has %d terms", c.more, got)
		}
	}
}

// TestImagesThatDoNotCancel has the same terms on the way, but not the same end.
func TestImagesThatDoNotCancel(t *testing.T) {
	var cases []imageCase
	for _, x := range []mapCase{heavyMapToEight(nil), heavyMapToMixed(nil)} {
		for _, f := range []string{"1*a20b20+1*a20c20", "1*a20b20+10005*a20c20", "1*a20b20+10006*a20b19", "1*a20b20c20"} {
			cases = append(cases, imageCase{x, f, -1})
		}
	}
	checkImages(t, cases)
}

// TestRelationsOfImages has generators whose images are sums, products and powers of those of others, so
// that forms are led to 0 for which no two generators have the same image.
func TestRelationsOfImages(t *testing.T) {
	x := mapCase{"4:0;4:0;8:0;8:0;4:0;12:0;2:0;2:0", eight, []string{
		"1*a2+1*bc+1*de", "1*ah+1*fg+1*h2", "0", "0", "0", "0", "1*a", "1*b",
	}}.mapping(t)
	x.m[2] = productByWords(x.b.Degrees, x.m[0], x.m[1])
	x.m[3] = productByWords(x.b.Degrees, x.m[0], x.m[0])
	x.m[4] = combination([]int64{3, 5}, x.m[:2])
	x.m[5] = productByWords(x.b.Degrees, x.m[2], x.m[4])
	relations := parseAll(t, x.a.Degrees, []string{"1*ab+10006*c", "1*a2+10006*d", "3*a+5*b+10006*e", "1*ce+10006*f"})
	great := parseAll(t, x.a.Degrees, []string{"1*a18b18e18+1*a17c17d17", "1*c18d18e18f18+5*1", "1*a15b15c15d15e15f15"})
	rest := parse(t, x.a.Degrees, "1*a3+1*g20h20+2*gh")
	for _, relation := range relations {
		for _, g := range great {
			f := times(t, x.a.Degrees, relation, g)
			for _, light := range []impl.Form{{}, rest} {
				want := x.imageByWords(light)
				got, code := impl.ApplyMap(x.a, x.b, x.m, sumOf(t, x.a.Degrees, f, light))
				if !sameForms(got, want) || code != impl.ErrNone {
					t.Errorf("ApplyMap of %v times %v and %v = %v, %d", relation, g, light, got, code)
				}
			}
			f.Terms[0].Factor = f.Terms[0].Factor%10006 + 1
			if got, code := impl.ApplyMap(x.a, x.b, x.m, f); len(got.Terms) != 0 || code != impl.ErrLimit {
				t.Errorf("ApplyMap with another factor = %v, %d", got, code)
			}
		}
	}
}

// TestRandomImagesBehindCancellations compares with images made on words.
func TestRandomImagesBehindCancellations(t *testing.T) {
	r := rand.New(rand.NewSource(97))
	some, none := 0, 0
	for i := range 60 {
		degrees, forms := make([]int64, 5), make([]string, 5)
		for j := range degrees {
			degrees[j], forms[j] = 2+r.Int63n(5), "0"
		}
		x := []mapCase{heavyMapToEight(degrees, forms...), heavyMapToMixed(degrees, forms...)}[i%2].mapping(t)
		for j := range degrees {
			g := randomOfDegree(r, x.b, degrees[j])
			count := min(r.Intn(6), len(g.Terms))
			x.m[j] = formOf(g.Terms[len(g.Terms)-count:]...)
		}
		f := randomForm(r, x.a.Degrees[:5], 5, 4)
		if got := checkBehind(t, x, f); got > 1 {
			some++
		} else if !impl.IsForm(x.b.Degrees, x.imageByWords(f)) {
			none++
		}
	}
	if some < 20 || none < 2 {
		t.Errorf("only %d images with more terms, and %d that are none", some, none)
	}
}

// TestPowersThatNoByteHolds has exponents of up to 960 on the way, and few terms.
func TestPowersThatNoByteHolds(t *testing.T) {
	x := mapCase{eight, "2:0", []string{"1*a", "2*a", "3*a", "4*a", "5*a", "6*a", "7*a", "8*a"}}
	six := mapCase{"12:0;12:0;12:0;12:0;12:0;12:0;12:0;12:0", "2:0;3:0", []string{"1*a6", "10006*a6", "1*a6", "1*a6", "1*a6", "1*a6", "1*a6", "0"}}
	checkImages(t, []imageCase{
		{x, "1*a20b20c20d20e20f20g20h20", -1},
		{x, "2*a20b20c20d20e20f20g20h19+10006*a19b20c20d20e20f20g20h20", -1},
		{x, "8*a20b20c20d20e20f20g20h19+10006*a19b20c20d20e20f20g20h20", 0},
		{x, "8*a20b20c20d20e20f20g20h19+10006*a19b20c20d20e20f20g20h20+1*a+1*1", 2},
		{six, "1*a20b20c20d20e20f20g20", -1},
		{six, "1*a20b20c20d20e20f20g20h", 0},
		{six, "1*a20b19c20d20e20f20g20+1*a19b20c20d20e20f20g20", 0},
		{six, "1*a20b19c20d20e20f20g20+10006*a19b20c20d20e20f20g20", -1},
		{six, "1*a20b19c20d20e20f20g20+1*a19b20c20d20e20f20g20+1*a3", 1},
		{six, "1*a20b19c20d20e20f20g20+1*a19b20c20d20e20f20g20+1*a4", -1},
	})
}
