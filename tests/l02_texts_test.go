package tests

import (
	"math/rand"
	"regexp"
	"strconv"
	"strings"
	"testing"

	"loop.example/g01219/impl"
)

func TestAlgebraText(t *testing.T) {
	a := impl.Algebra{Degrees: []int64{2, 3}, Images: []impl.Form{{}, formOf(term(1, 2))}}
	wide := impl.Algebra{Degrees: []int64{12, 4, 11}, Images: []impl.Form{{}, {}, formOf(term(10006, 1), term(10, 0, 3))}}
	cases := []struct {
		a    impl.Algebra
		want string
	}{
		{impl.Algebra{}, ""},
		{impl.Algebra{Degrees: []int64{12}, Images: make([]impl.Form, 1)}, "12:0"},
		{a, "2:0;3:1*a2"},
		{wide, "12:0;4:0;11:10006*a+10*b3"},
	}
	for _, c := range cases {
		if got, code := impl.AlgebraText(c.a); got != c.want || code != impl.ErrNone {
			t.Errorf("AlgebraText(%v) = %q, %d", c.a, got, code)
		}
		if got, code := impl.ParseAlgebra(c.want); !sameAlgebras(got, c.a) || code != impl.ErrNone {
			t.Errorf("ParseAlgebra(%q) = %v, %d", c.want, got, code)
		}
	}
	for _, text := range goodTexts() {
		if got, code := impl.AlgebraText(algebra(t, text)); got != text || code != impl.ErrNone {
			t.Errorf("AlgebraText of %q = %q, %d", text, got, code)
		}
	}
}

func TestParseAlgebraWithoutAlgebra(t *testing.T) {
	texts := []string{
		" ", ";", ":", "2", "2:", ":0", "0", "2:0;", ";2:0", "2:0;;3:0", "2:0:0", "2::0", "2;0", "2 :0", "2: 0", " 2:0", "2:0 ", "2:0\n",
		"02:0", "+2:0", "-2:0", "2:00", "2:+0", "2:-0", "0:0", "13:0", "2.0:0", "0x2:0", "2:0;13:0", "99999999999999999999:0", "18446744073709551618:0",
		"1_2:0", "a:0", "2:a", "2:0;3:a2", "2:0;3:0*a2", "2:0;3:01*a2", "2:0;3:1*a02", "2:0;3:10007*a2", "2:0;3:1*a2+0", "2:0;3:1*a1",
		"2:0;3:1*a", "2:0;3:1*a3", "2:0;3:1*b", "2:0;3:1*c2", "2:0;3:1*1", "2:1*1;3:0", "2:0;3:1*a2+1*a2", "2:0;5:0;5:1*b2", "2:0;4:0;3:1*b+1*a2",
		"2:0;3:1*a2;4:1*ab", "4:1*bc;3:1*c2;2:0", "1:1*b;2:1*c;3:0", "2:0;3:1*a2,", "2:0,3:1*a2", "2:0;3:1*A2", "2:0;3:1*a2;", "\x00", "2:0;\xff:0",
		"1:0;1:0;1:0;1:0;1:0;1:0;1:0;1:0;1:0", "1:0;1:0;1:0;1:0;1:0;1:0;1:0;1:0;", ";1:0;1:0;1:0;1:0;1:0;1:0;1:0;1:0",
		"2:0;3:1*a2;1:0;1:0;1:0;1:0;1:0;1:0;1:1*cd",
	}
	for _, text := range texts {
		if got, code := impl.ParseAlgebra(text); !isZeroAlgebra(got) || code != impl.ErrSyntax {
			t.Errorf("ParseAlgebra(%q) = %v, %d", text, got, code)
		}
	}
	long := []string{
		strings.Repeat("1:0;", 100000), strings.Repeat(";", 100000), strings.Repeat(":", 100000), strings.Repeat("2", 100000) + ":0",
		"2:0;3:" + strings.Repeat("1*a2+", 100000) + "1*a2", "2:" + strings.Repeat("0", 100000), strings.Repeat("2:0;3:1*a2", 100000),
	}
	for _, text := range long {
		if got, code := impl.ParseAlgebra(text); !isZeroAlgebra(got) || code != impl.ErrSyntax {
			t.Errorf("ParseAlgebra(%q..) = %v, %d", text[:8], got, code)
		}
	}
}

var degreeText = regexp.MustCompile(`^([1-9]|1[0-2])$`)

// readAlgebraByGrammar reads a text as the document tells it, without chapter 2 of the program.
func readAlgebraByGrammar(text string) (impl.Algebra, bool) {
	var a impl.Algebra
	if text == "" {
		return a, true
	}
	var images []string
	for _, part := range strings.Split(text, ";") {
		words := strings.Split(part, ":")
		if len(words) != 2 || !degreeText.MatchString(words[0]) {
			return impl.Algebra{}, false
		}
		n, _ := strconv.ParseInt(words[0], 10, 64)
		a.Degrees = append(a.Degrees, n)
		images = append(images, words[1])
	}
	for _, image := range images {
		f, ok := readByGrammar(a.Degrees, image)
		if !ok || len(a.Degrees) > 8 {
			return impl.Algebra{}, false
		}
		a.Images = append(a.Images, f)
	}
	return a, isAlgebraByWords(a)
}

func TestParseAlgebraOfChangedTexts(t *testing.T) {
	r := rand.New(rand.NewSource(50))
	const letters = "0123456789+*abcdefgh;;:: -"
	good, bad := 0, 0
	for range 20000 {
		text, _ := impl.AlgebraText(randomAlgebra(t, r, 6))
		for range r.Intn(3) {
			at, letter := r.Intn(len(text)+1), string(letters[r.Intn(len(letters))])
			if r.Intn(2) == 0 || at == len(text) {
				text = text[:at] + letter + text[at:]
			} else {
				text = text[:at] + letter + text[at+1:]
			}
		}
		want, ok := readAlgebraByGrammar(text)
		got, code := impl.ParseAlgebra(text)
		if ok && (!sameAlgebras(got, want) || code != impl.ErrNone) || !ok && (!isZeroAlgebra(got) || code != impl.ErrSyntax) {
			t.Fatalf("ParseAlgebra(%q) = %v, %d", text, got, code)
		}
		if ok {
			good++
		} else {
			bad++
		}
	}
	if good < 2000 || bad < 2000 {
		t.Errorf("%d algebras and %d other texts", good, bad)
	}
}
