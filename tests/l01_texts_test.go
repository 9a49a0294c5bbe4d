package tests

import (
	"math/rand"
	"regexp"
	"strconv"
	"strings"
	"testing"

	"loop.example/g01219/impl"
)

func TestFormText(t *testing.T) {
	cases := []struct {
		degrees []int64
		f       impl.Form
		want    string
	}{
		{nil, impl.Form{}, "0"},
		{nil, formOf(term(7)), "7*1"},
		{[]int64{2, 3}, formOf(term(5, 2), term(1, 1, 1)), "5*a2+1*ab"},
		{[]int64{2, 3}, formOf(term(10006, 20, 1), term(10, 0, 1), term(1)), "10006*a20b+10*b+1*1"},
		{[]int64{1, 2, 3, 4, 5, 6, 7, 8}, formOf(term(3, 1, 2, 1, 10, 1, 1, 1, 19)), "3*ab2cd10efgh19"},
		{[]int64{1, 2, 3, 4, 5, 6, 7, 8}, formOf(term(3, 0, 0, 0, 0, 0, 0, 0, 1)), "3*h"},
	}
	for _, c := range cases {
		if got, code := impl.FormText(c.degrees, c.f); got != c.want || code != impl.ErrNone {
			t.Errorf("FormText(%v, %v) = %q, %d", c.degrees, c.f, got, code)
		}
		if got, code := impl.ParseForm(c.degrees, c.want); !sameForms(got, c.f) || code != impl.ErrNone {
			t.Errorf("ParseForm(%v, %q) = %v, %d", c.degrees, c.want, got, code)
		}
	}
}

func TestParseFormWithoutForm(t *testing.T) {
	degrees := []int64{2, 3, 4}
	texts := []string{
		"", " ", "0 ", " 0", "00", "-0", "0+0", "0*1", "0*a", "1*0", "1", "5", "a", "1a", "*a", "1*", "*", "+",
		"1*a+", "+1*a", "1*a++1*b", "1*a+0", "0+1*a", "1*a*b", "1**a", "1*a1", "1*a0", "1*a02", "1*a21", "1*a256", "1*a258",
		"1*a99999999999999999999", "1*b2", "1*b1", "1*b0", "1*ba", "1*aa", "1*a2a3", "1*1a", "1*a1b", "1*11", "1*12", "1*d", "1*A",
		"1*i", "1*`", "1*h", "01*a", "1_0*a", "+1*a", "-1*a", "10007*a", "10008*a", "18446744073709551617*a",
		"1*ab+1*a2", "1*a+1*a", "1*1+1*a", "1*a+1*b+1*a", "1 *a", "1* a", "1*a +1*b", "1*a\n", "1*\xff", "1*é", "\x00", "1.0*a", "0x1*a",
	}
	for _, text := range texts {
		if got, code := impl.ParseForm(degrees, text); len(got.Terms) != 0 || code != impl.ErrSyntax {
			t.Errorf("ParseForm(%q) = %v, %d", text, got, code)
		}
	}
	for _, text := range []string{"1*a", "a"} {
		if got, code := impl.ParseForm(nil, text); len(got.Terms) != 0 || code != impl.ErrSyntax {
			t.Errorf("ParseForm without generators of %q = %v, %d", text, got, code)
		}
	}
	for _, text := range []string{strings.Repeat("1*a+", 100000), strings.Repeat("a", 100000), "1*" + strings.Repeat("a", 100000), strings.Repeat("9", 100000) + "*a", "1*a" + strings.Repeat("9", 100000)} {
		if got, code := impl.ParseForm(degrees, text); len(got.Terms) != 0 || code != impl.ErrSyntax {
			t.Errorf("ParseForm(%q..) = %v, %d", text[:8], got, code)
		}
	}
}

func TestTextsAtTheLimitOfTerms(t *testing.T) {
	degrees := []int64{2, 2}
	text, code := impl.FormText(degrees, grid(400, impl.FieldPrime-1))
	if code != impl.ErrNone || strings.Count(text, "+") != 399 {
		t.Fatalf("FormText of 400 terms = %q, %d", text, code)
	}
	if got, code := impl.ParseForm(degrees, text); !sameForms(got, grid(400, impl.FieldPrime-1)) || code != impl.ErrNone {
		t.Errorf("ParseForm of 400 terms: %d terms, code %d", len(got.Terms), code)
	}
	// The next monomial of the grid behind the 400 ones.
	if got, code := impl.ParseForm(degrees, text+"+1*ab19"); len(got.Terms) != 0 || code != impl.ErrSyntax {
		t.Errorf("ParseForm of 401 terms: %d terms, code %d", len(got.Terms), code)
	}
	if got, code := impl.FormText(degrees, grid(401, 1)); got != "" || code != impl.ErrInvalid {
		t.Errorf("FormText of 401 terms = %q, %d", got, code)
	}
}

// grammar is the spelling of a term that is not 0; the order and the degrees are checked apart.
var grammar = regexp.MustCompile(`^([1-9][0-9]{0,4})\*(1|(?:[a-h](?:[2-9]|1[0-9]|20)?)+)$`)
var power = regexp.MustCompile(`([a-h])([0-9]*)`)

// readByGrammar reads a text as the document tells it, without the program.
func readByGrammar(degrees []int64, text string) (impl.Form, bool) {
	var f impl.Form
	if text == "0" {
		return f, true
	}
	for _, part := range strings.Split(text, "+") {
		words := grammar.FindStringSubmatch(part)
		if words == nil {
			return impl.Form{}, false
		}
		t := term(0)
		t.Factor, _ = strconv.ParseInt(words[1], 10, 64)
		last := -1
		for _, letter := range power.FindAllStringSubmatch(words[2], -1) {
			i := int(letter[1][0] - 'a')
			if i <= last || i >= len(degrees) || letter[2] != "" && degrees[i]%2 == 1 {
				return impl.Form{}, false
			}
			last = i
			e, _ := strconv.Atoi(letter[2])
			t.Monomial[i] = byte(max(e, 1))
		}
		f.Terms = append(f.Terms, t)
	}
	sum := map[impl.Monomial]int64{}
	for _, t := range f.Terms {
		sum[t.Monomial] = t.Factor
	}
	return f, len(f.Terms) <= impl.MaxTerms && sameForms(f, formOfSum(sum))
}

func TestParseFormOfChangedTexts(t *testing.T) {
	r := rand.New(rand.NewSource(4))
	const letters = "0123456789+*abcdefghi -"
	for range 30000 {
		degrees := randomDegrees(r)
		text, _ := impl.FormText(degrees, randomForm(r, degrees, 3, 20))
		for range r.Intn(3) {
			at, letter := r.Intn(len(text)+1), string(letters[r.Intn(len(letters))])
			if r.Intn(2) == 0 || at == len(text) {
				text = text[:at] + letter + text[at:]
			} else {
				text = text[:at] + letter + text[at+1:]
			}
		}
		want, ok := readByGrammar(degrees, text)
		got, code := impl.ParseForm(degrees, text)
		if ok && (!sameForms(got, want) || code != impl.ErrNone) || !ok && (len(got.Terms) != 0 || code != impl.ErrSyntax) {
			t.Fatalf("ParseForm(%v, %q) = %v, %d", degrees, text, got, code)
		}
	}
}
