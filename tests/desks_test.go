package tests

import (
	"math/rand"
	"slices"
	"strconv"
	"strings"
	"testing"

	"loop.example/g01219/impl"
)

// deskTexts has the texts of the first algebra, the second one, and the form of a desk.
type deskTexts struct {
	first, second, form string
}

func (x deskTexts) desk(t *testing.T) impl.Desk {
	t.Helper()
	first := algebra(t, x.first)
	return impl.Desk{First: first, Second: algebra(t, x.second), Form: parse(t, first.Degrees, x.form)}
}

// newTexts are those of the new desk.
var newTexts = deskTexts{"2:0;3:1*a2", "2:0;3:1*a2", "0"}

func sameDesks(d, e impl.Desk) bool {
	return sameAlgebras(d.First, e.First) && sameAlgebras(d.Second, e.Second) && sameForms(d.Form, e.Form)
}

func isZeroDesk(d impl.Desk) bool {
	return isZeroAlgebra(d.First) && isZeroAlgebra(d.Second) && len(d.Form.Terms) == 0
}

// isDeskByParts tells what a desk is without IsDesk.
func isDeskByParts(d impl.Desk) bool {
	return impl.IsAlgebra(d.First) && impl.IsAlgebra(d.Second) && impl.IsForm(d.First.Degrees, d.Form)
}

// checkLine checks the output of a line on a desk, and the desk behind it.
func checkLine(t *testing.T, d impl.Desk, line string, output string, want impl.Desk) {
	t.Helper()
	next, got := impl.RunLine(d, line)
	if got != output || !sameDesks(next, want) {
		t.Errorf("RunLine(%v, %q) = %v, %q; want %v, %q", d, line, next, got, want, output)
	}
	if !isDeskByParts(next) || !impl.IsDesk(next) {
		t.Errorf("RunLine(%v, %q) = %v, which is no desk", d, line, next)
	}
}

// checkRefused checks that a line has the output error and changes nothing.
func checkRefused(t *testing.T, d impl.Desk, line string) {
	t.Helper()
	checkLine(t, d, line, "error", d)
}

// outcome is what a row of the chapter's table tells of a line.
type outcome struct {
	desk   impl.Desk
	output string
	code   int64
}

func givesFirst(d impl.Desk, a impl.Algebra, code int64) outcome {
	text, _ := impl.AlgebraText(a)
	return outcome{impl.Desk{First: a, Second: d.Second}, text, code}
}

func givesForm(d impl.Desk, f impl.Form, code int64) outcome {
	text, _ := impl.FormText(d.First.Degrees, f)
	return outcome{impl.Desk{First: d.First, Second: d.Second, Form: f}, text, code}
}

func answers(d impl.Desk, yes bool, code int64) outcome {
	return outcome{d, map[bool]string{true: "yes", false: "no"}[yes], code}
}

func counts(d impl.Desk, n int64, code int64) outcome {
	return lists(d, []int64{n}, code)
}

func lists(d impl.Desk, numbers []int64, code int64) outcome {
	output := ""
	for i, n := range numbers {
		if i > 0 {
			output += " "
		}
		output += strconv.FormatInt(n, 10)
	}
	return outcome{d, output, code}
}

// textCommands returns the commands that a text follows.
func textCommands() []string {
	return strings.Fields("first second form plus times")
}

// commandsOf returns the commands that a count of numbers follows.
func commandsOf(count int) []string {
	return strings.Fields([]string{
		"swap product reduce sort quadratic show other d primitive closed boundary class ranks minimal pure coformal filtration dimension reset",
		"sphere unitary torus heisenberg with model betti rank length stop series loops euler homology",
		"projective pages",
	}[count])
}

// noRow is the code of what is none of the table's lines.
const noRow = -1

var unknown = outcome{code: noRow}

// makerByTable has the lines without numbers that put something on the desk.
func makerByTable(d impl.Desk, command string) outcome {
	switch command {
	case "swap":
		text, _ := impl.AlgebraText(d.Second)
		return outcome{impl.Desk{First: d.Second, Second: d.First}, text, impl.ErrNone}
	case "product":
		a, code := impl.ProductOfAlgebras(d.First, d.Second)
		return givesFirst(d, a, code)
	case "reduce":
		a, _, code := impl.ReduceAlgebra(d.First)
		return givesFirst(d, a, code)
	case "sort":
		a, _, code := impl.SortGenerators(d.First)
		return givesFirst(d, a, code)
	case "quadratic":
		a, code := impl.QuadraticAlgebra(d.First)
		return givesFirst(d, a, code)
	case "d":
		f, code := impl.DifferentialOfForm(d.First, d.Form)
		return givesForm(d, f, code)
	case "primitive":
		f, code := impl.PrimitiveOf(d.First, d.Form)
		return givesForm(d, f, code)
	case "reset":
		return outcome{impl.NewDesk(), "ok", impl.ErrNone}
	}
	return unknown
}

// askerByTable has the lines without numbers that change nothing.
func askerByTable(d impl.Desk, command string) outcome {
	switch command {
	case "show":
		text, code := impl.AlgebraText(d.First)
		return outcome{d, text, code}
	case "other":
		text, code := impl.AlgebraText(d.Second)
		return outcome{d, text, code}
	case "closed":
		yes, code := impl.IsClosed(d.First, d.Form)
		return answers(d, yes, code)
	case "boundary":
		yes, code := impl.IsBoundary(d.First, d.Form)
		return answers(d, yes, code)
	case "minimal":
		yes, code := impl.IsMinimal(d.First)
		return answers(d, yes, code)
	case "pure":
		yes, code := impl.IsPure(d.First)
		return answers(d, yes, code)
	case "coformal":
		yes, code := impl.IsCoformal(d.First)
		return answers(d, yes, code)
	case "class":
		numbers, code := impl.ClassOf(d.First, d.Form)
		return lists(d, numbers, code)
	case "ranks":
		numbers, code := impl.RanksOf(d.First)
		return lists(d, numbers, code)
	case "filtration":
		p, code := impl.FiltrationOf(d.First, d.Form)
		return counts(d, p, code)
	case "dimension":
		n, code := impl.FormalDimension(d.First)
		return counts(d, n, code)
	}
	return unknown
}

// numberedByTable has the lines with one number.
func numberedByTable(d impl.Desk, command string, n int64) outcome {
	makers := map[string]func(int64) (impl.Algebra, int64){
		"sphere": impl.SphereModel, "unitary": impl.UnitaryModel, "torus": impl.TorusModel, "heisenberg": impl.HeisenbergModel,
		"with": func(n int64) (impl.Algebra, int64) { return impl.WithGenerator(d.First, n, d.Form) },
		"model": func(n int64) (impl.Algebra, int64) {
			a, _, code := impl.MinimalModel(d.First, n)
			return a, code
		},
	}
	manyNumbers := map[string]func(impl.Algebra, int64) ([]int64, int64){
		"betti": impl.BettiNumbers, "loops": impl.LoopSeries,
		"series": func(a impl.Algebra, n int64) ([]int64, int64) { return impl.FreeSeries(a.Degrees, n) },
	}
	numbers := map[string]func(impl.Algebra, int64) (int64, int64){
		"rank": impl.RankOfD, "length": impl.LengthOfProducts, "stop": impl.PagesStopAt, "euler": impl.EulerUpTo, "homology": impl.HomologyRank,
	}
	if call, found := makers[command]; found {
		a, code := call(n)
		return givesFirst(d, a, code)
	}
	if call, found := manyNumbers[command]; found {
		list, code := call(d.First, n)
		return lists(d, list, code)
	}
	if call, found := numbers[command]; found {
		number, code := call(d.First, n)
		return counts(d, number, code)
	}
	return unknown
}

// writtenByTable has the lines with a text.
func writtenByTable(d impl.Desk, command string, text string) outcome {
	switch command {
	case "first":
		a, code := impl.ParseAlgebra(text)
		return givesFirst(d, a, code)
	case "second":
		b, code := impl.ParseAlgebra(text)
		return outcome{impl.Desk{First: d.First, Second: b, Form: d.Form}, text, code}
	}
	f, code := impl.ParseForm(d.First.Degrees, text)
	if code != impl.ErrNone {
		return unknown
	}
	switch command {
	case "form":
		return givesForm(d, f, code)
	case "plus":
		sum, code := impl.AddForms(d.First.Degrees, d.Form, f)
		return givesForm(d, sum, code)
	case "times":
		product, code := impl.MultiplyForms(d.First.Degrees, d.Form, f)
		return givesForm(d, product, code)
	}
	return unknown
}

// isNumber reports whether a word is a number of the chapter, letter by letter.
func isNumber(word string) bool {
	for _, letter := range []byte(word) {
		if letter < '0' || letter > '9' {
			return false
		}
	}
	return word == "0" || word != "" && len(word) <= 9 && word[0] != '0'
}

// lineByTable tells what becomes of a line by the rows of the chapter's table.
func lineByTable(d impl.Desk, line string) (impl.Desk, string) {
	words := strings.Split(line, " ")
	var numbers []int64
	for _, word := range words[1:] {
		if n, err := strconv.ParseInt(word, 10, 64); isNumber(word) && err == nil {
			numbers = append(numbers, n)
		}
	}
	x := unknown
	switch {
	case slices.Contains(textCommands(), words[0]):
		if len(words) > 1 {
			x = writtenByTable(d, words[0], line[len(words[0])+1:])
		}
	case len(numbers) != len(words)-1: // one of the words is no number
	case len(numbers) == 0:
		if x = makerByTable(d, words[0]); x.code == noRow {
			x = askerByTable(d, words[0])
		}
	case len(numbers) == 1:
		x = numberedByTable(d, words[0], numbers[0])
	case len(numbers) == 2 && words[0] == "projective":
		a, code := impl.ProjectiveModel(numbers[0], numbers[1])
		x = givesFirst(d, a, code)
	case len(numbers) == 2 && words[0] == "pages":
		row, code := impl.PageRow(d.First, numbers[0], numbers[1])
		x = lists(d, row, code)
	}
	if x.code != impl.ErrNone {
		return d, "error"
	}
	return x.desk, x.output
}

// randomDesk returns a desk whose form is mostly closed.
func randomDesk(t *testing.T, r *rand.Rand) impl.Desk {
	t.Helper()
	d := impl.Desk{First: randomAlgebra(t, r, 6), Second: randomAlgebra(t, r, 4)}
	switch r.Intn(4) {
	case 0:
		d.Form = randomForm(r, d.First.Degrees, 4, 2)
	case 1:
		d.Form, _ = randomPart(r, d.First.Degrees, 4, 2)
	case 2:
		d.Form = randomClosed(r, d.First, 1+r.Int63n(12))
	}
	return d
}

// randomText returns a text for a command, which mostly tells an algebra or a form for degrees.
func randomText(t *testing.T, r *rand.Rand, degrees []int64, command string) string {
	t.Helper()
	if command == "first" || command == "second" {
		text, _ := impl.AlgebraText(randomAlgebra(t, r, 6))
		return text
	}
	f, _ := randomPart(r, degrees, 4, 2)
	text, _ := impl.FormText(degrees, f)
	return text
}

// randomLine returns a line for a desk, which mostly is one of the table's.
func randomLine(t *testing.T, r *rand.Rand, d impl.Desk) string {
	t.Helper()
	kind := []int{0, 0, 0, 0, 1, 1, 1, 1, 2, 3, 3}[r.Intn(11)]
	if kind == 3 {
		command := textCommands()[r.Intn(5)]
		return spoilt(r, command+" "+randomText(t, r, d.First.Degrees, command))
	}
	list := commandsOf(kind)
	line := list[r.Intn(len(list))]
	for range kind {
		line += " " + strconv.Itoa(r.Intn([]int{4, 9, 23}[r.Intn(3)]))
	}
	return spoilt(r, line)
}

// spoilt returns a line, or, now and then, one that is nearly the same.
func spoilt(r *rand.Rand, line string) string {
	at := r.Intn(len(line))
	switch r.Intn(40) {
	case 0:
		return line + " "
	case 1:
		return " " + line
	case 2:
		return line[:at]
	case 3:
		return line[:at] + line[at+1:]
	case 4:
		return line[:at] + strings.ToUpper(line[at:])
	case 5:
		return line[:at] + string(rune(' '+r.Intn(95))) + line[at:]
	case 6:
		return strings.Replace(line, " ", "  ", 1)
	case 7:
		return line + " " + strconv.Itoa(r.Intn(5))
	}
	return line
}
