package tests

import (
	"slices"
	"strings"
	"testing"

	"loop.example/g01219/impl"
)

// lineCase has a line that a desk accepts.
type lineCase struct {
	before deskTexts
	line   string
	output string
	after  deskTexts
}

// Desks of many cases: of the projective plane, with a form of the degree 2, and others ahead of it.
const (
	plane = "2:0;5:1*a3"
	other = "1:0;3:0"
)

// madeFirst returns the case of a line that makes the first algebra of a desk with a form.
func madeFirst(line string, made string) lineCase {
	return lineCase{deskTexts{plane, other, "4*a"}, line, made, deskTexts{made, other, "0"}}
}

// changedFirst returns the case of a line that makes an algebra of the first one.
func changedFirst(first string, form string, line string, made string) lineCase {
	return lineCase{deskTexts{first, other, form}, line, made, deskTexts{made, other, "0"}}
}

// changedForm returns the case of a line that makes a form.
func changedForm(first string, form string, line string, made string) lineCase {
	return lineCase{deskTexts{first, other, form}, line, made, deskTexts{first, other, made}}
}

// asked returns the case of a line that changes nothing.
func asked(first string, form string, line string, output string) lineCase {
	x := deskTexts{first, other, form}
	return lineCase{x, line, output, x}
}

// algebraLines returns lines that make algebras, also ones that are equal to the one before.
func algebraLines() []lineCase {
	return []lineCase{
		madeFirst("first 2:0;3:1*a2", "2:0;3:1*a2"),
		madeFirst("first "+plane, plane),
		madeFirst("first ", ""),
		{deskTexts{plane, other, "4*a"}, "second 2:0;3:1*a2", "2:0;3:1*a2", deskTexts{plane, "2:0;3:1*a2", "4*a"}},
		{deskTexts{plane, other, "4*a"}, "second " + other, other, deskTexts{plane, other, "4*a"}},
		{deskTexts{plane, other, "4*a"}, "second ", "", deskTexts{plane, "", "4*a"}},
		{deskTexts{plane, other, "4*a"}, "swap", other, deskTexts{other, plane, "0"}},
		{deskTexts{plane, plane, "4*a"}, "swap", plane, deskTexts{plane, plane, "0"}},
		{deskTexts{plane, "", "4*a"}, "swap", "", deskTexts{"", plane, "0"}},
		madeFirst("sphere 1", "1:0"),
		madeFirst("sphere 2", "2:0;3:1*a2"),
		madeFirst("sphere 6", "6:0;11:1*a2"),
		madeFirst("sphere 11", "11:0"),
		changedFirst("2:0;3:1*a2", "4*a", "sphere 2", "2:0;3:1*a2"),
		madeFirst("unitary 1", "1:0"),
		madeFirst("unitary 3", "1:0;3:0;5:0"),
		changedFirst("1:0;3:0", "4*a", "unitary 2", "1:0;3:0"),
		madeFirst("torus 0", ""),
		madeFirst("torus 3", "1:0;1:0;1:0"),
		changedFirst("1:0;1:0", "4*a", "torus 2", "1:0;1:0"),
		madeFirst("heisenberg 1", "1:0;1:0;1:1*ab"),
		madeFirst("heisenberg 2", "1:0;1:0;1:0;1:0;1:1*ab+1*cd"),
		changedFirst("1:0;1:0;1:1*ab", "4*a", "heisenberg 1", "1:0;1:0;1:1*ab"),
		madeFirst("projective 2 2", plane),
		madeFirst("projective 4 2", "2:0;9:1*a5"),
		madeFirst("projective 2 4", "4:0;11:1*a3"),
		madeFirst("product", plane+";1:0;3:0"),
		{deskTexts{other, plane, "4*a"}, "product", other + ";2:0;5:1*c3", deskTexts{other + ";2:0;5:1*c3", plane, "0"}},
		{deskTexts{plane, "", "4*a"}, "product", plane, deskTexts{plane, "", "0"}},
		changedFirst("2:0", "3*a2", "with 3", "2:0;3:3*a2"),
		changedFirst("2:0", "0", "with 3", "2:0;3:0"),
		changedFirst("", "0", "with 12", "12:0"),
		changedFirst("2:0;3:1*a2;3:1*d;4:0", "4*a", "reduce", "2:0;3:1*a2"),
		changedFirst("1:1*b;2:0", "4*a", "reduce", ""),
		changedFirst(plane, "4*a", "reduce", plane),
		changedFirst("5:0;2:0;3:1*b2", "4*a", "sort", "2:0;3:1*a2;5:0"),
		changedFirst(plane, "4*a", "sort", plane),
		changedFirst(plane, "4*a", "model 4", "2:0"),
		changedFirst(plane, "4*a", "model 5", plane),
		changedFirst("2:0;3:1*a2;3:1*d;4:0", "4*a", "model 10", "2:0;3:1*a2"),
		changedFirst(plane, "4*a", "quadratic", "2:0;5:0"),
		changedFirst("2:0;4:0;5:1*a3+2*ab", "4*a", "quadratic", "2:0;4:0;5:2*ab"),
		changedFirst("2:0;3:1*a2", "4*a", "quadratic", "2:0;3:1*a2"),
		{deskTexts{plane, other, "4*a"}, "reset", "ok", newTexts},
		{newTexts, "reset", "ok", newTexts},
		{deskTexts{"2:0;3:1*a2", "2:0;3:1*a2", "4*a"}, "reset", "ok", newTexts},
	}
}

// formLines returns lines that make forms, also ones that are equal to the one before.
func formLines() []lineCase {
	return []lineCase{
		changedForm(plane, "4*a", "form 3*a2b+2*ab+1*a+5*1", "3*a2b+2*ab+1*a+5*1"),
		changedForm(plane, "4*a", "form 4*a", "4*a"),
		changedForm(plane, "4*a", "form 0", "0"),
		changedForm("", "4*1", "form 10006*1", "10006*1"),
		changedForm(plane, "4*a", "plus 3*a", "7*a"),
		changedForm(plane, "4*a", "plus 2*a20+1*1", "2*a20+4*a+1*1"),
		changedForm(plane, "4*a", "plus 10003*a", "0"),
		changedForm(plane, "4*a", "plus 0", "4*a"),
		changedForm("1:0;1:0", "1*b", "times 1*a", "10006*ab"),
		changedForm("1:0;1:0", "1*a", "times 1*b", "1*ab"),
		changedForm(plane, "2*a+3*b", "times 2*a+1*b", "4*a2+8*ab"),
		changedForm(plane, "4*a", "times 1*1", "4*a"),
		changedForm(plane, "4*a", "times 0", "0"),
		changedForm(plane, "2*ab", "d", "2*a4"),
		changedForm("1:0;1:0;1:1*ab;1:0", "3*cd", "d", "3*abd"),
		changedForm(plane, "4*a", "d", "0"),
		changedForm(plane, "0", "d", "0"),
		changedForm(plane, "3*a3", "primitive", "3*b"),
		changedForm("2:0;3:0;3:1*a2;3:1*a2", "2*a2", "primitive", "2*d"),
		changedForm(plane, "0", "primitive", "0"),
	}
}

// answerLines returns lines that ask for algebras, and for yes and no.
func answerLines() []lineCase {
	return []lineCase{
		asked(plane, "4*a", "show", plane),
		asked("", "4*1", "show", ""),
		asked(plane, "4*a", "other", other),
		{deskTexts{plane, "", "4*a"}, "other", "", deskTexts{plane, "", "4*a"}},
		asked(plane, "4*a", "closed", "yes"),
		asked(plane, "4*a+1*b", "closed", "no"),
		asked(plane, "0", "closed", "yes"),
		asked(plane, "4*a3", "boundary", "yes"),
		asked(plane, "4*a2", "boundary", "no"),
		asked(plane, "4*b", "boundary", "no"),
		asked(plane, "0", "boundary", "yes"),
		asked(plane, "4*a", "minimal", "yes"),
		asked("1:1*b;2:0", "4*a", "minimal", "no"),
		asked(plane, "4*a", "pure", "yes"),
		asked("1:0;1:0;1:1*ab", "4*a", "pure", "no"),
		asked(plane, "4*a", "coformal", "no"),
		asked("2:0;3:1*a2", "4*a", "coformal", "yes"),
	}
}

// numberLines returns lines that ask for a number.
func numberLines() []lineCase {
	return []lineCase{
		asked(plane, "4*a", "rank 5", "1"),
		asked(plane, "4*a", "rank 6", "0"),
		asked("2:0;2:0;3:1*a2;3:1*ab", "4*a", "rank 3", "2"),
		asked("1:0", "4*a", "rank 20", "0"),
		asked(plane, "4*a", "length 4", "2"),
		asked(plane, "4*a", "length 3", "1"),
		asked(plane, "4*a", "length 0", "0"),
		asked(plane, "4*a", "stop 6", "3"),
		asked("2:0;3:1*a2", "4*a", "stop 4", "2"),
		asked("2:0;3:1*a2", "4*a", "stop 2", "0"),
		asked(plane, "4*a", "filtration", "1"),
		asked("2:0;4:0;7:1*a4+1*b2", "1*b2", "filtration", "4"),
		asked(plane, "4*1", "filtration", "0"),
		asked(plane, "4*a", "euler 4", "3"),
		asked(plane, "4*a", "euler 0", "1"),
		asked("1:0;1:0;1:0", "4*a", "euler 1", "-2"),
		asked("1:0;1:0;1:0", "4*a", "euler 3", "0"),
		asked(plane, "4*a", "dimension", "4"),
		asked("4:0;12:0", "4*a", "dimension", "-14"),
		asked("", "4*1", "dimension", "0"),
		asked("3:0", "4*a", "homology 3", "1"),
		asked("3:0", "4*a", "homology 11", "0"),
	}
}

// listLines returns lines that ask for lists of numbers, also for those without numbers.
func listLines() []lineCase {
	return []lineCase{
		asked(plane, "4*a", "class", "4"),
		asked("1:0;1:0", "3*a+5*b", "class", "3 5"),
		asked("1:0;1:0", "5*b", "class", "0 5"),
		asked("2:0;3:1*a2;4:0", "4*a2", "class", "0"),
		asked(plane, "4*a3", "class", ""),
		asked(plane, "0", "class", ""),
		{newTexts, "betti 3", "1 0 1 0", newTexts},
		asked(plane, "4*a", "betti 0", "1"),
		asked(plane, "4*a", "betti 10", "1 0 1 0 1 0 0 0 0 0 0"),
		asked("1:0;1:0;1:0", "4*a", "betti 4", "1 3 3 1 0"),
		asked(plane, "4*a", "ranks", "1 2"),
		asked("1:1*b;2:0", "4*a", "ranks", "2 1"),
		asked("", "4*1", "ranks", ""),
		asked("2:0;3:1*a2", "4*a", "pages 0 4", "0 0 1"),
		asked("2:0;3:1*a2", "4*a", "pages 2 4", "0 0 0"),
		asked("2:0;3:1*a2", "4*a", "pages 4 2", "0 1"),
		asked("2:0;3:1*a2", "4*a", "pages 4 0", "1"),
		asked("2:0;4:0;7:1*a4+1*b2;3:1*a2", "4*a", "pages 1 8", "0 0 1 1 1"),
		asked("2:0;3:1*a2", "4*a", "series 5", "1 0 1 1 1 1"),
		asked("1:0;1:0", "4*a", "series 40", "1 2 1"+strings.Repeat(" 0", 38)),
		asked("", "4*1", "series 0", "1"),
		asked(plane, "4*a", "loops 5", "1 1 0 0 1 1"),
		asked("3:0;3:0", "4*a", "loops 4", "1 0 2 0 3"),
		asked("", "4*1", "loops 2", "1 0 0"),
	}
}

func lineCases() []lineCase {
	return slices.Concat(algebraLines(), formLines(), answerLines(), numberLines(), listLines())
}

// TestLines has every command with the lines above.
func TestLines(t *testing.T) {
	met := map[string]bool{}
	for _, c := range lineCases() {
		checkLine(t, c.before.desk(t), c.line, c.output, c.after.desk(t))
		command, _, _ := strings.Cut(c.line, " ")
		met[command] = true
	}
	for _, list := range [][]string{textCommands(), commandsOf(0), commandsOf(1), commandsOf(2)} {
		for _, command := range list {
			if !met[command] {
				t.Errorf("there is no line with the command %s", command)
			}
		}
	}
}

// TestLinesByTable checks the lines above against the chapter's table.
func TestLinesByTable(t *testing.T) {
	for _, c := range lineCases() {
		checkPromise11(t, c.before.desk(t), c.line)
	}
}

// TestFormIsDropped checks that the form becomes 0 just where a line gives the first algebra one.
func TestFormIsDropped(t *testing.T) {
	dropping := strings.Fields("first swap sphere unitary torus heisenberg projective product with reduce sort model quadratic reset")
	writing := strings.Fields("form plus times d primitive")
	for _, c := range lineCases() {
		command, _, _ := strings.Cut(c.line, " ")
		next, output := impl.RunLine(c.before.desk(t), c.line)
		if slices.Contains(writing, command) || output == "error" {
			continue
		}
		want := c.before.form
		if slices.Contains(dropping, command) {
			want = "0"
		}
		if got, code := impl.FormText(next.First.Degrees, next.Form); got != want || code != impl.ErrNone {
			t.Errorf("behind %q the form %s is %q, %d", c.line, c.before.form, got, code)
		}
	}
}

// TestFirstAlgebrasDropForms has a form that is one for the algebra behind the line as well.
func TestFirstAlgebrasDropForms(t *testing.T) {
	for _, c := range []struct {
		x    deskTexts
		line string
	}{
		{deskTexts{"1:0", "1:0;1:0", "1*a"}, "first 1:0"},
		{deskTexts{"1:0", "1:0;1:0", "1*a"}, "first 1:0;1:0"},
		{deskTexts{"1:0", "1:0;1:0", "1*a"}, "swap"},
		{deskTexts{"1:0", "1:0", "1*a"}, "swap"},
		{deskTexts{"1:0", "", "1*a"}, "sphere 1"},
		{deskTexts{"1:0", "", "1*a"}, "unitary 2"},
		{deskTexts{"1:0", "", "1*a"}, "torus 1"},
		{deskTexts{"1:0", "", "1*a"}, "heisenberg 3"},
		{deskTexts{"2:0", "", "1*a"}, "projective 1 2"},
		{deskTexts{"1:0", "", "1*a"}, "product"},
		{deskTexts{"1:0", "1:0", "1*a"}, "product"},
		{deskTexts{"2:0", "", "1*a"}, "with 1"},
		{deskTexts{"1:0", "", "1*a"}, "reduce"},
		{deskTexts{"1:0;2:1*d;3:0;3:0", "", "1*a"}, "reduce"},
		{deskTexts{"1:0;1:0", "", "1*a"}, "sort"},
		{deskTexts{"3:0;1:0", "", "1*a"}, "sort"},
		{deskTexts{"3:0", "", "1*a"}, "model 3"},
		{deskTexts{"3:0", "", "1*a"}, "model 4"},
		{deskTexts{"1:0", "", "1*a"}, "quadratic"},
		{deskTexts{plane, "", "1*a"}, "quadratic"},
		{deskTexts{"2:0;3:1*a2", "2:0;3:1*a2", "1*a"}, "reset"},
		{deskTexts{"2:0", "", "1*a"}, "reset"},
	} {
		d := c.x.desk(t)
		next, output := impl.RunLine(d, c.line)
		if output == "error" || len(next.Form.Terms) > 0 || !impl.IsForm(next.First.Degrees, d.Form) {
			t.Errorf("RunLine(%v, %q) = %v, %q", d, c.line, next, output)
		}
	}
}
