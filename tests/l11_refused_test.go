package tests

import (
	"slices"
	"strconv"
	"strings"
	"testing"

	"loop.example/g01219/impl"
)

// wrongWords returns lines that are none because of the words of a line that is one.
func wrongWords(line string) []string {
	list := []string{
		line + " ",
		line + " 0",
		line + " x",
		" " + line,
		strings.ToUpper(line),
		strings.ToUpper(line[:1]) + line[1:],
		line + "\n",
		line + "\r",
		line + "\t",
		"\t" + line,
		line[1:],
		"x" + line,
	}
	if last := strings.LastIndex(line, " "); last > 0 {
		list = append(list,
			line[:last],
			strings.Replace(line, " ", "  ", 1),
			strings.Replace(line, " ", "\t", 1),
			strings.Replace(line, " ", ":", 1),
			strings.Replace(line, " ", "", 1),
			line[:last]+" "+line[last:],
		)
	}
	return list
}

// wrongNumbers returns what is no number, but nearly one that is.
func wrongNumbers(n string) []string {
	return []string{
		"", "+" + n, "-" + n, "0" + n, "00" + n, n + ".", n + ".0", n + "e0", n + "_0", n + "+0", n + "x", "x" + n, "0x" + n, "x", "-", "+",
		n + "\n", "\n" + n, n + "\x00", "\u0661", n + strings.Repeat("0", 10-len(n)), "1000000000", "0000000001",
		"10000000000000000000", strings.Repeat("9", 400), "-1", "-0", "1/1",
	}
}

// TestWrongWords has all lines that are accepted, each changed in many ways so that it is none.
func TestWrongWords(t *testing.T) {
	for _, c := range lineCases() {
		d := c.before.desk(t)
		for _, line := range wrongWords(c.line) {
			checkRefused(t, d, line)
		}
	}
}

// TestWrongNumbers puts what is no number in the place of each number of the lines that are accepted.
func TestWrongNumbers(t *testing.T) {
	for _, c := range lineCases() {
		words := strings.Split(c.line, " ")
		if slices.Contains(textCommands(), words[0]) {
			continue
		}
		d := c.before.desk(t)
		for i := 1; i < len(words); i++ {
			for _, wrong := range wrongNumbers(words[i]) {
				changed := slices.Clone(words)
				changed[i] = wrong
				checkRefused(t, d, strings.Join(changed, " "))
			}
		}
	}
}

// TestWordsMissing has all commands with each count of words but theirs.
func TestWordsMissing(t *testing.T) {
	desks := []impl.Desk{impl.NewDesk(), deskTexts{"", "1:0", "3*1"}.desk(t), deskTexts{"2:0", plane, "1*a"}.desk(t)}
	for count := range 3 {
		for _, command := range commandsOf(count) {
			for k := range 6 {
				if k == count {
					continue
				}
				for _, d := range desks {
					checkRefused(t, d, command+strings.Repeat(" 2", k))
					checkRefused(t, d, command+strings.Repeat(" ", k+1))
				}
			}
		}
	}
	for _, command := range textCommands() {
		for _, d := range desks {
			checkRefused(t, d, command)
		}
	}
}

// TestUnknownLines has lines whose first word is no command, which may be empty.
func TestUnknownLines(t *testing.T) {
	for _, d := range []impl.Desk{impl.NewDesk(), {}, deskTexts{plane, other, "2*a2+3*b"}.desk(t)} {
		for _, line := range []string{
			"", " ", "  ", "\n", "\t", "\x00", "fly", "fly 3", "help", "?", "0", "3", "3 betti", "error", "ok", "yes", "no", "1*a", "2:0", "A", "B", "F",
			"D", "Show", "SHOW", "Betti 3", "BETTI 3", "bettI 3", "shows", "sho", "show;", "show show", "show,show", "show\nshow", "show\n", "show\r\n",
			"betti", "betti3", "betti:3", "betti\t3", "betti 3\nshow", "betti\u00a03", "dd", "e", "first", "First 2:0", "FIRST 2:0", "forms 0", "third 2:0",
			"sphere2", "circle 1", "projective", "projective 2,2", "tori 2", "TORUS 2", "new", "quit", "exit", "\xff", "\u00e9", strings.Repeat("d", 5000), strings.Repeat(" ", 5000),
			"betti " + strings.Repeat("1", 5000), "form " + strings.Repeat("a", 5000), "first " + strings.Repeat(";", 5000), "betti" + strings.Repeat(" 1", 5000),
		} {
			checkRefused(t, d, line)
		}
	}
}

// TestRefusedTexts has texts that ParseAlgebra or ParseForm refuse.
func TestRefusedTexts(t *testing.T) {
	d := deskTexts{plane, other, "4*a"}.desk(t)
	for _, text := range []string{
		" ", "  ", "0", "x", "2", "2:", ":0", "2:0;", ";2:0", "2:0;;3:0", "2:0 ", " 2:0", "2: 0", "2:0; 3:0", "2:0 ;3:0", "2:0 3:0", "2:0,3:0", "02:0", "+2:0", "-2:0",
		"0:0", "13:0", "2:1*a", "2:0;3:a2", "2:0;3:1*a3", "2:0;3:1*b", "2:0;3:1*a2;4:1*ab", "2:0;3:1*c2", "2:0;3:0*a2", "2:0;3:10007*a2", "2:0;3:01*a2", "2:0\n",
		"2:0;3:1*A2", "2:1*1", strings.Repeat("1:0;", 8) + "1:0", plane + " ", "error",
	} {
		checkRefused(t, d, "first "+text)
		checkRefused(t, d, "second "+text)
	}
	for _, text := range []string{
		"", " ", "  ", "x", "a", "1", "3", "1*", "*a", "1*a ", " 1*a", "1* a", "1*a + 1*1", "1*a+ 1*1", "1*a +1*1", "1*a 1*1", "1*c", "1*h", "1*i", "1*ba", "1*aa",
		"1*a1", "1*a0", "1*a02", "1*a21", "1*b2", "0*a", "01*a", "+1*a", "-1*a", "10007*a", "1*a+1*a", "1*a+1*a2", "1*1+1*a", "1*a+0", "0+1*a", "00", "-0", "1*A", "1*a\n", "1*a+", "+",
		"2:0", "error",
	} {
		checkRefused(t, d, "form "+text)
		checkRefused(t, d, "plus "+text)
		checkRefused(t, d, "times "+text)
	}
	// The letters are those of the first algebra.
	checkRefused(t, deskTexts{"2:0", "2:0;2:0", "0"}.desk(t), "form 1*b")
	checkRefused(t, deskTexts{"", "2:0", "0"}.desk(t), "form 1*a")
}

// refusedCase has lines that a desk refuses because a function returns another code than ErrNone.
type refusedCase struct {
	x     deskTexts
	lines []string
}

// many returns an algebra of eight generators of a degree.
func many(degree int) string {
	return strings.TrimSuffix(strings.Repeat(strconv.Itoa(degree)+":0;", 8), ";")
}

func refusedCases() []refusedCase {
	return []refusedCase{
		{newTexts, []string{
			"sphere 0", "sphere 8", "sphere 10", "sphere 12", "sphere 13", "sphere 999999999", "unitary 0", "unitary 7", "torus 9", "heisenberg 0", "heisenberg 4",
			"projective 0 2", "projective 6 2", "projective 0 4", "projective 3 4", "projective 1 0", "projective 1 1", "projective 1 3", "projective 2 8", "projective 999999999 999999999",
			"with 0", "with 13", "with 999999999", "model 0", "model 1", "model 11", "model 999999999", "betti 21", "betti 999999999", "rank 21", "length 21",
			"pages 21 0", "pages 0 21", "stop 21", "series 41", "series 999999999", "loops 41", "euler 21", "homology 0", "homology 12", "homology 999999999", "filtration",
		}},
		{deskTexts{"1:0;1:0;1:0;1:0;1:0", "1:0;1:0;1:0;1:0", "0"}, []string{"product"}},
		{deskTexts{many(12), "1:0", "0"}, []string{"product", "with 1", "with 12"}},
		{deskTexts{"2:0", "", "1*a"}, []string{"with 2", "with 3", "primitive", "model 1"}},
		{deskTexts{"2:0;3:1*a2", "", "1*b"}, []string{"with 2", "class", "primitive", "filtration"}},
		{deskTexts{"2:0;3:0", "", "1*a+1*b"}, []string{"with 1", "with 2", "class", "boundary", "primitive", "filtration"}},
		{deskTexts{"2:0;3:0", "", "1*a+1*1"}, []string{"with 1", "class", "boundary", "primitive", "filtration"}},
		{deskTexts{plane, "", "1*a3"}, []string{"filtration"}},
		{deskTexts{plane, "", "1*a11"}, []string{"class", "boundary", "primitive", "filtration"}},
		{deskTexts{"2:0;3:1*a2", "", "1*a19b"}, []string{"d", "times 1*a2", "class", "boundary", "primitive"}},
		{deskTexts{"2:0", "", "1*a20"}, []string{"times 1*a", "times 1*a20+1*1"}},
		{deskTexts{"1:0;1:0", "", "0"}, []string{"model 2", "loops 3"}},
		{deskTexts{"1:0;2:1*ac;2:1*ab", "", "0"}, []string{"ranks", "loops 0"}},
		{deskTexts{"1:1*bc;1:1*ac;1:1*ab", "", "1*a"}, []string{"ranks", "class", "filtration"}},
		{deskTexts{"2:0;3:1*a2;3:1*d;4:0", "", "1*a"}, []string{"quadratic", "coformal", "pages 0 0", "pages 1 8", "stop 4", "filtration"}},
		{deskTexts{many(2), "", "1*a4"}, []string{
			"betti 7", "rank 7", "rank 8", "length 7", "pages 0 8", "stop 8", "filtration", "class", "boundary", "primitive", "euler 7", "model 6",
		}},
		{deskTexts{many(1), "", "0"}, []string{"model 2", "loops 2"}},
		{deskTexts{"12:0;12:0;2:0;2:0;2:0;2:0;2:0;2:0", "", "0"}, []string{"homology 2", "homology 1"}},
	}
}

// TestRefusedArguments has lines at which a function returns another code than ErrNone.
func TestRefusedArguments(t *testing.T) {
	for _, c := range refusedCases() {
		d := c.x.desk(t)
		for _, line := range c.lines {
			checkRefused(t, d, line)
			checkPromise11(t, d, line)
		}
	}
}

// TestFormsBeyondLimits has forms on the desk that are as great as they may be.
func TestFormsBeyondLimits(t *testing.T) {
	d := impl.Desk{First: algebra(t, "2:0;2:0"), Form: grid(400, 3)}
	checkRefused(t, d, "plus 1*1")
	checkRefused(t, d, "times 1*a+1*b")
	checkRefused(t, d, "times 1*b")
	smaller := impl.Desk{First: d.First, Form: formOf(d.Form.Terms[1:]...)}
	checkLine(t, smaller, "plus 3*a20b20", textOf(t, d), d)
	// d of a form may have more terms than the form.
	e := impl.Desk{First: algebra(t, "2:0;2:0;3:1*a2+1*b2"), Form: grid(400, 1)}
	for i := range e.Form.Terms {
		e.Form.Terms[i].Monomial = impl.Monomial{e.Form.Terms[i].Monomial[0], e.Form.Terms[i].Monomial[1], 1}
	}
	checkRefused(t, e, "d")
}

// textOf returns the text of the form of a desk.
func textOf(t *testing.T, d impl.Desk) string {
	t.Helper()
	text, code := impl.FormText(d.First.Degrees, d.Form)
	if code != impl.ErrNone {
		t.Fatalf("FormText(%v): code %d", d.Form, code)
	}
	return text
}

// TestGreatestArguments has the greatest numbers that are accepted, next to those that are refused above.
func TestGreatestArguments(t *testing.T) {
	d := impl.NewDesk()
	for _, line := range []string{
		"sphere 6", "sphere 11", "unitary 6", "torus 8", "heisenberg 3", "projective 5 2", "projective 2 4", "with 12", "model 10", "betti 20", "rank 20", "length 20",
		"pages 20 20", "stop 20", "series 40", "loops 40", "euler 20", "homology 11",
	} {
		if _, output := checkPromise11(t, d, line); output == "error" {
			t.Errorf("RunLine(%v, %q) has an error", d, line)
		}
	}
}
