package tests

import (
	"strings"
	"testing"

	"loop.example/g01219/impl"
)

// consoleCase has a text that Console accepts, its outputs, and the desk behind it.
type consoleCase struct {
	text, want string
	after      deskTexts
}

func consoleCases() []consoleCase {
	return []consoleCase{
		{"", "", newTexts},
		{"\n", "", newTexts},
		{"\n\n\n", "", newTexts},
		{"betti 3", "1 0 1 0\n", newTexts},
		{"betti 3\n", "1 0 1 0\n", newTexts},
		{"betti 3\nbetti 1", "1 0 1 0\n1 0\n", newTexts},
		{"betti 3\nbetti 1\n", "1 0 1 0\n1 0\n", newTexts},
		{"\nbetti 3\n\n\nbetti 1\n\n", "1 0 1 0\n1 0\n", newTexts},
		{"first ", "\n", deskTexts{"", newTexts.second, "0"}},
		{"first \nclass\nshow\nranks\nbetti 1\n", "\n\n\n\n1 0\n", deskTexts{"", newTexts.second, "0"}},
		{" ", "error\n", newTexts},
		{" \n\n", "error\n", newTexts},
		{"betti 3\r\nbetti 1", "error\n1 0\n", newTexts},
		{"fly\nform 2*a\nfly\nshow", "error\n2*a\nerror\n2:0;3:1*a2\n", deskTexts{newTexts.first, newTexts.second, "2*a"}},
		{"form 1*b\nd\nprimitive", "1*b\n1*a2\n1*b\n", deskTexts{newTexts.first, newTexts.second, "1*b"}},
		{"second 1:0\nform 2*a\nplus 1*1\nproduct\nwith 4\nother", "1:0\n2*a\n2*a+1*1\n2:0;3:1*a2;1:0\n2:0;3:1*a2;1:0;4:0\n1:0\n", deskTexts{"2:0;3:1*a2;1:0;4:0", "1:0", "0"}},
		{"sphere 3\nswap\nform 5*ab\nreset\ntorus 3\neuler 1\nform 1*c\ntimes 1*a\nclass", "3:0\n2:0;3:1*a2\n5*ab\nok\n1:0;1:0;1:0\n-2\n1*c\n10006*ac\n0 10006 0\n", deskTexts{"1:0;1:0;1:0", newTexts.second, "10006*ac"}},
		{"sphere 3\nswap\nform 5*ab\nreset", "3:0\n2:0;3:1*a2\n5*ab\nok\n", newTexts},
		{"first 2:0;3:1*a2;3:1*d;4:0\nquadratic\nreduce\nquadratic", "2:0;3:1*a2;3:1*d;4:0\nerror\n2:0;3:1*a2\n2:0;3:1*a2\n", newTexts},
	}
}

// checkConsole checks the outputs of a text, and the desk behind it.
func checkConsole(t *testing.T, text string, want string, after impl.Desk) {
	t.Helper()
	if got := impl.Console(text); got != want {
		t.Errorf("Console(%q) = %q; want %q", text, got, want)
	}
	if d, ok := impl.DeskAfter(text); !ok || !sameDesks(d, after) || !impl.IsDesk(d) {
		t.Errorf("DeskAfter(%q) = %v, %v; want %v", text, d, ok, after)
	}
}

// checkRefusedText checks that a text is beyond the limits.
func checkRefusedText(t *testing.T, text string) {
	t.Helper()
	if got := impl.Console(text); got != "" {
		t.Errorf("Console of %d bytes and %d newlines = %q", len(text), strings.Count(text, "\n"), got)
	}
	if d, ok := impl.DeskAfter(text); ok || !isZeroDesk(d) {
		t.Errorf("DeskAfter of %d bytes and %d newlines = %v, %v", len(text), strings.Count(text, "\n"), d, ok)
	}
}

func TestConsole(t *testing.T) {
	for _, c := range consoleCases() {
		checkConsole(t, c.text, c.want, c.after.desk(t))
	}
}

// TestConsoleKeepsNothing checks that each call begins with the new desk.
func TestConsoleKeepsNothing(t *testing.T) {
	for range 2 {
		checkConsole(t, "show\ntorus 1\nform 3*a\nsecond 4:0", "2:0;3:1*a2\n1:0\n3*a\n4:0\n", deskTexts{"1:0", "4:0", "3*a"}.desk(t))
		checkConsole(t, "other", "2:0;3:1*a2\n", newTexts.desk(t))
	}
}

// TestMaxLines has as many lines as there may be, and one more.
func TestMaxLines(t *testing.T) {
	torus := deskTexts{"1:0", newTexts.second, "0"}.desk(t)
	fresh := newTexts.desk(t)
	checkConsole(t, strings.Repeat("\n", 39), "", fresh)
	checkConsole(t, strings.Repeat("\n", 40), "", fresh)
	checkRefusedText(t, strings.Repeat("\n", 41))
	checkRefusedText(t, strings.Repeat("\n", 3000))
	checkConsole(t, strings.Repeat("dimension\n", 40), strings.Repeat("2\n", 40), fresh)
	checkRefusedText(t, strings.Repeat("dimension\n", 41))
	checkConsole(t, strings.Repeat("dimension\n", 39)+"torus 1", strings.Repeat("2\n", 39)+"1:0\n", torus)
	checkConsole(t, strings.Repeat("dimension\n", 39)+"torus 1\n", strings.Repeat("2\n", 39)+"1:0\n", torus)
	checkRefusedText(t, strings.Repeat("dimension\n", 39)+"torus 1\n\n")
	checkRefusedText(t, strings.Repeat("dimension\n", 40)+"torus 1")
	checkRefusedText(t, strings.Repeat("dimension\n", 40)+" ")
	checkRefusedText(t, strings.Repeat("dimension\n", 40)+"\n")
	checkConsole(t, strings.Repeat("\n", 39)+"torus 1", "1:0\n", torus)
	checkConsole(t, strings.Repeat("\n", 39)+"torus 1\n", "1:0\n", torus)
	checkRefusedText(t, strings.Repeat("\n", 40)+"torus 1")
	checkRefusedText(t, strings.Repeat("\n", 40)+"torus 1\n")
	checkConsole(t, "torus 1\n"+strings.Repeat("\n", 39), "1:0\n", torus)
	checkRefusedText(t, "torus 1\n"+strings.Repeat("\n", 40))
	checkConsole(t, strings.Repeat("torus 1\n\n", 20), strings.Repeat("1:0\n", 20), torus)
	checkRefusedText(t, strings.Repeat("torus 1\n\n", 20)+"x")
}

// TestMaxConsole has as many bytes as there may be, and one more, in one line or in some.
func TestMaxConsole(t *testing.T) {
	torus := deskTexts{"1:0", newTexts.second, "0"}.desk(t)
	fresh := newTexts.desk(t)
	x := func(count int) string { return strings.Repeat("x", count) }
	checkConsole(t, x(2999), "error\n", fresh)
	checkConsole(t, x(3000), "error\n", fresh)
	checkRefusedText(t, x(3001))
	checkConsole(t, x(2999)+"\n", "error\n", fresh)
	checkRefusedText(t, x(3000)+"\n")
	checkConsole(t, "torus 1\n"+x(2992), "1:0\nerror\n", torus)
	checkRefusedText(t, "torus 1\n"+x(2993))
	checkConsole(t, x(2992)+"\ntorus 1", "error\n1:0\n", torus)
	checkRefusedText(t, x(2993)+"\ntorus 1")
	checkConsole(t, x(2991)+"\ntorus 1\n", "error\n1:0\n", torus)
	checkRefusedText(t, x(2992)+"\ntorus 1\n")
	checkConsole(t, "torus 1\n"+strings.Repeat("\n", 38)+x(2954), "1:0\nerror\n", torus)
	checkRefusedText(t, "torus 1\n"+strings.Repeat("\n", 38)+x(2955))
	checkRefusedText(t, "torus 1\n"+strings.Repeat("\n", 39)+x(2953))
	checkRefusedText(t, strings.Repeat("\n", 3001))
	checkRefusedText(t, strings.Repeat("torus 1\n", 1000))
	// Bytes count, not runes.
	checkConsole(t, strings.Repeat("\u00e9", 1500), "error\n", fresh)
	checkRefusedText(t, strings.Repeat("\u00e9", 1500)+"x")
}

// TestLongText has a form with as many terms as a text has room for, and with one more.
func TestLongText(t *testing.T) {
	const first = "2:0;2:0"
	a := algebra(t, first)
	for count := range 401 {
		form := textOf(t, impl.Desk{First: a, Form: grid(count, 9999)})
		text := "first " + first + "\nform " + form + "\n"
		if len(text) > impl.MaxConsole {
			checkRefusedText(t, text)
			return
		}
		if len(text) > impl.MaxConsole-50 {
			checkConsole(t, text, first+"\n"+form+"\n", deskTexts{first, newTexts.second, form}.desk(t))
		}
	}
	t.Error("no form is too long")
}
