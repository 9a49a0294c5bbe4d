package tests

import (
	"math/rand"
	"strings"
	"testing"

	"loop.example/g01219/impl"
)

// checkPromise11 checks that a line leads a desk to the desk, with the output, that the chapter's table tells, and that one with
// the output error changes nothing. It returns the desk and the output.
func checkPromise11(t *testing.T, d impl.Desk, line string) (impl.Desk, string) {
	t.Helper()
	next, output := impl.RunLine(d, line)
	if !isDeskByParts(next) || !impl.IsDesk(next) {
		t.Fatalf("RunLine(%v, %q) = %v, which is no desk", d, line, next)
	}
	if output == "error" && !sameDesks(next, d) {
		t.Fatalf("RunLine(%v, %q) = %v, with an error", d, line, next)
	}
	if want, text := lineByTable(d, line); output != text || !sameDesks(next, want) {
		t.Fatalf("RunLine(%v, %q) = %v, %q; want %v, %q", d, line, next, output, want, text)
	}
	return next, output
}

// TestPromise11Lines has lines on random desks, and counts for each command those that are accepted and those that are not.
func TestPromise11Lines(t *testing.T) {
	r := rand.New(rand.NewSource(240))
	accepted, refused := map[string]int{}, map[string]int{}
	for range 12000 {
		d := randomDesk(t, r)
		line := randomLine(t, r, d)
		command, _, _ := strings.Cut(line, " ")
		if _, output := checkPromise11(t, d, line); output == "error" {
			refused[command]++
		} else {
			accepted[command]++
		}
	}
	for _, list := range [][]string{textCommands(), commandsOf(0), commandsOf(1), commandsOf(2)} {
		for _, command := range list {
			if accepted[command] < 20 || refused[command] < 3 {
				t.Errorf("%s is accepted %d times, and refused %d times", command, accepted[command], refused[command])
			}
		}
	}
}

// randomConsole returns lines that are run one after the other on the new desk, with empty ones in between.
func randomConsole(t *testing.T, r *rand.Rand) []string {
	t.Helper()
	var lines []string
	d := impl.NewDesk()
	for range r.Intn(impl.MaxLines + 1) {
		line := ""
		if r.Intn(8) > 0 {
			line = randomLine(t, r, d)
			d, _ = impl.RunLine(d, line)
		}
		lines = append(lines, line)
	}
	return lines
}

// TestPromise11Consoles has texts that Console does not refuse, with a newline at the end and without one.
func TestPromise11Consoles(t *testing.T) {
	r := rand.New(rand.NewSource(241))
	for range 400 {
		lines := randomConsole(t, r)
		want, d := "", impl.NewDesk()
		for _, line := range lines {
			if line == "" {
				continue
			}
			var output string
			d, output = checkPromise11(t, d, line)
			want += output + "\n"
		}
		text := strings.Join(lines, "\n")
		for _, text := range []string{text, text + "\n"} {
			if len(text) > impl.MaxConsole {
				continue
			}
			if got := impl.Console(text); got != want {
				t.Fatalf("Console(%q) = %q; want %q", text, got, want)
			}
			if last, ok := impl.DeskAfter(text); !ok || !sameDesks(last, d) || !impl.IsDesk(last) {
				t.Fatalf("DeskAfter(%q) = %v, %v; want %v", text, last, ok, d)
			}
		}
	}
}
