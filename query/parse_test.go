package query

import (
	"reflect"
	"strings"
	"testing"

	"stitchery/api"
)

func ask(typ, key string, picks ...api.Pick) api.Ask {
	return api.Ask{Type: typ, Key: key, Picks: picks}
}

func pick(field string, picks ...api.Pick) api.Pick { return api.Pick{Field: field, Picks: picks} }

func as(name string, p api.Pick) api.Pick {
	p.As = name
	return p
}

func at(i int, err api.Errno) api.Fault { return api.Fault{Err: err, At: i} }

// deep answers a text whose innermost list is n deep, and nested the same, as it is asked.
func deep(n int) string {
	return "user(ann)" + strings.Repeat("{boss", n-1) + "{name" + strings.Repeat("}", n)
}

func nested(n int) api.Ask {
	p := pick("name")
	for range n - 1 {
		p = pick("boss", p)
	}
	return ask("user", "ann", p)
}

// lookParsed looks for what a text asks.
func lookParsed(t *testing.T, s string, want api.Ask) {
	t.Helper()
	if got, f := Parse(s); f != (api.Fault{}) || !reflect.DeepEqual(got, want) {
		t.Errorf("%q: %v %v, not %v", s, got, f, want)
	}
}

type faultCase struct {
	s    string
	want api.Fault
}

// lookFaults looks for faults, and that nothing comes beside them.
func lookFaults(t *testing.T, cases []faultCase) {
	t.Helper()
	for _, c := range cases {
		if a, f := Parse(c.s); f != c.want || !reflect.DeepEqual(a, api.Ask{}) {
			t.Errorf("%q: %v %v, not %v", c.s, a, f, c.want)
		}
	}
}

func TestParse(t *testing.T) {
	for s, want := range map[string]api.Ask{
		"user(ann){name}":                      ask("user", "ann", pick("name")),
		"a(b){c}":                              ask("a", "b", pick("c")),
		"u1(a2){n3}":                           ask("u1", "a2", pick("n3")),
		"a(b){c d}":                            ask("a", "b", pick("c"), pick("d")),
		"a(b){c:d}":                            ask("a", "b", as("c", pick("d"))),
		"a(b){c:c c:d}":                        ask("a", "b", as("c", pick("c")), as("c", pick("d"))),
		"a(b){c:d e}":                          ask("a", "b", as("c", pick("d")), pick("e")),
		"user(ann){name chief:boss{name}}":     ask("user", "ann", pick("name"), as("chief", pick("boss", pick("name")))),
		"a(b){c{d}e}":                          ask("a", "b", pick("c", pick("d")), pick("e")),
		"a(b){c{d}e:f{g h{i}}j}":               ask("a", "b", pick("c", pick("d")), as("e", pick("f", pick("g"), pick("h", pick("i")))), pick("j")),
		"a(a){a{a{a}}a}":                       ask("a", "a", pick("a", pick("a", pick("a"))), pick("a")),
		"abcdefghijkl(a23456789012){z0 z9:z1}": ask("abcdefghijkl", "a23456789012", pick("z0"), as("z9", pick("z1"))),
	} {
		lookParsed(t, s, want)
	}
}

// TestBlanks: blanks and line feeds may stand ahead of each name and sign, and at the end.
func TestBlanks(t *testing.T) {
	parts := []string{"user", "(", "ann", ")", "{", "name", " ", "chief", ":", "boss", "{", "name", "}", "mail", "}"}
	want := ask("user", "ann", pick("name"), as("chief", pick("boss", pick("name"))), pick("mail"))
	for _, blanks := range []string{" ", "\n", "  ", " \n \n\n "} {
		for i := range len(parts) + 1 {
			lookParsed(t, strings.Join(parts[:i], "")+blanks+strings.Join(parts[i:], ""), want)
		}
		lookParsed(t, blanks+strings.Join(parts, blanks)+blanks, want)
	}
	lookParsed(t, strings.Replace(strings.Join(parts, ""), " ", "\n", 1), want)
	for _, other := range []string{"\t", "\r", "\v", "\f", "\x00", ",", "\u00a0"} {
		lookFaults(t, []faultCase{
			{other + "user(ann){name}", at(0, api.ErrForm)},
			{"user" + other + "(ann){name}", at(4, api.ErrForm)},
			{"user(ann){name" + other + "mail}", at(14, api.ErrForm)},
			{"user(ann){name}" + other, at(15, api.ErrForm)},
			{"user(ann){name} \n" + other, at(17, api.ErrForm)},
		})
	}
}

func TestParseForm(t *testing.T) {
	lookFaults(t, []faultCase{
		{"", at(0, api.ErrForm)},
		{" \n", at(2, api.ErrForm)},
		{"(ann){name}", at(0, api.ErrForm)},
		{"  (ann){name}", at(2, api.ErrForm)},
		{"User(ann){name}", at(0, api.ErrForm)},
		{"uSer(ann){name}", at(1, api.ErrForm)},
		{"1user(ann){name}", at(0, api.ErrForm)},
		{"us er(ann){name}", at(3, api.ErrForm)},
		{"user{name}", at(4, api.ErrForm)},
		{"user(){name}", at(5, api.ErrForm)},
		{"user(9){name}", at(5, api.ErrForm)},
		{"user(ann bob){name}", at(9, api.ErrForm)},
		{"user(ann{name}", at(8, api.ErrForm)},
		{"user(ann) name", at(10, api.ErrForm)},
		{"user(ann)(ann)", at(9, api.ErrForm)},
		{"user(ann){}", at(10, api.ErrForm)},
		{"user(ann){ }", at(11, api.ErrForm)},
		{"user(ann){{name}}", at(10, api.ErrForm)},
		{"user(ann){:name}", at(10, api.ErrForm)},
		{"user(ann){a:}", at(12, api.ErrForm)},
		{"user(ann){a: }", at(13, api.ErrForm)},
		{"user(ann){a:{b}}", at(12, api.ErrForm)},
		{"user(ann){a:1}", at(12, api.ErrForm)},
		{"user(ann){a::b}", at(12, api.ErrForm)},
		{"user(ann){a:b:c}", at(13, api.ErrForm)},
		{"user(ann){a:b :c}", at(14, api.ErrForm)},
		{"user(ann){a 1}", at(12, api.ErrForm)},
		{"user(ann){aB}", at(11, api.ErrForm)},
		{"user(ann){a,b}", at(11, api.ErrForm)},
		{"user(ann){a(b)}", at(11, api.ErrForm)},
		{"user(ann){a{}}", at(12, api.ErrForm)},
		{"user(ann){a{b}:c}", at(14, api.ErrForm)},
		{"user(ann){a{b}{c}}", at(14, api.ErrForm)},
		{"user(ann){a{b} {c}}", at(15, api.ErrForm)},
		{"user(ann){name}}", at(15, api.ErrForm)},
		{"user(ann){name} x", at(16, api.ErrForm)},
		{"user(ann){name}user(ann){name}", at(15, api.ErrForm)},
		{"user(ann){name}\x00", at(15, api.ErrForm)},
		{"\x00", at(0, api.ErrForm)},
		{"\xff\xfe", at(0, api.ErrForm)},
		{"user(ann){näme}", at(11, api.ErrForm)},
	})
}

// TestCut: of a text that is cut off something is missing, where it is cut, or behind the blanks there.
func TestCut(t *testing.T) {
	s := "user ( ann ) {name chief : boss {name}mail} "
	for i := range len(s) - len("} ") + 1 {
		lookFaults(t, []faultCase{
			{s[:i], at(i, api.ErrForm)},
			{s[:i] + "\n ", at(i+2, api.ErrForm)},
		})
	}
}

// TestEachByte: of all bytes just those go on as they may.
func TestEachByte(t *testing.T) {
	for b := range 256 {
		c := string([]byte{byte(b)})
		isLetter, isDigit := c >= "a" && c <= "z", c >= "0" && c <= "9"
		isBlank := c == " " || c == "\n"
		for _, x := range []struct {
			s    string
			good bool
		}{
			{c + "user(ann){name}", isLetter || isBlank},
			{"user" + c + "(ann){name}", isLetter || isDigit || isBlank},
			{"user(" + c + "){name}", isLetter},
			{"user(ann){" + c + "}", isLetter},
			{"user(ann){a" + c + "b}", isLetter || isDigit || isBlank || c == ":"},
			{"user(ann){name}" + c, isBlank},
		} {
			a, f := Parse(x.s)
			if good := f == (api.Fault{}); good != x.good || !good && f.Err != api.ErrForm {
				t.Errorf("%q: %v %v", x.s, a, f)
			}
		}
	}
}

func TestParseNames(t *testing.T) {
	most := strings.Repeat("a", api.MaxName)
	long := most + "1"
	lookParsed(t, most+"("+most+"){"+most+":"+most+"{"+most+"}}", ask(most, most, as(most, pick(most, pick(most)))))
	lookFaults(t, []faultCase{
		{long + "(ann){name}", at(0, api.ErrName)},
		{" \n" + long + "(ann){name}", at(2, api.ErrName)},
		{"user(" + long + "){name}", at(5, api.ErrName)},
		{"user( " + long + "){name}", at(6, api.ErrName)},
		{"user(ann){" + long + "}", at(10, api.ErrName)},
		{"user(ann){a " + long + ":b}", at(12, api.ErrName)},
		{"user(ann){a: " + long + "}", at(13, api.ErrName)},
		{"user(ann){a{" + long + "}}", at(12, api.ErrName)},
		{strings.Repeat("a", api.MaxQuery), at(0, api.ErrName)},
		{long, at(0, api.ErrName)},
		{long + "!", at(0, api.ErrName)},
		{"user(" + long, at(5, api.ErrName)},
		{"1" + long, at(0, api.ErrForm)},
		{most + "A", at(api.MaxName, api.ErrForm)},
	})
}

func TestParseDeep(t *testing.T) {
	lookParsed(t, deep(api.MaxDeep), nested(api.MaxDeep))
	// Lists beside each other are not nested.
	lookParsed(t, "a(b){c{d}c{d}c{d}c{d}c{d}c{d}c{d}c{d}c{d}}", ask("a", "b", pick("c", pick("d")), pick("c", pick("d")), pick("c", pick("d")),
		pick("c", pick("d")), pick("c", pick("d")), pick("c", pick("d")), pick("c", pick("d")), pick("c", pick("d")), pick("c", pick("d"))))
	open := "user(ann)" + strings.Repeat("{boss", api.MaxDeep)
	n := len(open)
	lookFaults(t, []faultCase{
		{deep(api.MaxDeep + 1), at(n, api.ErrMuch)},
		{deep(api.MaxDeep + 2), at(n, api.ErrMuch)},
		{open + " \n{name", at(n+2, api.ErrMuch)},
		{open + "{", at(n, api.ErrMuch)},
		{open + "{}", at(n, api.ErrMuch)},
		{open + ":a{b}", at(n+2, api.ErrMuch)},
		{open + "{" + strings.Repeat("a", api.MaxName+1), at(n, api.ErrMuch)},
		{open + "!{", at(n, api.ErrForm)},
		{open, at(n, api.ErrForm)},
		{open + "}{", at(n+1, api.ErrForm)},
		{"user(ann) {boss {name", at(21, api.ErrForm)},
	})
}

func TestParsePicks(t *testing.T) {
	most := strings.TrimSuffix(strings.Repeat("name ", api.MaxPicks), " ")
	if a, f := Parse("user(ann){" + most + "}"); f != (api.Fault{}) || len(a.Picks) != api.MaxPicks {
		t.Errorf("as many picks as may be: %d, %v", len(a.Picks), f)
	}
	// The pick that has the list is one, and one of two names is one, too.
	inner := strings.Repeat("a:b ", api.MaxPicks-2)
	if a, f := Parse("user(ann){c{" + inner + "}d}"); f != (api.Fault{}) || len(a.Picks) != 2 || len(a.Picks[0].Picks) != api.MaxPicks-2 {
		t.Errorf("as many picks as may be, in two lists: %v, %v", a, f)
	}
	open := "user(ann){" + most
	n := len(open)
	lookFaults(t, []faultCase{
		{open + " more}", at(n+5, api.ErrMany)},
		{open + " more ", at(n+5, api.ErrMany)},
		{open + " more : name}", at(n+5, api.ErrMany)},
		{open + " more{name}}", at(n+5, api.ErrMany)},
		{open + "{more}}", at(n+5, api.ErrMany)},
		{open + " more more}", at(n+5, api.ErrMany)},
		{"user(ann){c{" + inner + "}d e}", at(12+len(inner)+4, api.ErrMany)},
		{"user(ann){c{" + inner + "d e}}", at(12+len(inner)+3, api.ErrMany)},
	})
}

func TestParseMuch(t *testing.T) {
	s := "user(ann){name}"
	fill := strings.Repeat(" ", api.MaxQuery-len(s))
	lookParsed(t, s+fill, ask("user", "ann", pick("name")))
	lookParsed(t, fill+s, ask("user", "ann", pick("name")))
	lookFaults(t, []faultCase{
		{s + fill + " ", at(0, api.ErrMuch)},
		{fill + s + "}", at(0, api.ErrMuch)},
		{strings.Repeat(" ", api.MaxQuery), at(api.MaxQuery, api.ErrForm)},
		{strings.Repeat(" ", api.MaxQuery+1), at(0, api.ErrMuch)},
		{"!" + strings.Repeat("a", api.MaxQuery), at(0, api.ErrMuch)},
		{strings.Repeat("{", 1<<20), at(0, api.ErrMuch)},
	})
}

// TestFirstFromLeft: of several faults the leftmost one is told.
func TestFirstFromLeft(t *testing.T) {
	long := strings.Repeat("a", api.MaxName+1)
	full := "user(ann){" + strings.Repeat("a ", api.MaxPicks)
	fullDeep := "a(b){" + strings.Repeat("a ", api.MaxPicks-api.MaxDeep+1) + strings.Repeat("b{", api.MaxDeep-1)
	lookFaults(t, []faultCase{
		{"user!" + long, at(4, api.ErrForm)},
		{long + "!(", at(0, api.ErrName)},
		{"user(" + long + "!{", at(5, api.ErrName)},
		{"user(A){" + long, at(5, api.ErrForm)},
		{full + long + "}", at(len(full), api.ErrName)},
		{full + "b " + long + "}", at(len(full)+1, api.ErrMany)},
		{full + "b:" + long + "}", at(len(full)+1, api.ErrMany)},
		{full + "b !", at(len(full)+1, api.ErrMany)},
		{full + "! b", at(len(full), api.ErrForm)},
		// Behind the name comes ahead of what stands there.
		{full + "b!", at(len(full)+1, api.ErrMany)},
		{full + "b", at(len(full)+1, api.ErrMany)},
		{fullDeep + "c{d", at(len(fullDeep)+1, api.ErrMany)},
		{fullDeep + "c {d", at(len(fullDeep)+1, api.ErrMany)},
		{strings.Replace(fullDeep, "a ", "", 1) + "c{d", at(len(fullDeep)-1, api.ErrMuch)},
	})
}

// follows tells what may stand behind a token: x is a name behind `:`.
func follows(last byte) string {
	switch last {
	case '{':
		return "n"
	case ':':
		return "x"
	case 'n':
		return "n:{}"
	case 'x':
		return "n{}"
	}
	return "n}"
}

// place answers which token is the first one that is not as it must be, or -1, if all are, and nothing is missing.
func place(tokens string) int {
	last, open := byte('{'), 1
	for i := range len(tokens) {
		c := tokens[i]
		if last == ':' && c == 'n' {
			c = 'x'
		}
		if open == 0 || !strings.Contains(follows(last), string(c)) {
			return i
		}
		switch c {
		case '{':
			open++
		case '}':
			open--
		}
		last = c
	}
	if open > 0 {
		return len(tokens)
	}
	return -1
}

// TestAllShort: each row of few tokens behind the first `{` is told as it must be, and what is asked is printed, and parsed again.
func TestAllShort(t *testing.T) {
	good := 0
	var look func(tokens string, more int)
	look = func(tokens string, more int) {
		text := "t ( k ) { " + strings.Join(strings.Split(tokens, ""), " ")
		a, f := Parse(text)
		want := api.Fault{}
		if i := place(tokens); i == len(tokens) {
			want = at(len(text), api.ErrForm)
		} else if i >= 0 {
			want = at(len("t ( k ) { ")+2*i, api.ErrForm)
		}
		if f != want {
			t.Fatalf("%q: %v, not %v", text, f, want)
		}
		if f.Err == api.OK {
			good++
			lookPrinted(t, a, text)
		}
		if more == 0 {
			return
		}
		for _, c := range "n:{}" {
			look(tokens+string(c), more-1)
		}
	}
	look("", 8)
	if good < 50 {
		t.Errorf("just %d are good", good)
	}
}

// lookPrinted looks that what was parsed is printed with the same names and signs, and parsed again.
func lookPrinted(t *testing.T, a api.Ask, text string) {
	t.Helper()
	s, err := Print(a)
	if err != api.OK || strings.ReplaceAll(s, " ", "") != strings.ReplaceAll(text, " ", "") {
		t.Errorf("%q is printed %q, %v", text, s, err)
	}
	lookParsed(t, s, a)
}

// TestParsedMemory: no two lists of an answer share memory, spare room neither.
func TestParsedMemory(t *testing.T) {
	s := "a(b){c{d e f}g{h i j}k l m}"
	got, _ := Parse(s)
	want, _ := Parse(s)
	for i := range got.Picks {
		l := got.Picks[i].Picks
		clear(l[:cap(l)])
		got.Picks[i].Picks = want.Picks[i].Picks
		if !reflect.DeepEqual(got, want) {
			t.Fatalf("two lists share memory: %v", got)
		}
	}
	clear(got.Picks[:cap(got.Picks)])
	if again, _ := Parse(s); !reflect.DeepEqual(again, want) {
		t.Errorf("something is kept: %v", again)
	}
}
