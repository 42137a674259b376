package query

import (
	"reflect"
	"slices"
	"strings"
	"testing"

	"stitchery/api"
)

// times answers a pick n times.
func times(n int, p api.Pick) []api.Pick { return slices.Repeat([]api.Pick{p}, n) }

type wrongCase struct {
	what string
	a    api.Ask
	want api.Errno
}

// lookWrong looks for what Wrong says, and that Print and Check say it likewise, if anything is wrong.
func lookWrong(t *testing.T, cases []wrongCase) {
	t.Helper()
	for _, c := range cases {
		if got := Wrong(c.a); got != c.want {
			t.Errorf("%s: %v, not %v", c.what, got, c.want)
		}
		if c.want == api.OK {
			continue
		}
		if s, err := Print(c.a); s != "" || err != c.want {
			t.Errorf("%s: Print says %q %v, not %v", c.what, s, err, c.want)
		}
		if got := Check(nil, c.a); got != c.want {
			t.Errorf("%s: Check says %v, not %v", c.what, got, c.want)
		}
	}
}

func TestWrong(t *testing.T) {
	most := strings.Repeat("z", api.MaxName)
	long := most + "z"
	lookWrong(t, []wrongCase{
		{"nothing", ask("user", "ann", pick("name")), api.OK},
		{"names as long as may be", ask(most, most, as(most, pick(most, pick(most)))), api.OK},
		{"nothing is said of what there is", ask("a", "b", pick("c"), pick("c"), pick("c", pick("d"))), api.OK},
		{"picks that are empty, not nil", ask("a", "b", api.Pick{Field: "c", Picks: []api.Pick{}}), api.OK},
		{"all of it", api.Ask{}, api.ErrName},
		{"no type", ask("", "ann", pick("name")), api.ErrName},
		{"no key", ask("user", "", pick("name")), api.ErrName},
		{"a type that is no name", ask("User", "ann", pick("name")), api.ErrName},
		{"a key that is no name", ask("user", "a b", pick("name")), api.ErrName},
		{"too long a type", ask(long, "ann", pick("name")), api.ErrName},
		{"too long a key", ask("user", long, pick("name")), api.ErrName},
		{"no picks", ask("user", "ann"), api.ErrMany},
		{"empty picks", api.Ask{Type: "user", Key: "ann", Picks: []api.Pick{}}, api.ErrMany},
		{"no field", ask("user", "ann", api.Pick{}), api.ErrName},
		{"a field that is none", ask("user", "ann", pick("name"), pick("1")), api.ErrName},
		{"too long a field", ask("user", "ann", pick(long)), api.ErrName},
		{"as, without a field", ask("user", "ann", as("name", pick(""))), api.ErrName},
		{"as that is no name", ask("user", "ann", as("A", pick("name"))), api.ErrName},
		{"as that is a blank", ask("user", "ann", as(" ", pick("name"))), api.ErrName},
		{"too long an as", ask("user", "ann", as(long, pick("name"))), api.ErrName},
		{"a field inside", ask("user", "ann", pick("boss", pick("name"), pick(""))), api.ErrName},
		{"as inside", ask("user", "ann", pick("boss", as("a-b", pick("name")))), api.ErrName},
	})
}

func TestWrongLimits(t *testing.T) {
	some := times(api.MaxPicks/2, pick("a"))
	lookWrong(t, []wrongCase{
		{"as deep as may be", nested(api.MaxDeep), api.OK},
		{"too deep", nested(api.MaxDeep + 1), api.ErrMuch},
		{"far too deep", nested(1 << 16), api.ErrMuch},
		{"too deep, a later one", ask("a", "b", pick("c"), nested(api.MaxDeep + 1).Picks[0]), api.ErrMuch},
		{"as many as may be", ask("a", "b", times(api.MaxPicks, pick("c"))...), api.OK},
		{"too many", ask("a", "b", times(api.MaxPicks+1, pick("c"))...), api.ErrMany},
		{"as many as may be, in two lists", ask("a", "b", pick("c", some...), pick("c", some[2:]...)), api.OK},
		{"too many, in two lists", ask("a", "b", pick("c", some...), pick("c", some[1:]...)), api.ErrMany},
		{"too many, the last one behind a list", ask("a", "b", pick("c", times(api.MaxPicks-1, pick("d"))...), pick("e")), api.ErrMany},
		{"far too many", ask("a", "b", times(1<<20, pick("c"))...), api.ErrMany},
	})
}

func TestWrongInTurn(t *testing.T) {
	over := times(api.MaxPicks, pick("a"))
	bad := pick("A")
	lookWrong(t, []wrongCase{
		{"names go ahead of no picks", ask("user", ""), api.ErrName},
		{"names go ahead of lists too deep", ask("A", "ann", nested(api.MaxDeep+1).Picks...), api.ErrName},
		{"a name goes ahead of too many picks behind it", ask("a", "b", slices.Concat(times(1, bad), over)...), api.ErrName},
		{"too many goes ahead of that pick's name", ask("a", "b", slices.Concat(over, times(1, bad))...), api.ErrMany},
		{"a pick's name goes ahead of its list", ask("a", "b", pick("A", nested(api.MaxDeep).Picks...)), api.ErrName},
		{"as goes ahead of its list", ask("a", "b", as("A", pick("b", nested(api.MaxDeep).Picks...))), api.ErrName},
		{"a pick's list goes ahead of the next one's name", ask("a", "b", nested(api.MaxDeep + 1).Picks[0], bad), api.ErrMuch},
		{"too many in a list goes ahead of the next one's name", ask("a", "b", pick("c", over...), bad), api.ErrMany},
		{"too deep goes ahead of what is in that list", nestedOf(api.MaxDeep, bad), api.ErrMuch},
		{"too deep goes ahead of too many in that list", nestedOf(api.MaxDeep, over...), api.ErrMuch},
	})
}

// nestedOf answers what is asked with these picks in a list below n others.
func nestedOf(n int, picks ...api.Pick) api.Ask {
	for range n {
		picks = []api.Pick{pick("boss", picks...)}
	}
	return ask("user", "ann", picks...)
}

// TestRound: a list that is in itself is nested too deep, and that ends.
func TestRound(t *testing.T) {
	l := times(api.MaxPicks, pick("boss"))
	for i := range l {
		l[i].Picks = l
	}
	lookWrong(t, []wrongCase{
		{"round", ask("user", "ann", l...), api.ErrMuch},
		{"round, from the last one", ask("user", "ann", pick("name"), pick("boss", l[:1]...)), api.ErrMuch},
	})
}

func TestPrint(t *testing.T) {
	for want, a := range map[string]api.Ask{
		"user(ann){name}":                  ask("user", "ann", pick("name")),
		"type(key){a b:c d{e}}":            ask("type", "key", pick("a"), as("b", pick("c")), pick("d", pick("e"))),
		"a(b){c:c}":                        ask("a", "b", as("c", pick("c"))),
		"a(b){c{d} e{f g} h}":              ask("a", "b", pick("c", pick("d")), pick("e", pick("f"), pick("g")), pick("h")),
		"user(ann){name chief:boss{name}}": ask("user", "ann", pick("name"), as("chief", pick("boss", pick("name")))),
		"a(b){c}":                          ask("a", "b", api.Pick{Field: "c", Picks: []api.Pick{}}),
		deep(api.MaxDeep):                  nested(api.MaxDeep),
	} {
		if got, err := Print(a); err != api.OK || got != want {
			t.Errorf("%q %v, not %q", got, err, want)
		}
	}
}

// TestPrintMuch: what is printed has as many bytes as may be parsed, at most.
func TestPrintMuch(t *testing.T) {
	p := as("abcdefghijkl", pick("mnopqrstuvwx"))
	a := ask("abcdefgh", "k", times(38, p)...)
	s, err := Print(a)
	if err != api.OK || len(s) != api.MaxQuery {
		t.Fatalf("%d bytes, %v", len(s), err)
	}
	lookParsed(t, s, a)
	for _, more := range []api.Ask{
		ask("abcdefghi", "k", times(38, p)...),
		ask("abcdefgh", "kk", times(38, p)...),
		ask("a", "b", times(api.MaxPicks, p)...),
		ask("a", "b", pick("c", times(api.MaxPicks-1, p)...)),
	} {
		if s, err := Print(more); err != api.ErrMuch || s != "" {
			t.Errorf("%d bytes, %v", len(s), err)
		}
		if err := Wrong(more); err != api.OK {
			t.Errorf("nothing but its print is too much: %v", err)
		}
	}
}

// TestPrintedIsParsed: what is printed is parsed, to the same.
func TestPrintedIsParsed(t *testing.T) {
	for _, a := range []api.Ask{
		ask("a", "b", pick("c")),
		ask("a1", "b2", as("c3", pick("d4")), pick("c3"), pick("c3")),
		ask("a", "b", pick("c", as("d", pick("e", pick("f"))), pick("g")), pick("h", pick("i"))),
		nested(api.MaxDeep),
		ask("a", "b", times(api.MaxPicks, pick("c"))...),
	} {
		s, err := Print(a)
		if err != api.OK {
			t.Errorf("%v: %v", a, err)
		}
		lookParsed(t, s, a)
	}
}

func TestCalled(t *testing.T) {
	for _, c := range []struct {
		p    api.Pick
		want string
	}{
		{pick("name"), "name"},
		{as("chief", pick("boss")), "chief"},
		{as("chief", pick("boss", as("a", pick("b")))), "chief"},
		{pick("boss", as("a", pick("b"))), "boss"},
		{as("A", pick("name")), "A"},
		{as("a", pick("")), "a"},
		{api.Pick{}, ""},
	} {
		if got := Called(c.p); got != c.want {
			t.Errorf("%v: %q, not %q", c.p, got, c.want)
		}
	}
}

// roomy answers what is asked, with spare room that would not do behind each list.
func roomy() api.Ask {
	l := append([]api.Pick{pick("name"), pick("boss", pick("name"), pick("A"))}, times(api.MaxPicks, pick("zz"))...)
	l[1].Picks = l[1].Picks[:1]
	return ask("user", "ann", l[:2]...)
}

// wide answers picks as they are up to the ends of their spare room.
func wide(l []api.Pick) []api.Pick {
	out := slices.Clone(l[:cap(l)])
	for i, p := range out {
		out[i].Picks = slices.Clone(p.Picks[:cap(p.Picks)])
	}
	return out
}

func TestOnlyRead(t *testing.T) {
	a, l := roomy(), parts()
	l[0].Type.Fields = append(l[0].Type.Fields, word("zz"))[:len(l[0].Type.Fields)]
	s, err := Print(a)
	if Wrong(a) != api.OK || err != api.OK || s != "user(ann){name boss{name}}" || Check(l, a) != api.OK {
		t.Errorf("%q %v: spare room is looked at", s, err)
	}
	if !reflect.DeepEqual(wide(a.Picks), wide(roomy().Picks)) || !reflect.DeepEqual(l, parts()) {
		t.Error("what was handed in was changed")
	}
	if Check(l[:1], a) != api.ErrNone || Check(l, ask("post", "x", pick("zz"))) != api.ErrNone {
		t.Error("spare room of parts is looked at")
	}
}
