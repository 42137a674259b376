package mean

import (
	"strconv"
	"strings"
	"testing"

	"stitchery/api"
	"stitchery/query"
)

func word(name string) api.Field { return api.Field{Name: name, Kind: api.Word} }

func one(name, typ string) api.Field { return api.Field{Name: name, Kind: api.One, Type: typ} }

func list(name, typ string) api.Field { return api.Field{Name: name, Kind: api.List, Type: typ} }

func typ(name string, fields ...api.Field) api.Type { return api.Type{Name: name, Fields: fields} }

func thing(typ, key string, vals ...api.Val) api.Thing {
	return api.Thing{Type: typ, Key: key, Vals: vals}
}

func text(field, s string) api.Val { return api.Val{Field: field, Text: s} }

func keys(field string, l ...string) api.Val { return api.Val{Field: field, Keys: l} }

func callType(typ, to string) api.Change {
	return api.Change{Kind: api.CallType, Type: typ, To: to}
}

func callField(typ, field, to string) api.Change {
	return api.Change{Kind: api.CallField, Type: typ, Field: field, To: to}
}

func hide(typ, field string) api.Change {
	return api.Change{Kind: api.Hide, Type: typ, Field: field}
}

// names is a service that knows users' names; of cid it knows nothing.
func names() api.Service {
	return api.Service{
		Types: []api.Type{typ("user", word("name"), word("town"))},
		Things: []api.Thing{
			thing("user", "ann", text("name", "Ann"), text("town", "Ulm")),
			thing("user", "bob", text("name", ""), text("town", "Rom")),
			thing("user", "dan", text("name", "Dan"), text("town", "")),
		},
	}
}

// bosses is a service that knows who is whose boss, and posts; of bob and dan it knows nothing.
func bosses() api.Service {
	return api.Service{
		Types: []api.Type{
			typ("post", word("title"), one("by", "man")),
			typ("man", one("boss", "man"), list("under", "man"), list("posts", "post")),
		},
		Changes: []api.Change{callType("man", "user"), callField("post", "by", "author")},
		Things: []api.Thing{
			thing("man", "ann", keys("boss"), keys("under", "bob", "cid", "zoe", "bob"), keys("posts", "ann", "two")),
			thing("man", "cid", keys("boss", "ann"), keys("under"), keys("posts", "lost")),
			thing("man", "eve", keys("boss", "zoe"), keys("under", "eve"), keys("posts")),
			thing("man", "fay", keys("boss", "bob"), keys("under", "zoe", "two"), keys("posts", "two")),
			thing("post", "ann", text("title", "One"), keys("by", "ann")),
			thing("post", "two", text("title", "Two"), keys("by")),
		},
	}
}

// guests is a service that has users, and shows none of their fields.
func guests() api.Service {
	return api.Service{
		Types:   []api.Type{typ("user", word("name"))},
		Changes: []api.Change{hide("user", "name")},
		Things:  []api.Thing{thing("user", "gus", text("name", "hidden")), thing("user", "ann", text("name", "hidden"))},
	}
}

func services() []api.Service { return []api.Service{names(), bosses(), guests()} }

func parse(t *testing.T, s string) api.Ask {
	t.Helper()
	a, f := query.Parse(s)
	if f.Err != api.OK {
		t.Fatalf("%s: %v", s, f)
	}
	return a
}

// tell writes what is got, each bit of it, so that it can be read beside what was asked.
func tell(l []api.Got) string {
	var out []string
	for _, g := range l {
		s := g.Name + "=" + strings.Repeat("null ", count(g.Null)) + [...]string{"", "word ", "one ", "list "}[g.Kind]
		if g.Text != "" {
			s += strconv.Quote(g.Text)
		}
		if g.Sub != nil {
			s += "{" + tell(g.Sub) + "}"
		}
		for _, sub := range g.Subs {
			s += "[" + tell(sub) + "]"
		}
		out = append(out, strings.TrimSuffix(s, " "))
	}
	return strings.Join(out, ", ")
}

func count(b bool) int {
	if b {
		return 1
	}
	return 0
}

type meanCase struct{ what, ask, want string }

func lookMeans(t *testing.T, l []api.Service, cases []meanCase) {
	t.Helper()
	for _, c := range cases {
		got, err := Mean(l, parse(t, c.ask))
		if err != api.OK || tell(got) != c.want {
			t.Errorf("%s: %s: %v %s, not %s", c.what, c.ask, err, tell(got), c.want)
		}
	}
}

func TestWords(t *testing.T) {
	lookMeans(t, services(), []meanCase{
		{"a word", "user(ann){name}", `name=word "Ann"`},
		{"an empty word is not null", "user(bob){name}", `name=word`},
		{"picks as they stand", "user(ann){town name}", `town=word "Ulm", name=word "Ann"`},
		{"called otherwise", "user(ann){n:name}", `n=word "Ann"`},
		{"called as another field", "user(ann){town:name name:town}", `town=word "Ann", name=word "Ulm"`},
		{"one field twice", "user(ann){name n:name}", `name=word "Ann", n=word "Ann"`},
		{"the owner does not have the thing", "user(cid){name}", `name=null word`},
		{"a home has it that shows nothing", "user(gus){name n:town}", `name=null word, n=null word`},
		{"another type's thing of that key", "post(ann){title}", `title=word "One"`},
	})
}

func TestOnes(t *testing.T) {
	lookMeans(t, services(), []meanCase{
		{"a thing", "user(cid){boss{name}}", `boss=one {name=word "Ann"}`},
		{"called otherwise", "user(cid){chief:boss{n:name}}", `chief=one {n=word "Ann"}`},
		{"no key", "user(ann){boss{name}}", `boss=null one`},
		{"a key of nothing", "user(eve){boss{name}}", `boss=null one`},
		{"the owner does not have the thing", "user(bob){boss{name}}", `boss=null one`},
		{"a thing that its owner does not have, but a home", "user(fay){boss{boss{name} name}}", `boss=one {boss=null one, name=word}`},
		{"by the name as it is seen", "post(ann){author{name}}", `author=one {name=word "Ann"}`},
		{"nobody", "post(two){title author{name}}", `title=word "Two", author=null one`},
	})
}

func TestLists(t *testing.T) {
	lookMeans(t, services(), []meanCase{
		{"each key in turn, as far as they are there", "user(ann){under{name}}", `under=list [name=word][name=null word][name=word]`},
		{"no keys: no things, but not null", "user(cid){under{name}}", `under=list`},
		{"keys of nothing: no things, but not null", "user(cid){posts{title}}", `posts=list`},
		{"a key of another type's thing", "user(fay){under{name}}", `under=list`},
		{"the owner does not have the thing", "user(bob){under{name}}", `under=null list`},
		{"another type", "user(ann){posts{title}}", `posts=list [title=word "One"][title=word "Two"]`},
		{"a thing of itself", "user(eve){under{under{under{name}}}}", `under=list [under=list [under=list [name=null word]]]`},
		{"one thing under one", "user(fay){posts{title}}", `posts=list [title=word "Two"]`},
	})
}

func TestNested(t *testing.T) {
	lookMeans(t, services(), []meanCase{
		{"lists of ones of lists", "user(ann){under{name boss{n:name posts{title}}} name}",
			`under=list [name=word, boss=null one][name=null word, boss=one {n=word "Ann", posts=list [title=word "One"][title=word "Two"]}][name=word, boss=null one], name=word "Ann"`},
		{"there and back", "post(ann){title author{posts{title author{name}}}}",
			`title=word "One", author=one {posts=list [title=word "One", author=one {name=word "Ann"}][title=word "Two", author=null one]}`},
		{"one field twice, of other picks", "user(cid){boss{name} b:boss{town}}", `boss=one {name=word "Ann"}, b=one {town=word "Ulm"}`},
		{"one name in lists of their own", "user(cid){name boss{name:town boss{name}}}", `name=null word, boss=one {name=word "Ulm", boss=null one}`},
		{"as deep as may be", "user(eve){under{under{under{under{under{under{under{name}}}}}}}}",
			`under=list [under=list [under=list [under=list [under=list [under=list [under=list [name=null word]]]]]]]`},
	})
}

// TestOwnNames: things are found by a service's own names, though another of its types is seen so.
func TestOwnNames(t *testing.T) {
	l := []api.Service{
		{
			Types: []api.Type{typ("a", word("x"), word("y"), one("go", "b")), typ("b", word("x"), one("go", "a"))},
			Changes: []api.Change{
				callType("a", "c"), callType("b", "a"), callType("c", "b"),
				callField("b", "x", "z"), callField("b", "y", "x"), callField("b", "z", "y"),
			},
			Things: []api.Thing{
				thing("a", "k", text("x", "ax"), text("y", "ay"), keys("go", "k")),
				thing("b", "k", text("x", "bx"), keys("go", "k")),
				thing("a", "only", text("x", "1"), text("y", "2"), keys("go", "only")),
			},
		},
		{Types: []api.Type{typ("a", word("w"))}, Things: []api.Thing{thing("a", "k", text("w", "aw")), thing("a", "far", text("w", "3"))}},
	}
	lookMeans(t, l, []meanCase{
		{"names that changed places", "b(k){x y go{x}}", `x=word "ay", y=word "ax", go=one {x=word "bx"}`},
		{"the other type", "a(k){x w go{x y}}", `x=word "bx", w=word "aw", go=one {x=word "ay", y=word "ax"}`},
		{"a thing of one type alone", "b(only){x go{x}}", `x=word "2", go=null one`},
		{"a thing of another service alone", "a(far){x go{x} w}", `x=null word, go=null one, w=word "3"`},
	})
	for _, s := range []string{"a(only){x}", "b(far){x}"} {
		if got, err := Mean(l, parse(t, s)); err != api.ErrNone || len(got) != 0 {
			t.Errorf("%s: %v %v", s, err, got)
		}
	}
}

type wrongCase struct {
	what string
	l    []api.Service
	a    api.Ask
	want api.Errno
}

func lookWrong(t *testing.T, cases []wrongCase) {
	t.Helper()
	for _, c := range cases {
		if got, err := Mean(c.l, c.a); err != c.want || got != nil {
			t.Errorf("%s: %v %v, not %v", c.what, err, got, c.want)
		}
	}
}

func TestWrongServices(t *testing.T) {
	good := parse(t, "user(ann){name}")
	bad := func(change func(s *api.Service)) []api.Service {
		l := services()
		change(&l[1])
		return l
	}
	lookWrong(t, []wrongCase{
		{"too many services", make([]api.Service, api.MaxServices+1), good, api.ErrMany},
		{"a type's name", bad(func(s *api.Service) { s.Types[0].Name = "Post" }), good, api.ErrName},
		{"a field's kind", bad(func(s *api.Service) { s.Types[0].Fields[0].Kind = 4 }), good, api.ErrKind},
		{"a change of nothing", bad(func(s *api.Service) { s.Changes[0].Type = "user" }), good, api.ErrNone},
		{"a thing of no type", bad(func(s *api.Service) { s.Things[0].Type = "user" }), good, api.ErrNone},
		{"a thing twice", bad(func(s *api.Service) { s.Things[1].Key = "ann" }), good, api.ErrName},
		{"a thing with too few vals", bad(func(s *api.Service) { s.Things[0].Vals = s.Things[0].Vals[1:] }), good, api.ErrMany},
		{"a thing with a val of another field", bad(func(s *api.Service) { s.Things[0].Vals[0].Field = "bos" }), good, api.ErrName},
		{"two keys of One", bad(func(s *api.Service) { s.Things[0].Vals[0] = keys("boss", "cid", "cid") }), good, api.ErrMany},
		{"a text of One", bad(func(s *api.Service) { s.Things[0].Vals[0].Text = "x" }), good, api.ErrFit},
		{"a text that is too long", bad(func(s *api.Service) { s.Things[4].Vals[0].Text = strings.Repeat("x", api.MaxText+1) }), good, api.ErrMuch},
		{"two services have one field", []api.Service{names(), names()}, good, api.ErrName},
	})
}

func TestWrongAsk(t *testing.T) {
	deep := []api.Pick{{Field: "under"}}
	deep[0].Picks = deep // it has no end
	many := make([]api.Pick, api.MaxPicks+1)
	for i := range many {
		many[i] = api.Pick{As: "a" + strconv.Itoa(i), Field: "name"}
	}
	lookWrong(t, []wrongCase{
		{"nothing is asked", services(), api.Ask{}, api.ErrName},
		{"no key", services(), api.Ask{Type: "user", Picks: many[:1]}, api.ErrName},
		{"no picks", services(), api.Ask{Type: "user", Key: "ann"}, api.ErrMany},
		{"too many picks", services(), api.Ask{Type: "user", Key: "ann", Picks: many}, api.ErrMany},
		{"too deep", services(), api.Ask{Type: "user", Key: "ann", Picks: deep}, api.ErrMuch},
		{"a name that is none", services(), api.Ask{Type: "user", Key: "ann", Picks: []api.Pick{{As: "A", Field: "name"}}}, api.ErrName},
		{"no such part", services(), parse(t, "users(ann){name}"), api.ErrNone},
		{"a part by its own name", services(), parse(t, "man(ann){boss{name}}"), api.ErrNone},
		{"no such field", services(), parse(t, "user(ann){nam}"), api.ErrNone},
		{"a field by its own name", services(), parse(t, "post(ann){by{name}}"), api.ErrNone},
		{"a field that is hidden", services()[1:], parse(t, "user(gus){name}"), api.ErrNone},
		{"two picks called the same", services(), parse(t, "user(ann){name name:town}"), api.ErrName},
		{"picks of a word", services(), parse(t, "user(ann){name{name}}"), api.ErrFit},
		{"no picks of a thing", services(), parse(t, "user(ann){boss}"), api.ErrFit},
		{"picks of nothing further in", services(), parse(t, "user(ann){under{boss{title}}}"), api.ErrNone},
		{"no services", nil, parse(t, "user(ann){name}"), api.ErrNone},
		{"an empty list of services", []api.Service{}, parse(t, "user(ann){name}"), api.ErrNone},
		{"a service with nothing", []api.Service{{}}, parse(t, "user(ann){name}"), api.ErrNone},
	})
	if got, err := Mean(services(), api.Ask{Type: "user", Key: "ann", Picks: many[:api.MaxPicks]}); err != api.OK || len(got) != api.MaxPicks {
		t.Errorf("as many picks as may be: %v, %d of them", err, len(got))
	}
}

func TestNotThere(t *testing.T) {
	lookWrong(t, []wrongCase{
		{"a key of nothing", services(), parse(t, "user(zoe){name}"), api.ErrNone},
		{"a key of another type's thing", services(), parse(t, "user(two){name}"), api.ErrNone},
		{"the other way round", services(), parse(t, "post(bob){title}"), api.ErrNone},
		{"a thing of a service that is not asked", services()[:1], parse(t, "user(cid){name}"), api.ErrNone},
		{"a key that just a list has", services(), parse(t, "post(lost){title}"), api.ErrNone},
		{"the beginning of a key", services(), parse(t, "user(an){name}"), api.ErrNone},
		{"more than a key", services(), parse(t, "user(ann2){name}"), api.ErrNone},
	})
}

func TestWrongInTurn(t *testing.T) {
	bad := services()
	bad[2].Things[0].Vals[0].Keys = []string{"a"}
	lookWrong(t, []wrongCase{
		{"a service goes ahead of what is asked", bad, api.Ask{}, api.ErrFit},
		{"a service goes ahead of a part", bad, parse(t, "zz(ann){name}"), api.ErrFit},
		{"a service goes ahead of a thing", bad, parse(t, "user(zoe){name}"), api.ErrFit},
		{"a service goes ahead of two that don't go together", append(services(), names(), bad[2]), parse(t, "user(zoe){name}"), api.ErrFit},
		{"two services that don't go together go ahead of a thing", []api.Service{names(), names()}, parse(t, "user(zoe){name}"), api.ErrName},
		{"what is asked goes ahead of a thing", services(), parse(t, "user(zoe){name name}"), api.ErrName},
		{"picks further in go ahead of a thing", services(), parse(t, "user(zoe){boss{name{name}}}"), api.ErrFit},
	})
}
