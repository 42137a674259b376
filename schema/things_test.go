package schema

import (
	"reflect"
	"strconv"
	"strings"
	"testing"

	"stitchery/api"
)

// people answers a schema with which nothing is wrong.
func people() []api.Type {
	return []api.Type{
		typ("user", word("name"), one("boss", "user"), list("posts", "post")),
		typ("post", word("text")),
		typ("tag"),
	}
}

func val(field, text string, keys ...string) api.Val {
	return api.Val{Field: field, Text: text, Keys: keys}
}

func thing(typ, key string, vals ...api.Val) api.Thing {
	return api.Thing{Type: typ, Key: key, Vals: vals}
}

func user(key string, name, boss, posts api.Val) api.Thing {
	return thing("user", key, name, boss, posts)
}

func ann() api.Thing {
	return user("ann", val("name", "Ann"), val("boss", "", "bob"), val("posts", "", "x", "y", "x"))
}

// tags answers n things, each of a key of its own.
func tags(n int) []api.Thing {
	var l []api.Thing
	for i := range n {
		l = append(l, thing("tag", "k"+strconv.Itoa(i)))
	}
	return l
}

func keys(n int) []string {
	l := make([]string, n)
	for i := range l {
		l[i] = "k"
	}
	return l
}

type thingsCase struct {
	what   string
	things []api.Thing
	want   api.Fault
}

func lookThings(t *testing.T, cases []thingsCase) {
	t.Helper()
	for _, c := range cases {
		if got := Things(people(), c.things); got != c.want {
			t.Errorf("%s: %v, not %v", c.what, got, c.want)
		}
	}
}

func TestThingsNothingWrong(t *testing.T) {
	name, boss, posts := val("name", ""), val("boss", ""), val("posts", "")
	bob := func(name, boss, posts api.Val) []api.Thing { return []api.Thing{user("bob", name, boss, posts)} }
	lookThings(t, []thingsCase{
		{"nil", nil, api.Fault{}},
		{"no things", []api.Thing{}, api.Fault{}},
		{"a thing", []api.Thing{ann()}, api.Fault{}},
		{"a type without fields", []api.Thing{thing("tag", "a")}, api.Fault{}},
		{"vals that are empty, not nil", []api.Thing{{Type: "tag", Key: "a", Vals: []api.Val{}}}, api.Fault{}},
		{"things of two types with one key", []api.Thing{ann(), thing("tag", "ann")}, api.Fault{}},
		{"as many things as may be", tags(api.MaxThings), api.Fault{}},
		{"nothing in its vals", bob(name, boss, posts), api.Fault{}},
		{"keys that are empty, not nil", bob(api.Val{Field: "name", Keys: []string{}}, boss, posts), api.Fault{}},
		{"as long a text as may be", bob(val("name", strings.Repeat("x", api.MaxText)), boss, posts), api.Fault{}},
		{"a text of any bytes", bob(val("name", "\x00 \xff{}"), boss, posts), api.Fault{}},
		{"as many keys as may be", bob(name, boss, val("posts", "", keys(api.MaxKeys)...)), api.Fault{}},
		{"a key of a thing that is not there", bob(name, val("boss", "", "zoe"), posts), api.Fault{}},
	})
	if got := Things(nil, nil); got != (api.Fault{}) {
		t.Errorf("no things of no types: %v", got)
	}
}

func TestThingsWrong(t *testing.T) {
	at := func(i int, err api.Errno) api.Fault { return api.Fault{Err: err, At: i} }
	lookThings(t, []thingsCase{
		{"too many things", tags(api.MaxThings + 1), at(0, api.ErrMany)},
		{"too many things, none with a type", make([]api.Thing, api.MaxThings+1), at(0, api.ErrMany)},
		{"no such type", []api.Thing{ann(), thing("dog", "rex")}, at(1, api.ErrNone)},
		{"an empty type", []api.Thing{thing("", "rex")}, at(0, api.ErrNone)},
		{"a key that is no name", []api.Thing{ann(), thing("tag", "a"), thing("tag", "A")}, at(2, api.ErrName)},
		{"an empty key", []api.Thing{thing("tag", "")}, at(0, api.ErrName)},
		{"a key that is taken", []api.Thing{ann(), thing("tag", "a"), ann()}, at(2, api.ErrName)},
		{"too few vals", []api.Thing{thing("user", "bob", val("name", ""), val("boss", ""))}, at(0, api.ErrMany)},
		{"no vals", []api.Thing{ann(), thing("user", "bob")}, at(1, api.ErrMany)},
		{"too many vals", []api.Thing{thing("tag", "a", val("name", ""))}, at(0, api.ErrMany)},
	})
	if got := Things(nil, []api.Thing{ann()}); got != at(0, api.ErrNone) {
		t.Errorf("a thing of no types: %v", got)
	}
}

func TestThingsWrongVals(t *testing.T) {
	name, boss, posts := val("name", ""), val("boss", ""), val("posts", "")
	bob := func(name, boss, posts api.Val) []api.Thing { return []api.Thing{ann(), user("bob", name, boss, posts)} }
	at := func(err api.Errno) api.Fault { return api.Fault{Err: err, At: 1} }
	lookThings(t, []thingsCase{
		{"vals in another order", bob(boss, name, posts), at(api.ErrName)},
		{"a val of no field", bob(name, boss, val("post", "")), at(api.ErrName)},
		{"a word with a key", bob(val("name", "", "k"), boss, posts), at(api.ErrFit)},
		{"a word with too many keys", bob(val("name", "", keys(api.MaxKeys+1)...), boss, posts), at(api.ErrFit)},
		{"one with a text", bob(name, val("boss", "t"), posts), at(api.ErrFit)},
		{"one with a text that is too long", bob(name, val("boss", strings.Repeat("x", api.MaxText+1)), posts), at(api.ErrFit)},
		{"a list with a text", bob(name, boss, val("posts", "t", "k")), at(api.ErrFit)},
		{"one with two keys", bob(name, val("boss", "", "a", "b"), posts), at(api.ErrMany)},
		{"a list with too many keys", bob(name, boss, val("posts", "", keys(api.MaxKeys+1)...)), at(api.ErrMany)},
		{"a text that is too long", bob(val("name", strings.Repeat("x", api.MaxText+1)), boss, posts), at(api.ErrMuch)},
		{"one with a key that is no name", bob(name, val("boss", "", "B"), posts), at(api.ErrName)},
		{"a list with a key that is no name", bob(name, boss, val("posts", "", "a", "b", "")), at(api.ErrName)},
	})
}

func TestThingsInTurn(t *testing.T) {
	at := func(i int, err api.Errno) api.Fault { return api.Fault{Err: err, At: i} }
	long := val("name", strings.Repeat("x", api.MaxText+1))
	lookThings(t, []thingsCase{
		{"the type goes ahead of the key", []api.Thing{thing("dog", "A")}, at(0, api.ErrNone)},
		{"the key goes ahead of how many vals", []api.Thing{thing("user", "A")}, at(0, api.ErrName)},
		{"how many vals goes ahead of what they are", []api.Thing{thing("user", "bob", val("boss", "t", "A"))}, at(0, api.ErrMany)},
		{"the field goes ahead of the fit", []api.Thing{user("bob", val("boss", "", "k"), val("boss", ""), val("posts", ""))}, at(0, api.ErrName)},
		{"how many keys goes ahead of their names", []api.Thing{user("bob", val("name", ""), val("boss", "", "A", "B"), val("posts", ""))}, at(0, api.ErrMany)},
		{"a val goes ahead of the next one", []api.Thing{user("bob", long, val("name", ""), val("posts", ""))}, at(0, api.ErrMuch)},
		{"a thing's vals go ahead of the next thing's type", []api.Thing{user("bob", long, val("boss", ""), val("posts", "")), thing("dog", "rex")}, at(0, api.ErrMuch)},
	})
}

// TestThingsOfWrongSchemas: of these nothing is promised but that the call ends without a panic.
func TestThingsOfWrongSchemas(t *testing.T) {
	for _, l := range [][]api.Type{
		{{}},
		{typ("user"), typ("user", word("name"))},
		{typ("user", api.Field{Name: "name", Kind: 9}, one("boss", "dog"), word(""))},
		make([]api.Type, api.MaxTypes+1),
	} {
		for _, x := range []api.Thing{{}, ann(), thing("", "a", val("", "", keys(99)...))} {
			Things(l, []api.Thing{x, x})
		}
	}
}

// TestOnlyRead: lists that are handed in stay as they are, and what stands in their spare room counts for nothing.
func TestOnlyRead(t *testing.T) {
	l, same := people(), people()
	l = append(l, typ("user"))[:len(l)]
	l[0].Fields = append(l[0].Fields, word("name"))[:3]
	things, sameThings := []api.Thing{ann(), thing("tag", "a")}, []api.Thing{ann(), thing("tag", "a")}
	things = append(things, ann())[:len(things)]
	things[0].Vals = append(things[0].Vals, val("A", "t", "A"))[:3]
	things[0].Vals[1].Keys = append(things[0].Vals[1].Keys, "A")[:1]
	if got := Wrong(l); got != (api.Fault{}) {
		t.Errorf("Wrong: %v", got)
	}
	if got := Things(l, things); got != (api.Fault{}) {
		t.Errorf("Things: %v", got)
	}
	if !reflect.DeepEqual(l, same) || !reflect.DeepEqual(things, sameThings) {
		t.Error("what was handed in was changed")
	}
	spare := things[:3][2].Key + l[:4][3].Name + l[0].Fields[:4][3].Name + things[0].Vals[:4][3].Field + things[0].Vals[1].Keys[:2][1]
	if spare != "annusernameAA" {
		t.Errorf("the spare room was changed: %s", spare)
	}
}
