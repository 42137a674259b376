package change

import (
	"reflect"
	"strconv"
	"strings"
	"testing"

	"stitchery/api"
	"stitchery/schema"
)

func word(name string) api.Field { return api.Field{Name: name, Kind: api.Word} }

func one(name, typ string) api.Field { return api.Field{Name: name, Kind: api.One, Type: typ} }

func list(name, typ string) api.Field { return api.Field{Name: name, Kind: api.List, Type: typ} }

func typ(name string, fields ...api.Field) api.Type { return api.Type{Name: name, Fields: fields} }

func seen(own string, fields []string, t api.Type) api.Seen {
	return api.Seen{Type: t, Own: own, Fields: fields}
}

func own(names ...string) []string { return names }

func callT(from, to string) api.Change { return api.Change{Kind: api.CallType, Type: from, To: to} }

func callF(typ, from, to string) api.Change {
	return api.Change{Kind: api.CallField, Type: typ, Field: from, To: to}
}

func hides(typ, field string) api.Change {
	return api.Change{Kind: api.Hide, Type: typ, Field: field}
}

// people answers a schema with which nothing is wrong.
func people() []api.Type {
	return []api.Type{
		typ("user", word("name"), one("boss", "user"), list("posts", "post")),
		typ("post", word("text"), one("by", "user"), list("next", "post")),
		typ("tag"),
	}
}

// same holds what is seen against each other; nil and empty lists are the same.
func same(a, b []api.Seen) bool {
	if len(a) != len(b) {
		return false
	}
	for i := range a {
		if a[i].Own != b[i].Own || !sameList(a[i].Fields, b[i].Fields) || !sameType(a[i].Type, b[i].Type) {
			return false
		}
	}
	return true
}

func sameType(a, b api.Type) bool { return a.Name == b.Name && sameList(a.Fields, b.Fields) }

func sameList[T comparable](a, b []T) bool {
	return len(a) == 0 && len(b) == 0 || reflect.DeepEqual(a, b)
}

func TestSee(t *testing.T) {
	user := seen("user", own("name", "boss", "posts"), people()[0])
	post := seen("post", own("text", "by", "next"), people()[1])
	tag := seen("tag", nil, people()[2])
	man := seen("user", own("name", "boss", "posts"), typ("man", word("name"), one("boss", "man"), list("posts", "post")))
	byMan := seen("post", own("text", "by", "next"), typ("post", word("text"), one("by", "man"), list("next", "post")))
	noName := seen("user", own("boss", "posts"), typ("user", one("boss", "user"), list("posts", "post")))
	for _, c := range []struct {
		what    string
		changes []api.Change
		want    []api.Seen
	}{
		{"nothing is changed", nil, []api.Seen{user, post, tag}},
		{"an empty list of changes", []api.Change{}, []api.Seen{user, post, tag}},
		{"a type is called otherwise", []api.Change{callT("user", "man")}, []api.Seen{man, byMan, tag}},
		{"and back", []api.Change{callT("user", "man"), callT("man", "user")}, []api.Seen{user, post, tag}},
		{"two types are called as each other", []api.Change{callT("user", "x"), callT("post", "user"), callT("x", "post")}, []api.Seen{
			seen("user", own("name", "boss", "posts"), typ("post", word("name"), one("boss", "post"), list("posts", "user"))),
			seen("post", own("text", "by", "next"), typ("user", word("text"), one("by", "post"), list("next", "user"))),
			tag,
		}},
		{"a type is called as a field", []api.Change{callT("tag", "name")}, []api.Seen{user, post, seen("tag", nil, typ("name"))}},
		{"a field is called otherwise", []api.Change{callF("post", "by", "from")}, []api.Seen{
			user,
			seen("post", own("text", "by", "next"), typ("post", word("text"), one("from", "user"), list("next", "post"))),
			tag,
		}},
		{"and back", []api.Change{callF("post", "by", "x"), callF("post", "x", "by")}, []api.Seen{user, post, tag}},
		{"a field is called as a type, and as another type's field", []api.Change{callF("user", "name", "user"), callF("user", "boss", "text")}, []api.Seen{
			seen("user", own("name", "boss", "posts"), typ("user", word("user"), one("text", "user"), list("posts", "post"))),
			post,
			tag,
		}},
		{"the first field is hidden", []api.Change{hides("user", "name")}, []api.Seen{noName, post, tag}},
		{"the last field is hidden", []api.Change{hides("post", "next")}, []api.Seen{
			user,
			seen("post", own("text", "by"), typ("post", word("text"), one("by", "user"))),
			tag,
		}},
		{"all fields are hidden", []api.Change{hides("post", "by"), hides("post", "text"), hides("post", "next")}, []api.Seen{user, seen("post", nil, typ("post")), tag}},
		{"a hidden field's name is free, and keeps its owner", []api.Change{hides("user", "name"), callF("user", "boss", "name")}, []api.Seen{
			seen("user", own("boss", "posts"), typ("user", one("name", "user"), list("posts", "post"))),
			post,
			tag,
		}},
		{"names are as they are then", []api.Change{callT("user", "man"), callF("man", "boss", "chief"), callT("man", "x1"), hides("x1", "chief")}, []api.Seen{
			seen("user", own("name", "posts"), typ("x1", word("name"), list("posts", "post"))),
			seen("post", own("text", "by", "next"), typ("post", word("text"), one("by", "x1"), list("next", "post"))),
			tag,
		}},
		{"a change of a type means nothing by its field", []api.Change{{Kind: api.CallType, Type: "user", Field: "zz", To: "man"}}, []api.Seen{man, byMan, tag}},
		{"to hide means nothing by its To", []api.Change{{Kind: api.Hide, Type: "user", Field: "name", To: "BAD"}}, []api.Seen{noName, post, tag}},
		{"as long a name as may be", []api.Change{callT("tag", strings.Repeat("z", api.MaxName))}, []api.Seen{user, post, seen("tag", nil, typ(strings.Repeat("z", api.MaxName)))}},
	} {
		got, f := See(people(), c.changes)
		if f != (api.Fault{}) || !same(got, c.want) {
			t.Errorf("%s: %v %v, not %v", c.what, got, f, c.want)
		}
	}
	if got, f := See(nil, nil); len(got) != 0 || f != (api.Fault{}) {
		t.Errorf("nothing of nothing: %v %v", got, f)
	}
}

// rounds answers n changes, each with which nothing is wrong behind those ahead.
func rounds(n int) []api.Change {
	name := func(i int) string { return "t" + strconv.Itoa(i) }
	l := []api.Change{callT("tag", name(0))}
	for i := 1; i < n; i++ {
		l = append(l, callT(name(i-1), name(i)))
	}
	return l
}

func TestSeeAsManyAsMayBe(t *testing.T) {
	got, f := See(people(), rounds(api.MaxChanges))
	if want := "t" + strconv.Itoa(api.MaxChanges-1); f != (api.Fault{}) || len(got) != 3 || got[2].Type.Name != want || got[2].Own != "tag" {
		t.Errorf("%v %v, and the last type should be called %s", got, f, want)
	}
}

func TestSeeWrong(t *testing.T) {
	at := func(i int, err api.Errno) api.Fault { return api.Fault{Err: err, At: i} }
	good := callT("tag", "note")
	badTypes := []api.Type{typ("user"), typ("user")}
	badFields := []api.Type{typ("user"), typ("post"), typ("tag", word("A"))}
	for _, c := range []struct {
		what    string
		l       []api.Type
		changes []api.Change
		want    api.Fault
	}{
		{"types with something wrong", badTypes, nil, at(1, api.ErrName)},
		{"fields with something wrong", badFields, nil, at(2, api.ErrName)},
		{"too many types", make([]api.Type, api.MaxTypes+1), nil, at(0, api.ErrMany)},
		{"types ahead of too many changes", badTypes, make([]api.Change, api.MaxChanges+1), at(1, api.ErrName)},
		{"types ahead of changes", badFields, []api.Change{{}}, at(2, api.ErrName)},
		{"too many changes", people(), rounds(api.MaxChanges + 1), at(0, api.ErrMany)},
		{"too many changes, all wrong", people(), make([]api.Change, api.MaxChanges+1), at(0, api.ErrMany)},
		{"no kind", people(), []api.Change{{Type: "user", Field: "name", To: "x"}}, at(0, api.ErrKind)},
		{"no such kind", people(), []api.Change{good, {Kind: api.Hide + 1, Type: "user", Field: "name", To: "x"}}, at(1, api.ErrKind)},
		{"a kind below nought", people(), []api.Change{{Kind: -1, Type: "user", Field: "name", To: "x"}}, at(0, api.ErrKind)},
		{"a kind ahead of a type", people(), []api.Change{{Kind: 4, Type: "zz"}}, at(0, api.ErrKind)},
		{"no such type to call", people(), []api.Change{good, good}, at(1, api.ErrNone)},
		{"no such type of a field to call", people(), []api.Change{callF("zz", "name", "x")}, at(0, api.ErrNone)},
		{"no such type of a field to hide", people(), []api.Change{hides("zz", "name")}, at(0, api.ErrNone)},
		{"a type ahead of its new name", people(), []api.Change{callT("zz", "A")}, at(0, api.ErrNone)},
		{"an empty type", people(), []api.Change{callT("", "x")}, at(0, api.ErrNone)},
		{"a type by its own name of before", people(), []api.Change{callT("user", "man"), good, hides("user", "name")}, at(2, api.ErrNone)},
		{"no name for a type", people(), []api.Change{good, callT("user", "A")}, at(1, api.ErrName)},
		{"an empty name for a type", people(), []api.Change{callT("user", "")}, at(0, api.ErrName)},
		{"too long a name for a type", people(), []api.Change{callT("user", strings.Repeat("z", api.MaxName+1))}, at(0, api.ErrName)},
		{"another type's name", people(), []api.Change{callT("user", "tag")}, at(0, api.ErrName)},
		{"a type's own name", people(), []api.Change{callT("user", "user")}, at(0, api.ErrName)},
		{"a name that another type has by now", people(), []api.Change{good, callT("user", "note")}, at(1, api.ErrName)},
		{"no such field to call", people(), []api.Change{callF("user", "text", "x")}, at(0, api.ErrNone)},
		{"no such field to hide", people(), []api.Change{good, hides("user", "text")}, at(1, api.ErrNone)},
		{"a type without fields", people(), []api.Change{hides("tag", "name")}, at(0, api.ErrNone)},
		{"an empty field", people(), []api.Change{hides("user", "")}, at(0, api.ErrNone)},
		{"a field ahead of its new name", people(), []api.Change{callF("user", "zz", "A")}, at(0, api.ErrNone)},
		{"a field by its own name of before", people(), []api.Change{callF("user", "name", "x"), hides("user", "name")}, at(1, api.ErrNone)},
		{"a field that is hidden", people(), []api.Change{hides("user", "name"), hides("user", "name")}, at(1, api.ErrNone)},
		{"a hidden field that is called", people(), []api.Change{hides("user", "name"), callF("user", "name", "x")}, at(1, api.ErrNone)},
		{"no name for a field", people(), []api.Change{good, callF("user", "name", "9")}, at(1, api.ErrName)},
		{"an empty name for a field", people(), []api.Change{callF("user", "name", "")}, at(0, api.ErrName)},
		{"another field's name", people(), []api.Change{callF("user", "name", "boss")}, at(0, api.ErrName)},
		{"a field's own name", people(), []api.Change{callF("user", "name", "name")}, at(0, api.ErrName)},
		{"a name that another field has by now", people(), []api.Change{callF("user", "name", "x"), callF("user", "boss", "x")}, at(1, api.ErrName)},
		{"the first of two", people(), []api.Change{good, hides("zz", "a"), {}}, at(1, api.ErrNone)},
	} {
		got, f := See(c.l, c.changes)
		if f != c.want || got != nil {
			t.Errorf("%s: %v %v, not %v", c.what, got, f, c.want)
		}
	}
}

func TestSeenIsSchema(t *testing.T) {
	got, _ := See(people(), []api.Change{callT("user", "tagx"), hides("tagx", "name"), callF("post", "by", "text2"), callT("tag", "user")})
	if f := schema.Wrong(Types(got)); len(got) != 3 || f != (api.Fault{}) {
		t.Errorf("%v: %v", got, f)
	}
}

func TestTypes(t *testing.T) {
	l := []api.Seen{
		seen("user", own("x"), typ("man", word("name"), one("boss", "A"))),
		seen("", nil, typ("")),
		seen("user", own("x"), typ("man", word("name"))),
	}
	got := Types(l)
	if len(got) != len(l) {
		t.Fatalf("%v", got)
	}
	for i := range l {
		if !sameType(got[i], l[i].Type) {
			t.Errorf("%d: %v, not %v", i, got[i], l[i].Type)
		}
	}
	for _, none := range [][]api.Seen{nil, {}, l[:0]} {
		if got := Types(none); len(got) != 0 {
			t.Errorf("types of nothing: %v", got)
		}
	}
}

func TestOnlyRead(t *testing.T) {
	l := append(people(), typ("A"))[:3]
	l[0].Fields = append(l[0].Fields, word("A"))[:3]
	changes := []api.Change{callT("user", "man"), hides("man", "name"), callF("man", "boss", "x"), {Kind: 9}}
	before := append([]api.Change(nil), changes...)
	got, f := See(l, changes[:3])
	if f != (api.Fault{}) || len(got) != 3 || len(got[0].Fields) != 2 {
		t.Errorf("the spare room is looked at: %v %v", got, f)
	}
	if !reflect.DeepEqual(l, people()) || l[:4][3].Name != "A" || l[0].Fields[:4][3] != word("A") {
		t.Errorf("what was handed in is changed: %v", l[:4])
	}
	if !reflect.DeepEqual(changes, before) {
		t.Errorf("the changes are changed: %v", changes)
	}
	s := []api.Seen{seen("user", own("name"), typ("user", word("name")))}
	got2 := Types(s)
	got2[0].Name, got2[0].Fields[0].Name = "x", "x"
	if !reflect.DeepEqual(s, []api.Seen{seen("user", own("name"), typ("user", word("name")))}) {
		t.Errorf("Types hands out what was handed in: %v", s)
	}
}

func TestNothingKept(t *testing.T) {
	l, changes := people(), []api.Change{hides("post", "by")}
	got, _ := See(l, changes)
	want, _ := See(people(), []api.Change{hides("post", "by")})
	types, wantTypes := Types(got), Types(want)
	for i := range l {
		for j := range l[i].Fields {
			l[i].Fields[j] = api.Field{}
		}
		l[i] = api.Type{}
	}
	changes[0] = api.Change{}
	if !same(got, want) {
		t.Errorf("what was handed in is kept: %v", got)
	}
	got[0].Type.Fields[0], got[1].Type = api.Field{}, api.Type{}
	if !reflect.DeepEqual(types, wantTypes) {
		t.Errorf("Types keeps what was handed in: %v", types)
	}
}

// blank overwrites a list, and its spare room.
func blank[T any](l []T) {
	clear(l[:cap(l)])
}

func TestNothingShared(t *testing.T) {
	see := func() []api.Seen {
		got, _ := See(people(), []api.Change{hides("user", "boss")})
		return got
	}
	want := see()
	for i := range want {
		got := see()
		types := Types(got)
		blank(got[i].Type.Fields)
		if !sameList(got[i].Fields, want[i].Fields) {
			t.Errorf("%d: fields and their own names share memory", i)
		}
		blank(got[i].Fields)
		if !same(got[:i], want[:i]) || !same(got[i+1:], want[i+1:]) {
			t.Errorf("%d shares memory with another one: %v", i, got)
		}
		blank(types[i].Fields)
		for j := range types {
			if j != i && !sameType(types[j], want[j].Type) {
				t.Errorf("types %d and %d share memory", i, j)
			}
		}
	}
}
