package schema

import (
	"strconv"
	"strings"
	"testing"

	"stitchery/api"
)

func word(name string) api.Field { return api.Field{Name: name, Kind: api.Word} }

func one(name, typ string) api.Field { return api.Field{Name: name, Kind: api.One, Type: typ} }

func list(name, typ string) api.Field { return api.Field{Name: name, Kind: api.List, Type: typ} }

func typ(name string, fields ...api.Field) api.Type { return api.Type{Name: name, Fields: fields} }

// types and words answer n of them, each of a name of its own.
func types(n int) []api.Type {
	var l []api.Type
	for i := range n {
		l = append(l, typ("t"+strconv.Itoa(i)))
	}
	return l
}

func words(n int) []api.Field {
	var l []api.Field
	for i := range n {
		l = append(l, word("f"+strconv.Itoa(i)))
	}
	return l
}

func TestNamed(t *testing.T) {
	long := strings.Repeat("a", api.MaxName)
	for _, s := range []string{"a", "z", "az", "a0", "a9", "z0a9", long, "z" + strings.Repeat("9", api.MaxName-1)} {
		if !Named(s) {
			t.Errorf("%q should be a name", s)
		}
	}
	wrong := []string{"", " ", "a ", " a", "0", "9a", "A", "aB", "a-b", "a_b", "a\x00", "a\n", "\xff", "a\xff", "ä", "aä", "a٣", long + "a", long + "A"}
	for _, around := range []byte{'a' - 1, 'z' + 1, '0' - 1, '9' + 1, 'A', 'Z'} {
		wrong = append(wrong, string(rune(around)), "a"+string(rune(around)), "a"+string(rune(around))+"a")
	}
	for _, s := range wrong {
		if Named(s) {
			t.Errorf("%q should be no name", s)
		}
	}
}

func TestFind(t *testing.T) {
	l := []api.Type{typ("user"), typ("post"), typ("user"), typ("A"), typ("")}
	for name, want := range map[string]int{"user": 0, "post": 1, "A": 3, "": 4, "use": -1, "users": -1, "User": -1} {
		if got := Find(l, name); got != want {
			t.Errorf("Find %q: %d, not %d", name, got, want)
		}
	}
	for _, none := range [][]api.Type{nil, {}, l[:0]} {
		if got := Find(none, "user"); got != -1 {
			t.Errorf("Find in nothing: %d", got)
		}
	}
	if got := Find(l[:2], "A"); got != -1 {
		t.Errorf("Find looks at the spare room: %d", got)
	}
}

func TestField(t *testing.T) {
	l := []api.Field{word("name"), one("boss", "user"), word("name"), word("A"), word("")}
	for name, want := range map[string]int{"name": 0, "boss": 1, "A": 3, "": 4, "bos": -1, "bosss": -1, "user": -1} {
		if got := Field(l, name); got != want {
			t.Errorf("Field %q: %d, not %d", name, got, want)
		}
	}
	for _, none := range [][]api.Field{nil, {}, l[:0]} {
		if got := Field(none, "name"); got != -1 {
			t.Errorf("Field in nothing: %d", got)
		}
	}
	if got := Field(l[:2], "A"); got != -1 {
		t.Errorf("Field looks at the spare room: %d", got)
	}
}

type wrongCase struct {
	what string
	l    []api.Type
	want api.Fault
}

func lookWrong(t *testing.T, cases []wrongCase) {
	t.Helper()
	for _, c := range cases {
		if got := Wrong(c.l); got != c.want {
			t.Errorf("%s: %v, not %v", c.what, got, c.want)
		}
	}
}

func TestWrongNothing(t *testing.T) {
	lookWrong(t, []wrongCase{
		{"nil", nil, api.Fault{}},
		{"no types", []api.Type{}, api.Fault{}},
		{"a type without fields", []api.Type{typ("user")}, api.Fault{}},
		{"fields that are empty, not nil", []api.Type{{Name: "user", Fields: []api.Field{}}}, api.Fault{}},
		{"a field of its own type", []api.Type{typ("user", one("boss", "user"))}, api.Fault{}},
		{"a type behind", []api.Type{typ("user", word("name"), list("posts", "post")), typ("post", one("by", "user"))}, api.Fault{}},
		{"two types with fields of one name", []api.Type{typ("user", word("a")), typ("post", word("a"))}, api.Fault{}},
		{"a field called as a type is", []api.Type{typ("user", word("user"))}, api.Fault{}},
		{"as many types as may be", types(api.MaxTypes), api.Fault{}},
		{"as many fields as may be", []api.Type{typ("user", words(api.MaxFields)...)}, api.Fault{}},
	})
}

func TestWrongTypes(t *testing.T) {
	lookWrong(t, []wrongCase{
		{"too many types", types(api.MaxTypes + 1), api.Fault{Err: api.ErrMany}},
		{"too many types, none with a name", make([]api.Type, api.MaxTypes+1), api.Fault{Err: api.ErrMany}},
		{"no name", []api.Type{typ("user"), typ("A")}, api.Fault{Err: api.ErrName, At: 1}},
		{"an empty name", []api.Type{typ("")}, api.Fault{Err: api.ErrName}},
		{"a name of too many bytes", []api.Type{typ("a"), typ("b"), typ(strings.Repeat("c", api.MaxName+1))}, api.Fault{Err: api.ErrName, At: 2}},
		{"a name that is taken", []api.Type{typ("user"), typ("post"), typ("user")}, api.Fault{Err: api.ErrName, At: 2}},
		{"two wrong names", []api.Type{typ("a"), typ("a"), typ("A")}, api.Fault{Err: api.ErrName, At: 1}},
		{"a later type's name goes ahead of fields", []api.Type{typ("user", words(api.MaxFields+1)...), typ("post"), typ("post")}, api.Fault{Err: api.ErrName, At: 2}},
	})
}

func TestWrongFields(t *testing.T) {
	user := func(fields ...api.Field) []api.Type {
		return []api.Type{typ("post", word("text")), typ("user", fields...)}
	}
	at := func(err api.Errno) api.Fault { return api.Fault{Err: err, At: 1} }
	kind := func(k int, typ string) api.Field { return api.Field{Name: "a", Kind: k, Type: typ} }
	lookWrong(t, []wrongCase{
		{"too many fields", user(words(api.MaxFields + 1)...), at(api.ErrMany)},
		{"too many fields, none with a name", user(make([]api.Field, api.MaxFields+1)...), at(api.ErrMany)},
		{"no name", user(word("a"), word("A")), at(api.ErrName)},
		{"an empty name", user(word("")), at(api.ErrName)},
		{"a name that is taken", user(word("a"), word("b"), one("a", "user")), at(api.ErrName)},
		{"kind 0", user(kind(0, "")), at(api.ErrKind)},
		{"kind 4", user(kind(4, "user")), at(api.ErrKind)},
		{"kind -1", user(kind(-1, "")), at(api.ErrKind)},
		{"a word with a type", user(kind(api.Word, "user")), at(api.ErrFit)},
		{"a word with a type that is none", user(kind(api.Word, "A")), at(api.ErrFit)},
		{"one without a type", user(one("a", "")), at(api.ErrNone)},
		{"one of no type", user(one("a", "tag")), at(api.ErrNone)},
		{"a list without a type", user(list("a", "")), at(api.ErrNone)},
		{"a list of no type", user(list("a", "User")), at(api.ErrNone)},
	})
}

func TestWrongInTurn(t *testing.T) {
	noKind, noFit, none := api.Field{Name: "a"}, api.Field{Name: "b", Kind: api.Word, Type: "x"}, one("c", "x")
	lookWrong(t, []wrongCase{
		{"the name goes ahead of the kind", []api.Type{typ("user", api.Field{Name: "A", Kind: 9})}, api.Fault{Err: api.ErrName}},
		{"the name goes ahead of the type", []api.Type{typ("user", one("A", "x"))}, api.Fault{Err: api.ErrName}},
		{"the kind of a field goes ahead of the next field's name", []api.Type{typ("user", noKind, word("A"))}, api.Fault{Err: api.ErrKind}},
		{"the fit of a field goes ahead of the next field's kind", []api.Type{typ("user", noFit, noKind)}, api.Fault{Err: api.ErrFit}},
		{"the type of a field goes ahead of the next field's name", []api.Type{typ("user", none, none)}, api.Fault{Err: api.ErrNone}},
		{"a type's fields go ahead of how many the next one has", []api.Type{typ("a"), typ("user", none), typ("post", words(api.MaxFields+1)...)}, api.Fault{Err: api.ErrNone, At: 1}},
	})
}
