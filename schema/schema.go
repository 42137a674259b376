// Package schema looks at schemas, and at things: see doc/01-schema.md.
package schema

import "stitchery/api"

// Named tells whether s is a name.
func Named(s string) bool {
	if s == "" || len(s) > api.MaxName || !letter(s[0]) {
		return false
	}
	return index(len(s), func(i int) bool { return !letter(s[i]) && !digit(s[i]) }) < 0
}

func letter(c byte) bool { return c >= 'a' && c <= 'z' }

func digit(c byte) bool { return c >= '0' && c <= '9' }

// Find answers the number of the first type of that name, or -1.
func Find(l []api.Type, name string) int {
	return index(len(l), func(i int) bool { return l[i].Name == name })
}

// Field answers the number of the first field of that name, or -1.
func Field(l []api.Field, name string) int {
	return index(len(l), func(i int) bool { return l[i].Name == name })
}

// Wrong tells what is wrong with a schema, and with which of its types.
func Wrong(l []api.Type) api.Fault {
	if len(l) > api.MaxTypes {
		return api.Fault{Err: api.ErrMany}
	}
	// A field may name a type behind its own, so all types' names are looked at ahead of any field.
	if f := firstFault(len(l), func(i int) api.Errno { return wrongTypeName(l, i) }); f.Err != api.OK {
		return f
	}
	return firstFault(len(l), func(i int) api.Errno { return wrongFields(l, l[i].Fields) })
}

func wrongTypeName(l []api.Type, i int) api.Errno {
	if !Named(l[i].Name) || Find(l[:i], l[i].Name) >= 0 {
		return api.ErrName
	}
	return api.OK
}

func wrongFields(l []api.Type, fields []api.Field) api.Errno {
	if len(fields) > api.MaxFields {
		return api.ErrMany
	}
	return firstFault(len(fields), func(i int) api.Errno { return wrongField(l, fields, i) }).Err
}

func wrongField(l []api.Type, fields []api.Field, i int) api.Errno {
	f := fields[i]
	if !Named(f.Name) || Field(fields[:i], f.Name) >= 0 {
		return api.ErrName
	}
	switch f.Kind {
	case api.Word:
		if f.Type != "" {
			return api.ErrFit
		}
	case api.One, api.List:
		if Find(l, f.Type) < 0 {
			return api.ErrNone
		}
	default:
		return api.ErrKind
	}
	return api.OK
}
