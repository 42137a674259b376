package schema

import "stitchery/api"

// Things tells what is wrong with things of a schema with which nothing is wrong, and with which of them.
func Things(l []api.Type, things []api.Thing) api.Fault {
	if len(things) > api.MaxThings {
		return api.Fault{Err: api.ErrMany}
	}
	return firstFault(len(things), func(i int) api.Errno { return wrongThing(l, things, i) })
}

func wrongThing(l []api.Type, things []api.Thing, i int) api.Errno {
	x := things[i]
	t := Find(l, x.Type)
	if t < 0 {
		return api.ErrNone
	}
	if !Named(x.Key) || hasThing(things[:i], x.Type, x.Key) {
		return api.ErrName
	}
	fields := l[t].Fields
	if len(x.Vals) != len(fields) {
		return api.ErrMany
	}
	return firstFault(len(fields), func(j int) api.Errno { return wrongVal(fields[j], x.Vals[j]) }).Err
}

func hasThing(things []api.Thing, typ, key string) bool {
	return index(len(things), func(i int) bool { return things[i].Type == typ && things[i].Key == key }) >= 0
}

func wrongVal(f api.Field, v api.Val) api.Errno {
	word := f.Kind == api.Word
	switch {
	case v.Field != f.Name:
		return api.ErrName
	case word && len(v.Keys) > 0, !word && v.Text != "":
		return api.ErrFit
	case len(v.Keys) > api.MaxKeys, f.Kind == api.One && len(v.Keys) > 1:
		return api.ErrMany
	case len(v.Text) > api.MaxText:
		return api.ErrMuch
	case index(len(v.Keys), func(i int) bool { return !Named(v.Keys[i]) }) >= 0:
		return api.ErrName
	}
	return api.OK
}
