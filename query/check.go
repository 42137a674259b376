package query

import (
	"slices"

	"stitchery/api"
	"stitchery/merge"
	"stitchery/schema"
)

// Check tells what is wrong with what is asked, of these parts.
func Check(l []api.Part, a api.Ask) api.Errno {
	// How deep and how many picks are is bounded from here on.
	if err := Wrong(a); err != api.OK {
		return err
	}
	return checkList(l, a.Type, a.Picks)
}

func checkList(l []api.Part, part string, picks []api.Pick) api.Errno {
	n := merge.Find(l, part)
	if n < 0 {
		return api.ErrNone
	}
	for i := range picks {
		if err := checkPick(l, l[n].Type.Fields, picks, i); err != api.OK {
			return err
		}
	}
	return api.OK
}

// checkPick tells what is wrong with pick number i of a list, of these fields.
func checkPick(l []api.Part, fields []api.Field, picks []api.Pick, i int) api.Errno {
	p := picks[i]
	n := schema.Field(fields, p.Field)
	if n < 0 {
		return api.ErrNone
	}
	if isCalled(picks[:i], Called(p)) {
		return api.ErrName
	}
	word, deeper := fields[n].Kind == api.Word, len(p.Picks) > 0
	if word == deeper {
		return api.ErrFit
	}
	if deeper {
		return checkList(l, fields[n].Type, p.Picks)
	}
	return api.OK
}

func isCalled(picks []api.Pick, name string) bool {
	return slices.ContainsFunc(picks, func(p api.Pick) bool { return Called(p) == name })
}
