// Package rut tells how deep the ruts of miles can be, as wheels and frost deepen them, and which staffs cannot be right.
package rut

import "macadam/api"

// Check returns ErrRut unless a book is valid.
func Check(b api.RutBook) api.Errno {
	if !isBook(b) {
		return api.ErrRut
	}
	return api.OK
}

// Right reports whether a book can be true.
func Right(b api.RutBook) (bool, api.Errno) {
	if e := Check(b); e != api.OK {
		return false, e
	}
	return prepare(b).right(), api.OK
}

// Deep returns how deep the ruts of a mile are at the end of a day, at least and at most.
func Deep(b api.RutBook, mile, day int) (api.Span, api.Errno) {
	k, e := learn(b, isNumber(mile, len(b.Miles)) && isNumber(day, len(b.Days)))
	if e != api.OK {
		return api.Span{}, e
	}
	return api.Span(k.deep(mile, day)), api.OK
}

// Wears returns what a wagon of a kind, or a night of frost, costs, at least and at most.
func Wears(b api.RutBook, kind int) (api.Span, api.Errno) {
	k, e := learn(b, isNumber(kind, len(b.Wears)))
	if e != api.OK {
		return api.Span{}, e
	}
	return api.Span(k.wear(kind)), api.OK
}

// Frost returns whether there was frost on a day: surely, perhaps, or not at all.
func Frost(b api.RutBook, day int) (int, api.Errno) {
	k, e := learn(b, isNumber(day, len(b.Days)))
	if e != api.OK {
		return 0, e
	}
	nights := api.Span(k.frost(day))
	kind := api.RutNone
	for frostNights[kind] != nights {
		kind++
	}
	return kind, api.OK
}

// Worse returns the first day at the end of which a mile may be worse than the act allows.
func Worse(b api.RutBook, mile int) (int, api.Errno) {
	return firstWorse(b, mile, perhaps)
}

// Surely returns the first day at the end of which a mile surely is worse than the act allows.
func Surely(b api.RutBook, mile int) (int, api.Errno) {
	return firstWorse(b, mile, surely)
}

// Bad returns all miles that may be worse than the act allows at the end of a day.
func Bad(b api.RutBook, day int) ([]int, api.Errno) {
	k, e := learn(b, isNumber(day, len(b.Days)))
	if e != api.OK {
		return nil, e
	}
	return k.bad(day), api.OK
}

// First returns the first mile that must be mended, and the day at the end of which it may be worse than the act allows.
func First(b api.RutBook) (mile, day int, e api.Errno) {
	k, e := learn(b, true)
	if e != api.OK {
		return 0, 0, e
	}
	for day := range len(b.Days) {
		if miles := k.bad(day); len(miles) > 0 {
			return miles[0], day, api.OK
		}
	}
	return 0, 0, api.ErrNone
}

// Fits reports whether one staff more can be right.
func Fits(b api.RutBook, staff api.RutStaff) (bool, api.Errno) {
	if e := Check(b); e != api.OK {
		return false, e
	}
	if !isStaff(b, staff) {
		return false, api.ErrRutAsk
	}
	p := prepare(b)
	if !p.right() {
		return false, api.ErrRutFalse
	}
	// The caller may use what lies behind the end of its list: without room there, append makes a new one.
	p.Staffs = append(b.Staffs[:len(b.Staffs):len(b.Staffs)], staff)
	return p.right(), api.OK
}

// Wrong returns the fewest staffs that must be wrong, the first ones of several.
func Wrong(b api.RutBook) ([]int, api.Errno) {
	if e := Check(b); e != api.OK {
		return nil, e
	}
	return fewest(len(b.Staffs), prepare(b).rightWithout), api.OK
}
