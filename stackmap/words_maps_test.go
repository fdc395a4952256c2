package stackmap_test

import (
	"slices"

	"stackmap/api"
)

// The least maps a second time, by the document's words.

// types: every type that may stand in a map of a method.
func (p program) types(m method) []pair {
	l := []pair{topType, intType, nullType}
	for c := range 7 + len(p.classes) {
		l = append(l, ref(c))
	}
	for _, at := range places(m.code) {
		if m.code[at] == api.OpNew {
			l = append(l, raw(at))
		}
	}
	return l
}

// joined: the type that both fit and that fits every other type that both fit.
func (p program) joined(all []pair, a, b pair) pair {
	if a == b {
		return a
	}
	both := slices.DeleteFunc(slices.Clone(all), func(t pair) bool { return !p.fits(a, t) || !p.fits(b, t) })
	least := slices.IndexFunc(both, func(t pair) bool {
		return !slices.ContainsFunc(both, func(o pair) bool { return !p.fits(t, o) })
	})
	return both[least]
}

// standing: the frames ahead of a method's instructions, by their places, the places whose frames have changed, and those that are to have a map.
type standing struct {
	all     []pair
	frames  map[int]frame
	changed []int
	maps    map[int]bool
	none    bool
}

// meet joins a frame to what stands at a place.
func (s *standing) meet(p program, m method, f frame, place int, wanted bool) {
	old, stands := s.frames[place]
	if place >= len(m.code) || len(f.stack) > m.stack || stands && len(f.stack) != len(old.stack) {
		s.none = true
		return
	}
	f = f.copy()
	for i := 0; stands && i < len(f.locals); i++ {
		f.locals[i] = p.joined(s.all, f.locals[i], old.locals[i])
	}
	for i := 0; stands && i < len(f.stack); i++ {
		f.stack[i] = p.joined(s.all, f.stack[i], old.stack[i])
	}
	s.frames[place] = f
	s.maps[place] = s.maps[place] || wanted
	if !stands || !slices.Equal(f.locals, old.locals) || !slices.Equal(f.stack, old.stack) {
		s.changed = append(s.changed, place)
	}
}

// spread brings what comes out of the instruction at a place to the places that it can go to.
func (s *standing) spread(p program, m method, place int) {
	ahead := s.frames[place]
	for _, h := range m.handlers {
		if h.from <= place && place < h.to {
			s.meet(p, m, frame{ahead.locals, []pair{ref(h.class)}}, h.target, true)
		}
	}
	behind, holds := p.ruled(m, place, ahead)
	if !holds {
		s.none = true
		return
	}
	op, next := m.code[place], place+1
	if takesN[op] {
		next++
	}
	if op >= 11 && op <= 14 {
		s.meet(p, m, behind, m.code[place+1], true)
	}
	if canGoOn(op) {
		s.meet(p, m, behind, next, false)
	}
}

// mapsByWords: a method's least maps, and whether there are any maps at all for it.
func (p program) mapsByWords(m method) ([]stackMap, bool) {
	s := standing{p.types(m), map[int]frame{0: m.startFrame()}, []int{0}, map[int]bool{}, false}
	// The place that changed last comes first: what is found does not hang on the order.
	for len(s.changed) > 0 && !s.none {
		last := len(s.changed) - 1
		place := s.changed[last]
		s.changed = s.changed[:last]
		s.spread(p, m, place)
	}
	var maps []stackMap
	for _, at := range places(m.code) {
		if s.maps[at] {
			maps = append(maps, stackMap{at, s.frames[at].locals, s.frames[at].stack})
		}
	}
	return maps, !s.none
}

// preparedByWords: what Prepare is to answer for a file of which Check answers v.
func preparedByWords(file string, v verdict) (string, api.Errno, int) {
	if ofForm(v.e) {
		return "", v.e, v.which
	}
	p, _ := parseByWords(file)
	for i, m := range p.methods {
		maps, there := p.mapsByWords(m)
		if !there {
			return "", api.ErrType, i
		}
		p.methods[i].maps = maps
	}
	return p.file(), api.OK, 0
}
