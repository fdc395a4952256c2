package least

import (
	"stackmap/code"
	"stackmap/layout"
	"stackmap/rules"
	"stackmap/types"
)

// spot: what is known so far of a place in the code.
type spot struct {
	ahead  rules.Frame
	stands bool // there is a frame ahead of the instruction
	risen  bool // that frame has changed since the instruction was looked at
	wanted bool // something goes there as to its n, or is caught there: a map is wanted
}

// search: a method whose frames are being found, by the places of its code. Once hopeless it stays so: frames that have risen never suit where lower ones did not.
type search struct {
	tree     types.Tree
	method   layout.Method
	list     []code.Instruction
	rules    rules.Rules
	spots    []spot
	hopeless bool
}

// round looks at each instruction whose frame has risen, and tells whether another round is due.
func (s *search) round() bool {
	some := false
	for _, one := range s.list {
		if one.Place >= len(s.spots) || !s.spots[one.Place].risen {
			continue
		}
		some = true
		s.spots[one.Place].risen = false
		ahead := s.spots[one.Place].ahead
		s.look(one, ahead)
	}
	return some && !s.hopeless
}

// look lets the frames that come out of an instruction arrive wherever it can go.
func (s *search) look(one code.Instruction, ahead rules.Frame) {
	s.lookAtHandlers(one.Place, ahead)
	behind, holds := s.rules.Behind(one, ahead)
	if !holds {
		s.hopeless = true
		return
	}
	if code.GoesToN(one.Op) {
		s.jump(behind, one.N)
	}
	if code.GoesOn(one.Op) {
		next := code.Next(one)
		s.arrive(behind, next)
	}
}

func (s *search) lookAtHandlers(place int, ahead rules.Frame) {
	for _, h := range s.method.Handlers {
		if !h.Covers(place) {
			continue
		}
		caught := ahead.Caught(h.Class)
		s.jump(caught, h.Target)
	}
}

// jump lets a frame arrive where only a map can tell of it.
func (s *search) jump(frame rules.Frame, place int) {
	s.arrive(frame, place)
	if place >= 0 && place < len(s.spots) {
		s.spots[place].wanted = true
	}
}

// arrive joins a frame to what stands at a place. Behind the last instruction there is no place.
func (s *search) arrive(frame rules.Frame, place int) {
	if place < 0 || place >= len(s.spots) || len(frame.Stack) > s.method.Stack {
		s.hopeless = true
		return
	}
	at := s.spots[place]
	if at.stands && frame.Fits(s.tree, at.ahead) {
		return
	}
	if at.stands {
		joined, can := frame.Join(s.tree, at.ahead)
		if !can {
			s.hopeless = true
			return
		}
		frame = joined
	}
	s.spots[place].ahead = frame
	s.spots[place].stands = true
	s.spots[place].risen = true
}

// maps gives a map for each place that wants one, in the order of the places.
func (s *search) maps() []layout.Map {
	var list []layout.Map
	for place, at := range s.spots {
		if at.wanted {
			list = append(list, layout.Map{Place: place, Locals: at.ahead.Locals, Stack: at.ahead.Stack})
		}
	}
	return list
}
