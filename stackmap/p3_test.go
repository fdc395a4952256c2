package stackmap_test

import (
	"fmt"
	"strings"
	"testing"

	"stackmap/api"
)

// full: a file in which every count is as high as it may be.
func full() program {
	var p program
	for i := 0; i < 6; i++ {
		p.classes = append(p.classes, class{0, repeated(4, intType)})
		p.methods = append(p.methods, fullMethod())
	}
	return p
}

func fullMethod() method {
	m := method{class: api.NoClass, params: repeated(4, intType), locals: 8, stack: 8, code: repeated(120, api.OpReturn)}
	m.handlers = repeated(4, handler{100, 101, 0, 1})
	for i := 1; i <= 64; i++ {
		m.maps = append(m.maps, stackMap{i, repeated(8, topType), repeated(8, intType)})
	}
	return m
}

func TestP3LeastAndGreatestFile(t *testing.T) {
	wantOK(t, "the least file", text(83, 77, 0, 1, 255, 0, 0, 0, 0, 0, 0, 1, 22, 0, 0))
	wantOK(t, "the greatest file", full().file())
	wantForm(t, "a file of everything", rich().file())
}

func TestP3Long(t *testing.T) {
	good := alone(plainMethod())
	for _, c := range []struct {
		what string
		file string
		e    api.Errno
	}{
		{"15000 bytes", good + strings.Repeat("\x00", 15000-len(good)), api.ErrForm},
		{"15001 bytes", good + strings.Repeat("\x00", 15001-len(good)), api.ErrLong},
		{"15001 bytes of nothing known", strings.Repeat("\xff", 15001), api.ErrLong},
		{"a million bytes", strings.Repeat("SM", 500000), api.ErrLong},
	} {
		wantError(t, c.what, c.file, c.e, 0, 0)
	}
}

func TestP3Mark(t *testing.T) {
	good := alone(plainMethod())
	for b := 0; b < 256; b++ {
		if b != 'S' {
			wantError(t, "another first byte", text(b)+good[1:], api.ErrForm, 0, 0)
		}
		if b != 'M' {
			wantError(t, "another second byte", good[:1]+text(b)+good[2:], api.ErrForm, 0, 0)
		}
	}
}

func TestP3EndsTooEarlyOrTooLate(t *testing.T) {
	for _, file := range []string{alone(plainMethod()), rich().file()} {
		for n := range file {
			wantError(t, fmt.Sprint("the first bytes: ", n), file[:n], api.ErrForm, 0, 0)
		}
		for b := 0; b < 256; b++ {
			wantError(t, fmt.Sprint("behind it a byte ", b), file+text(b), api.ErrForm, 0, 0)
		}
		wantError(t, "twice", file+file, api.ErrForm, 0, 0)
	}
	greatest := full().file()
	for n := len(greatest) - 1; n >= 0; n -= 23 {
		wantError(t, fmt.Sprint("the greatest file's first bytes: ", n), greatest[:n], api.ErrForm, 0, 0)
	}
	wantError(t, "the greatest file and a byte", greatest+"\x00", api.ErrForm, 0, 0)
}

// A count's bounds: what there are so many of is really there, so that nothing but the count can be wrong.
func TestP3Counts(t *testing.T) {
	for _, c := range []struct {
		what        string
		least, most int
		with        func(n int) program
	}{
		{"classes", 0, 6, func(n int) program {
			return program{repeated(n, class{}), []method{plainMethod()}}
		}},
		{"fields", 0, 4, func(n int) program {
			return program{[]class{{0, repeated(n, intType)}}, []method{plainMethod()}}
		}},
		{"methods", 1, 6, func(n int) program { return program{nil, repeated(n, plainMethod())} }},
		{"parameters", 0, 4, func(n int) program {
			return lone(func(m *method) { m.params, m.locals = repeated(n, intType), 8 })
		}},
		{"locals", 0, 8, func(n int) program { return lone(func(m *method) { m.locals = n }) }},
		{"the stack's height", 0, 8, func(n int) program { return lone(func(m *method) { m.stack = n }) }},
		{"bytes of code", 1, 120, func(n int) program {
			return lone(func(m *method) { m.code = repeated(n, api.OpReturn) })
		}},
		{"handlers", 0, 4, func(n int) program {
			return lone(func(m *method) {
				m.code, m.handlers = repeated(2, api.OpReturn), repeated(n, handler{1, 2, 0, 1})
			})
		}},
		{"maps", 0, 64, func(n int) program {
			return lone(func(m *method) {
				m.code = repeated(120, api.OpReturn)
				for i := 0; i < n; i++ {
					m.maps = append(m.maps, stackMap{place: i})
				}
			})
		}},
	} {
		for n := 0; n <= 255; n++ {
			what, file := fmt.Sprint(c.what, ": ", n), c.with(n).file()
			if n >= c.least && n <= c.most {
				wantOK(t, what, file)
			} else {
				wantError(t, what, file, api.ErrForm, 0, 0)
			}
		}
	}
}

func lone(change func(m *method)) program {
	m := plainMethod()
	change(&m)
	return program{nil, []method{m}}
}

func TestP3HeightOfMap(t *testing.T) {
	for may := 0; may <= 8; may++ {
		for is := 0; is <= 20; is++ {
			m := plainMethod(api.OpReturn)
			m.locals, m.stack = 2, may
			m.maps = []stackMap{{1, repeated(2, topType), repeated(is, intType)}}
			what := fmt.Sprintf("a map of height %d, where %d may be", is, may)
			if is <= may {
				wantOK(t, what, alone(m))
			} else {
				wantError(t, what, alone(m), api.ErrForm, 0, 0)
			}
		}
	}
}

func TestP3AheadOfTheOthers(t *testing.T) {
	m := method{class: 200, name: 9, code: []int{99}, handlers: []handler{{9, 1, 9, 0}}, maps: []stackMap{{place: 77}}}
	file := program{[]class{{50, []pair{nullType}}}, []method{m}}.file()
	wantError(t, "everything wrong but the form", file, api.ErrClass, 7, 0)
	wantError(t, "and a byte behind", file+"\x00", api.ErrForm, 0, 0)
	wantError(t, "and too long", file+strings.Repeat("\x00", 15000), api.ErrLong, 0, 0)
}
