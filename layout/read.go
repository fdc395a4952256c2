package layout

import "stackmap/api"

// reader goes once through the bytes. Once bad it stays bad and hands out zeros, so that only the end has to ask.
type reader struct {
	bytes string
	at    int
	bad   bool
}

// Read gives the parts of a file, or ErrLong, or ErrForm.
func Read(bytes string) (File, api.Errno) {
	if len(bytes) > api.MaxFile {
		return File{}, api.ErrLong
	}
	r := reader{bytes: bytes}
	f := r.file()
	if r.bad || r.at != len(bytes) {
		return File{}, api.ErrForm
	}
	return f, api.OK
}

func (r *reader) next() int {
	if r.bad || r.at < 0 || r.at >= len(r.bytes) {
		r.bad = true
		return 0
	}
	b := r.bytes[r.at]
	r.at++
	return int(b)
}

func (r *reader) expect(b int) {
	n := r.next()
	if n != b {
		r.bad = true
	}
}

// count reads how many of something follow; out of its bounds it is none, so that no loop goes on for long.
func (r *reader) count(least, most int) int {
	n := r.next()
	if n < least || n > most {
		r.bad = true
		return 0
	}
	return n
}

func (r *reader) file() File {
	var f File
	r.expect('S')
	r.expect('M')
	classes := r.count(0, api.MaxClasses)
	for i := 0; i < classes; i++ {
		c := r.class()
		f.Classes = append(f.Classes, c)
	}
	methods := r.count(1, api.MaxMethods)
	for i := 0; i < methods; i++ {
		m := r.method()
		f.Methods = append(f.Methods, m)
	}
	return f
}

func (r *reader) class() Class {
	var c Class
	c.Above = r.next()
	fields := r.count(0, api.MaxFields)
	c.Fields = r.types(fields)
	return c
}

func (r *reader) oneType() api.Type {
	kind := r.next()
	n := r.next()
	return api.Type{Kind: kind, N: n}
}

func (r *reader) types(n int) []api.Type {
	var list []api.Type
	for i := 0; i < n; i++ {
		t := r.oneType()
		list = append(list, t)
	}
	return list
}

func (r *reader) method() Method {
	var m Method
	m.Class = r.next()
	m.Name = r.next()
	params := r.count(0, api.MaxParams)
	m.Params = r.types(params)
	m.Result = r.oneType()
	m.Locals = r.count(0, api.MaxLocals)
	m.Stack = r.count(0, api.MaxStack)
	m.Code = r.code()
	m.Handlers = r.handlers()
	m.Maps = r.maps(m.Locals, m.Stack)
	return m
}

func (r *reader) code() []int {
	var list []int
	n := r.count(1, api.MaxCode)
	for i := 0; i < n; i++ {
		b := r.next()
		list = append(list, b)
	}
	return list
}

func (r *reader) handlers() []Handler {
	var list []Handler
	n := r.count(0, api.MaxHandlers)
	for i := 0; i < n; i++ {
		var h Handler
		h.From = r.next()
		h.To = r.next()
		h.Target = r.next()
		h.Class = r.next()
		list = append(list, h)
	}
	return list
}

func (r *reader) maps(locals, stack int) []Map {
	var list []Map
	n := r.count(0, api.MaxMaps)
	for i := 0; i < n; i++ {
		var m Map
		m.Place = r.next()
		m.Locals = r.types(locals)
		height := r.count(0, stack)
		m.Stack = r.types(height)
		list = append(list, m)
	}
	return list
}
