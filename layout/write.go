package layout

import "stackmap/api"

// writer gathers bytes. What it is given comes from Read, or is held to the same bounds: every number fits a byte.
type writer struct {
	bytes []byte
}

// Write gives the bytes that Read makes the same file of.
func Write(f File) string {
	var w writer
	w.put('S')
	w.put('M')
	w.put(len(f.Classes))
	for _, c := range f.Classes {
		w.put(c.Above)
		w.put(len(c.Fields))
		w.types(c.Fields)
	}
	w.put(len(f.Methods))
	for _, m := range f.Methods {
		w.method(m)
	}
	return string(w.bytes)
}

func (w *writer) put(n int) {
	w.bytes = append(w.bytes, byte(n))
}

func (w *writer) oneType(t api.Type) {
	w.put(t.Kind)
	w.put(t.N)
}

func (w *writer) types(list []api.Type) {
	for _, t := range list {
		w.oneType(t)
	}
}

func (w *writer) method(m Method) {
	w.put(m.Class)
	w.put(m.Name)
	w.put(len(m.Params))
	w.types(m.Params)
	w.oneType(m.Result)
	w.put(m.Locals)
	w.put(m.Stack)
	w.put(len(m.Code))
	for _, b := range m.Code {
		w.put(b)
	}
	w.handlers(m.Handlers)
	w.maps(m.Maps)
}

func (w *writer) handlers(list []Handler) {
	w.put(len(list))
	for _, h := range list {
		w.put(h.From)
		w.put(h.To)
		w.put(h.Target)
		w.put(h.Class)
	}
}

func (w *writer) maps(list []Map) {
	w.put(len(list))
	for _, m := range list {
		w.put(m.Place)
		w.types(m.Locals)
		w.put(len(m.Stack))
		w.types(m.Stack)
	}
}
