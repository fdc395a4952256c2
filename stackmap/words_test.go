package stackmap_test

import "stackmap/api"

// The errors of form a second time, by the document's words and with other means than the program's, to hold its answers against.

type verdict struct {
	e         api.Errno
	which, at int
}

// noFile is thrown where the bytes are no file.
type noFile struct{}

// take cuts n numbers off the list.
func take(l *[]int, n int) []int {
	if len(*l) < n {
		panic(noFile{})
	}
	head := (*l)[:n]
	*l = (*l)[n:]
	return head
}

func takeCount(l *[]int, least, most int) int {
	n := take(l, 1)[0]
	if n < least || n > most {
		panic(noFile{})
	}
	return n
}

func takePairs(l *[]int, n int) []pair {
	var ps []pair
	for ; n > 0; n-- {
		b := take(l, 2)
		ps = append(ps, pair{b[0], b[1]})
	}
	return ps
}

func takeMethod(l *[]int) method {
	var m method
	b := take(l, 2)
	m.class, m.name = b[0], b[1]
	m.params = takePairs(l, takeCount(l, 0, 4))
	m.result = takePairs(l, 1)[0]
	m.locals = takeCount(l, 0, 8)
	m.stack = takeCount(l, 0, 8)
	m.code = take(l, takeCount(l, 1, 120))
	for n := takeCount(l, 0, 4); n > 0; n-- {
		b := take(l, 4)
		m.handlers = append(m.handlers, handler{b[0], b[1], b[2], b[3]})
	}
	for n := takeCount(l, 0, 64); n > 0; n-- {
		s := stackMap{place: take(l, 1)[0]}
		s.locals = takePairs(l, m.locals)
		s.stack = takePairs(l, takeCount(l, 0, m.stack))
		m.maps = append(m.maps, s)
	}
	return m
}

func parseByWords(file string) (p program, ok bool) {
	defer func() {
		if r := recover(); r != nil {
			if _, is := r.(noFile); !is {
				panic(r)
			}
			p, ok = program{}, false
		}
	}()
	var l []int
	for _, b := range []byte(file) {
		l = append(l, int(b))
	}
	if mark := take(&l, 2); mark[0] != 83 || mark[1] != 77 {
		return program{}, false
	}
	for n := takeCount(&l, 0, 6); n > 0; n-- {
		above := take(&l, 1)[0]
		p.classes = append(p.classes, class{above, takePairs(&l, takeCount(&l, 0, 4))})
	}
	for n := takeCount(&l, 1, 6); n > 0; n-- {
		p.methods = append(p.methods, takeMethod(&l))
	}
	return p, len(l) == 0
}

// over: the set of the classes above a class (of a file whose classes are right).
func (p program) over(c int) map[int]bool {
	set := map[int]bool{}
	for c > 0 && c < 7+len(p.classes) {
		switch {
		case c == 1:
			c = 0
		case c < 7:
			c = 1
		default:
			c = p.classes[c-7].above
		}
		set[c] = true
	}
	return set
}

func (p program) plain(t pair) bool {
	return t == intType || t[0] == 3 && t[1] < 7+len(p.classes)
}

func (p program) plainAll(l []pair) bool {
	for _, t := range l {
		if !p.plain(t) {
			return false
		}
	}
	return true
}

func (p program) headIsWrong(i int) bool {
	m := p.methods[i]
	own := m.class >= 7 && m.class < 7+len(p.classes)
	has := m.class != 255
	wrong := has && !own
	wrong = wrong || !has && m.name != 0
	wrong = wrong || !p.plainAll(m.params)
	wrong = wrong || !p.plain(m.result) && m.result != topType
	wrong = wrong || m.locals < len(m.params) || has && m.locals <= len(m.params)
	for j, o := range p.methods {
		wrong = wrong || j < i && has && o.class == m.class && o.name == m.name
		other := text(counted(o.params)...) != text(counted(m.params)...) || o.result != m.result
		wrong = wrong || has && p.over(m.class)[o.class] && o.name == m.name && other
	}
	return wrong
}

// starts: the instruction that begins at each place; or the place of one that can't be read.
func starts(code []int) (map[int]int, int, bool) {
	set := map[int]int{}
	for at := 0; at < len(code); {
		if code[at] > 25 || takesN[code[at]] && at+1 == len(code) {
			return nil, at, false
		}
		set[at] = code[at]
		if takesN[code[at]] {
			at++
		}
		at++
	}
	return set, 0, true
}

func (p program) nIsWrong(m method, set map[int]int, op, n int) bool {
	fields := 0
	for _, c := range p.classes {
		fields += len(c.fields)
	}
	_, there := set[n]
	isMethod := n < len(p.methods)
	switch {
	case op == 2 || op == 3:
		return n >= m.locals
	case op >= 11 && op <= 14:
		return !there
	case op == 15 || op == 16 || op == 19:
		return n >= 7+len(p.classes)
	case op == 17 || op == 18:
		return n >= fields
	case op == 20:
		return !isMethod || p.methods[n].class != 255
	case op == 21:
		return !isMethod || p.methods[n].class == 255
	}
	return false
}

func (p program) handlerIsWrong(m method, set map[int]int, h handler) bool {
	_, from := set[h.from]
	_, to := set[h.to]
	_, target := set[h.target]
	return h.from >= h.to || !from || !target || !to && h.to != len(m.code) || h.class != 1 && !p.over(h.class)[1]
}

func (p program) mapIsWrong(set map[int]int, s stackMap, before int) bool {
	_, there := set[s.place]
	wrong := !there || s.place <= before
	for _, l := range [][]pair{s.locals, s.stack} {
		for _, t := range l {
			op, at := set[t[1]]
			isRaw := t[0] == 4 && at && op == 15
			wrong = wrong || t != topType && t != nullType && !p.plain(t) && !isRaw
		}
	}
	return wrong
}

func (p program) bodyVerdict(i int) verdict {
	m := p.methods[i]
	set, at, ok := starts(m.code)
	if !ok {
		return verdict{api.ErrCode, i, at}
	}
	for at := 0; at < len(m.code); at++ {
		if op, there := set[at]; there && takesN[op] && p.nIsWrong(m, set, op, m.code[at+1]) {
			return verdict{api.ErrCode, i, at}
		}
	}
	for j, h := range m.handlers {
		if p.handlerIsWrong(m, set, h) {
			return verdict{api.ErrHandler, i, j}
		}
	}
	before := -1
	for j, s := range m.maps {
		if p.mapIsWrong(set, s, before) {
			return verdict{api.ErrMap, i, j}
		}
		before = s.place
	}
	return verdict{}
}

// byWords: what the document's words give for a file, and the file without its maps if it has no error of form.
func byWords(file string) (verdict, string) {
	if len(file) > 15000 {
		return verdict{e: api.ErrLong}, ""
	}
	p, ok := parseByWords(file)
	if !ok {
		return verdict{e: api.ErrForm}, ""
	}
	for i, c := range p.classes {
		if c.above >= 7+i || !p.plainAll(c.fields) {
			return verdict{api.ErrClass, 7 + i, 0}, ""
		}
	}
	for i := range p.methods {
		if p.headIsWrong(i) {
			return verdict{api.ErrMethod, i, 0}, ""
		}
	}
	for i := range p.methods {
		if v := p.bodyVerdict(i); v.e != api.OK {
			return v, ""
		}
	}
	v := typesByWords(p)
	for i := range p.methods {
		p.methods[i].maps = nil
	}
	return v, p.file()
}
