package spell

import (
	"zermelo/api"
	"zermelo/guard"
)

// source is a string that is read from its beginning on.
type source struct {
	all   string
	at    int       // how many bytes have been read
	wrong api.Errno // the error, if the byte at this place cannot be read
}

// demand ends a call, unless what has been read may go on so.
func (s *source) demand(holds bool) { guard.Demand(holds, s.wrong) }

// ended reports whether all has been read.
func (s *source) ended() bool { return s.at == len(s.all) }

// end ends a call, unless all has been read.
func (s *source) end() { s.demand(s.ended()) }

// next returns the byte that is read next; 0 behind the end.
func (s *source) next() byte {
	if s.ended() {
		return 0
	}
	return s.all[s.at]
}

// take reads so many bytes.
func (s *source) take(many int) string {
	s.demand(many <= len(s.all)-s.at)
	from := s.at
	s.at += many
	return s.all[from:s.at]
}

// skip reads a byte, if it is the next one, and reports whether it is.
func (s *source) skip(b byte) bool {
	is := !s.ended() && s.all[s.at] == b
	if is {
		s.at++
	}
	return is
}

// need reads the bytes of a word.
func (s *source) need(word string) {
	for i := range len(word) {
		s.demand(s.skip(word[i]))
	}
}

// list reads what one reading after the other returns, as long as more says that behind so many there is another one.
func list[T any](more func(already int) bool, read func() T) []T {
	var l []T
	for more(len(l)) {
		x := read()
		l = append(l, x)
	}
	return l
}

// below says that there is another one behind fewer than so many.
func below(many int) func(int) bool {
	return func(already int) bool { return already < many }
}
