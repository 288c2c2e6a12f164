// Package impl: accounts of what was made.
package impl

import (
	"errors"
	"strconv"
	"strings"
)

// Limits of programs and runs.
const (
	MaxText    = 2000
	MaxName    = 60
	MaxIns     = 200
	MaxProgram = 1500000
	MaxStack   = 50
	MaxSteps   = 2000
	MaxLooks   = 200
)

// Instructions.
const (
	OpLit    = 1
	OpCat    = 2
	OpCut    = 3
	OpRest   = 4
	OpWord   = 5
	OpSame   = 6
	OpDup    = 7
	OpSwap   = 8
	OpDrop   = 9
	OpJump   = 10
	OpUnless = 11
	OpAsk    = 12
	OpHas    = 13
	OpFail   = 14
	OpEnd    = 15
)

// Ends of runs.
const (
	Done    = 0
	Failed  = 1
	Stuck   = 2
	Spent   = 3
	Missing = 4
	Below   = 5
)

// Ins is an instruction.
type Ins struct {
	Op   int
	Text string
	N    int
}

// Program is an action's program.
type Program struct {
	Code []Ins
}

// Fault is what is wrong with a program's text.
type Fault struct {
	Code int
	Line int
}

// Reply is what a look is answered.
type Reply struct {
	Has  bool
	Code int
	Text string
}

// Turn is how a run goes on.
type Turn struct {
	Over  bool
	Code  int
	Text  string
	Ask   bool
	Name  string
	Steps int
}

// row tells of an instruction: its word, the bounds of its operands (0 where it
// has none), and how many texts it takes and puts.
type row struct {
	word     string
	mostText int
	mostN    int
	takes    int
	puts     int
}

var rows = [OpEnd + 1]row{
	OpLit:    {"lit", MaxText, 0, 0, 1},
	OpCat:    {"cat", 0, 0, 2, 1},
	OpCut:    {"cut", 0, MaxText, 1, 1},
	OpRest:   {"rest", 0, MaxText, 1, 1},
	OpWord:   {"word", 0, MaxText, 1, 1},
	OpSame:   {"same", 0, 0, 2, 1},
	OpDup:    {"dup", 0, 0, 1, 2},
	OpSwap:   {"swap", 0, 0, 2, 2},
	OpDrop:   {"drop", 0, 0, 1, 0},
	OpJump:   {"jump", 0, MaxIns, 0, 0},
	OpUnless: {"unless", 0, MaxIns, 1, 0},
	OpAsk:    {"ask", 0, 0, 1, 1},
	OpHas:    {"has", 0, 0, 1, 1},
	OpFail:   {"fail", 0, 0, 1, 0},
	OpEnd:    {"end", 0, 0, 1, 0},
}

// What may be wrong with a program's text.
var (
	errSize    = errors.New("the text is empty or too long")
	errMany    = errors.New("too many instructions")
	errUnended = errors.New("no newline behind the line")
	errWord    = errors.New("no word of an instruction")
	errOperand = errors.New("an operand that the word does not have")
	errNumber  = errors.New("no decimal as it is written")
	errQuote   = errors.New("no text in quotes as it is written")
	errBound   = errors.New("an operand out of its bounds")
)

// lineError is an error with the line that it is told of.
type lineError struct {
	line int
	err  error
}

func (e lineError) Error() string {
	return "line " + strconv.Itoa(e.line) + ": " + e.err.Error()
}

func (e lineError) Unwrap() error {
	return e.err
}

// ValidProgram says whether a program is valid.
func ValidProgram(p Program) bool {
	if len(p.Code) < 1 || len(p.Code) > MaxIns {
		return false
	}
	for _, in := range p.Code {
		if !validIns(in) {
			return false
		}
	}
	return true
}

// validIns leans on the table's bound of 0 for an operand that there is not.
func validIns(in Ins) bool {
	if in.Op < OpLit || in.Op > OpEnd {
		return false
	}
	return len(in.Text) <= rows[in.Op].mostText && in.N >= 0 && in.N <= rows[in.Op].mostN
}

// PrintProgram writes a program.
func PrintProgram(p Program) string {
	if !ValidProgram(p) {
		return ""
	}
	var out strings.Builder
	for _, in := range p.Code {
		out.WriteString(printIns(in))
		out.WriteByte('\n')
	}
	return out.String()
}

// printIns writes a valid instruction, without a newline.
func printIns(in Ins) string {
	word := rows[in.Op].word
	switch {
	case rows[in.Op].mostText > 0:
		return word + " " + quote(in.Text)
	case rows[in.Op].mostN > 0:
		return word + " " + strconv.Itoa(in.N)
	}
	return word
}

const hexDigits = "0123456789abcdef"

// plain says whether a byte stands for itself in quotes.
func plain(b byte) bool {
	return b >= 32 && b <= 126 && b != '"' && b != '\\'
}

func quote(s string) string {
	var out strings.Builder
	out.WriteByte('"')
	for i := range len(s) {
		if plain(s[i]) {
			out.WriteByte(s[i])
			continue
		}
		out.WriteByte('\\')
		out.WriteByte(hexDigits[s[i]>>4])
		out.WriteByte(hexDigits[s[i]&15])
	}
	out.WriteByte('"')
	return out.String()
}

// ParseProgram reads a program.
func ParseProgram(src string) (Program, Fault) {
	p, err := readProgram(src)
	if err != nil {
		return Program{}, faultOf(err)
	}
	return p, Fault{}
}

func faultOf(err error) Fault {
	var at lineError
	switch {
	case errors.As(err, &at):
		return Fault{Code: 2, Line: at.line}
	case errors.Is(err, errMany):
		return Fault{Code: 3}
	}
	return Fault{Code: 1}
}

// readProgram reads every line, also behind MaxIns of them: a wrong line is told
// ahead of too many.
func readProgram(src string) (Program, error) {
	if src == "" || len(src) > MaxProgram {
		return Program{}, errSize
	}
	var p Program
	lines := 0
	for ; src != ""; lines++ {
		line, rest, ended := strings.Cut(src, "\n")
		if !ended {
			return Program{}, lineError{lines, errUnended}
		}
		in, err := readIns(line)
		if err != nil {
			return Program{}, lineError{lines, err}
		}
		if lines < MaxIns {
			p.Code = append(p.Code, in)
		}
		src = rest
	}
	if lines > MaxIns {
		return Program{}, errMany
	}
	return p, nil
}

// readIns reads what printIns writes.
func readIns(line string) (Ins, error) {
	word, operand, spaced := strings.Cut(line, " ")
	in := Ins{Op: opOf(word)}
	var err error
	switch {
	case in.Op == 0:
		err = errWord
	case rows[in.Op].mostText > 0:
		in.Text, err = unquote(operand)
	case rows[in.Op].mostN > 0:
		in.N, err = readNumber(operand)
	case spaced:
		err = errOperand
	}
	if err != nil {
		return Ins{}, err
	}
	if !validIns(in) {
		return Ins{}, errBound
	}
	return in, nil
}

// opOf gives the Op of a word, 0 if it is none.
func opOf(word string) int {
	for op := OpLit; op <= OpEnd; op++ {
		if rows[op].word == word {
			return op
		}
	}
	return 0
}

// readNumber writes the number again, as signs and zeros ahead are not written.
func readNumber(s string) (int, error) {
	n, err := strconv.Atoi(s)
	if err != nil || strconv.Itoa(n) != s {
		return 0, errNumber
	}
	return n, nil
}

// unquote reads what quote writes.
func unquote(s string) (string, error) {
	if len(s) < 2 || s[0] != '"' || s[len(s)-1] != '"' {
		return "", errQuote
	}
	var out strings.Builder
	for inner := s[1 : len(s)-1]; inner != ""; {
		b, size, err := unquoteByte(inner)
		if err != nil {
			return "", err
		}
		out.WriteByte(b)
		inner = inner[size:]
	}
	return out.String(), nil
}

// unquoteByte reads the first byte of a quoted text that is not empty, and says
// how many bytes it is written with.
func unquoteByte(s string) (byte, int, error) {
	if plain(s[0]) {
		return s[0], 1, nil
	}
	if s[0] != '\\' || len(s) < 3 {
		return 0, 0, errQuote
	}
	high := strings.IndexByte(hexDigits, s[1])
	low := strings.IndexByte(hexDigits, s[2])
	if high < 0 || low < 0 || plain(byte(high<<4|low)) {
		return 0, 0, errQuote
	}
	return byte(high<<4 | low), 3, nil
}

// Next replays a run.
func Next(p Program, replies []Reply) Turn {
	if !ValidProgram(p) || !validReplies(replies) {
		return Turn{Code: NotValid}
	}
	m := machine{code: p.Code}
	for _, r := range replies {
		if t := m.run(); t.Over {
			return t
		}
		m.answer(r)
	}
	return m.run()
}

func validReplies(replies []Reply) bool {
	if len(replies) > MaxLooks {
		return false
	}
	for _, r := range replies {
		if len(r.Text) > MaxText || r.Code < Done || r.Code > Deep {
			return false
		}
	}
	return true
}

// stack is the texts of a run. Who puts and takes has seen that there is room.
type stack struct {
	texts [MaxStack]string
	size  int
}

func (s *stack) put(text string) {
	s.texts[s.size] = text
	s.size++
}

func (s *stack) take() string {
	s.size--
	return s.texts[s.size]
}

// bears says whether an instruction finds its texts and leaves no more than MaxStack.
func (s *stack) bears(op int) bool {
	left := s.size - rows[op].takes
	return left >= 0 && left+rows[op].puts <= MaxStack
}

// machine is a run of a valid program, as far as it has come.
type machine struct {
	stack
	code  []Ins
	place int
	steps int
	looks int
	turn  Turn
}

// run goes on to the run's end or to its next look, and stays there.
func (m *machine) run() Turn {
	for !m.turn.Over && m.turn.Name == "" {
		m.step()
	}
	return m.turn
}

// answer gives the reply to the look at which the run stays.
func (m *machine) answer(r Reply) {
	look := m.turn
	m.turn = Turn{}
	switch {
	case !look.Ask:
		m.put(truth(r.Has))
	case !r.Has:
		m.end(Missing, look.Name)
	case r.Code != Done:
		m.end(Below, look.Name)
	default:
		m.put(r.Text)
	}
}

func (m *machine) end(code int, text string) {
	m.turn = Turn{Over: true, Code: code, Text: text, Steps: m.steps}
}

func (m *machine) stick(place int) {
	m.end(Stuck, strconv.Itoa(place))
}

// step looks for a place of no instruction first: where none can be begun, there
// is no step that could be one too many.
func (m *machine) step() {
	if m.place >= len(m.code) {
		m.stick(m.place)
		return
	}
	if m.steps == MaxSteps {
		m.end(Spent, "")
		return
	}
	m.steps++
	here := m.place
	m.place++
	if !m.bears(m.code[here].Op) {
		m.stick(here)
		return
	}
	m.perform(m.code[here], here)
}

// perform does an instruction for which the stack bears.
func (m *machine) perform(in Ins, here int) {
	switch in.Op {
	case OpLit:
		m.put(in.Text)
	case OpCat:
		m.join(here)
	case OpCut:
		a := m.take()
		m.put(a[:min(in.N, len(a))])
	case OpRest:
		a := m.take()
		m.put(a[min(in.N, len(a)):])
	case OpWord:
		m.put(wordOf(m.take(), in.N))
	case OpSame:
		m.put(truth(m.take() == m.take()))
	case OpDup:
		a := m.take()
		m.put(a)
		m.put(a)
	case OpSwap:
		b := m.take()
		a := m.take()
		m.put(b)
		m.put(a)
	case OpDrop:
		m.take()
	case OpJump:
		m.place = in.N
	case OpUnless:
		if a := m.take(); a == "" || a == "0" {
			m.place = in.N
		}
	case OpAsk, OpHas:
		m.look(in.Op == OpAsk, here)
	case OpFail:
		m.end(Failed, m.take())
	case OpEnd:
		m.end(Done, m.take())
	}
}

func (m *machine) join(here int) {
	b := m.take()
	a := m.take()
	if len(a)+len(b) > MaxText {
		m.stick(here)
		return
	}
	m.put(a + b)
}

// look counts a look only where the name is a name: without one there is no look.
func (m *machine) look(ask bool, here int) {
	name := m.take()
	if !isName(name) {
		m.stick(here)
		return
	}
	if m.looks == MaxLooks {
		m.end(Spent, "")
		return
	}
	m.looks++
	m.turn = Turn{Ask: ask, Name: name, Steps: m.steps}
}

func truth(b bool) string {
	if b {
		return "1"
	}
	return "0"
}

// isName says whether a text may be the name of a thing.
func isName(s string) bool {
	if len(s) < 1 || len(s) > MaxName {
		return false
	}
	for i := range len(s) {
		if s[i] < 33 || s[i] > 126 {
			return false
		}
	}
	return true
}

// wordOf gives a text's word of a number. Other white space than the bytes 32 and
// 10 parts no words.
func wordOf(s string, number int) string {
	for {
		s = strings.TrimLeft(s, " \n")
		end := strings.IndexAny(s, " \n")
		if end < 0 {
			end = len(s)
		}
		if number == 0 || end == 0 {
			return s[:end]
		}
		s = s[end:]
		number--
	}
}
