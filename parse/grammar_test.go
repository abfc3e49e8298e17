package parse_test

import (
	"slices"
	"strings"
	"testing"

	"simulator/api"
	"simulator/lex"
	"simulator/names"
)

// grammar is that of the chapter, a rule a line. It is the second definition of correct texts.
const grammar = `
model : "model" NAME NL { param | link | site } "end" NL END
param : "param" NAME value NL
value : "int" "=" INTEGER | "time" "=" INTEGER | "bool" "=" ( "true" | "false" )
INTEGER : [ "-" ] NUMBER
link : "link" NAME NAME NUMBER NL
site : "site" NAME NL { declaration } "end" NL
declaration : "var" NAME value NL | resource | store | belt | list | routine | start | law
resource : "resource" NAME NUMBER [ "shift" PAIR { PAIR } "cycle" NUMBER ] [ "fault" NAME "up" dist "down" dist ] NL
PAIR : NUMBER ":" NUMBER
store : "store" NAME NUMBER ( "fifo" | "lifo" | "least" ) NL
belt : "belt" NAME NUMBER NUMBER NL
list : ( "queue" | "stream" | "tally" | "level" | "count" ) NAME NL
routine : "routine" NAME "(" [ field { "," field } ] ")" NL { "local" field NL } { statement } "end" NL
field : NAME ( "int" | "bool" | "time" )
start : "start" NAME "(" [ argument { "," argument } ] ")" "at" NUMBER [ "every" NUMBER "until" NUMBER ] NL
argument : INTEGER | "true" | "false"
law : "conserve" NAME ":" [ "-" ] term { ( "+" | "-" ) term } "=" INTEGER NL
term : [ NUMBER "*" ] NAME NAME
dist : "const" NUMBER | "uniform" NUMBER NUMBER | "table" PAIR { PAIR } | "sum" NUMBER NUMBER NUMBER | "geom" NUMBER NUMBER
stmts : { statement } END
statement : ( set | draw | if | while | hold | seize | change | put | get | name | send | spawn | "stop" ) NL
set : "set" NAME "=" E
draw : "draw" NAME "from" NAME dist
if : "if" E NL { statement } [ "else" NL { statement } ] "end"
while : "while" E NL { statement } "end"
hold : "hold" E
seize : "seize" NAME E "prio" E [ "preempt" ]
change : "release" NAME E | "signal" NAME E | "observe" NAME E | "level" NAME E | "add" NAME E
put : "put" E "into" NAME
get : "get" NAME "from" NAME
name : "ride" NAME | "wait" NAME
send : "send" NAME "." NAME "(" [ E { "," E } ] ")" "after" E
spawn : "spawn" NAME "(" [ E { "," E } ] ")" "after" E
expr : E NL END
E : and { "or" and }
and : not { "and" not }
not : "not" not | comparison
comparison : sum [ ( "=" | "!=" | "<" | "<=" | ">" | ">=" ) sum ]
sum : product { ( "+" | "-" ) product }
product : factor { ( "*" | "/" | "%" ) factor }
factor : "-" factor | primary
primary : NUMBER | "true" | "false" | "now" | NAME | ( "dur" | "ticks" ) "(" E ")" | ( "min" | "max" ) "(" E "," E ")" | ( "free" | "size" | "waiting" ) "(" NAME ")" | "(" E ")"
`

// form is a part of the grammar: a token or the name of a rule, a sequence, alternatives, or what can stand once or often.
type form struct {
	kind  string // token, rule, sequence, choice, option, repetition
	text  string
	parts []*form
	found map[int][]match
}

// match is a way to read a form: where it ends, and what it consists of.
type match struct {
	end   int
	trees []tree
}

// tree is a token, with the word of the grammar for it, or what a rule consists of.
type tree struct {
	word  string
	token api.Token
	kids  []tree
}

// rules has the forms of the grammar.
type rules map[string]*form

// readGrammar reads the grammar.
func readGrammar() rules {
	all := rules{}
	for line := range strings.Lines(strings.TrimSpace(grammar)) {
		words := strings.Fields(line)
		f, rest := choiceOf(words[2:])
		if len(rest) > 0 {
			panic(line)
		}
		all[words[0]] = f
	}
	return all
}

// choiceOf reads alternatives up to a closing bracket.
func choiceOf(words []string) (*form, []string) {
	choice := &form{kind: "choice", found: map[int][]match{}}
	for {
		sequence := &form{kind: "sequence", found: map[int][]match{}}
		for len(words) > 0 && !slices.Contains([]string{"|", ")", "]", "}"}, words[0]) {
			var f *form
			f, words = partOf(words)
			sequence.parts = append(sequence.parts, f)
		}
		choice.parts = append(choice.parts, sequence)
		if len(words) == 0 || words[0] != "|" {
			return choice, words
		}
		words = words[1:]
	}
}

// partOf reads one part of a sequence.
func partOf(words []string) (*form, []string) {
	f := &form{text: words[0], found: map[int][]match{}}
	switch {
	case words[0] == "(", words[0] == "[", words[0] == "{":
		inner, rest := choiceOf(words[1:])
		f.kind = map[string]string{"(": "choice", "[": "option", "{": "repetition"}[words[0]]
		f.parts = []*form{inner}
		return f, rest[1:]
	case words[0][0] == '"', slices.Contains([]string{"NAME", "NUMBER", "NL", "END"}, words[0]):
		f.kind = "token"
	default:
		f.kind = "rule"
	}
	return f, words[1:]
}

// suits reports whether a token can stand where the grammar has a word.
func suits(word string, token api.Token) bool {
	switch word {
	case "NAME":
		return token.Kind == api.TWord && !names.Keyword(token.Text)
	case "NUMBER":
		return token.Kind == api.TNumber
	case "NL":
		return token.Kind == api.TLine
	case "END":
		return token.Kind == api.TEnd
	}
	return (token.Kind == api.TWord || token.Kind == api.TSign) && `"`+token.Text+`"` == word
}

// recognizer reads tokens in all ways that the grammar permits, and notes how far any of them comes.
type recognizer struct {
	rules  rules
	tokens []api.Token
	far    int
}

// matches returns all ways to read f from a place on.
func (r *recognizer) matches(f *form, at int) []match {
	if l, known := f.found[at]; known {
		return l
	}
	l := r.find(f, at)
	f.found[at] = l
	return l
}

// find finds all ways to read f from a place on.
func (r *recognizer) find(f *form, at int) []match {
	switch f.kind {
	case "token":
		// What came so far begins a correct text, as every rule can be completed somehow.
		r.far = max(r.far, at)
		if at < len(r.tokens) && suits(f.text, r.tokens[at]) {
			return []match{{at + 1, []tree{{word: f.text, token: r.tokens[at]}}}}
		}
		return nil
	case "rule":
		var l []match
		for _, m := range r.matches(r.rules[f.text], at) {
			l = append(l, match{m.end, []tree{{word: f.text, kids: m.trees}}})
		}
		return l
	case "sequence":
		l := []match{{end: at}}
		for _, part := range f.parts {
			l = r.behind(l, part)
		}
		return l
	case "choice":
		var l []match
		for _, part := range f.parts {
			l = append(l, r.matches(part, at)...)
		}
		return l
	case "option":
		return append([]match{{end: at}}, r.matches(f.parts[0], at)...)
	}
	all := []match{{end: at}}
	for last := all; len(last) > 0; {
		last = r.behind(last, f.parts[0])
		all = append(all, last...)
	}
	return all
}

// behind returns all ways to read something and then f.
func (r *recognizer) behind(l []match, f *form) []match {
	var longer []match
	for _, m := range l {
		for _, next := range r.matches(f, m.end) {
			longer = append(longer, match{next.end, slices.Concat(m.trees, next.trees)})
		}
	}
	return longer
}

// forget makes the forms ready for other tokens.
func (f *form) forget() {
	clear(f.found)
	for _, part := range f.parts {
		part.forget()
	}
}

// analysis is what the grammar says about a text: its tree, or its first wrong line with the error.
type analysis struct {
	tree  tree
	line  int
	errno api.Errno
}

// analyze analyzes a text that should be what a rule describes.
func (all rules) analyze(t *testing.T, rule, text string) analysis {
	t.Helper()
	tokens, line, errno := lex.Tokens(text)
	if errno != api.OK {
		return analysis{line: line, errno: errno}
	}
	for _, f := range all {
		f.forget()
	}
	r := recognizer{rules: all, tokens: tokens}
	whole := &form{kind: "rule", text: rule, found: map[int][]match{}}
	l := r.matches(whole, 0)
	switch len(l) {
	case 0:
		return analysis{line: tokens[r.far].Line, errno: api.ErrSyntax}
	case 1:
		return analysis{tree: l[0].trees[0]}
	}
	t.Fatalf("%q has %d trees", text, len(l))
	return analysis{}
}
