package term

import (
	"strings"

	"entail/api"
)

// printer writes the text of a term.
type printer struct {
	term api.Terms
	text strings.Builder
}

// printed returns the text of a term that has its form.
func printed(t api.Terms) (string, api.Errno) {
	p := &printer{term: t}
	p.print(len(t) - 1)
	if p.text.Len() > api.MaxText {
		return "", api.ErrLong
	}
	return p.text.String(), api.OK
}

// print writes a subterm. It goes no further where the text is too long.
func (p *printer) print(node int) {
	n := p.term[node]
	switch {
	case p.text.Len() > api.MaxText:
	case n.Op == api.LTrue:
		p.text.WriteString("true")
	case n.Op == api.LFalse:
		p.text.WriteString("false")
	case n.Op == api.LVar:
		p.text.WriteString("?" + n.Name)
	case n.Op == api.LNum || n.Op == api.LApp && len(n.Kids) == 0:
		p.text.WriteString(n.Name)
	default:
		p.text.WriteString("(")
		p.printHead(n)
		for _, kid := range n.Kids {
			p.text.WriteString(" ")
			p.print(kid)
		}
		p.text.WriteString(")")
	}
}

// printHead writes the head of what is in parentheses.
func (p *printer) printHead(n api.Term) {
	switch n.Op {
	case api.LApp:
		p.text.WriteString(n.Name)
	case api.LTrigger:
		p.text.WriteString(triggerWord)
	case api.LForall, api.LExists:
		p.text.WriteString(quantifierWord(n.Op) + " (")
		for i, v := range n.Vars {
			if i > 0 {
				p.text.WriteString(" ")
			}
			p.text.WriteString("(" + v.Name + " " + v.Sort + ")")
		}
		p.text.WriteString(")")
	default:
		k, _ := connectiveOf(n.Op)
		p.text.WriteString(k.word)
	}
}

const triggerWord = "!"

// quantifierWord returns the word of a quantifier.
func quantifierWord(op int) string {
	if op == api.LForall {
		return "forall"
	}
	return "exists"
}
