package tree

import (
	"slices"
	"strings"

	"entail/api"
)

// The levels of expressions.
const (
	anyLevel     = -1
	prefixLevel  = 9
	postfixLevel = 10
	atomLevel    = 11
)

// operator is the sign and the level of a binary operation.
type operator struct {
	sign  string
	level int
}

// operators are the binary operations from EAdd to EShr.
var operators = [api.EShr - api.EAdd + 1]operator{
	{"+", 7}, {"-", 7}, {"*", 8}, {"/", 8}, {"%", 8}, {"&&", 3}, {"||", 2}, {"==>", 1}, {"<==>", 0}, {"==", 4}, {"!=", 4},
	{"<", 4}, {"<=", 4}, {"in", 4}, {"&", 5}, {"|", 5}, {"^", 5}, {"<<", 6}, {">>", 6},
}

// typeWords are the types from TBool to TArray, without widths and arguments.
var typeWords = [api.TName - api.TBool]string{"bool", "int", "real", "bv", "seq", "set", "multiset", "map", "array"}

// style is how nodes with an Op from first to last become the text of one line.
type style struct {
	first, last int
	text        func(*printer, item) string
}

// layout is how nodes with an Op become lines.
type layout struct {
	op    int
	lines func(*printer, item) []string
}

// printer makes the text of a tree.
type printer struct {
	tree  api.Tree
	texts [api.Ops]func(*printer, item) string
	lists [api.Ops]func(*printer, item) []string
}

func styles() []style {
	return []style{
		{api.TBool, api.TArray, (*printer).typeText}, {api.TName, api.TName, (*printer).typeName},
		{api.EInt, api.EVar, (*printer).own}, {api.ENot, api.ENeg, (*printer).prefixed}, {api.EAdd, api.EShr, (*printer).binary},
		{api.EAs, api.EAs, (*printer).conversion}, {api.EIf, api.ELet, (*printer).choice}, {api.ECall, api.ECall, (*printer).call},
		{api.ECons, api.ECons, (*printer).construction}, {api.EField, api.EUpdate, (*printer).postfixed}, {api.ECard, api.ECard, (*printer).prefixed},
		{api.ESeq, api.EMap, (*printer).display}, {api.EForall, api.ESetOf, (*printer).quantifier}, {api.EMatch, api.ECase, (*printer).match},
		{api.EOld, api.EFresh, (*printer).call}, {api.QVar, api.QVar, (*printer).declared}, {api.QTrigger, api.QTrigger, (*printer).display},
		{api.PVar, api.PWild, (*printer).simplePattern}, {api.PCons, api.PCons, (*printer).construction}, {api.PLit, api.PLit, (*printer).literal},
		{api.SVar, api.SGhostVar, (*printer).local}, {api.SAssign, api.SChoose, (*printer).assignment}, {api.SCall, api.SCall, (*printer).methodCall},
		{api.SLhs, api.SLhs, (*printer).list}, {api.SNew, api.SNewArray, (*printer).creation}, {api.SAssume, api.SAssume, (*printer).command},
		{api.SReturn, api.SReveal, (*printer).command}, {api.CRequires, api.CModifies, (*printer).clause},
		{api.DParam, api.DOut, (*printer).declared}, {api.DTypeParam, api.DTypeParam, (*printer).own}, {api.DField, api.DGhostField, (*printer).declared},
		{api.DCons, api.DCons, (*printer).construction}, {api.DDatatype, api.DSubset, (*printer).typeDeclaration}, {api.DConst, api.DConst, (*printer).constant},
		{api.DMark, api.DMark, (*printer).own}, {api.DResult, api.DResult, (*printer).list}, {api.MImport, api.MExport, (*printer).moduleLine},
		{api.MName, api.MName, (*printer).own}, {api.MRefines, api.MRefines, (*printer).refinement},
	}
}

func layouts() []layout {
	return []layout{
		{api.SBlock, (*printer).block}, {api.SIf, (*printer).conditional}, {api.SAlt, (*printer).alternatives}, {api.SGuard, (*printer).guarded},
		{api.SWhile, (*printer).loop}, {api.SMatch, (*printer).alternatives}, {api.SCase, (*printer).guarded}, {api.SAssert, (*printer).assertion},
		{api.SCalc, (*printer).calculation}, {api.SStep, (*printer).step}, {api.SForall, (*printer).universal}, {api.DClass, (*printer).class},
		{api.DFunction, (*printer).callable}, {api.DMethod, (*printer).callable}, {api.MModule, (*printer).module}, {api.MProgram, (*printer).program},
	}
}

func newPrinter(t api.Tree) *printer {
	p := &printer{tree: t}
	for _, s := range styles() {
		for i := range s.last - s.first + 1 {
			p.texts[s.first+i] = s.text
		}
	}
	for _, l := range layouts() {
		p.lists[l.op] = l.lines
	}
	return p
}

// Print returns the source text of a tree.
func Print(t api.Tree) (string, api.Errno) {
	if e := errorOf(t); e != api.OK {
		return "", e
	}
	text := strings.Join(newPrinter(t).lines(len(t)-1), "\n")
	if len(text) > api.MaxText {
		return "", api.ErrLong
	}
	return text, api.OK
}

func (p *printer) item(node int) item { return item{p.tree[node], node} }

// lines returns the lines of a node.
func (p *printer) lines(node int) []string {
	n := p.item(node)
	if lines := p.lists[n.Op]; lines != nil {
		return lines(p, n)
	}
	return []string{p.text(node)}
}

// text returns the text of a node of one line.
func (p *printer) text(node int) string {
	n := p.item(node)
	return p.texts[n.Op](p, n)
}

// all returns the texts of nodes with something between them.
func (p *printer) all(nodes []int, between string) string {
	return strings.Join(transform(nodes, p.text), between)
}

// list returns the texts of the children, separated by commas.
func (p *printer) list(n item) string { return p.all(n.Kids, ", ") }

func (p *printer) own(n item) string { return n.Text }

// withOp returns the children of some Ops.
func (p *printer) withOp(n item, ops ...int) []int {
	return slices.DeleteFunc(slices.Clone(n.Kids), func(kid int) bool { return !slices.Contains(ops, p.tree[kid].Op) })
}

// angles returns a list in angle brackets, or nothing for an empty one.
func angles(list string) string {
	if list == "" {
		return ""
	}
	return "<" + list + ">"
}

func (p *printer) typeText(n item) string {
	return typeWords[n.Op-api.TBool] + n.Text + angles(p.list(n))
}

func (p *printer) typeName(n item) string { return n.Text + angles(p.list(n)) }

// declared is a name with its type.
func (p *printer) declared(n item) string {
	text := n.Text + ": " + p.text(n.Kids[0])
	switch n.Op {
	case api.DGhostParam:
		return "ghost " + text
	case api.DGhostField:
		return "ghost var " + text + ";"
	}
	return text
}

func (p *printer) simplePattern(n item) string {
	if n.Op == api.PWild {
		return "_"
	}
	return n.Text
}

func (p *printer) literal(n item) string { return p.text(n.Kids[0]) }

// construction is a constructor with its arguments in parentheses, if there are any.
func (p *printer) construction(n item) string {
	if len(n.Kids) == 0 {
		return n.Text
	}
	return p.call(n)
}

// call is a name with arguments in parentheses.
func (p *printer) call(n item) string {
	name := n.Text
	switch n.Op {
	case api.EOld:
		name = "old"
	case api.EFresh:
		name = "fresh"
	}
	return name + "(" + p.list(n) + ")"
}
