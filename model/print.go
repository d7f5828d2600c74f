package model

import (
	"strconv"
	"strings"

	"entail/api"
	"entail/list"
)

// textOf returns the lines of a model.
func textOf(m Model) string {
	var b strings.Builder
	for _, u := range m.Universes {
		b.WriteString("sort " + u.Sort + " " + strconv.Itoa(u.Size) + "\n")
	}
	for _, d := range m.Domains {
		b.WriteString("domain " + d.Sort + words(d.Values) + "\n")
	}
	for _, t := range m.Tables {
		b.WriteString("function " + t.Name + words([]api.Value{t.Default}) + "\n")
		for _, entry := range t.Entries {
			b.WriteString(" " + words(entry.Args) + " =" + words([]api.Value{entry.Result}) + "\n")
		}
	}
	return b.String()
}

// words returns the texts of values with a space before each one.
func words(values []api.Value) string {
	var b strings.Builder
	for _, v := range values {
		b.WriteString(" " + wordOf(v))
	}
	return b.String()
}

// wordOf returns the text of a value.
func wordOf(v api.Value) string {
	items := list.Transform(v.Items, wordOf)
	switch v.Kind {
	case api.VBool:
		return strconv.FormatBool(v.Num == "1")
	case api.VRef:
		return "_!" + v.Num
	case api.VSeq:
		return "[" + strings.Join(items, " ") + "]"
	case api.VSet:
		return "{" + strings.Join(items, " ") + "}"
	case api.VMap:
		return "<" + mapWords(items) + ">"
	case api.VCons:
		if len(items) == 0 {
			return v.Text
		}
		return "(" + v.Text + " " + strings.Join(items, " ") + ")"
	}
	return v.Num
}

// mapWords returns the texts of a default, and of keys with their values.
func mapWords(items []string) string {
	out := items[0]
	for i := 1; i < len(items); i += 2 {
		out += " " + items[i] + ":" + items[i+1]
	}
	return out
}
