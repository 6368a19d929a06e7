package exact

import (
	"strings"

	"underpin/api"
)

// Print writes rows, a line for each (P1.6).
func Print(rows []api.Row) (string, api.Errno) {
	if e := Check(rows); e != api.OK {
		return "", e
	}
	var text strings.Builder
	for _, row := range rows {
		for _, t := range row.Terms {
			text.WriteString(string(t.Coef) + " " + t.Name + " ")
		}
		text.WriteString("<= " + string(row.Bound) + "\n")
	}
	if text.Len() > api.MaxText {
		return "", api.ErrLimit
	}
	return text.String(), api.OK
}

// Parse reads rows, and tells the first line that is not of the form (P1.6).
func Parse(text string) (rows []api.Row, line int, e api.Errno) {
	if len(text) > api.MaxText {
		return nil, 0, api.ErrLimit
	}
	b := book{}
	for number := 1; text != ""; number++ {
		var words string
		words, text, _ = strings.Cut(text, "\n")
		more, right := parseLine(b, strings.Split(words, " "))
		if !right {
			return nil, number, api.ErrForm
		}
		rows = append(rows, more...)
	}
	if e := checkRows(b, rows); e != api.OK {
		return nil, 0, e
	}
	return rows, 0, api.OK
}

// parseLine returns the row, or both rows, that the words of a line say; false if they are not of the form.
func parseLine(b book, words []string) ([]api.Row, bool) {
	if len(words) < 2 || len(words)%2 == 1 {
		return nil, false
	}
	pairs, relation := words[:len(words)-2], words[len(words)-2]
	row := api.Row{Bound: api.Frac(words[len(words)-1])}
	if _, right := b.read(row.Bound); !right {
		return nil, false
	}
	for ; len(pairs) > 0; pairs = pairs[2:] {
		t := api.Term{Name: pairs[1], Coef: api.Frac(pairs[0])}
		if _, right := b.read(t.Coef); !right || t.Name == "" {
			return nil, false
		}
		row.Terms = append(row.Terms, t)
	}
	switch relation {
	case "<=":
		return []api.Row{row}, true
	case ">=":
		return []api.Row{opposite(row)}, true
	case "=":
		return []api.Row{row, opposite(row)}, true
	}
	return nil, false
}

// opposite returns a row with all numbers times -1.
func opposite(row api.Row) api.Row {
	var out api.Row
	for _, t := range row.Terms {
		out.Terms = append(out.Terms, api.Term{Name: t.Name, Coef: turned(t.Coef)})
	}
	out.Bound = turned(row.Bound)
	return out
}

// turned returns a number times -1.
func turned(a api.Frac) api.Frac {
	if a == "0" {
		return a
	}
	if rest, minus := strings.CutPrefix(string(a), "-"); minus {
		return api.Frac(rest)
	}
	return "-" + a
}
