package site_test

import (
	"fmt"
	"strings"
	"testing"

	"underpin/api"
	"underpin/site"
)

// gauges is a watch plan whose names stand several times.
func gauges() api.WatchPlan {
	g := func(names ...string) []api.Gauge {
		var l []api.Gauge
		for _, name := range names {
			l = append(l, api.Gauge{Name: name, Acc: -5})
		}
		return l
	}
	return api.WatchPlan{Quantities: []api.Quantity{
		{Name: "sink", Gauges: g("a", "b", "a", "A")},
		{Name: "load", Bad: 99, Gauges: g("c", "b")},
		{Name: "sink", Gauges: g("d")},
		{Name: "bare"},
		{Name: "", Gauges: g("")},
		{Name: "the load", Gauges: g("a", "a b")},
		{Name: "1", Gauges: g("2")},
	}}
}

// TestParseReadings: P10.1, lines of readings, with any plan.
func TestParseReadings(t *testing.T) {
	p := gauges()
	l, line, e := site.ParseReadings(p, "sink a 5 -7\nload b 0 0\nload c -3 9999999999\nsink A 5 9\n1 2 3 4\nsink b 1 2")
	want := []api.Entry{
		{Quantity: 0, Reading: api.Reading{Gauge: 0, Time: 5, Value: -7}},
		{Quantity: 1, Reading: api.Reading{Gauge: 1}},
		{Quantity: 1, Reading: api.Reading{Gauge: 0, Time: -3, Value: 9999999999}},
		{Quantity: 0, Reading: api.Reading{Gauge: 3, Time: 5, Value: 9}},
		{Quantity: 6, Reading: api.Reading{Gauge: 0, Time: 3, Value: 4}},
		{Quantity: 0, Reading: api.Reading{Gauge: 1, Time: 1, Value: 2}},
	}
	equal(t, "readings", []any{l, line, e}, []any{want, 0, api.OK})
	equal(t, "the plan", said(p), said(gauges()))
	parse := func(text string) (any, int, api.Errno) { return third(site.ParseReadings(p, text)) }
	for _, c := range []struct {
		text string
		line int
		want api.Errno
	}{
		{"", 0, api.OK},
		{"sink a 1 2", 0, api.OK},
		{"sink a 1 2\nsink a 0 2\nsink a 1 2", 0, api.OK},
		{"\n", 1, api.ErrForm},
		{"sink a 1 2\n\n", 2, api.ErrForm},
		{"sink a 1 2\n\nsink a 1 2", 2, api.ErrForm},
		{" ", 1, api.ErrForm},
		{"   ", 1, api.ErrForm},
		{"sink a 1", 1, api.ErrForm},
		{"sink a 1 2 3", 1, api.ErrForm},
		{"sink a 1 2 ", 1, api.ErrForm},
		{" sink a 1 2", 1, api.ErrForm},
		{"sink  a 1 2", 1, api.ErrForm},
		{" a 1 2", 1, api.ErrForm},
		{"  1 2", 1, api.ErrForm},
		{"# sink a 1 2", 1, api.ErrForm},
		{"the load a 1", 1, api.ErrForm},
		{"load a b 1", 1, api.ErrForm},
		{"sink d 1 2", 1, api.ErrNone},
		{"sink c 1 2", 1, api.ErrNone},
		{"load a 1 2", 1, api.ErrNone},
		{"bare a 1 2", 1, api.ErrNone},
		{"Sink a 1 2", 1, api.ErrNone},
		{"heave a 1 2", 1, api.ErrNone},
		{"a sink 1 2", 1, api.ErrNone},
		{"heave a x 2", 1, api.ErrForm},
		{"heave a 1 x", 1, api.ErrForm},
		{"sink d 1 x", 1, api.ErrForm},
		{"sink d 1", 1, api.ErrForm},
		{"sink a 1 2\nsink d 1 2\nsink a 1", 2, api.ErrNone},
		{"sink a 1 2\nsink a 1\nsink d 1 2", 2, api.ErrForm},
		{"\xff\x00\té a 1 2", 1, api.ErrNone},
	} {
		parses(t, parse, c.text, c.line, c.want)
	}
	for _, bad := range badNumbers {
		parses(t, parse, "sink a "+bad+" 2", 1, api.ErrForm)
		parses(t, parse, "sink a 1 "+bad, 1, api.ErrForm)
	}
	parses(t, func(text string) (any, int, api.Errno) { return third(site.ParseReadings(api.WatchPlan{}, text)) }, "sink a 1 2", 1, api.ErrNone)
}

// TestReadingsLimits: P10.1 and R7, texts of 65536 bytes, and of one more.
func TestReadingsLimits(t *testing.T) {
	p := gauges()
	text := strings.Repeat("sink a 1234567 2\n", api.MaxText/17+1)[:api.MaxText]
	equal(t, "its end", strings.HasSuffix(text, "\nsink a 1234567 2\ns"), true)
	text = strings.Replace(text[:api.MaxText-1], "1234567", "12345678", 1)
	l, line, e := site.ParseReadings(p, text)
	equal(t, "65536 bytes", []any{len(text), len(l), line, e}, []any{api.MaxText, 3855, 0, api.OK})
	l, line, e = site.ParseReadings(p, text+"\n")
	equal(t, "65537 bytes", []any{l, line, e}, []any{[]api.Entry(nil), 0, api.ErrLimit})
	l, line, e = site.ParseReadings(p, strings.Repeat("?\n", api.MaxText))
	equal(t, fmt.Sprint("too long, and wrong", l), []any{len(l), line, e}, []any{0, 0, api.ErrLimit})
}
