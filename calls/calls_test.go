package calls

import (
	"fmt"
	"reflect"
	"strings"
	"testing"
)

// parameters tells the types of what a call is given.
func parameters(c call) []reflect.Type {
	var l []reflect.Type
	for p := range reflect.TypeOf(c.f).Ins() {
		l = append(l, p)
	}
	return l
}

// panics tells what a call panics with, nil if it doesn't.
func panics(c call, args []reflect.Value) (said any) {
	defer func() { said = recover() }()
	reflect.ValueOf(c.f).Call(args)
	return nil
}

// told tells values in a failure's message, cut short.
func told(args []reflect.Value) string {
	var l []string
	for _, a := range args {
		s := fmt.Sprintf("%+v", a)
		l = append(l, s[:min(len(s), 80)])
	}
	return strings.Join(l, ", ")
}

// The calls and types are what the chapters say.

func TestTypesOfCalls(t *testing.T) {
	for _, c := range listed() {
		if typ := reflect.TypeOf(c.f).String(); typ != c.typ {
			t.Errorf("%s is a %s; want %s", c.name, typ, c.typ)
		}
	}
}

// R4

func TestFieldsOfTypes(t *testing.T) {
	for _, s := range shapes() {
		typ := reflect.TypeOf(s.zero)
		var l []string
		for f := range typ.Fields() {
			l = append(l, f.Name+" "+f.Type.String())
		}
		if fields := strings.Join(l, "; "); fields != s.fields {
			t.Errorf("%s has the fields %s; want %s", typ, fields, s.fields)
		}
	}
}

// P1, R3: every call ends, none panics, and what was handed in is as it was.

func TestEveryCallAtTheEdges(t *testing.T) {
	for _, c := range listed() {
		before := lists(parameters(c))
		for k, args := range lists(parameters(c)) {
			if said := panics(c, args); said != nil {
				t.Fatalf("%s(%s) panics: %v", c.name, told(args), said)
			}
			for n, a := range args {
				if !reflect.DeepEqual(a.Interface(), before[k][n].Interface()) {
					t.Fatalf("%s(%s) changed what it was given", c.name, told(before[k]))
				}
			}
		}
	}
}
