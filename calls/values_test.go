package calls

import (
	"math"
	"reflect"
	"strings"
)

// ints: the limits, what is just beyond them, and a value of many a kind.
var ints = []int{
	0, 1, 2, 3, 4, 5, 6, 7, 8, 63, 64, 'A', 0x301, 0x34F, 0x1100, 0xAC00, 0xD800, 0xFFFD, 1 << 28,
	0x10FFFF, 0x110000, 1<<32 + 'A', math.MaxInt, -1, math.MinInt,
}

// texts: forms, beginnings, and what is neither.
var texts = []string{"", "a", "\xe2\x82", "\xf0\x9f\x98", "\xed\xa0", "\xff", "é€😀", strings.Repeat("\xe2", 5000)}

// edges tells values of a type: the zero value first, then the wrong, the great and the mixed.
// They are new each time, so that what one call changes is not changed in what it is held against.
func edges(t reflect.Type) []reflect.Value {
	switch t.Kind() {
	case reflect.Int:
		return converted(t, ints)
	case reflect.Uint8:
		return converted(t, []byte{0, 1, 7, 'A', 0x7F, 0x80, 0xAC, 0xC3, 0xE2, 0xF0, 0xFF})
	case reflect.String:
		return converted(t, texts)
	case reflect.Bool:
		return converted(t, []bool{false, true})
	case reflect.Slice:
		return sliced(t)
	case reflect.Struct:
		return structured(t)
	}
	panic("no values are known of " + t.String())
}

func converted[T any](t reflect.Type, l []T) []reflect.Value {
	var all []reflect.Value
	for _, x := range l {
		all = append(all, reflect.ValueOf(x).Convert(t))
	}
	return all
}

// sliced tells nil, none, two, all of the elements' values, and many of them.
func sliced(t reflect.Type) []reflect.Value {
	each := edges(t.Elem())
	none := reflect.MakeSlice(t, 0, 0)
	all := reflect.Append(none, each...)
	many := none
	for range 20 {
		many = reflect.Append(many, edges(t.Elem())...)
	}
	two := reflect.Append(none, each[len(each)/2], each[len(each)-1])
	return []reflect.Value{reflect.Zero(t), none, two, all, many}
}

// structured tells the zero value, those with one field that is none, and one with none that is; of fields that are the program's own nothing is known.
func structured(t reflect.Type) []reflect.Value {
	full := reflect.New(t).Elem()
	all := []reflect.Value{reflect.Zero(t)}
	for k := range t.NumField() {
		if !t.Field(k).IsExported() {
			continue
		}
		each := edges(t.Field(k).Type)
		for _, x := range each[1:] {
			one := reflect.New(t).Elem()
			one.Field(k).Set(x)
			all = append(all, one)
		}
		full.Field(k).Set(each[len(each)-1])
	}
	return append(all, full)
}

// lists tells every choice of one value of each of some types.
func lists(ts []reflect.Type) [][]reflect.Value {
	if len(ts) == 0 {
		return [][]reflect.Value{nil}
	}
	rests := lists(ts[1:])
	var all [][]reflect.Value
	for _, x := range edges(ts[0]) {
		for _, rest := range rests {
			all = append(all, append([]reflect.Value{x}, rest...))
		}
	}
	return all
}
