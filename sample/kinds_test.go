package sample_test

import (
	"slices"
	"testing"

	"pentrough/clus"
	"pentrough/prop"
	"pentrough/sample"
)

func TestOfKind(t *testing.T) {
	for kind, r := range sample.OfKind() {
		if k := prop.Gcb(r); k != kind {
			t.Errorf("%#x is of kind %d, and not of %d", r, k, kind)
		}
	}
	if n := len(sample.OfKind()); n != 15 {
		t.Errorf("%d kinds have their value", n)
	}
}

func TestSigns(t *testing.T) {
	if signs := sample.Signs(sample.OfKind()); signs != "oRNcezipsLVTvtx" {
		t.Errorf("the kinds, by their numbers, are %s", signs)
	}
	if signs := sample.Signs([]int{'e', 0x302, -1}); signs != "oeo" {
		t.Errorf("the kinds of 0065 0302 -1 are %s", signs)
	}
	for _, x := range []struct {
		signs string
		l     []int
	}{{}, {"|", nil}, {"oe|o", []int{'a', 0x301, 'a'}}, {"xtvTVLspiezcNR", []int{0x1F600, 0xAC01, 0xAC00, 0x11A8, 0x1161, 0x1100, 0x903, 0x600, 0x1F1E6, 0x301, 0x200D, 0x7F, '\n', '\r'}}} {
		if l := sample.Values(x.signs); !slices.Equal(l, x.l) {
			t.Errorf("the values of %s are %#x; want %#x", x.signs, l, x.l)
		}
	}
}

func TestClusState(t *testing.T) {
	for signs, want := range map[string]clus.State{"": {}, "xe": {On: true, Kind: prop.Extend, Pict: true}, "ii": {On: true, Kind: prop.RI}, "x|iii": {On: true, Kind: prop.RI, Odd: true}} {
		if s := sample.ClusState(signs); s != want {
			t.Errorf("behind %s clus is at %+v; want %+v", signs, s, want)
		}
	}
}

func TestClusStates(t *testing.T) {
	all, sane := sample.ClusStates(), 0
	for k, s := range all {
		if clus.Sane(s) {
			sane++
		}
		if slices.Contains(all[:k], s) {
			t.Errorf("%+v comes twice", s)
		}
	}
	if sane != 19 || len(all) < 200 {
		t.Errorf("of %d States %d are Sane; want 19", len(all), sane)
	}
}
