// Package calls holds the tests of what is promised of every call of every layer.
package calls

import (
	"pentrough/canon"
	"pentrough/casing"
	"pentrough/chans"
	"pentrough/clus"
	"pentrough/conn"
	"pentrough/dec"
	"pentrough/decomp"
	"pentrough/flow"
	"pentrough/foldin"
	"pentrough/frame"
	"pentrough/mach"
	"pentrough/nfkc"
	"pentrough/norm"
	"pentrough/pair"
	"pentrough/pipe"
	"pentrough/prop"
	"pentrough/sched"
	"pentrough/script"
	"pentrough/seg"
	"pentrough/server"
	"pentrough/stage"
	"pentrough/table"
	"pentrough/varint"
	"pentrough/wire"
)

// A call is one that the chapters list, with its type as the library's reflection writes it.
type call struct {
	name, typ string
	f         any
}

// listed tells the calls of all chapters, in their order.
func listed() []call {
	return []call{
		{"dec.Good", "func(int) bool", dec.Good},
		{"dec.Sane", "func(dec.State) bool", dec.Sane},
		{"dec.Feed", "func(dec.State, uint8) (dec.State, []int)", dec.Feed},
		{"dec.End", "func(dec.State) []int", dec.End},
		{"dec.All", "func([]uint8) []int", dec.All},
		{"dec.Text", "func([]int) string", dec.Text},
		{"varint.Put", "func(int) []uint8", varint.Put},
		{"varint.Take", "func([]uint8) (int, int, api.Errno)", varint.Take},
		{"varint.Size", "func(int) int", varint.Size},
		{"prop.Ccc", "func(int) int", prop.Ccc},
		{"prop.Gcb", "func(int) int", prop.Gcb},
		{"prop.Drops", "func(int) bool", prop.Drops},
		{"prop.Mark", "func(int) bool", prop.Mark},
		{"decomp.Full", "func(int) []int", decomp.Full},
		{"decomp.Is", "func(int) bool", decomp.Is},
		{"pair.Join", "func(int, int) (int, bool)", pair.Join},
		{"pair.Back", "func(int) (int, int, bool)", pair.Back},
		{"casing.Fold", "func(int) []int", casing.Fold},
		{"casing.All", "func([]int) []int", casing.All},
		{"canon.Order", "func([]int) []int", canon.Order},
		{"canon.Sorted", "func([]int) bool", canon.Sorted},
		{"canon.Compose", "func([]int) []int", canon.Compose},
		{"canon.Marks", "func([]int) int", canon.Marks},
		{"nfkc.Made", "func([]int) []int", nfkc.Made},
		{"nfkc.Safe", "func([]int) []int", nfkc.Safe},
		{"nfkc.Nfkd", "func([]int) []int", nfkc.Nfkd},
		{"nfkc.Nfkc", "func([]int) []int", nfkc.Nfkc},
		{"nfkc.Is", "func([]int) bool", nfkc.Is},
		{"norm.Sane", "func(norm.State) bool", norm.Sane},
		{"norm.Feed", "func(norm.State, int) (norm.State, []int)", norm.Feed},
		{"norm.End", "func(norm.State) []int", norm.End},
		{"norm.All", "func([]int) []int", norm.All},
		{"foldin.Left", "func([]int) []int", foldin.Left},
		{"foldin.Feed", "func(norm.State, int) (norm.State, []int)", foldin.Feed},
		{"foldin.All", "func([]int) []int", foldin.All},
		{"clus.Sane", "func(clus.State) bool", clus.Sane},
		{"clus.Ends", "func(clus.State, int) bool", clus.Ends},
		{"clus.Next", "func(clus.State, int) clus.State", clus.Next},
		{"clus.Cuts", "func([]int) []bool", clus.Cuts},
		{"seg.Sane", "func(seg.State) bool", seg.Sane},
		{"seg.Feed", "func(seg.State, int) (seg.State, []int)", seg.Feed},
		{"seg.End", "func(seg.State) []int", seg.End},
		{"seg.All", "func([]int) [][]int", seg.All},
		{"frame.Put", "func([]int) []uint8", frame.Put},
		{"frame.Take", "func([]uint8) ([]uint8, int, api.Errno)", frame.Take},
		{"frame.All", "func([]uint8) ([]string, int, api.Errno)", frame.All},
		{"frame.Refusal", "func() []uint8", frame.Refusal},
		{"flow.Values", "func([]uint8) []int", flow.Values},
		{"flow.Clusters", "func([]uint8) [][]int", flow.Clusters},
		{"flow.F", "func([]uint8) []uint8", flow.F},
		{"flow.Texts", "func([]uint8) []string", flow.Texts},
		{"mach.New", "func(int) mach.State", mach.New},
		{"mach.Sane", "func(mach.State) bool", mach.Sane},
		{"mach.Feed", "func(mach.State, int) (mach.State, []int)", mach.Feed},
		{"mach.End", "func(mach.State) (mach.State, []int)", mach.End},
		{"mach.Cost", "func(mach.State) int", mach.Cost},
		{"mach.All", "func(int, []int) []int", mach.All},
		{"chans.Sane", "func(chans.Chan) bool", chans.Sane},
		{"chans.Put", "func(chans.Chan, []int) (chans.Chan, bool)", chans.Put},
		{"chans.Take", "func(chans.Chan) (chans.Chan, []int, bool)", chans.Take},
		{"chans.Close", "func(chans.Chan) chans.Chan", chans.Close},
		{"chans.Spent", "func(chans.Chan) bool", chans.Spent},
		{"chans.Count", "func(chans.Chan) int", chans.Count},
		{"stage.New", "func(int) stage.Stage", stage.New},
		{"stage.Sane", "func(stage.Stage) bool", stage.Sane},
		{"stage.Can", "func(stage.Stage, chans.Chan, chans.Chan) bool", stage.Can},
		{"stage.Step", "func(stage.Stage, chans.Chan, chans.Chan) (stage.Stage, chans.Chan, chans.Chan, bool)", stage.Step},
		{"stage.Cost", "func(stage.Stage) int", stage.Cost},
		{"pipe.New", "func() pipe.Pipe", pipe.New},
		{"pipe.Push", "func(pipe.Pipe, []int) (pipe.Pipe, bool)", pipe.Push},
		{"pipe.Pull", "func(pipe.Pipe) (pipe.Pipe, []int, bool)", pipe.Pull},
		{"pipe.Finish", "func(pipe.Pipe) pipe.Pipe", pipe.Finish},
		{"pipe.Can", "func(pipe.Pipe, int) bool", pipe.Can},
		{"pipe.Step", "func(pipe.Pipe, int) (pipe.Pipe, bool)", pipe.Step},
		{"pipe.Leave", "func(pipe.Pipe, int) pipe.Pipe", pipe.Leave},
		{"pipe.Drain", "func(pipe.Pipe) pipe.Pipe", pipe.Drain},
		{"pipe.Shut", "func(pipe.Pipe, int) bool", pipe.Shut},
		{"pipe.Load", "func(pipe.Pipe, int) int", pipe.Load},
		{"pipe.Done", "func(pipe.Pipe) bool", pipe.Done},
		{"pipe.Live", "func(pipe.Pipe) int", pipe.Live},
		{"wire.Sane", "func(wire.Wire) bool", wire.Sane},
		{"wire.Arrive", "func(wire.Wire, []uint8) (wire.Wire, api.Errno)", wire.Arrive},
		{"wire.Finish", "func(wire.Wire) wire.Wire", wire.Finish},
		{"wire.Read", "func(wire.Wire, int) (wire.Wire, []uint8)", wire.Read},
		{"wire.Grant", "func(wire.Wire, int) (wire.Wire, api.Errno)", wire.Grant},
		{"wire.Write", "func(wire.Wire, []uint8) (wire.Wire, int)", wire.Write},
		{"wire.Waits", "func(wire.Wire) bool", wire.Waits},
		{"conn.New", "func() conn.Conn", conn.New},
		{"conn.Arrive", "func(conn.Conn, []uint8) (conn.Conn, api.Errno)", conn.Arrive},
		{"conn.Finish", "func(conn.Conn) conn.Conn", conn.Finish},
		{"conn.Grant", "func(conn.Conn, int) (conn.Conn, api.Errno)", conn.Grant},
		{"conn.Cancel", "func(conn.Conn) conn.Conn", conn.Cancel},
		{"conn.Can", "func(conn.Conn, int) bool", conn.Can},
		{"conn.Step", "func(conn.Conn, int) (conn.Conn, bool)", conn.Step},
		{"conn.Gone", "func(conn.Conn, int) bool", conn.Gone},
		{"conn.Over", "func(conn.Conn) bool", conn.Over},
		{"conn.Off", "func(conn.Conn) bool", conn.Off},
		{"conn.Wire", "func(conn.Conn) wire.Wire", conn.Wire},
		{"conn.Taken", "func(conn.Conn) int", conn.Taken},
		{"conn.Held", "func(conn.Conn) int", conn.Held},
		{"conn.Live", "func(conn.Conn) int", conn.Live},
		{"sched.Ready", "func(conn.Conn) []int", sched.Ready},
		{"sched.Waits", "func(conn.Conn) int", sched.Waits},
		{"sched.Drive", "func(conn.Conn, []int) (conn.Conn, int)", sched.Drive},
		{"sched.Rounds", "func(conn.Conn, []int, int) (conn.Conn, int)", sched.Rounds},
		{"sched.Fair", "func([]int, int) bool", sched.Fair},
		{"sched.Gap", "func([]int) int", sched.Gap},
		{"table.New", "func() table.Table", table.New},
		{"table.Enter", "func(table.Table, int) (table.Table, api.Errno)", table.Enter},
		{"table.Arrive", "func(table.Table, int, []uint8) (table.Table, api.Errno)", table.Arrive},
		{"table.Finish", "func(table.Table, int) (table.Table, api.Errno)", table.Finish},
		{"table.Grant", "func(table.Table, int, int) (table.Table, api.Errno)", table.Grant},
		{"table.Cancel", "func(table.Table, int) (table.Table, api.Errno)", table.Cancel},
		{"table.Step", "func(table.Table, int, int) (table.Table, bool)", table.Step},
		{"table.Shutdown", "func(table.Table) table.Table", table.Shutdown},
		{"table.State", "func(table.Table, int) int", table.State},
		{"table.Conn", "func(table.Table, int) (conn.Conn, bool)", table.Conn},
		{"table.Out", "func(table.Table, int) []uint8", table.Out},
		{"table.Taken", "func(table.Table, int) int", table.Taken},
		{"table.Ids", "func(table.Table) []int", table.Ids},
		{"table.Opened", "func(table.Table) int", table.Opened},
		{"table.Live", "func(table.Table) int", table.Live},
		{"script.Sane", "func(script.Event) bool", script.Sane},
		{"script.Put", "func(script.Event) []uint8", script.Put},
		{"script.Get", "func([]uint8) (script.Event, int, api.Errno)", script.Get},
		{"script.All", "func([]uint8) ([]script.Event, int, api.Errno)", script.All},
		{"server.Do", "func(table.Table, script.Event) (table.Table, int)", server.Do},
		{"server.Play", "func([]script.Event) table.Table", server.Play},
		{"server.Rows", "func(table.Table) []server.Row", server.Rows},
		{"server.Run", "func([]uint8) ([]server.Row, int, api.Errno)", server.Run},
	}
}

// A shape is a type whose fields a chapter gives.
type shape struct {
	zero   any
	fields string
}

// shapes tells the types whose fields are given, in the chapters' order.
func shapes() []shape {
	return []shape{
		{dec.State{}, "B string"},
		{norm.State{}, "L []int"},
		{clus.State{}, "On bool; Kind int; Pict bool; Odd bool"},
		{seg.State{}, "C []int; S clus.State"},
		{mach.State{}, "Kind int; D dec.State; N norm.State; G seg.State; C []int"},
		{chans.Chan{}, "L [][]int; Closed bool"},
		{stage.Stage{}, "M mach.State; Pend []int; Ended bool; Shut bool"},
		{wire.Wire{}, "In []uint8; Eof bool; Allow int; Out []uint8"},
		{script.Event{}, "Kind int; Id int; N int; B []uint8"},
		{server.Row{}, "Id int; State int; Taken int; Out []uint8"},
	}
}
