import Derived.Test.YtkofnpkopbnocaaGreatDoorPrP
set_option maxRecDepth 100000
set_option maxHeartbeats 1600000
namespace Go.Proofs.YtkofnpkopbnocaaGreatDoor
set_option linter.unusedSimpArgs false
set_option linter.unusedVariables false
open Go.RowKit Go.Lib
theorem Xk3(r:Int)(w:World):
 Calls Tryz.prog 173 #[.int .i64 r] w fun e w'=>e= .returned (.bool (Prp.drpB r))∧Below w.heap.size w w':=by
 unfold Prp.drpB
 go_enter Tryz.func173,Tryz.ntmps173
 go_upto_region 1 with(fail)
 refine wp_region_lit ?_
 refine X3v 17 (a':= { tmps:= #[.int .i64 r,undef, .bool false,undef,undef,undef, .int .i64 r, .agg #[.int .i64 173, .int .i64 173, .int .i64 0], .agg #[.int .i64 847, .int .i64 847, .int .i64 0], .agg #[.int .i64 1564, .int .i64 1564, .int .i64 0], .agg #[.int .i64 4447, .int .i64 4448, .int .i64 0], .agg #[.int .i64 6068, .int .i64 6069, .int .i64 0], .agg #[.int .i64 6155, .int .i64 6159, .int .i64 0], .agg #[.int .i64 8203, .int .i64 8207, .int .i64 0], .agg #[.int .i64 8234, .int .i64 8238, .int .i64 0], .agg #[.int .i64 8288, .int .i64 8303, .int .i64 0], .agg #[.int .i64 12644, .int .i64 12644, .int .i64 0], .agg #[.int .i64 65024, .int .i64 65039, .int .i64 0], .agg #[.int .i64 65279, .int .i64 65279, .int .i64 0], .agg #[.int .i64 65440, .int .i64 65440, .int .i64 0], .agg #[.int .i64 65520, .int .i64 65528, .int .i64 0], .agg #[.int .i64 917504, .int .i64 921599, .int .i64 0], .slice (some ⟨w.heap.size,0,none⟩) 15 15,undef,undef,undef,undef],defers:= [] }) (w':=w.alloc (.cells (flat Prp.dropped).toArray 213)) (by kernel_rfl) ?_
 simp only[List.drop_succ_cons,List.drop_zero]
 go_wp2_with fail
 refine(Xhw Prp.dropped Prp.XvO (by decide) _ r _ (XDD w _ _ Prp.dropped rfl) 15 rfl).mono ?_
 rintro e w1 ⟨a,b,rfl,d⟩
 have c:=hid (X1v d)
 clear d
 go_wp2_with fail
 go_ret
 exact⟨rfl,c.out.trans ((X04 w1 _).mono c.out.size)⟩
end Go.Proofs.YtkofnpkopbnocaaGreatDoor
