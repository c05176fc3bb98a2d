/- Layer 9: the document's example. -/
import Derived.Test.YthmiiegbgonkhaaGreatDoorNoS
namespace Go.Proofs.YthmiiegbgonkhaaGreatDoor
set_option linter.unusedSimpArgs false
set_option linter.unusedVariables false
open Go.RowKit Go.Lib

set_option maxHeartbeats 3200000 in
set_option maxRecDepth 100000 in
theorem awake9 (hS : SaneC9) (hF : FeedC9) (hE : EndC9) (w : World) :
    Calls Tryz.prog 4 #[] w fun e w' => e = .returned (.bool true) ∧ Below w.heap.size w w' := by
  have h1 := Lib.hid (fun W => feed_of9 hF (v := .slice none 0 0) (l := []) (r := 101) (q := ([101], [])) (w := W) (by decide +kernel) (by simp) (ri_nil W))
  have h2 := Lib.hid (fun V W => feed_of9 hF (v := V) (l := [101]) (r := 769) (q := ([101, 769], [])) (w := W) (by decide +kernel) (by simp))
  have h3 := Lib.hid (fun V W => feed_of9 hF (v := V) (l := [101, 769]) (r := 102) (q := ([102], [233])) (w := W) (by decide +kernel) (by simp))
  have h4 := Lib.hid (fun V W => end_of9 hE (v := V) (l := [102]) (m := [102]) (w := W) (by decide +kernel) (by simp))
  have h5 := Lib.hid (fun V W => sane_of9 hS (v := V) (l := [101, 769]) (c := true) (w := W) (by decide +kernel) (by simp))
  clear hS hF hE
  go_enter Tryz.func4, Tryz.ntmps4
  go_wp2_with fail
  refine (h1.out _).mono ?_
  rintro e w1 ⟨v_s, v_a, rfl, s, a, q1⟩
  replace s : RI w1 v_s ([101]) := ri_of_own s
  replace a : RI w1 v_a ([]) := ri_of_own a
  obtain ⟨p_s, c_s, rfl⟩ := ri_form s
  obtain ⟨p_a, c_a, rfl⟩ := ri_form a
  replace s := Lib.hid s
  replace a := Lib.hid a
  have b1 := Lib.hid q1
  clear q1
  have nb_s := below_new w1 (.cells #[.slice p_s ([101]).length c_s] 26)
  replace s := Lib.hid (ri_below s.out nb_s)
  replace a := Lib.hid (ri_below a.out nb_s)
  have s_b := Lib.hid (blk_new w1 #[.slice p_s ([101]).length c_s] 26)
  replace b1 := Lib.hid (b1.out.alloc b1.out.size (.cells #[.slice p_s ([101]).length c_s] 26))
  clear nb_s
  have s_c := blk_cell s_b.out 0 _ rfl
  go_wp2_with fail
  refine (h2.out _ _ s.out).mono ?_
  rintro e w2 ⟨v_t, v_b, rfl, t, b, q2⟩
  clear s_c
  replace t : RI w2 v_t ([101, 769]) := ri_of_own t
  replace b : RI w2 v_b ([]) := ri_of_own b
  obtain ⟨p_t, c_t, rfl⟩ := ri_form t
  obtain ⟨p_b, c_b, rfl⟩ := ri_form b
  replace t := Lib.hid t
  replace b := Lib.hid b
  replace s_b := Lib.hid (blk_below s_b.out q2)
  replace s := Lib.hid (ri_below s.out q2)
  replace a := Lib.hid (ri_below a.out q2)
  have b2 := Lib.hid (below_on b1.out q2)
  clear q2
  have nb_t := below_new w2 (.cells #[.slice p_t ([101, 769]).length c_t] 26)
  replace s_b := Lib.hid (blk_below s_b.out nb_t)
  replace s := Lib.hid (ri_below s.out nb_t)
  replace a := Lib.hid (ri_below a.out nb_t)
  replace t := Lib.hid (ri_below t.out nb_t)
  replace b := Lib.hid (ri_below b.out nb_t)
  have t_b := Lib.hid (blk_new w2 #[.slice p_t ([101, 769]).length c_t] 26)
  replace b2 := Lib.hid (b2.out.alloc b2.out.size (.cells #[.slice p_t ([101, 769]).length c_t] 26))
  clear nb_t
  have s_c := blk_cell s_b.out 0 _ rfl
  have t_c := blk_cell t_b.out 0 _ rfl
  go_wp2_with fail
  refine (h3.out _ _ t.out).mono ?_
  rintro e w3 ⟨v_u, v_c, rfl, u, c, q3⟩
  clear s_c t_c
  replace u : RI w3 v_u ([102]) := ri_of_own u
  replace c : RI w3 v_c ([233]) := ri_of_own c
  obtain ⟨p_u, c_u, rfl⟩ := ri_form u
  obtain ⟨p_c, c_c, rfl⟩ := ri_form c
  replace u := Lib.hid u
  replace c := Lib.hid c
  replace s_b := Lib.hid (blk_below s_b.out q3)
  replace t_b := Lib.hid (blk_below t_b.out q3)
  replace s := Lib.hid (ri_below s.out q3)
  replace a := Lib.hid (ri_below a.out q3)
  replace t := Lib.hid (ri_below t.out q3)
  replace b := Lib.hid (ri_below b.out q3)
  have b3 := Lib.hid (below_on b2.out q3)
  clear q3
  have nb_u := below_new w3 (.cells #[.slice p_u ([102]).length c_u] 26)
  replace s_b := Lib.hid (blk_below s_b.out nb_u)
  replace t_b := Lib.hid (blk_below t_b.out nb_u)
  replace s := Lib.hid (ri_below s.out nb_u)
  replace a := Lib.hid (ri_below a.out nb_u)
  replace t := Lib.hid (ri_below t.out nb_u)
  replace b := Lib.hid (ri_below b.out nb_u)
  replace u := Lib.hid (ri_below u.out nb_u)
  replace c := Lib.hid (ri_below c.out nb_u)
  have u_b := Lib.hid (blk_new w3 #[.slice p_u ([102]).length c_u] 26)
  replace b3 := Lib.hid (b3.out.alloc b3.out.size (.cells #[.slice p_u ([102]).length c_u] 26))
  clear nb_u
  have s_c := blk_cell s_b.out 0 _ rfl
  have t_c := blk_cell t_b.out 0 _ rfl
  have u_c := blk_cell u_b.out 0 _ rfl
  go_wp2_with fail
  refine (h4.out _ _ u.out).mono ?_
  rintro e w4 ⟨v_x, rfl, x, q4⟩
  clear s_c t_c u_c
  obtain ⟨p_x, c_x, rfl⟩ := ri_form x
  replace x := Lib.hid x
  replace s_b := Lib.hid (blk_below s_b.out q4)
  replace t_b := Lib.hid (blk_below t_b.out q4)
  replace u_b := Lib.hid (blk_below u_b.out q4)
  replace s := Lib.hid (ri_below s.out q4)
  replace a := Lib.hid (ri_below a.out q4)
  replace t := Lib.hid (ri_below t.out q4)
  replace b := Lib.hid (ri_below b.out q4)
  replace u := Lib.hid (ri_below u.out q4)
  replace c := Lib.hid (ri_below c.out q4)
  have b4 := Lib.hid (below_on b3.out q4)
  clear q4
  clear s_b u_b
  clear s u a b
  obtain ⟨gc, oc, rfl, hlc, hcc⟩ := ri_at c.out (by simp)
  have c0 : w4.cell? ⟨gc, oc, none⟩ = some (.int .i64 233) := hcc 0 (by simp)
  obtain ⟨gx, ox, rfl, hlx, hcx⟩ := ri_at x.out (by simp)
  have x0 : w4.cell? ⟨gx, ox, none⟩ = some (.int .i64 102) := hcx 0 (by simp)
  clear hcc hcx
  have t_c := blk_cell t_b.out 0 _ rfl
  go_wp2_with fail
  refine (h5.out _ _ t.out).mono ?_
  rintro e w5 ⟨rfl, q5⟩
  clear t_c
  replace t_b := Lib.hid (blk_below t_b.out q5)
  replace t := Lib.hid (ri_below t.out q5)
  replace c := Lib.hid (ri_below c.out q5)
  replace x := Lib.hid (ri_below x.out q5)
  have b5 := Lib.hid (below_on b4.out q5)
  clear q5
  clear c0 x0
  have t_c := blk_cell t_b.out 0 _ rfl
  go_wp2_with fail
  go_ret
  exact ⟨rfl, b5.out⟩

end Go.Proofs.YthmiiegbgonkhaaGreatDoor
