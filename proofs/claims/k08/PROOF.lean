import PyProof.Rows.All
import Wide.All
import OpenK.AllK
import Wide.FinOn
import HandS.ForMost
import HandS.ForExc
import HandS.Flow
import HandS.Evl
import HandS.ExcInit
import HandS.ExcValue
import KE.KExcIs
import HandS.ClsMeth
import HandS.IsInst
import HandS.Style
import PySem.Challenge.RW_calltakers_k08_errors_apart
set_option Elab.async false
set_option linter.all false
set_option maxRecDepth 100000
set_option maxHeartbeats 4000000
namespace Ck
open PySem PySem.Spec PyProof.Rows L2
/-! ### the text -/
def topS (i : Nat) : Stmt := PySem.Challenge.pw_calltakers_k08_errors_apart.main.body.getD i (.Pass ⟨0, 0, 0, 0⟩)
abbrev sBegun : Stmt := topS 33
abbrev sMixed : Stmt := topS 34
abbrev sTake : Stmt := topS 35
abbrev sPick : Stmt := topS 36
/-! ### the state of the draws -/
theorem k_gc : ¬ (("great" : Str) = "cells") := by decide +kernel
theorem k_gr : ¬ (("great" : Str) = "rest") := by decide +kernel
theorem k_gt : ¬ (("great" : Str) = "turn") := by decide +kernel
theorem k_cr : ¬ (("cells" : Str) = "rest") := by decide +kernel
theorem k_ct : ¬ (("cells" : Str) = "turn") := by decide +kernel
theorem k_rt : ¬ (("rest" : Str) = "turn") := by decide +kernel
theorem kr {a b : Str} (h : ¬ a = b) : ¬ ((Sum.inr a : Key) = Sum.inr b) := fun z => h (Sum.inr.inj z)
def dS (g c : Addr) (r t : Int) : List (Key × V) := [(Sum.inr "great", .ref g), (Sum.inr "cells", .ref c), (Sum.inr "rest", .int r), (Sum.inr "turn", .int t)]
theorem v_great (g c : Addr) (r t : Int) : valV (dS g c r t) (Sum.inr "great") = some (.ref g) := valV_pos (p := ((Sum.inr "great" : Key), V.ref g)) rfl
theorem v_cells (g c : Addr) (r t : Int) : valV (dS g c r t) (Sum.inr "cells") = some (.ref c) := by
  unfold dS
  rw [valV_neg (p := ((Sum.inr "great" : Key), V.ref g)) (kr k_gc), valV_pos (p := ((Sum.inr "cells" : Key), V.ref c)) rfl]
theorem v_rest (g c : Addr) (r t : Int) : valV (dS g c r t) (Sum.inr "rest") = some (.int r) := by
  unfold dS
  rw [valV_neg (p := ((Sum.inr "great" : Key), V.ref g)) (kr k_gr), valV_neg (p := ((Sum.inr "cells" : Key), V.ref c)) (kr k_cr), valV_pos (p := ((Sum.inr "rest" : Key), V.int r)) rfl]
theorem v_turn (g c : Addr) (r t : Int) : valV (dS g c r t) (Sum.inr "turn") = some (.int t) := by
  unfold dS
  rw [valV_neg (p := ((Sum.inr "great" : Key), V.ref g)) (kr k_gt), valV_neg (p := ((Sum.inr "cells" : Key), V.ref c)) (kr k_ct), valV_neg (p := ((Sum.inr "rest" : Key), V.int r)) (kr k_rt), valV_pos (p := ((Sum.inr "turn" : Key), V.int t)) rfl]
theorem p_rest (g c : Addr) (r t y : Int) : putK (dS g c r t) (Sum.inr "rest") (.int y) = dS g c y t := by
  unfold putK
  rw [valV_any, v_rest, Option.isSome_some, if_pos rfl]
  unfold dS
  rw [List.map_cons, List.map_cons, List.map_cons, List.map_cons, List.map_nil, if_neg (kr k_gr), if_neg (kr k_cr), if_pos rfl, if_neg (kr fun z => k_rt z.symm)]
theorem p_turn (g c : Addr) (r t y : Int) : putK (dS g c r t) (Sum.inr "turn") (.int y) = dS g c r y := by
  unfold putK
  rw [valV_any, v_turn, Option.isSome_some, if_pos rfl]
  unfold dS
  rw [List.map_cons, List.map_cons, List.map_cons, List.map_cons, List.map_nil, if_neg (kr k_gt), if_neg (kr k_ct), if_neg (kr k_rt), if_pos rfl]
theorem dS_len (g c : Addr) (r t : Int) : (dS g c r t).length < sizeLine := by
  show 4 < sizeLine
  decide
/-- the state of the draws stands at d, its list of great numbers at g; n more draws are provided for -/
structure Dr (H : Hp) (d g : Addr) (n : Nat) : Prop where
  ex : ∃ (c : Addr) (gs cs : List Int) (r t : Int), H d = some (.dK (dS g c r t)) ∧ H g = some (.lst (gs.map V.int)) ∧ H c = some (.lst (cs.map V.int)) ∧ c ≠ g ∧ 0 ≤ r ∧ (∀ z ∈ gs, 0 ≤ z) ∧ 0 ≤ t ∧ t + n ≤ 1000000 ∧ gs.length ≤ 63
/-- all but the draws' state is as it was -/
def Keep (d g : Addr) (H H' : Hp) : Prop := ∀ b o, b ≠ d → b ≠ g → H b = some o → H' b = some o
theorem Keep.refl {d g : Addr} {H : Hp} : Keep d g H H := fun _ _ _ _ h => h
theorem Keep.trans {d g : Addr} {H H1 H2 : Hp} (a : Keep d g H H1) (b : Keep d g H1 H2) : Keep d g H H2 := fun c o h1 h2 h => b c o h1 h2 (a c o h1 h2 h)
theorem Keep.of {d g : Addr} {H H' : Hp} (s : Same H H') : Keep d g H H' := fun b o _ _ h => s b o h
theorem Dr.ne (D : Dr H d g n) : d ≠ g := by
  obtain ⟨c, gs, cs, r, t, h1, h2, _⟩ := D.ex
  exact ne_of h1 h2 fun z => by cases z
theorem Dr.mono {H H' : Hp} {d g : Addr} {n : Nat} (D : Dr H d g n) (s : Same H H') : Dr H' d g n := by
  obtain ⟨c, gs, cs, r, t, h1, h2, h3, z⟩ := D.ex
  exact ⟨c, gs, cs, r, t, s _ _ h1, s _ _ h2, s _ _ h3, z⟩
theorem Dr.less {H : Hp} {d g : Addr} {n m : Nat} (D : Dr H d g n) (h : m ≤ n) : Dr H d g m := by
  obtain ⟨c, gs, cs, r, t, h1, h2, h3, h4, h5, h6, h7, h8, h9⟩ := D.ex
  exact ⟨c, gs, cs, r, t, h1, h2, h3, h4, h5, h6, h7, by omega, h9⟩
theorem same_upd {H : Hp} {p : Addr} {o : HO} (h : H p = none) : Same H (upd H p o) := fun b x e => by
  rw [upd_ne (ne_of_none e h)]
  exact e
section
variable {P : Program} {w : World} {K : PySem.W.Frag} {mg : Str → Option Value} {base : Heap}
/-! ### _law_begun -/
theorem scBegun : FnScope ["script", "wide", "cell"] ["script"] (defScope sBegun) := ⟨rfl, rfl, rfl, by decide +kernel, rfl, by decide +kernel, by decide +kernel⟩
def spBegun (K : PySem.W.Frag) : Sp := fun vs H Q _ => ∃ (a : Addr) (ns : List Int), vs = [.ref a] ∧ SqL K H a (ns.map V.int) ∧ ns.length ≤ 63 ∧ ∀ d g H', H d = none → H g = none → Same H H' → Dr H' d g 1000000 → Q (.ref d) H'
def wide (ns : List Int) : List Int := (ns.filter fun z => decide (10 ^ 18 ≤ z)).map fun z => z - 10 ^ 18
theorem wide_nn (ns : List Int) : ∀ z ∈ wide ns, 0 ≤ z := fun z h => by
  obtain ⟨y, hy, rfl⟩ := List.mem_map.mp h
  have := of_decide_eq_true (List.mem_filter.mp hy).2
  omega
theorem wide_len (ns : List Int) : (wide ns).length ≤ ns.length := by
  unfold wide
  rw [List.length_map]
  exact List.length_filter_le _ _
theorem take_snoc {α : Type} {l : List α} {i : Nat} {x : α} (h : l[i]? = some x) : l.take (i + 1) = l.take i ++ [x] := by
  rw [List.take_add_one, h]
  rfl
theorem wide_yes {ns : List Int} {i : Nat} {z : Int} (h : ns[i]? = some z) (c : 10 ^ 18 ≤ z) : wide (ns.take (i + 1)) = wide (ns.take i) ++ [z - 10 ^ 18] := by
  unfold wide
  rw [take_snoc h, List.filter_append, List.map_append, List.filter_cons, if_pos (decide_eq_true c)]
  rfl
theorem wide_no {ns : List Int} {i : Nat} {z : Int} (h : ns[i]? = some z) (c : ¬ 10 ^ 18 ≤ z) : wide (ns.take (i + 1)) = wide (ns.take i) := by
  unfold wide
  rw [take_snoc h, List.filter_append, List.map_append, List.filter_cons, if_neg (by rw [decide_eq_false c]; decide)]
  show _ ++ [] = _
  rw [List.append_nil]
theorem at_int {ns : List Int} {i : Nat} {x : V} (h : (ns.map V.int)[i]? = some x) : ∃ z, ns[i]? = some z ∧ x = .int z := by
  rw [List.getElem?_map] at h
  cases e : ns[i]? with
  | none => rw [e] at h; cases h
  | some z => rw [e] at h; exact ⟨z, rfl, (Option.some.inj h).symm⟩
theorem ok_begun {f : Addr} {fd : FuncData} {k : Nat} (F : Fun K "_law_begun" "_law_begun" sBegun f fd) (ml : mg "list" = none) : FnOk P w K mg base CX0 (k + 1) f fd ["script"] (spBegun K) := by
  refine F.ok scBegun (fun vs H Q E h => ?_) (fun cdv A outer s H vs Q E hr h => ?_)
  · obtain ⟨a, ns, rfl, _⟩ := h
    rfl
  · obtain ⟨a, ns, rfl, hS, hlen, q⟩ := h
    refine ⟨_, pss_cons (ps_setLc (i := 1) (own := [("cell", 2)]) (g := gName 2) rfl scBegun.nd rfl rfl (sw_true rfl rfl rfl (by decide +kernel)) (pi_list (pv 0)) (blkOk_by (own := [("cell", 2)]) (N := ["script", "wide", "cell"]) (sc := defScope sBegun) (by decide +kernel))
        (fun _ _ _ _ _ => pg_name (i := 2) scBegun.nd rfl (Or.inl rfl)) (fun _ _ _ _ _ => pts_one (pt_cmpR op_ge (pv 2) (pe_op op_pow pe_int pe_int) (nomark _)))
        (fun _ _ _ _ _ => pe_op op_sub (pv 2) (pe_op op_pow pe_int pe_int)))
      (pss_one (ps_ret (pe_disp (pps_cons pe_str (pv 1) (pps_cons pe_str (pe_callTy call_list_of (by rfl) ml boot_list (pa_cons (pv 0) pa_nil)) (pps_cons pe_str pe_int (pps_cons pe_str pe_int pps_nil)))) (by rfl) (by rfl) (fun z => by cases z) (by decide)))), ?_⟩
    refine ⟨.ref a, rfl, a, rfl, ⟨_, hS⟩, fun g hg => lc_list (K := K) (a := a) (xs := ns.map V.int) (fun i H' => Same H H' ∧ H' g = some (.lst ((wide (ns.take i)).map V.int))) ⟨same_upd hg, upd_same⟩ (fun i H' _ p => p.1.seq hS) ?_ ?_⟩
    · rintro i x H' hx ⟨sm, hG⟩
      obtain ⟨z, hz, rfl⟩ := at_int hx
      have hi : i < ns.length := (List.getElem?_eq_some_iff.mp hz).1
      have p18 : (10 : Int) ^ (18 : Int).toNat = 10 ^ 18 := rfl
      refine ⟨rfl, .int z, rfl, _, _, rfl, rfl, ⟨by decide, by decide, by decide⟩, _, _, rfl, rfl, _, rfl, ?_⟩
      rw [p18]
      by_cases c : (10 : Int) ^ 18 ≤ z
      · rw [decide_eq_true c]
        refine iteT ?_
        refine ⟨.int z, rfl, _, _, rfl, rfl, ⟨by decide, by decide, by decide⟩, _, _, rfl, rfl, (wide (ns.take i)).map V.int, hG, ?_, ?_, ?_⟩
        · rw [List.length_map]
          exact small1000 (by have := wide_len (ns.take i); rw [List.length_take] at this; omega)
        · exact fun b o e => by
            rw [upd_ne (ne_of_none e hg)]
            exact sm b o e
        · rw [upd_same, wide_yes hz c, List.map_append]
          rfl
      · rw [decide_eq_false c]
        refine iteF ?_
        exact ⟨sm, by rw [wide_no hz c]; exact hG⟩
    · rintro H' ⟨sm, hG⟩
      rw [List.length_map, List.take_length] at hG
      intro d hd
      have hgd : g ≠ d := ne_of_none hG hd
      have hd0 : H d = none := by
        cases e : H d with
        | none => rfl
        | some o => rw [sm d o e] at hd; cases hd
      refine ⟨.ref g, rfl, .ref a, rfl, a, _, rfl, .inl ((same_upd hd).seq (sm.seq hS)), fun c hc => ?_⟩
      have hcd : c ≠ d := fun z => by rw [z, upd_same] at hc; cases hc
      have hcg : c ≠ g := fun z => by rw [z, upd_ne hgd, hG] at hc; cases hc
      have hc0 : H' c = none := by rw [upd_ne hcd] at hc; exact hc
      refine ⟨by rw [upd_ne hcd.symm, upd_same], dS g c 0 0, rfl, (by show 4 ≤ 15; decide), q d g _ hd0 hg (fun b o e => ?_) ⟨c, wide ns, ns, 0, 0, ?_, ?_, ?_, hcg, Int.le_refl 0, wide_nn ns, Int.le_refl 0, by decide, Nat.le_trans (wide_len ns) hlen⟩⟩
      · rw [upd_ne (ne_of_none e hd0), upd_ne (ne_of_none (sm b o e) hc0), upd_ne (ne_of_none e hd0)]
        exact sm b o e
      · rw [upd_same]
        rfl
      · rw [upd_ne hgd, upd_ne hcg.symm, upd_ne hgd]
        exact hG
      · rw [upd_ne hcd, upd_same]
/-! ### _law_mixed -/
theorem scMixed : FnScope ["state", "turn", "found", "prime", "blend", "cell"] ["state"] (defScope sMixed) := ⟨rfl, rfl, rfl, by decide +kernel, rfl, by decide +kernel, by decide +kernel⟩
def spMixed : Sp := fun vs H Q _ => ∃ (d g c : Addr) (cs : List Int) (r t : Int), vs = [.ref d] ∧ H d = some (.dK (dS g c r t)) ∧ H c = some (.lst (cs.map V.int)) ∧ 0 ≤ t ∧ t ≤ 1000000 ∧
  ∀ (z : Int) H', 0 ≤ z → (∀ b o, b ≠ d → H b = some o → H' b = some o) → H' d = some (.dK (dS g c r (t + 1))) → Q (.int z) H'
def primes : List Int := [2147483629, 2147483587, 2147483579, 2147483563, 2147483549, 2147483543]
theorem primes_ok : ∀ p ∈ primes, 0 < p ∧ p < 2147483648 := by decide
theorem ok_mixed {f : Addr} {fd : FuncData} {k : Nat} (F : Fun K "_law_mixed" "_law_mixed" sMixed f fd) (mi : mg "int" = none) : FnOk P w K mg base CX0 (k + 1) f fd ["state"] spMixed := by
  refine F.ok scMixed (fun vs H Q E h => ?_) (fun cdv A outer s H vs Q E hr h => ?_)
  · obtain ⟨d, g, c, cs, r, t, rfl, _⟩ := h
    rfl
  · obtain ⟨d, g, c, cs, r, t, rfl, hd, hc, ht, ht2, q⟩ := h
    have hu := hu_of hr
    refine ⟨_, pss_cons (ps_set (i := 1) scMixed.nd rfl (.inl rfl) (pe_op op_add (pe_dget hu (pv 0) pe_str (fun _ _ => rfl)) pe_int))
      (pss_cons (ps_dput hu (pv 0) pe_str (pv 1) rfl)
      (pss_cons (ps_set (i := 2) scMixed.nd rfl (.inl rfl) pe_int)
      (pss_cons (ps_for PassesOwn.never rfl (pi_list (pe_lst (pa_cons pe_int (pa_cons pe_int (pa_cons pe_int (pa_cons pe_int (pa_cons pe_int (pa_cons pe_int pa_nil)))))))) (pg_name (i := 3) scMixed.nd rfl (.inl rfl))
        (pss_cons (ps_set (i := 4) scMixed.nd rfl (.inl rfl) (pe_op op_add (pe_op op_mul pe_int (pv 1)) (pe_op op_fdivN (pv 3) pe_int)))
        (pss_cons (ps_for PassesOwn.never rfl (pi_list (pe_dget hu (pv 0) pe_str (fun _ _ => rfl))) (pg_name (i := 5) scMixed.nd rfl (.inl rfl))
          (pss_one (ps_set (i := 4) scMixed.nd rfl (.inl rfl) (pe_op op_mod (pe_callTy call_int1 (by rfl) mi boot_int (pa_cons (pe_op op_add (pe_op op_mul (pv 4) pe_int) (pv 5)) pa_nil)) (pv 3)))))
        (pss_one (ps_set (i := 2) scMixed.nd rfl (.inl rfl) (pe_op op_add (pe_op op_mul (pv 2) pe_int) (pe_op op_mod (pe_callTy call_int1 (by rfl) mi boot_int (pa_cons (pe_op op_pow (pv 4) pe_int) pa_nil)) (pv 3))))))))
      (pss_one (ps_ret (pv 2)))))), ?_⟩
    -- turn = state['turn'] + 1; state['turn'] = turn; found = 0
    have g1 : DGet H d (.str "turn") (some (.int t)) := by
      have := DGet.k (k := (Sum.inr "turn" : Key)) hd
      rw [v_turn] at this
      exact this
    refine ⟨.ref d, rfl, d, .int t, rfl, g1, _, _, rfl, rfl, ?_⟩
    refine ⟨.int (t + 1), rfl, .ref d, rfl, d, _, rfl, DPut.k (k := (Sum.inr "turn" : Key)) hd (dS_len ..), ?_⟩
    rw [p_turn]
    generalize hH1 : upd H d (.dK (dS g c r (t + 1))) = H1
    have e1 : H1 d = some (.dK (dS g c r (t + 1))) := by rw [← hH1, upd_same]
    have o1 : ∀ b o, b ≠ d → H b = some o → H1 b = some o := fun b o hb e => by rw [← hH1, upd_ne hb]; exact e
    have hcd : c ≠ d := ne_of hc hd fun z => by cases z
    -- the list of primes
    refine ⟨by decide, fun p np => ?_⟩
    have s1 : Same H1 (upd H1 p (.lst (primes.map V.int))) := same_upd np
    generalize hH2 : upd H1 p (.lst (primes.map V.int)) = H2 at s1
    have e2 : H2 d = some (.dK (dS g c r (t + 1))) := s1 _ _ e1
    have c2 : H2 c = some (.lst (cs.map V.int)) := s1 _ _ (o1 c _ hcd hc)
    have p2 : H2 p = some (.lst (primes.map V.int)) := by rw [← hH2, upd_same]
    have o2 : ∀ b o, b ≠ d → H b = some o → H2 b = some o := fun b o hb e => s1 b o (o1 b o hb e)
    refine ⟨p, rfl, ⟨primes.map V.int, ?_⟩, ?_⟩
    · show SqL _ (upd H1 p (.lst (primes.map V.int))) p _
      rw [hH2]
      exact .of p2
    show ∃ W : Nat → Nat → L2.St → Hp → Prop, (∃ m, W 0 m _ (upd H1 p (.lst (primes.map V.int)))) ∧ _
    rw [hH2]
    refine for_list (K := K) (a := p) (xs := primes.map V.int) (fun i σ H' => H' = H2 ∧ ∃ (z : Int) (x3 x4 x5 : Option V), σ = [some (.ref d), some (.int (t + 1)), some (.int z), x3, x4, x5] ∧ 0 ≤ z) ⟨rfl, 0, none, none, none, rfl, Int.le_refl 0⟩ (fun i σ H' _ h => by rw [h.1]; exact .of p2) ?_ ?_
    · rintro i x σ H' hx ⟨rfl, z, x3, x4, x5, rfl, hz⟩
      obtain ⟨pr, hpr, rfl⟩ := at_int hx
      obtain ⟨q1, q2⟩ := primes_ok pr (List.mem_of_getElem? hpr)
      -- blend = 130363 * turn + prime // 13
      refine ⟨.int (t + 1), rfl, _, _, rfl, rfl, .inl ⟨by decide, by decide⟩, .int pr, rfl, _, _, rfl, rfl, ⟨by decide, by decide⟩, _, _, rfl, rfl, ?_⟩
      have b0n : ((130363 : Int) * (t + 1) + pr.fdiv 13).natAbs < 2 ^ 64 := by
        have h13 : pr.fdiv 13 = pr / 13 := Int.fdiv_eq_ediv_of_nonneg pr (by decide)
        rw [h13]
        have : (2 : Nat) ^ 64 = 18446744073709551616 := by decide
        omega
      have gc : DGet H' d (.str "cells") (some (.ref c)) := by
        have := DGet.k (k := (Sum.inr "cells" : Key)) e2
        rw [v_cells] at this
        exact this
      refine ⟨.ref d, rfl, d, .ref c, rfl, gc, c, rfl, ⟨cs.map V.int, .of c2⟩, ?_⟩
      refine for_list (K := K) (a := c) (xs := cs.map V.int) (fun i σ H3 => H3 = H' ∧ ∃ (b : Int) (x5 : Option V), σ = [some (.ref d), some (.int (t + 1)), some (.int z), some (.int pr), some (.int b), x5] ∧ b.natAbs < 2 ^ 64) ⟨rfl, 130363 * (t + 1) + pr.fdiv 13, x5, rfl, b0n⟩ (fun i σ H3 _ h => by rw [h.1]; exact .of c2) ?_ ?_
      · rintro j y σ H3 hy ⟨rfl, b, y5, rfl, hb⟩
        obtain ⟨cell, hcell, rfl⟩ := at_int hy
        refine ⟨.int b, rfl, _, _, rfl, rfl, .inr ⟨by decide, by decide⟩, .int cell, rfl, _, _, rfl, rfl, .inl ⟨_, rfl, .int pr, rfl, _, _, rfl, rfl, q1, ?_⟩⟩
        refine ⟨rfl, _, _, rfl, ?_⟩
        have h0 := Int.emod_nonneg (b * 48271 + cell) (Int.ne_of_gt q1)
        have h1 := Int.emod_lt_of_pos (b * 48271 + cell) q1
        have : (2 : Nat) ^ 64 = 18446744073709551616 := by decide
        omega
      · rintro σ H3 ⟨rfl, b, y5, rfl, hb⟩
        refine ⟨.int z, rfl, _, _, rfl, rfl, .inr ⟨by decide, by decide⟩, .int b, rfl, _, _, rfl, rfl, ⟨by decide, by decide, hb⟩, .inl ⟨_, rfl, .int pr, rfl, _, _, rfl, rfl, q1, _, _, rfl, rfl, ?_⟩⟩
        refine ⟨rfl, _, _, _, _, rfl, ?_⟩
        have h0 := Int.emod_nonneg (b ^ (5 : Int).toNat) (Int.ne_of_gt q1)
        omega
    · rintro σ H' ⟨rfl, z, x3, x4, x5, rfl, hz⟩
      exact ⟨.int z, rfl, q z H' hz o2 e2⟩
/-! ### _law_take -/
theorem scTake : FnScope ["state", "span", "found"] ["state", "span"] (defScope sTake) := ⟨rfl, rfl, rfl, by decide +kernel, rfl, by decide +kernel, by decide +kernel⟩
def spTake : Sp := fun vs H Q _ => ∃ (d g : Addr) (n : Nat) (span : Int), vs = [.ref d, .int span] ∧ Dr H d g (n + 1) ∧ 0 < span ∧ span < 1073741824 ∧
  ∀ (z : Int) H', 0 ≤ z → z < span → Keep d g H H' → Dr H' d g n → Q (.int z) H'
theorem data_ints {H : Hp} : ∀ ns : List Int, DpAll K H (ns.map V.int) (ns.map PyData.int)
  | [] => .nil
  | z :: ns => .cons (.int z) (data_ints ns)
theorem canLay_ints : ∀ ns : List Int, PyData.canLayAll0 (ns.map PyData.int) = true
  | [] => rfl
  | z :: ns => by
    show (PyData.canLay0 (.int z) && PyData.canLayAll0 (ns.map PyData.int)) = true
    rw [canLay_ints ns]
    rfl
theorem depth_ints : ∀ ns : List Int, PyData.depthAll (ns.map PyData.int) ≤ 1
  | [] => by decide
  | z :: ns => by
    have := depth_ints ns
    rw [List.map_cons]
    simp only [PyData.depthAll, PyData.depth]
    omega
theorem shaped_ints (ns : List Int) : SeqAt.shaped (.list (ns.map PyData.int)) = true := by
  have h1 := canLay_ints ns
  have h2 := depth_ints ns
  unfold SeqAt.shaped
  rw [Bool.and_eq_true_iff]
  refine ⟨?_, decide_eq_true ?_⟩
  · simp only [PyData.canLay0]
    exact h1
  · simp only [PyData.depth]
    omega
theorem eqv_nil : ∀ ns : List Int, PyData.eqv (.list (ns.map PyData.int)) (.list []) = ns.isEmpty
  | [] => by simp [PyData.eqv, PyData.eqvAll]
  | z :: ns => by simp [PyData.eqv, PyData.eqvAll]
theorem ok_take {f fM : Addr} {fd fdM : FuncData} {k : Nat} (F : Fun K "_law_take" "_law_take" sTake f fd) (FM : Fun K "_law_mixed" "_law_mixed" sMixed fM fdM) (bM : Binds K fdM ["state"] []) (gM : mg "_law_mixed" = some (.ref fM)) (mi : mg "int" = none) :
    FnOk P w K mg base CX0 (k + 2) f fd ["state", "span"] spTake := by
  have GM : FnOk P w K mg base CX0 (k + 1) fM fdM ["state"] spMixed := ok_mixed FM mi
  refine F.ok scTake (fun vs H Q E h => ?_) (fun cdv A outer s H vs Q E hr h => ?_)
  · obtain ⟨d, g, n, span, rfl, _⟩ := h
    rfl
  · obtain ⟨d, g, n, span, rfl, D, hs0, hs1, q⟩ := h
    have hu := hu_of hr
    refine ⟨_, Evl.pss_cut (ps_if (PW.pt (pw_and (pt_cmpR op_eq (pe_dget hu (pv 0) pe_str (fun _ _ => rfl)) pe_int (nomark _)) (pw_and1 (pt_cmpR (op_neD hr.units) (pe_dget hu (pv 0) pe_str (fun _ _ => rfl)) (pe_lst pa_nil) (nomark _)))))
        (pss_one (ps_dput hu (pv 0) pe_str (pe_bm PySem.F.plainAttrs_list PySem.F.slot_list_pop PySem.F.type_list_pop mt_popAt (pe_dget hu (pv 0) pe_str (fun _ _ => rfl)) (pa_cons pe_int pa_nil)) rfl))
        (pss_one (ps_if (pt_cmpR op_eq (pe_dget hu (pv 0) pe_str (fun _ _ => rfl)) pe_int (nomark _))
          (pss_one (ps_dput hu (pv 0) pe_str (pe_call GM hr (by rfl) gM FM.kp bM .nil pass0 (pa_cons (pv 0) pa_nil)) rfl)) pss_nil)))
      (pss_cons (ps_set (i := 2) scTake.nd rfl (.inl rfl) (pe_op op_mod (pe_callTy call_int1 (by rfl) mi boot_int (pa_cons (pe_dget hu (pv 0) pe_str (fun _ _ => rfl)) pa_nil)) (pv 1)))
      (pss_cons (ps_dput hu (pv 0) pe_str (pe_op op_fdivN (pe_dget hu (pv 0) pe_str (fun _ _ => rfl)) (pv 1)) rfl)
      (pss_one (ps_ret (pv 2))))), ?_⟩
    obtain ⟨c, gs, cs, r, t, h1, h2, h3, hcg, hr0, hgs, ht0, htn, hgl⟩ := D.ex
    have hdg : d ≠ g := D.ne
    have hcd : c ≠ d := ne_of h3 h1 fun z => by cases z
    have gR : ∀ {H1 : Hp} {r t : Int}, H1 d = some (.dK (dS g c r t)) → DGet H1 d (.str "rest") (some (.int r)) := fun {H1 r t} e => by
      have := DGet.k (k := (Sum.inr "rest" : Key)) e
      rw [v_rest] at this
      exact this
    have gG : ∀ {H1 : Hp} {r t : Int}, H1 d = some (.dK (dS g c r t)) → DGet H1 d (.str "great") (some (.ref g)) := fun {H1 r t} e => by
      have := DGet.k (k := (Sum.inr "great" : Key)) e
      rw [v_great] at this
      exact this
    -- behind the ifs: some rest that is not negative
    refine ⟨fun σ' H' => σ' = [some (.ref d), some (.int span), none] ∧ Keep d g H H' ∧ ∃ (gs : List Int) (r t : Int), H' d = some (.dK (dS g c r t)) ∧ H' g = some (.lst (gs.map V.int)) ∧ H' c = some (.lst (cs.map V.int)) ∧ 0 ≤ r ∧ (∀ z ∈ gs, 0 ≤ z) ∧ 0 ≤ t ∧ t + n ≤ 1000000 ∧ gs.length ≤ 63, ?_, ?_⟩
    · refine ⟨.ref d, rfl, d, .int r, rfl, gR h1, rfl, _, rfl, ?_⟩
      by_cases e0 : r = 0
      · subst e0
        refine iteT ?_
        refine ⟨.ref d, rfl, d, .ref g, rfl, gG h1, Nat.zero_le _, fun p np => ?_⟩
        have s1 : Same H (upd H p (.lst [])) := same_upd np
        refine ⟨.list (gs.map PyData.int), .list [], .lst (.of (s1 _ _ h2)) (data_ints gs), .lst (.of upd_same) .nil, shaped_ints gs, by decide, _, rfl, ?_⟩
        rw [eqv_nil]
        cases gs with
        | cons y ys =>
          refine iteT ?_
          -- state['rest'] = state['great'].pop(0)
          refine ⟨.ref d, rfl, d, .ref g, rfl, gG (s1 _ _ h1), .inl ⟨rfl, _, .of (s1 _ _ h2)⟩, g, (y :: ys).map V.int, 0, 0, .int y, rfl, rfl, s1 _ _ h2, by decide, by decide, ?_, rfl, ?_⟩
          · show (if (decide ((0 : Int) ≤ (if (0 : Int) < 0 then 0 + _ else 0)) && decide ((if (0 : Int) < 0 then 0 + _ else 0) < (((y :: ys).map V.int).length : Int))) = true then some (Int.toNat (if (0 : Int) < 0 then 0 + _ else 0)) else none) = some 0
            have : (0 : Int) < (((y :: ys).map V.int).length : Int) := by
              rw [List.length_map, List.length_cons]
              omega
            simp [this]
          · refine ⟨.ref d, rfl, d, _, rfl, DPut.k (k := (Sum.inr "rest" : Key)) (by rw [upd_ne hdg]; exact s1 _ _ h1) (dS_len ..), ?_⟩
            rw [p_rest]
            refine ⟨rfl, fun b o hb hg e => ?_, ys, y, t, upd_same, ?_, ?_, hgs y (List.mem_cons_self ..), fun z hz => hgs z (List.mem_cons_of_mem _ hz), ht0, by omega, by rw [List.length_cons] at hgl; omega⟩
            · rw [upd_ne hb, upd_ne hg]
              exact s1 b o e
            · rw [upd_ne hdg.symm, upd_same]
              rfl
            · rw [upd_ne hcd, upd_ne hcg]
              exact s1 _ _ h3
        | nil =>
          refine iteF ?_
          refine ⟨.ref d, rfl, d, .int 0, rfl, gR (s1 _ _ h1), rfl, _, rfl, ?_⟩
          refine iteT ?_
          refine ⟨.ref d, rfl, d, g, c, cs, 0, t, rfl, s1 _ _ h1, s1 _ _ h3, ht0, by omega, fun z H' hz k' hd' => ?_⟩
          refine ⟨.ref d, rfl, d, _, rfl, DPut.k (k := (Sum.inr "rest" : Key)) hd' (dS_len ..), ?_⟩
          rw [p_rest]
          refine ⟨rfl, fun b o hb hg e => ?_, [], z, t + 1, upd_same, ?_, ?_, hz, hgs, by omega, by omega, hgl⟩
          · rw [upd_ne hb]
            exact k' b o hb (s1 b o e)
          · rw [upd_ne hdg.symm]
            exact k' _ _ hdg.symm (s1 _ _ h2)
          · rw [upd_ne hcd]
            exact k' _ _ hcd (s1 _ _ h3)
      · have en : decide (V.int r = V.int 0) = false := decide_eq_false fun z => e0 (V.int.inj z)
        rw [en]
        refine iteF ?_
        refine ⟨.ref d, rfl, d, .int r, rfl, gR h1, rfl, _, rfl, ?_⟩
        rw [en]
        refine iteF ?_
        exact ⟨rfl, Keep.refl, gs, r, t, h1, h2, h3, hr0, hgs, ht0, by omega, hgl⟩
    · rintro σ' H' ⟨rfl, kp, gs, r, t, h1, h2, h3, hr0, hgs, ht0, htn, hgl⟩
      refine ⟨.ref d, rfl, d, .int r, rfl, gR h1, .inl ⟨r, rfl, .int span, rfl, _, _, rfl, rfl, hs0, ?_⟩⟩
      refine ⟨.ref d, rfl, d, .int r, rfl, gR h1, .int span, rfl, _, _, rfl, rfl, ⟨by omega, by omega⟩, .ref d, rfl, d, _, rfl, DPut.k (k := (Sum.inr "rest" : Key)) h1 (dS_len ..), ?_⟩
      rw [p_rest]
      have hq0 : 0 ≤ r.fdiv span := by
        rw [Int.fdiv_eq_ediv_of_nonneg r (Int.le_of_lt hs0)]
        exact Int.ediv_nonneg hr0 (Int.le_of_lt hs0)
      refine ⟨.int (r % span), rfl, q _ _ (Int.emod_nonneg r (Int.ne_of_gt hs0)) (Int.emod_lt_of_pos r hs0) (fun b o hb hg e => ?_) ⟨c, gs, cs, r.fdiv span, t, upd_same, ?_, ?_, hcg, hq0, hgs, ht0, htn, hgl⟩⟩
      · rw [upd_ne hb]
        exact kp b o hb hg e
      · rw [upd_ne hdg.symm]
        exact h2
      · rw [upd_ne hcd]
        exact h3
/-! ### _law_pick -/
theorem scPick : FnScope ["state", "some"] ["state", "some"] (defScope sPick) := ⟨rfl, rfl, rfl, by decide +kernel, rfl, by decide +kernel, by decide +kernel⟩
def spPick (K : PySem.W.Frag) : Sp := fun vs H Q _ => ∃ (d g a : Addr) (n : Nat) (xs : List V), vs = [.ref d, .ref a] ∧ Dr H d g (n + 1) ∧ a ≠ d ∧ a ≠ g ∧ H a = some (.lst xs) ∧ 0 < xs.length ∧ xs.length < 1000 ∧
  ∀ (x : V) H', x ∈ xs → Keep d g H H' → Dr H' d g n → Q x H'
theorem ok_pick {f fT : Addr} {fd fdT : FuncData} {k : Nat} (F : Fun K "_law_pick" "_law_pick" sPick f fd) (GT : FnOk P w K mg base CX0 (k + 2) fT fdT ["state", "span"] spTake) (kT : PySem.W.keepIn K (.ref fT) = true) (bT : Binds K fdT ["state", "span"] []) (gT : mg "_law_take" = some (.ref fT)) (ml : mg "len" = none) :
    FnOk P w K mg base CX0 (k + 3) f fd ["state", "some"] (spPick K) := by
  refine F.ok scPick (fun vs H Q E h => ?_) (fun cdv A outer s H vs Q E hr h => ?_)
  · obtain ⟨d, g, a, n, xs, rfl, _⟩ := h
    rfl
  · obtain ⟨d, g, a, n, xs, rfl, D, had, hag, ha, h0, h1, q⟩ := h
    refine ⟨_, pss_one (ps_ret (pe_ix ix_list (pv 1) (pe_call GT hr (by rfl) gT kT bT .nil pass0 (pa_cons (pv 0) (pa_cons (pe_callB call_len_seq (by rfl) ml PySem.boot_len (pa_cons (pv 1) pa_nil)) pa_nil))) (fun _ _ => rfl))), ?_⟩
    refine ⟨.ref a, rfl, .ref d, rfl, .ref a, rfl, a, xs, rfl, .inl (.of ha), d, g, n, xs.length, rfl, D, by omega, by omega, fun z H' hz0 hz1 kp D' => ?_⟩
    have hz : z.toNat < xs.length := by omega
    refine ⟨a, xs, z, xs[z.toNat], rfl, rfl, .of (kp a _ had hag ha), at_of (j := z.toNat) (by omega) (List.getElem?_eq_getElem hz), q _ H' (List.getElem_mem hz) kp D'⟩
end
end Ck
namespace Ck
open PySem PySem.W PySem.Calls PyProof.Rows PySem.HandSPX
/-! ### an own exception class called with keywords -/
section
variable {prog : Program} {w : World} {A : Around} {E : Value → Shared → Prop} {R : Result → Shared → Prop} {h : Heap} {g : Array GenState} {d : Drawn} {t : Nat} {os : OsState}
variable {nm q : Str} {C N : Addr} {bs bm : List Value} {sn : List Str} {sub : List Value} {ab : Bool} {col : Option Bool} {dd : Option Addr} {k0 k1 k2 k3 k5 : Option Value} {rest : List Value} {kw : List (Str × Value)}
theorem kw_check (hT : ∀ Y : String, bm.contains (.type Y) = veTail.contains (.type Y)) {M : Model} {Q : Unit → Shared → Prop}
    (hC : h.get? C = some (excClassObj nm q C N bs bm true sn sub ab col dd k0 k1 k2 k3 k5 "ValueError.__new__")) (hq : Q () ⟨h, g, d, t, os⟩) : wpAny M A (checkBuiltinCall "ValueError.__new__" ⟨.ref C :: rest, kw⟩) Q E ⟨h, g, d, t, os⟩ := by
  have F := F.excBase_ValueError
  have c1 : (Value.ref C :: bm).contains (.type "ValueError") = true := by
    rw [List.contains_cons, hT, show veTail.contains (.type "ValueError") = true from by decide +kernel, Bool.or_true]
  have c2 := F.noStar
  simp only [checkBuiltinCall, F.newKind, F.newSplit, F.newRow]
  repeat (first | refine wpAny_loadPart_at hC ?_ | (refine wpAny_isSubtype_exc hC ?_; rw [c1]) | refine wpAny_staticBase_exc hC ?_ | refine wpAny_madeBy_exc hC ?_ | simp only [bne_self_eq_false, Bool.false_eq_true, if_false] | wp_step)
  exact hq
theorem kw_new (hT : ∀ Y : String, bm.contains (.type Y) = veTail.contains (.type Y))
    (hC : h.get? C = some (excClassObj nm q C N bs bm true sn sub ab col dd k0 k1 k2 k3 k5 "ValueError.__new__"))
    (hq : R (.ok (.ret (.ref (h.objs.size + 1)))) ⟨(h.push (kdv_tup rest)).push (excO C h.objs.size), g, d, t, os⟩) (hz : rest.length ≤ sizeLine) :
    codeAny (model prog w) A (.builtin "ValueError.__new__" ⟨.ref C :: rest, kw⟩) R ⟨h, g, d, t, os⟩ := by
  have F := F.excBase_ValueError
  have e0 := F.ends
  have c1 : (Value.ref C :: bm).contains (.type "ValueError") = true := by
    rw [List.contains_cons, hT, show veTail.contains (.type "ValueError") = true from by decide +kernel, Bool.or_true]
  have c2 : (Value.ref C :: bm).contains (.type "AttributeError") = false := by
    rw [List.contains_cons, hT, show veTail.contains (.type "AttributeError") = false from by decide +kernel]; rfl
  have c3 : (Value.ref C :: bm).contains (.type "NameError") = false := by
    rw [List.contains_cons, hT, show veTail.contains (.type "NameError") = false from by decide +kernel]; rfl
  refine codeAny_builtinAt F.entry ?_
  unfold Builtin.«BaseException.__new__»
  refine PySem.wpAt_bind ?_
  show PySem.wpAt _ _ _ (stack >>= _) _ _ _
  refine PySem.wpAt_bind (PySem.wpAt_stack fun p below => PySem.wpAt_of_wpAny ?_)
  wp_walk
  refine PySem.wpAt_of_wpAny ?_
  rw [F.owner]
  repeat (first
    | with_reducible refine wpAny_madeHere_exc F.canon hC ?_
    | with_reducible refine wpAny_loadPart_at hC ?_
    | (with_reducible refine wpAny_isSubtype_exc hC ?_; first | rw [c1] | rw [c2] | rw [c3])
    | wp_step)
  show R _ _
  rw [Heap.size_push]
  exact hq
theorem kw_type_call (hT : ∀ Y : String, bm.contains (.type Y) = veTail.contains (.type Y)) {fI : Addr} {Q : Fin → Shared → Prop}
    (hC : h.get? C = some (excClassObj nm q C N bs bm true sn sub ab col dd k0 k1 k2 k3 k5 "ValueError.__new__"))
    (hi : Looks (model prog w) h (typeLookup (.ref C) "__init__") (some (.ref fI))) (hb : ∀ self, Looks (model prog w) h (bindSpecial (.ref fI) self) (.ref fI, [self])) (hz : rest.length ≤ sizeLine)
    (hq : codeAny (model prog w) A (.call (.ref fI) ⟨.ref (h.objs.size + 1) :: rest, kw⟩)
      (fun r z => match r with | .error e => E e z | .ok (.ret v) => v = .none ∧ Q (.done (.ret (.ref (h.objs.size + 1)))) z | .ok _ => False)
      ⟨(h.push (kdv_tup rest)).push (excO C h.objs.size), g, d, t, os⟩) :
    wpAny (model prog w) A (Builtin.«type.__call__» ⟨.ref C :: rest, kw⟩) Q E ⟨h, g, d, t, os⟩ := by
  have F := F.excBase_ValueError
  repeat (first | with_reducible refine wpAny_loadPart_at hC ?_ | with_reducible refine wpAny_madeBy_exc hC ?_ | wp_step)
  refine codeAny_call_builtin_code (Code.quiet_builtin _ F.quiet) (kw_check hT hC ?_)
  refine kw_new hT hC ?_ hz
  show wpAny _ _ _ _ _ _
  have kk : ∀ b o, h.get? b = some o → ((h.push (kdv_tup rest)).push (excO C h.objs.size)).get? b = some o := fun b o z => Heap.get?_push_of_some _ (Heap.get?_push_of_some _ z)
  have hC1 := kk _ _ hC
  have hx : ((h.push (kdv_tup rest)).push (excO C h.objs.size)).get? (h.objs.size + 1) = some (excO C h.objs.size) := by heap_get
  have cc : (Value.ref C :: bm).contains (.ref C) = true := by simp
  have i1 := hi.keeps kk
  have b1 := (hb (.ref (h.objs.size + 1))).keeps kk
  unfold isInstance
  repeat (first
    | with_reducible refine wpAny_loadPart_at hx ?_
    | (with_reducible refine wpAny_isSubtype_exc hC1 ?_; rw [cc])
    | wp_step)
  show wpAny _ _ (typeLookup (.ref C) _) _ _ _
  refine i1.at ?_
  refine wpAny_holding (wpAny_bind (b1.at ?_))
  refine wpAny_bind (wpAny_call (codeAny_mono hq fun r z y => ?_))
  rcases r with e | (v | _ | _ | _) <;> first | exact y | exact y.elim | skip
  obtain ⟨rfl, y⟩ := y
  first
    | exact wpAny_pure (wpAny_pure y)
    | (wp_walk; exact y)
theorem kw_call (hT : ∀ Y : String, bm.contains (.type Y) = veTail.contains (.type Y)) {fI : Addr}
    (hC : h.get? C = some (excClassObj nm q C N bs bm true sn sub ab col dd k0 k1 k2 k3 k5 "ValueError.__new__"))
    (hi : Looks (model prog w) h (typeLookup (.ref C) "__init__") (some (.ref fI))) (hb : ∀ self, Looks (model prog w) h (bindSpecial (.ref fI) self) (.ref fI, [self])) (hz : rest.length ≤ sizeLine)
    (hq : codeAny (model prog w) (A.under (.builtin "type.__call__" ⟨.ref C :: rest, kw⟩)) (.call (.ref fI) ⟨.ref (h.objs.size + 1) :: rest, kw⟩) (InitBack (h.objs.size + 1) R)
      ⟨(h.push (kdv_tup rest)).push (excO C h.objs.size), g, d, t, os⟩) :
    codeAny (model prog w) A (.call (.ref C) ⟨rest, kw⟩) R ⟨h, g, d, t, os⟩ := by
  have f1 := tc_lookup
  have f2 := tc_bind (.ref C)
  have hTy : (⟨h, g, d, t, os⟩ : Shared).TypeIs (.ref C) "type" := ⟨_, hC, rfl⟩
  refine codeAny_of_tree ?_
  show wpAny _ _ (callAny (.ref C) _) _ _ _
  repeat (any_goals (first | assumption | with_reducible refine wpAny_loadPart_at hC ?_ | wp_step))
  refine ⟨rfl, ?_⟩
  refine codeAny_call_builtin_at (Code.quiet_builtin _ (by decide +kernel)) entry_typeCall (wpAny_check_type_call_sub hC (kw_type_call hT hC hi hb hz ?_))
  refine codeAny_mono hq fun r z y => ?_
  rcases r with e | (v | _ | _ | _) <;> exact y
end
end Ck
namespace Ck
open PySem PySem.Spec PyProof.Rows L2
/-! ### an own exception as a value -/
section
variable {X : Cx} {pins : List (Addr × Obj)} {σ : L2.St} {H : Hp} {s : Shared}
theorem run_oex {C fI : Addr} {k : Nat} {fd : FuncData} {ps : List Str} {sp : Sp} {us ws : List Value} {kw : List (Str × Value)} {zs : List V} {Q : VK} (T : OexC X.K C) (iC : PySem.W.findIn X.K (.ref C) "__init__" = some (some (.ref fI)))
    (tI : PySem.W.typeIn X.K (.ref fI) = some (.type "function")) (F : FnOk X.prog X.w X.K X.mg X.base CX0 k fI fd ps sp) (hr : Room (k + 1) X.A)
    (hb : ∀ (s : Shared) (e : Addr), X.K.In s.heap → BindsTo s fd ⟨.ref e :: us, kw⟩ (ps.zip (.ref e :: ws))) (hz : us.length ≤ sizeLine) (r : Vals zs ws) (I : Inv X pins σ H s)
    (h : ∀ a, H a = none → sp (.ref a :: zs) (upd H a (exo a C none)) (fun v H2 => v = .non ∧ Q (.ref a) H2) E0) : wpAny (model X.prog X.w) X.A (call (.ref C) us kw) (EP X pins σ Q) X.xe s := by
  obtain ⟨nm, q, N, bs, bm, sn, sub, ab, col, dd, k0, k1, k2, k3, k5, hC, hbm⟩ := T.cls
  obtain ⟨hp, g, dr, tk, os⟩ := s
  have hsz : hp.objs.size ≤ hp.objs.size + 1 := Nat.le_succ _
  have hq := h (hp.objs.size + 1) (I.hok.fresh hsz)
  have old : ∀ b o, hp.get? b = some o → ((hp.push (PySem.W.kdv_tup us)).push (PySem.HandSPX.excO C hp.objs.size)).get? b = some o := fun b o z => Heap.get?_push_of_some _ (Heap.get?_push_of_some _ z)
  have new : ((hp.push (PySem.W.kdv_tup us)).push (PySem.HandSPX.excO C hp.objs.size)).get? (hp.objs.size + 1) = some (PySem.HandSPX.excO C hp.objs.size) := by heap_get
  have I2 := I.laid (t' := tk) (a := hp.objs.size + 1) (o := exo (hp.objs.size + 1) C none) (h' := (hp.push (PySem.W.kdv_tup us)).push (PySem.HandSPX.excO C hp.objs.size)) old hsz (exo_ok new)
  have r2 : Vals (V.ref (hp.objs.size + 1) :: zs) (Value.ref (hp.objs.size + 1) :: ws) := .cons rfl r
  refine wpAny_call (kw_call (fun Y => PySem.HandSPX.refsVE_contains Y bm hbm) (I.kIn _ _ hC) (PySem.W.looks_findIn I.kIn iC) (fun self => PySem.W.bind_fn I.kIn self tI) hz
    (codeAny_mono (F.run _ X.stack _ _ ⟨Value.ref (hp.objs.size + 1) :: us, kw⟩ (Value.ref (hp.objs.size + 1) :: ws) _ _ E0 (hr.make C us kw) (I2.env0.make C us kw) (hb _ _ I2.kIn) r2 hq) fun r z hz => ?_))
  cases r with
  | error er => exact False.elim hz
  | ok fl =>
    cases fl with
    | ret u =>
      obtain ⟨v, H', I3, rv, ev, q3⟩ := I2.after hz
      subst ev
      exact ⟨rv, ⟨V.ref (hp.objs.size + 1), H', I3, rfl, q3⟩⟩
    | next => exact False.elim hz
    | brk => exact False.elim hz
    | cont => exact False.elim hz
end
def tOex (C : Addr) (sp : Sp) (ta : TA) : TE := fun σ H Q => ta σ H fun vs H1 => ∃ x, vs = [x] ∧ ∀ a, H1 a = none → sp [.ref a, x] (upd H1 a (exo a C none)) (fun v H2 => v = .non ∧ Q (.ref a) H2) E0
section
variable {X : Cx} {C fI : Addr} {k : Nat} {fd : FuncData} {f x : Str} {sp : Sp} {e : Expr} {ta : TA} {p pos : Pos}
/-- C(e), own __init__ of one parameter -/
theorem pe_oex1 (T : OexC X.K C) (iC : PySem.W.findIn X.K (.ref C) "__init__" = some (some (.ref fI))) (tI : PySem.W.typeIn X.K (.ref fI) = some (.type "function")) (F : FnOk X.prog X.w X.K X.mg X.base CX0 k fI fd ["self", f] sp) (hr : Room (k + 1) X.A)
    (hb : Binds X.K fd ["self", f] []) (hg : Gl X x) (hm : X.mg x = some (.ref C)) (ha : PA X [e] ta) (hdb : (x == ("__debug__" : Str)) = false := by decide) (he : starEach [e] X.env = (false, eval e X.env) :: starEach [] X.env := by rfl)
    (hpl : (backTo pos (starEach [] X.env)).any (·.1) = false := by rfl) : PE X (.Call (.Name x p) [e] [] pos) (tOex C sp ta) := by
  refine ⟨fun pins s σ H Q I h => ?_⟩
  refine wpAny_Call_Name_kw (ld_glob I hg hm ?_ hdb)
  refine PySem.W.callWith_K (h₀ := X.base) I.ok.mod.kin T.kC (thn (ha.run pos pins s σ H _ I h) fun us s1 hh => ?_) he hpl
  obtain ⟨vs, H1, I1, r1, y, ev, q⟩ := hh
  subst ev
  cases r1 with
  | cons ry rn =>
    cases rn
    refine ⟨I1.kIn, ?_⟩
    exact run_oex (kw := []) T iC tI F hr (fun s a z => hb s _ z rfl) (by show 1 ≤ sizeLine; decide) (.cons ry .nil) I1 q
/-- C(f = e) -/
theorem pe_oexK (T : OexC X.K C) (iC : PySem.W.findIn X.K (.ref C) "__init__" = some (some (.ref fI))) (tI : PySem.W.typeIn X.K (.ref fI) = some (.type "function")) (F : FnOk X.prog X.w X.K X.mg X.base CX0 k fI fd ["self", f] sp) (hr : Room (k + 1) X.A)
    {kws : List Keyword} (hb : ∀ (s : Shared) (a b : Value), X.K.In s.heap → BindsTo s fd ⟨[a], [(f, b)]⟩ [("self", a), (f, b)]) (hg : Gl X x) (hm : X.mg x = some (.ref C)) (hkw : PK X kws ta) (hdb : (x == ("__debug__" : Str)) = false := by decide)
    (hall : (backToKw pos (keywordEach kws X.env)).all (·.1.isSome) = true := by rfl) (hks : (backToKw pos (keywordEach kws X.env)).filterMap (·.1) = [f] := by rfl)
    (hpl : ((backTo pos (starEach [] X.env)).any (·.1) || (backToKw pos (keywordEach kws X.env)).any (·.1.isNone)) = false := by rfl) : PE X (.Call (.Name x p) [] kws pos) (tOex C sp ta) := by
  refine ⟨fun pins s σ H Q I h => ?_⟩
  refine wpAny_Call_Name_kw (ld_glob I hg hm ?_ hdb)
  refine PySem.W.callWith_KW0 (h₀ := X.base) I.ok.mod.kin T.kC hall ?_ hpl
  refine thn (hkw.run pos pins s σ H _ I h) fun us s1 hh => ?_
  obtain ⟨vs, H1, I1, r1, y, ev, q⟩ := hh
  subst ev
  cases r1 with
  | cons ry rn =>
    cases rn
    refine ⟨I1.kIn, ?_⟩
    rw [hks]
    exact run_oex (us := []) T iC tI F hr (fun s a z => hb s _ _ z) (Nat.zero_le _) (.cons ry .nil) I1 q
end
/-! ### T.__init__(self, ..), T an own class over ValueError -/
section
variable {X : Cx} {e : Expr} {es : List Expr} {ta : TA} {x : Str} {p1 p2 pos : Pos} {T : Addr} {mc : Value}
theorem pe_ownInit {pl : Sem Bool} (hg : Gl X x) (hm : X.mg x = some (.ref T)) (hr : PySem.W.readsIn X.K T mc = true) (hga : PySem.W.specialIn X.K (.ref T) "__getattribute__" = some (some (.builtin "type.__getattribute__")))
    (hv : PySem.W.findCls X.K (.ref T) mc "__init__" = some (.val (.builtin "ValueError.__init__"))) (ha : PA X (e :: es) ta)
    (hc : eval (.Call (.Attribute (.Name x p1) "__init__" p2) (e :: es) [] pos) X.env = (do
      let ov ← eval (.Name x p1) X.env
      standAt p2.atName
      let (f, first) ← holding [ov] (getMethod ov "__init__" pl)
      callWith pos f first (backTo pos (starEach (e :: es) X.env)) (backToKw pos (keywordEach [] X.env))) := by rfl)
    (hdb : (x == ("__debug__" : Str)) = false := by decide) (he : starEach (e :: es) X.env = (false, eval e X.env) :: starEach es X.env := by rfl) (hpl : (backTo pos (starEach es X.env)).any (·.1) = false := by rfl) :
    PE X (.Call (.Attribute (.Name x p1) "__init__" p2) (e :: es) [] pos) (tVeI X.K ta) := by
  refine ⟨fun pins s σ H Q I h => ?_⟩
  refine PySem.W.methodCall_KW (ld_glob I hg hm ?_ hdb) hc
  refine PySem.W.method_cls I.kIn hga (PySem.W.cls_value I.kIn hr hv (by decide +kernel) ?_)
  show wpAny _ _ (callWith pos (Value.builtin "ValueError.__init__") [] (backTo pos (starEach (e :: es) X.env)) []) _ _ _
  refine PyProof.Rows.callWith_method1 (thn (ha.run pos pins _ σ H _ (I.tok _) h) fun us s1 hh => ?_) he hpl
  obtain ⟨vs, H1, I1, r1, a, C, ws, ev, hl, Tc, ea, q⟩ := hh
  subst ev
  cases r1 with
  | @cons _ u0 _ ur ra rw' =>
    obtain rfl : u0 = Value.ref a := ra
    exact oinit_ok Tc I1 ea (by rw [← Paired.length rw', sizeLine_eq]; omega) fun z J => ⟨.non, H1, J, rfl, q⟩
end
/-! ### what is read off such a value -/
/-- an exception of the class at C stands at a -/
def ExAt (H : Hp) (a C : Addr) : Prop := H a = some (ExO (.ref C) a) ∨ ∃ d fs, H a = some (exo a C (some d)) ∧ H d = some (exd d fs)
/-- what the class must be for isinstance -/
structure XcC (K : PySem.W.Frag) (C : Addr) : Prop where
  cl : (PySem.W.clsIn K C).isSome = true
  ga : PySem.W.findIn K (.ref C) "__getattribute__" = some (some (.builtin "BaseException.__getattribute__"))
  gg : PySem.W.findIn K (.ref C) "__getattr__" = some none
  ex : PySem.W.subIn K (.ref C) (.type "BaseException") = some true
  cc : PySem.W.findIn K (.ref C) "__class__" = some (some (.builtin "object.__class__"))
  sp : PySem.W.specialIn K (.builtin "object.__class__") "__get__" = some (some (.builtin "getset_descriptor.__get__"))
  tk : PySem.W.takesIn K (.builtin "object.__class__") = some true
  ob : PySem.W.mroIn K C (.type "object") = some true
section
variable {X : Cx} {pins : List (Addr × Obj)} {σ : L2.St} {H : Hp} {s : Shared}
theorem exAt_inst {a C : Addr} (I : Inv X pins σ H s) (h : ExAt H a C) : ∃ oe od, PySem.W.InstAt s.heap a oe C od := by
  rcases h with h | ⟨d, fs, h, hd⟩
  · obtain ⟨⟨oe, vs, ho, hz, hv, _⟩, _, _⟩ := I.hok a _ h
    obtain ⟨oc, od, oda, osl⟩ := oe
    obtain ⟨h1, h2⟩ := hz
    dsimp only at h1 h2 hv
    subst h1 h2 hv
    exact ⟨_, none, ho, rfl, rfl, trivial⟩
  · obtain ⟨t1, ho⟩ := exo_at I.hok h
    obtain ⟨mA, hns, _⟩ := exd_at I.hok hd
    obtain ⟨o, _, _, hx, _⟩ := hns
    exact ⟨_, some o, ho, rfl, rfl, hx⟩
end
/-- isinstance(e, c) -/
def rIsX (K : PySem.W.Frag) : List V → Hp → VK → Prop := fun xs H Q => ∃ (a C : Addr) (c : V) (u : Value) (b : Bool), xs = [.ref a, c] ∧ ClsV c u ∧ ExAt H a C ∧ XcC K C ∧ PySem.W.kitOne K (.ref C) u = some b ∧ Q (.bl b) H
theorem call_isX {X : Cx} : CallR X (.builtin "isinstance") (rIsX X.K) := by
  intro pins s σ H xs us Q I r h
  obtain ⟨a, C, c, u, b, rfl, kc, hx, T, e, q⟩ := h
  obtain ⟨u1, u2, rfl, r1, r2⟩ := vals2 r
  have e2 := kc.eq r2
  subst e2
  obtain rfl : u1 = Value.ref a := r1
  obtain ⟨oe, od, J⟩ := exAt_inst I hx
  exact PySem.W.kia_one (PySem.W.kitx_exc T.cl T.ga T.gg T.ex T.cc T.sp T.tk T.ob) I.kIn J e (fun z => nomatch z) fun tk => ⟨.bl b, H, I.tok tk, rfl, q⟩
/-- e.f -/
def tXfV (K : PySem.W.Frag) (f : Str) (te : TE) : TE := fun σ H Q => te σ H fun x H1 => ∃ (a C d : Addr) (fs : List (Str × V)) (v : V), x = .ref a ∧ XcC K C ∧ PySem.W.hasDictIn K C = true ∧ PySem.W.findIn K (.ref C) f = some none ∧
  H1 a = some (exo a C (some d)) ∧ H1 d = some (exd d fs) ∧ fs.lookup f = some v ∧ Q v H1
theorem pe_xfV {X : Cx} {e : Expr} {te : TE} {f : Str} {pos : Pos} (he : PE X e te) (hb : attributeBase e f X.env (eval e X.env) = eval e X.env := by rfl) : PE X (.Attribute e f pos) (tXfV X.K f te) := by
  refine ⟨fun pins s σ H Q I h => ?_⟩
  refine attr_of hb (thn (he.run pins s σ H _ I h) fun u s1 hh => ?_)
  obtain ⟨x, H1, I1, rx, a, C, d, fs, v, ex, T, hd, hno, ea, ed, hl, q⟩ := hh
  subst ex
  obtain rfl : u = Value.ref a := rx
  obtain ⟨t1, ho⟩ := exo_at I1.hok ea
  obtain ⟨mA, hns, rel⟩ := exd_at I1.hok ed
  obtain ⟨od, hod, hlk⟩ := lookIn_ns hns
  obtain ⟨w', hw, rw'⟩ := RelO.some_of (v := v) (o := mA f) (by rw [← hl]; exact rel f)
  have J : PySem.W.InstAt s1.heap a _ C (some od) := ⟨ho, rfl, rfl, hod⟩
  exact HandSPX.exc_get I1.kIn J T.ga T.gg T.ex (PySem.W.findObj_own hd hno rfl (by rw [hlk, hw])) (handed_of rw') ⟨v, H1, I1.tok _, rw', q⟩
end Ck
namespace Ck
open PySem PySem.Spec PyProof.Rows L2
/-! ### defs that are called where no repr is under way -/
structure FnG (P : Program) (w : World) (K : PySem.W.Frag) (mg : Str → Option Value) (base : Heap) (CX : CXT) (k : Nat) (f : Addr) (fd : FuncData) (ps : List Str) (sp : Sp) : Prop where
  len : ∀ vs H Q E, sp vs H Q E → vs.length = ps.length
  go : ∀ (B : Around), B.guards = some [] → Room k B → ∀ (fr : List Env) (z : Shared) (H : Hp) (as : Args) (us : List Value) (vs : List V) (Q : VK) (E : XK), Env0 P w K mg base B fr z H →
    BindsTo z fd as (ps.zip us) → Vals vs us → sp vs H Q E → codeAny (model P w) B (.call (.ref f) as) (CR CX fr P w H z Q E) z
section
variable {P : Program} {w : World} {K : PySem.W.Frag} {mg : Str → Option Value} {base : Heap} {CX : CXT}
theorem FnG.of {k : Nat} {f : Addr} {fd : FuncData} {ps : List Str} {sp : Sp} (F : FnOk P w K mg base CX k f fd ps sp) : FnG P w K mg base CX k f fd ps sp :=
  ⟨F.len, fun B _ hr fr z H as us vs Q E e hb r h => F.run B fr z H as us vs Q E hr e hb r h⟩
/-- a def by its body, the body read where no repr is under way -/
theorem fnG_of {x qual : Str} {st : Stmt} {f : Addr} {fd : FuncData} {N ps : List Str} {k : Nat} {sp : Sp} (F : Fun K x qual st f fd) (S : FnScope N ps (defScope st)) (len : ∀ vs H Q E, sp vs H Q E → vs.length = ps.length)
    (body : ∀ (cd : Value) (B : Around) (fr : List Env) (z : Shared) (H : Hp) (vs : List V) (Q : VK) (E : XK), B.guards = some [] → Room k (B.deeper (envOfC qual (defScope st) z.heap.objs.size f cd)) → sp vs H Q E →
      ∃ t, PSs (cxOf CX P w K mg base N qual (defScope st) f cd B fr z H E) (defBody st) t ∧ t { nx := fun _ H' => Q .non H', rt := Q } (start N vs) H) : FnG P w K mg base CX (k + 1) f fd ps sp := by
  obtain ⟨oc, od, kV, doc, pm, an, cd, ct, osl, rfl, lk, hcd⟩ := F.ex
  refine ⟨len, fun B hg hr fr z H as us vs Q E e0 hb r hs => ?_⟩
  have at_ : K.In z.heap := e0.mod.kin.keeps fun b o y => (e0.bs b o y).1
  have lm : z.heap.NoLimit := e0.mod.nolimit.keeps fun b o y => (e0.bs b o y).1
  have kd : ∀ y ∈ ps.zip us, (defScope st).names.lookup y.1 = some .local ∨ ((defScope st).names.lookup y.1 = some .cell ∧ ((cellsFrom (z.heap.objs.size + 1) (defScope st).names []).lookup y.1).isSome = true) := by
    rintro ⟨n, v⟩ hy
    exact (S.par n (List.of_mem_zip hy).1).imp id fun q => ⟨q, PySem.W.cellsFrom_some _ _ _ (.inl q)⟩
  refine codeAny_call_function hr.depth (at_ _ _ lk) rfl S.co S.gen rfl (PySem.W.codeRec_of at_ hcd) (hb _ _ _ _ (wpAny_newFunctionEnv_cells S.kind kd fun env he z1 x => ?_))
  subst he
  refine ⟨lm.keeps x.toInCall.keep, codeAny_func ?_⟩
  obtain ⟨t, ht, hq⟩ := body cd B fr z H vs Q E hg (hr.deeper _) hs
  refine wpAny_mono (ht.run [] z1 (start N vs) H _ (inv_start S hr.hd e0 (len _ _ _ _ hs) r x) hq) (fun fl z2 hz => ?_) fun _ _ y => y
  cases fl with
  | ret u => obtain ⟨v, σ', H', J, rv, q⟩ := hz; exact ⟨v, H', J.os, J.bare, J.base, J.hok, rv, q⟩
  | next => obtain ⟨σ', H', J, q⟩ := hz; exact ⟨V.non, H', J.os, J.bare, J.base, J.hok, rfl, q⟩
  | brk => obtain ⟨_, _, _, q⟩ := hz; exact q.elim
  | cont => obtain ⟨_, _, _, q⟩ := hz; exact q.elim
end
section
variable {X : Cx} {CX : CXT} {k : Nat} {f : Addr} {fd : FuncData} {ps : List Str} {sp : Sp} {dvs : List V} {ds : List Value} {E : XK} {x : Str} {p pos : Pos} {e : Expr} {es : List Expr} {t : TA}
theorem runG {pins : List (Addr × Obj)} {σ : L2.St} {H : Hp} {s : Shared} {Q : VK} {us : List Value} {vs : List V} (hgd : X.A.guards = some []) (F : FnG X.prog X.w X.K X.mg X.base CX k f fd ps sp) (hr : Room k X.A) (hb : Binds X.K fd ps ds) (hd : Vals dvs ds) (hx : Passes CX X E)
    (I : Inv X pins σ H s) (r : Vals vs us) (h : sp (vs ++ dvs) H Q E) : wpAny (model X.prog X.w) X.A (call (.ref f) us) (EP X pins σ Q) X.xe s := by
  have r2 : Vals (vs ++ dvs) (us ++ ds) := r.append hd
  refine wpAny_call (codeAny_mono (F.go X.A hgd hr X.stack s H ⟨us, []⟩ (us ++ ds) (vs ++ dvs) Q E I.env0 (hb s us I.kIn (by rw [← r2.length]; exact F.len _ _ _ _ h)) r2 h) fun y z hz => ?_)
  cases y with
  | error er => exact hx pins σ H s er z I hz
  | ok fl =>
    cases fl with
    | ret u => exact I.after hz
    | next => exact hz.elim
    | brk => exact hz.elim
    | cont => exact hz.elim
theorem pe_callG (hgd : X.A.guards = some []) (F : FnG X.prog X.w X.K X.mg X.base CX k f fd ps sp) (hr : Room k X.A) (hg : Gl X x) (hm : X.mg x = some (.ref f)) (hk : PySem.W.keepIn X.K (.ref f) = true) (hb : Binds X.K fd ps ds) (hd : Vals dvs ds) (hx : Passes CX X E)
    (ha : PA X (e :: es) t) (hdb : (x == ("__debug__" : Str)) = false := by decide) (he : starEach (e :: es) X.env = (false, eval e X.env) :: starEach es X.env := by rfl) (hpl : (backTo pos (starEach es X.env)).any (·.1) = false := by rfl) :
    PE X (.Call (.Name x p) (e :: es) [] pos) (tCall sp dvs E t) :=
  ⟨fun pins s σ H Q I h => wpAny_Call_Name_kw (ld_glob I hg hm (PySem.W.callWith_K (h₀ := X.base) I.ok.mod.kin hk (thn (ha.run pos pins s σ H _ I h) fun us s1 ⟨vs, H1, I1, r, q⟩ => ⟨I1.kIn, runG hgd F hr hb hd hx I1 r q⟩) he hpl) hdb)⟩
end
/-! ### the law's own call -/
/-- what stands at the law's entry: the script alone, if it is none of the module's objects -/
def entryH (K : PySem.W.Frag) (a : Addr) (o : Obj) (xs : List V) : Hp := fun b => if b = a ∧ K.lookup a = none then some (.frz o (.lst xs)) else none
theorem entryH_at {K : PySem.W.Frag} {a b : Addr} {o : Obj} {xs : List V} {u : HO} (h : entryH K a o xs b = some u) : b = a ∧ K.lookup a = none ∧ u = .frz o (.lst xs) := by
  unfold entryH at h
  split at h
  · rename_i c
    exact ⟨c.1, c.2, (Option.some.inj h).symm⟩
  · cases h
theorem callG {P : Program} {w : World} {K : PySem.W.Frag} {mg mb : Str → Option Value} {k : Nat} {fa a : Addr} {fd : FuncData} {x : Str} {sp : Sp} {z : Shared} {us : List Value} {ns : List Int}
    (at_ : K.In z.heap) (gl : z.heap.Ns mainGlobals mg) (bl : z.heap.Ns builtinsNs mb) (bb : ∀ x : Str, x ≠ "__name__" → mb x = bootBuiltins x) (lm : z.heap.NoLimit) (gn : z.gens = #[])
    (ho : z.heap.get? a = some { cls := .type "list", data := .seq us.toArray }) (hi : IntsAre us ns) (hl : ns.length ≤ sizeLine) (hr : Room k callerA)
    (F : ∀ base : Heap, K.In base → base.Ns mainGlobals mg → FnG P w K mg base CX0 k fa fd [x] sp) (hb : ∀ (s : Shared) (u : Value), BindsTo s fd ⟨[u], []⟩ [(x, u)])
    (hs : ∀ H : Hp, SqL K H a (ns.map V.int) → sp [.ref a] H (fun v _ => v = .bl true) E0) :
    codeAny (model P w) callerA (.call (.ref fa) ⟨[.ref a], []⟩) (fun r z' => r = .ok (.ret (.bool true)) ∧ OldK z.heap z'.heap ∧ z'.os = z.os ∧ AllBare z'.gens) z := by
  have rv := vals_ints hi
  have lenV := hi.length
  generalize hO : ({ cls := .type "list", data := .seq us.toArray } : Obj) = o at ho
  have od : o.data = .seq us.toArray 0 := by rw [← hO]
  have oc : o.cls = .type "list" := by rw [← hO]
  have odc : o.dict = none := by rw [← hO]
  generalize hH : entryH K a o (ns.map V.int) = H
  have only : ∀ {b : Addr} {u : HO}, H b = some u → b = a ∧ K.lookup a = none ∧ u = .frz o (.lst (ns.map V.int)) := fun {b u} e => entryH_at (K := K) (by rw [hH]; exact e)
  have hok : HOk P w H z.heap := fun b u e => by
    obtain ⟨rfl, _, rfl⟩ := only e
    exact ⟨ho, by rw [List.length_map]; exact hl, us, _, rv, by rw [← hO] at ho; exact ho⟩
  have hS : SqL K H a (ns.map V.int) := by
    cases e : K.lookup a with
    | none => exact .inl (.inr ⟨o, by rw [← hH]; exact if_pos ⟨rfl, e⟩⟩)
    | some o' =>
      have q := at_ a o' e
      rw [ho] at q
      cases q
      exact .inr ⟨o, us.toArray, 0, e, oc, odc, od, by rw [List.size_toArray, lenV]; exact hl, by simpa using rv⟩
  have free : ∀ {b : Addr} {y : Obj}, z.heap.get? b = some y → y ≠ o ∨ K.lookup a ≠ none → H b = none := fun {b y} e d => by
    cases q : H b with
    | none => rfl
    | some u =>
      obtain ⟨rfl, n, _⟩ := only q
      rw [ho] at e
      rcases d with d | d
      · exact absurd (Option.some.inj e).symm d
      · exact absurd n d
  have nsT : ∀ {b : Addr} {m : Str → Option Value}, z.heap.Ns b m → (hidT z.heap H).Ns b m := by
    rintro b m ⟨y, es, ep, e, d, r⟩
    exact ⟨y, es, ep, hidT_get e (free e (.inl fun q => by rw [q, od] at d; cases d)), d, r⟩
  have inT : K.In (hidT z.heap H) := fun b y e => hidT_get (at_ b y e) (by
    cases q : H b with
    | none => rfl
    | some u =>
      obtain ⟨rfl, n, _⟩ := only q
      rw [n] at e
      cases e)
  have md : Mod K mg (hidT z.heap H) := ⟨inT, nsT gl, ⟨mb, nsT bl, bb⟩, by
    obtain ⟨mc, h1, h2⟩ := lm
    exact ⟨mc, nsT h1, h2⟩⟩
  have e0 : Env0 P w K mg (hidT z.heap H) callerA [] z H := ⟨rfl, md, fun b y e => of_hidT e, Nat.le_of_eq (hidT_size _ _), trivial, fun b m => absurd (show b ∈ ([] : List Addr) from m) (by simp), hok, .of_eq gn⟩
  refine codeAny_mono ((F _ inT (nsT gl)).go callerA rfl hr [] z H ⟨[.ref a], []⟩ [.ref a] [.ref a] _ _ e0 (hb z (.ref a)) (.cons rfl .nil) (hs H hS)) fun r z' y => ?_
  cases r with
  | error e => exact y.elim
  | ok fl =>
    cases fl with
    | next => exact y.elim
    | brk => exact y.elim
    | cont => exact y.elim
    | ret u =>
      obtain ⟨v, H', os, bare, un, hok', rv', q⟩ := y
      have q : v = .bl true := q
      subst q
      obtain rfl : u = Value.bool true := rv'
      refine ⟨rfl, OldK.of_keep fun b y e => ?_, os, bare⟩
      cases q : H b with
      | none => exact un.keep b y e q (fun m => absurd (show b ∈ ([] : List Addr) from m) (by simp)) (by simp)
      | some u =>
        obtain ⟨rfl, _, rfl⟩ := only q
        obtain ⟨e2, _⟩ := hok' b _ (un.frzs b o _ q)
        rw [ho] at e
        cases e
        exact e2
theorem walkG {l : PySem.W.OpenLaw} {n k : Nat} {q : Program} {loose : List Str} {XP : (Str → Option Value) → Heap → Prop} {YP : World → Heap → Prop} {d : DefRec} {K : Params → PySem.W.Frag} {sp : PySem.W.Frag → Sp} {x : Str}
    (hn : l.most = some n) (hz : n ≤ sizeLine) (hdf : d.params.defaults = []) (hr : Room k callerA) (hY : ∀ (w : World) (h : Heap), YP w h → (K w.params).In h)
    (F : ∀ (w : World) (mg : Str → Option Value) (fa : Addr) (h : Heap), (K w.params).In h → h.Ns mainGlobals mg → mg d.name = some (.ref fa) →
      ∃ fd : FuncData, (∀ (s : Shared) (u : Value), BindsTo s fd ⟨[u], []⟩ [(x, u)]) ∧ ∀ base : Heap, (K w.params).In base → base.Ns mainGlobals mg → FnG l.prog w (K w.params) mg base CX0 k fa fd [x] (sp (K w.params)))
    (hs : ∀ (K : PySem.W.Frag) (H : Hp) (a : Addr) (ns : List Int), ns.length ≤ n → SqL K H a (ns.map V.int) → sp K [.ref a] H (fun v _ => v = .bl true) E0) :
    PySem.W.WalkO q loose XP YP l.row.toRowW d [] (fun f vs => PySem.call f vs) := by
  refine Att.attach_call hn hdf fun w z0 z1 mg mb fa o pm cd doc a us ns G Y ho hd hcd hmg hobj hints hlen hg => ?_
  obtain ⟨fd, hb, hF⟩ := F w mg fa _ (hY w _ Y) G.T.g hmg
  exact callG (hY w _ Y) G.T.g G.T.b G.T.builtins G.T.nolimit hg hobj hints (Nat.le_trans hlen hz) hr hF hb fun H hS => hs _ H a ns hlen hS
/-! ### repr -/
/-- data, dicts too -/
inductive Dx (K : PySem.W.Frag) (H : Hp) : V → PyData → Prop
  | of {v : V} {d : PyData} : Dp K H v d → d.hasDict = false → Dx K H v d
  | one {p : Addr} {x : Str} {v : V} {d : PyData} : H p = some (.dK [(Sum.inr x, v)]) → Dp K H v d → d.hasDict = false → (∀ a, v ≠ .ref a) → Dx K H (.ref p) (.dict [(.str x, d)])
theorem Dx.mono {K : PySem.W.Frag} {H H' : Hp} (s : Same H H') {v : V} {d : PyData} (h : Dx K H v d) (m : ∀ {v d}, Dp K H v d → Dp K H' v d) : Dx K H' v d := by
  cases h with
  | of a b => exact .of (m a) b
  | one a b c e => exact .one (s _ _ a) (m b) c e
mutual
theorem dp_mono {K : PySem.W.Frag} {H H' : Hp} (s : Same H H') : ∀ (d : PyData) (v : V), Dp K H v d → Dp K H' v d
  | .none, _, h => by cases h; exact .non
  | .bool b, _, h => by cases h; exact .bl b
  | .int i, _, h => by cases h; exact .int i
  | .str x, _, h => by cases h; exact .str x
  | .list ds, _, h => by
    cases h with
    | lst a b => exact .lst (s.seq a) (dpAll_mono s ds _ b)
  | .tuple ds, _, h => by
    cases h with
    | tup a b =>
      refine .tup ?_ (dpAll_mono s ds _ b)
      rcases a with (a | ⟨o, a⟩) | a
      · exact .inl (.inl (s _ _ a))
      · exact .inl (.inr ⟨o, s _ _ a⟩)
      · exact .inr a
  | .dict _, _, h => by cases h
theorem dpAll_mono {K : PySem.W.Frag} {H H' : Hp} (s : Same H H') : ∀ (ds : List PyData) (vs : List V), DpAll K H vs ds → DpAll K H' vs ds
  | [], _, h => by cases h; exact .nil
  | d :: ds, _, h => by
    cases h with
    | cons a b => exact .cons (dp_mono s d _ a) (dpAll_mono s ds _ b)
end
/-- what repr says of a value -/
def Rp (K : PySem.W.Frag) (H : Hp) (x : V) (z : Str) : Prop := (∃ i : Int, x = .int i ∧ i.natAbs.log2 < 1920 ∧ z = toString i) ∨ ∃ d, Dx K H x d ∧ d.showable = true ∧ d.depth ≤ 18 ∧ d.shown.length ≤ sizeLine ∧ z = d.shown
theorem Rp.mono {K : PySem.W.Frag} {H H' : Hp} {x : V} {z : Str} (h : Rp K H x z) (s : Same H H') : Rp K H' x z := by
  rcases h with h | ⟨d, a, b⟩
  · exact .inl h
  · exact .inr ⟨d, a.mono s fun {_ _} q => dp_mono s _ _ q, b⟩
theorem call_repr {X : Cx} (hg : X.A.guards = some []) (hu : X.A.units + 20 < cLine) : CallR X (.builtin "repr") (fun xs H Q => ∃ x z, xs = [x] ∧ Rp X.K H x z ∧ Q (.str z) H) := by
  intro pins s σ H xs us Q I r h
  obtain ⟨x, z, rfl, hx, q⟩ := h
  obtain ⟨u, rfl, ru⟩ := vals1 r
  rcases hx with ⟨i, rfl, hi, rfl⟩ | ⟨d, hx, hs, hd, hz, rfl⟩
  · obtain ⟨t, rfl⟩ := ru
    exact PySem.P.repr_of_int hi ⟨.str (toString i), H, I.tok _, ⟨_, rfl⟩, q⟩
  have end_ : ∀ (h' : Heap) (t : Tok) (tk : Nat), (∀ b o, s.heap.get? b = some o → h'.get? b = some o) → EP X pins σ Q (.str d.shown t) { s with heap := h', toks := tk } := fun h' t tk k => ⟨.str d.shown, H, I.kept (t' := tk) k, ⟨t, rfl⟩, q⟩
  have main : ∀ as, Reads s.heap u d as → (d.hasDict = true → sysModules ∉ as) → wpAny (model X.prog X.w) X.A (call (.builtin "repr") [u]) (EP X pins σ Q) X.xe s := fun as rd ns => by
    cases u with
    | ref a => exact repr_of_reads' rd hs ns hg (by omega) (fun _ _ e => e) (fun h' u tk k => end_ h' u tk k) hz
    | none => cases rd; exact PySem.P.repr_of_none (by simpa only [PyData.shown] using end_ s.heap s.toks (s.toks + 1) fun _ _ e => e)
    | bool b => cases rd; exact PySem.P.repr_of_bool (by simpa only [PyData.shown] using end_ s.heap s.toks (s.toks + 1) fun _ _ e => e)
    | int i t => cases rd; exact PySem.P.repr_of_int (by simpa [PyData.showable] using hs) (by simpa only [PyData.shown] using end_ s.heap s.toks (s.toks + 1) fun _ _ e => e)
    | str y t => cases rd; exact PySem.P.repr_of_str (by simpa only [PyData.shown] using end_ s.heap s.toks (s.toks + 1) fun _ _ e => e) (by simpa only [PyData.shown] using hz)
    | _ => cases rd
  cases hx with
  | of hp hn =>
    obtain ⟨as, rd⟩ := Dp.reads I d x u hp ru
    exact main as rd fun z => by rw [hn] at z; cases z
  | @one p y v d' hp hv hn nr =>
    obtain rfl : u = Value.ref p := ru
    obtain ⟨_, hsys, vs, kv, o, es, ep, ho, ⟨hc, _, _⟩, hdat, _, hes, _⟩ := I.hok p _ hp
    cases kv with
    | @cons _ kv1 _ _ h1 h2 =>
      cases h2
      obtain ⟨k, v1⟩ := kv1
      obtain ⟨ek0, rv⟩ := h1
      obtain rfl : Sum.inr y = k := ek0
      generalize hl : es.toList = l at hes
      cases hes with
      | @cons en _ _ _ hk hv' hr =>
        cases hr
        obtain ⟨tk, ek⟩ := Value.isStrOf_shape (x := y) (v := en.key) hk
        have hv2 : en.val = v1 := hv'
        obtain ⟨as, rd⟩ := Dp.reads I d' v v1 hv rv
        have z0 : as = [] := by
          cases v with
          | ref a => exact absurd rfl (nr a)
          | non => cases hv; cases rv; cases rd; rfl
          | bl b => cases hv; cases rv; cases rd; rfl
          | int i => cases hv; obtain ⟨_, rfl⟩ := rv; cases rd; rfl
          | str z => cases hv; obtain ⟨_, rfl⟩ := rv; cases rd; rfl
          | _ => cases hv
        subst z0
        have r1 : ReadsAll s.heap (es.toList.map (·.key)) ([((PyData.str y : PyData), d')].map (·.1)) ([] ++ []) := by
          rw [hl]
          show ReadsAll s.heap [en.key] [PyData.str y] _
          rw [ek]
          exact .cons (.str y tk) .nil
        have r2 : ReadsAll s.heap (es.toList.map (·.val)) ([((PyData.str y : PyData), d')].map (·.2)) ([] ++ []) := by
          rw [hl]
          show ReadsAll s.heap [en.val] [d'] _
          rw [hv2]
          exact .cons rd .nil
        refine main _ (.dict ho hc hdat r1 r2) fun _ m => ?_
        have : sysModules = p := by simpa using m
        rw [this] at hsys
        exact absurd hsys (by simp)
def rRepr (K : PySem.W.Frag) : List V → Hp → VK → Prop := fun xs H Q => ∃ x z, xs = [x] ∧ Rp K H x z ∧ Q (.str z) H
theorem call_reprK {X : Cx} (K : PySem.W.Frag) (hK : X.K = K) (hg : X.A.guards = some []) (hu : X.A.units + 20 < cLine) : CallR X (.builtin "repr") (rRepr K) := by
  subst hK
  exact call_repr hg hu
theorem ix_tupK {X : Cx} (K : PySem.W.Frag) (hK : X.K = K) : IxR X (rIxT K) := by
  subst hK
  exact ix_tup
end Ck
namespace Ck
open PySem PySem.Spec PyProof.Rows L2

abbrev s_plain_marks : Stmt := topS 37
abbrev s_marks : Stmt := topS 38
abbrev s_plain : Stmt := topS 39
abbrev s_by_name : Stmt := topS 40
abbrev s_by_position : Stmt := topS 41
abbrev s_law : Stmt := topS 42
abbrev sI_BadCall : Stmt := inClass (topS 3) 0
abbrev sI_BadPlan : Stmt := inClass (topS 6) 0
abbrev sI_NoName : Stmt := inClass (topS 7) 0
abbrev sI_BadRecord : Stmt := inClass (topS 8) 0
abbrev sI_BadMove : Stmt := inClass (topS 14) 0
abbrev sI_BadResult : Stmt := inClass (topS 20) 0
abbrev sI_BadRule : Stmt := inClass (topS 21) 0
abbrev sI_Faulted : Stmt := inClass (topS 22) 0
abbrev sI_Unexpected : Stmt := inClass (topS 23) 0
abbrev sI_Undecided : Stmt := inClass (topS 24) 0
abbrev sI_Missing : Stmt := inClass (topS 26) 0
abbrev sI_NoPlace : Stmt := inClass (topS 27) 0
abbrev sI_BadName : Stmt := inClass (topS 28) 0
abbrev sI_BadText : Stmt := inClass (topS 31) 0
/-! ### the fields of the errors, by their places -/
def fl (i : Nat) : Str := (["path", "index", "name", "index", "name", "index", "index", "word", "what", "could", "lacking", "name", "name", "row"] : List Str).getD (i - 17) "path"
/-! ### what the top has written of the classes -/
structure Errs (K : PySem.W.Frag) (mg : Str → Option Value) (A B : Nat → Addr) (fd : Nat → FuncData) : Prop where
  isi : mg "isinstance" = none
  ve : mg "ValueError" = none
  kit : ∀ i j, i < 31 → j < 31 → j ≠ 0 → PySem.W.kitOne K (.ref (A i)) (.ref (A j)) = some (decide (i = j))
  kit0 : ∀ i, i < 31 → PySem.W.kitOne K (.ref (A i)) (.ref (A 0)) = some true
  kitV : ∀ i, i < 31 → PySem.W.kitOne K (.ref (A i)) (.type "ValueError") = some true
  xc : ∀ i, i < 31 → XcC K (A i)
  ex : ∀ i, i < 17 → PySem.W.excIn K (A i) [.type "ValueError", .type "Exception", .type "BaseException", .type "object"] "ValueError.__new__" = true
  kp : ∀ i, i < 31 → PySem.W.keepIn K (.ref (A i)) = true
  mc : ∃ mc, PySem.W.readsIn K (A 0) mc = true ∧ PySem.W.findCls K (.ref (A 0)) mc "__init__" = some (.val (.builtin "ValueError.__init__"))
  ga : PySem.W.specialIn K (.ref (A 0)) "__getattribute__" = some (some (.builtin "type.__getattribute__"))
  ox : ∀ i, 17 ≤ i → i < 31 → OexC K (A i)
  hd : ∀ i, 17 ≤ i → i < 31 → PySem.W.hasDictIn K (A i) = true
  ini : ∀ i, 17 ≤ i → i < 31 → PySem.W.findIn K (.ref (A i)) "__init__" = some (some (.ref (B i)))
  no : ∀ i, 17 ≤ i → i < 31 → PySem.W.findIn K (.ref (A i)) (fl i) = some none
  tyi : ∀ i, 17 ≤ i → i < 31 → PySem.W.typeIn K (.ref (B i)) = some (.type "function")
  g0 : mg "TakerError" = some (.ref (A 0))
  g1 : mg "BadValue" = some (.ref (A 1))
  g2 : mg "BadPattern" = some (.ref (A 2))
  g3 : mg "BadExpectation" = some (.ref (A 3))
  g4 : mg "NotFree" = some (.ref (A 4))
  g5 : mg "NotKept" = some (.ref (A 5))
  g6 : mg "NoIndex" = some (.ref (A 6))
  g7 : mg "Conflicted" = some (.ref (A 7))
  g8 : mg "NoConflict" = some (.ref (A 8))
  g9 : mg "NotWon" = some (.ref (A 9))
  g10 : mg "NoState" = some (.ref (A 10))
  g11 : mg "Lost" = some (.ref (A 11))
  g12 : mg "BadHands" = some (.ref (A 12))
  g13 : mg "NoOrder" = some (.ref (A 13))
  g14 : mg "NotAllowed" = some (.ref (A 14))
  g15 : mg "BadCount" = some (.ref (A 15))
  g16 : mg "BadOrder" = some (.ref (A 16))
  g17 : mg "BadCall" = some (.ref (A 17))
  g18 : mg "BadPlan" = some (.ref (A 18))
  g19 : mg "NoName" = some (.ref (A 19))
  g20 : mg "BadRecord" = some (.ref (A 20))
  g21 : mg "BadMove" = some (.ref (A 21))
  g22 : mg "BadResult" = some (.ref (A 22))
  g23 : mg "BadRule" = some (.ref (A 23))
  g24 : mg "Faulted" = some (.ref (A 24))
  g25 : mg "Unexpected" = some (.ref (A 25))
  g26 : mg "Undecided" = some (.ref (A 26))
  g27 : mg "Missing" = some (.ref (A 27))
  g28 : mg "NoPlace" = some (.ref (A 28))
  g29 : mg "BadName" = some (.ref (A 29))
  g30 : mg "BadText" = some (.ref (A 30))
  F17 : Fun K "__init__" "BadCall.__init__" sI_BadCall (B 17) (fd 17)
  F18 : Fun K "__init__" "BadPlan.__init__" sI_BadPlan (B 18) (fd 18)
  F19 : Fun K "__init__" "NoName.__init__" sI_NoName (B 19) (fd 19)
  F20 : Fun K "__init__" "BadRecord.__init__" sI_BadRecord (B 20) (fd 20)
  F21 : Fun K "__init__" "BadMove.__init__" sI_BadMove (B 21) (fd 21)
  F22 : Fun K "__init__" "BadResult.__init__" sI_BadResult (B 22) (fd 22)
  F23 : Fun K "__init__" "BadRule.__init__" sI_BadRule (B 23) (fd 23)
  F24 : Fun K "__init__" "Faulted.__init__" sI_Faulted (B 24) (fd 24)
  F25 : Fun K "__init__" "Unexpected.__init__" sI_Unexpected (B 25) (fd 25)
  F26 : Fun K "__init__" "Undecided.__init__" sI_Undecided (B 26) (fd 26)
  F27 : Fun K "__init__" "Missing.__init__" sI_Missing (B 27) (fd 27)
  F28 : Fun K "__init__" "NoPlace.__init__" sI_NoPlace (B 28) (fd 28)
  F29 : Fun K "__init__" "BadName.__init__" sI_BadName (B 29) (fd 29)
  F30 : Fun K "__init__" "BadText.__init__" sI_BadText (B 30) (fd 30)
/-! ### exceptions made, in few words -/
def HasF (H : Hp) (a C : Addr) (f : Str) (x : V) : Prop := ∃ d, H a = some (exo a C (some d)) ∧ H d = some (exd d [(f, x)])
theorem HasF.mono {H H' : Hp} {a C : Addr} {f : Str} {x : V} (h : HasF H a C f x) (s : Same H H') : HasF H' a C f x := by
  obtain ⟨d, h1, h2⟩ := h
  exact ⟨d, s _ _ h1, s _ _ h2⟩
theorem HasF.at {H : Hp} {a C : Addr} {f : Str} {x : V} (h : HasF H a C f x) : ExAt H a C := by
  obtain ⟨d, h1, h2⟩ := h
  exact .inr ⟨d, _, h1, h2⟩
theorem ExAt.mono {H H' : Hp} {a C : Addr} (h : ExAt H a C) (s : Same H H') : ExAt H' a C := by
  rcases h with h | ⟨d, fs, h1, h2⟩
  · exact .inl (s _ _ h)
  · exact .inr ⟨d, fs, s _ _ h1, s _ _ h2⟩
def tMd (C : Addr) (f : Str) (ta : TA) : TE := fun σ H Q => ta σ H fun vs H1 => ∃ x, vs = [x] ∧ ∀ a H', H1 a = none → Same H1 H' → HasF H' a C f x → Q (.ref a) H'
def tMp (C : Addr) (te : TE) : TE := fun σ H Q => te σ H fun _ H1 => ∀ a H', H1 a = none → Same H1 H' → ExAt H' a C → Q (.ref a) H'
def spI (C : Addr) (f : Str) : Sp := fun vs H Q _ => ∃ (a : Addr) (x : V), vs = [.ref a, x] ∧ H a = some (exo a C none) ∧ ∀ dx, H dx = none → dx ≠ a → Q .non (upd (upd H dx (exd dx [(f, x)])) a (exo a C (some dx)))
theorem md_end {C a : Addr} {f : Str} {x : V} {H1 : Hp} {Q : VK} (h0 : H1 a = none) (h : ∀ a H', H1 a = none → Same H1 H' → HasF H' a C f x → Q (.ref a) H') :
    spI C f [.ref a, x] (upd H1 a (exo a C none)) (fun v H2 => v = .non ∧ Q (.ref a) H2) E0 := by
  refine ⟨a, x, rfl, upd_same, fun dx hd hne => ⟨rfl, h a _ h0 (fun b o e => ?_) ⟨dx, upd_same, ?_⟩⟩⟩
  · have hba : b ≠ a := ne_of_none e h0
    have hd1 : H1 dx = none := by rw [upd_ne hne] at hd; exact hd
    rw [upd_ne hba, upd_ne (ne_of_none e hd1), upd_ne hba]
    exact e
  · rw [upd_ne hne, upd_same]
theorem PE.imp {X : Cx} {e : Expr} {t t' : TE} (h : PE X e t) (k : ∀ (Q : VK) σ H, (∀ Q : VK, t' σ H Q → t σ H Q)) : PE X e t' := ⟨fun pins s σ H Q I q => h.run pins s σ H Q I (k Q σ H Q q)⟩
theorem PA.upTo {X : Cx} {es : List Expr} {t : TA} (h : PA X es t) : PA X es t := h
section
variable {P : Program} {w : World} {K : PySem.W.Frag} {mg : Str → Option Value} {base : Heap} {A B : Nat → Addr} {fd : Nat → FuncData}
/-- what monotone readings give -/
def MonoA (t : TA) : Prop := ∀ σ H (Q Q' : List V → Hp → Prop), (∀ vs H1, Q vs H1 → Q' vs H1) → t σ H Q → t σ H Q'
def MonoE (t : TE) : Prop := ∀ σ H (Q Q' : VK), (∀ v H1, Q v H1 → Q' v H1) → t σ H Q → t σ H Q'
theorem mono_var {i : Nat} : MonoE (tVar i) := fun σ H Q Q' k h => by
  obtain ⟨v, e, q⟩ := h
  exact ⟨v, e, k _ _ q⟩
theorem mono_c {v : V} : MonoE (tC v) := fun σ H Q Q' k h => k _ _ h
theorem mono_nil : MonoA tNil := fun σ H Q Q' k h => k _ _ h
theorem mono_cons {te : TE} {ta : TA} (he : MonoE te) (ha : MonoA ta) : MonoA (tCons te ta) := fun σ H Q Q' k h => he σ H _ _ (fun v H1 h1 => ha σ H1 _ _ (fun vs H2 h2 => k _ _ h2) h1) h
theorem pe_md1 {X : Cx} {C fI : Addr} {fdd : FuncData} {f x : Str} {e : Expr} {ta : TA} {p pos : Pos} (T : OexC X.K C) (iC : PySem.W.findIn X.K (.ref C) "__init__" = some (some (.ref fI))) (tI : PySem.W.typeIn X.K (.ref fI) = some (.type "function"))
    (F : FnOk X.prog X.w X.K X.mg X.base CX0 1 fI fdd ["self", f] (spI C f)) (hr : Room 2 X.A) (hb : Binds X.K fdd ["self", f] []) (hg : Gl X x) (hm : X.mg x = some (.ref C)) (ha : PA X [e] ta) (mo : MonoA ta) (hdb : (x == ("__debug__" : Str)) = false := by decide)
    (he : starEach [e] X.env = (false, eval e X.env) :: starEach [] X.env := by rfl) (hpl : (backTo pos (starEach [] X.env)).any (·.1) = false := by rfl) : PE X (.Call (.Name x p) [e] [] pos) (tMd C f ta) :=
  ⟨fun pins s σ H Q I q => (pe_oex1 T iC tI F hr hb hg hm ha hdb he hpl).run pins s σ H Q I (mo σ H _ _ (fun vs H1 ⟨y, e, k⟩ => ⟨y, e, fun a h0 => md_end h0 k⟩) q)⟩
theorem pe_mdK {X : Cx} {C fI : Addr} {fdd : FuncData} {f x : Str} {ta : TA} {p pos : Pos} {kws : List Keyword} (T : OexC X.K C) (iC : PySem.W.findIn X.K (.ref C) "__init__" = some (some (.ref fI))) (tI : PySem.W.typeIn X.K (.ref fI) = some (.type "function"))
    (F : FnOk X.prog X.w X.K X.mg X.base CX0 1 fI fdd ["self", f] (spI C f)) (hr : Room 2 X.A) (hb : ∀ (s : Shared) (a b : Value), X.K.In s.heap → BindsTo s fdd ⟨[a], [(f, b)]⟩ [("self", a), (f, b)]) (hg : Gl X x) (hm : X.mg x = some (.ref C)) (hkw : PK X kws ta) (mo : MonoA ta)
    (hdb : (x == ("__debug__" : Str)) = false := by decide) (hall : (backToKw pos (keywordEach kws X.env)).all (·.1.isSome) = true := by rfl) (hks : (backToKw pos (keywordEach kws X.env)).filterMap (·.1) = [f] := by rfl)
    (hpl : ((backTo pos (starEach [] X.env)).any (·.1) || (backToKw pos (keywordEach kws X.env)).any (·.1.isNone)) = false := by rfl) : PE X (.Call (.Name x p) [] kws pos) (tMd C f ta) :=
  ⟨fun pins s σ H Q I q => (pe_oexK T iC tI F hr hb hg hm hkw hdb hall hks hpl).run pins s σ H Q I (mo σ H _ _ (fun vs H1 ⟨y, e, k⟩ => ⟨y, e, fun a h0 => md_end h0 k⟩) q)⟩
theorem pe_mp {X : Cx} {C : Addr} {x : Str} {e : Expr} {te : TE} {p pos : Pos} (q : PySem.W.excIn X.K C [.type "ValueError", .type "Exception", .type "BaseException", .type "object"] "ValueError.__new__" = true) (gC : X.mg x = some (.ref C)) (kC : PySem.W.keepIn X.K (.ref C) = true) (hg : Gl X x)
    (he : PE X e te) (mo : MonoE te) (hs : starEach [e] X.env = (false, eval e X.env) :: starEach [] X.env := by rfl) (hdb : (x == ("__debug__" : Str)) = false := by decide) : PE X (.Call (.Name x p) [e] [] pos) (tMp C te) :=
  ⟨fun pins s σ H Q I y => (pe_exc1 PySem.F.excBase_ValueError q gC kC hg he hs hdb).run pins s σ H Q I (mo σ H _ _ (fun _ H1 k a h0 => k a _ h0 (same_upd h0) (.inl upd_same)) y)⟩

theorem sc_BadCall : FnScope ["self", "path"] ["self", "path"] (defScope sI_BadCall) := ⟨rfl, rfl, rfl, by decide +kernel, rfl, by decide +kernel, by decide +kernel⟩
theorem ok_BadCall (T : Errs K mg A B fd) : FnOk P w K mg base CX0 1 (B 17) (fd 17) ["self", "path"] (spI (A 17) "path") := by
  obtain ⟨mc, rd, fc⟩ := T.mc
  refine T.F17.ok sc_BadCall (fun vs H Q E h => ?_) (fun cdv Z outer s H vs Q E hr h => ?_)
  · obtain ⟨a, x, rfl, _⟩ := h
    rfl
  · obtain ⟨a, x, rfl, ha, q⟩ := h
    refine ⟨_, pss_cons (ps_expr (pe_ownInit (by rfl) T.g0 rd T.ga fc (pa_cons (pv 0) (pa_cons pe_str pa_nil)))) (pss_one (ps_ost (pv 0) (pv 1))), ?_⟩
    have O := T.ox 17 (by decide) (by decide)
    refine ⟨.ref a, rfl, a, A 17, [_], rfl, by decide, O, ha, x, rfl, .ref a, rfl, a, A 17, rfl, O, T.no 17 (by decide) (by decide), .inl ⟨ha, fun dx h0 hne => q dx h0 hne⟩⟩
theorem sc_BadPlan : FnScope ["self", "index"] ["self", "index"] (defScope sI_BadPlan) := ⟨rfl, rfl, rfl, by decide +kernel, rfl, by decide +kernel, by decide +kernel⟩
theorem ok_BadPlan (T : Errs K mg A B fd) : FnOk P w K mg base CX0 1 (B 18) (fd 18) ["self", "index"] (spI (A 18) "index") := by
  obtain ⟨mc, rd, fc⟩ := T.mc
  refine T.F18.ok sc_BadPlan (fun vs H Q E h => ?_) (fun cdv Z outer s H vs Q E hr h => ?_)
  · obtain ⟨a, x, rfl, _⟩ := h
    rfl
  · obtain ⟨a, x, rfl, ha, q⟩ := h
    refine ⟨_, pss_cons (ps_expr (pe_ownInit (by rfl) T.g0 rd T.ga fc (pa_cons (pv 0) (pa_cons pe_str pa_nil)))) (pss_one (ps_ost (pv 0) (pv 1))), ?_⟩
    have O := T.ox 18 (by decide) (by decide)
    refine ⟨.ref a, rfl, a, A 18, [_], rfl, by decide, O, ha, x, rfl, .ref a, rfl, a, A 18, rfl, O, T.no 18 (by decide) (by decide), .inl ⟨ha, fun dx h0 hne => q dx h0 hne⟩⟩
theorem sc_NoName : FnScope ["self", "name"] ["self", "name"] (defScope sI_NoName) := ⟨rfl, rfl, rfl, by decide +kernel, rfl, by decide +kernel, by decide +kernel⟩
theorem ok_NoName (T : Errs K mg A B fd) : FnOk P w K mg base CX0 1 (B 19) (fd 19) ["self", "name"] (spI (A 19) "name") := by
  obtain ⟨mc, rd, fc⟩ := T.mc
  refine T.F19.ok sc_NoName (fun vs H Q E h => ?_) (fun cdv Z outer s H vs Q E hr h => ?_)
  · obtain ⟨a, x, rfl, _⟩ := h
    rfl
  · obtain ⟨a, x, rfl, ha, q⟩ := h
    refine ⟨_, pss_cons (ps_expr (pe_ownInit (by rfl) T.g0 rd T.ga fc (pa_cons (pv 0) (pa_cons pe_str pa_nil)))) (pss_one (ps_ost (pv 0) (pv 1))), ?_⟩
    have O := T.ox 19 (by decide) (by decide)
    refine ⟨.ref a, rfl, a, A 19, [_], rfl, by decide, O, ha, x, rfl, .ref a, rfl, a, A 19, rfl, O, T.no 19 (by decide) (by decide), .inl ⟨ha, fun dx h0 hne => q dx h0 hne⟩⟩
theorem sc_BadRecord : FnScope ["self", "index"] ["self", "index"] (defScope sI_BadRecord) := ⟨rfl, rfl, rfl, by decide +kernel, rfl, by decide +kernel, by decide +kernel⟩
theorem ok_BadRecord (T : Errs K mg A B fd) : FnOk P w K mg base CX0 1 (B 20) (fd 20) ["self", "index"] (spI (A 20) "index") := by
  obtain ⟨mc, rd, fc⟩ := T.mc
  refine T.F20.ok sc_BadRecord (fun vs H Q E h => ?_) (fun cdv Z outer s H vs Q E hr h => ?_)
  · obtain ⟨a, x, rfl, _⟩ := h
    rfl
  · obtain ⟨a, x, rfl, ha, q⟩ := h
    refine ⟨_, pss_cons (ps_expr (pe_ownInit (by rfl) T.g0 rd T.ga fc (pa_cons (pv 0) (pa_cons pe_str pa_nil)))) (pss_one (ps_ost (pv 0) (pv 1))), ?_⟩
    have O := T.ox 20 (by decide) (by decide)
    refine ⟨.ref a, rfl, a, A 20, [_], rfl, by decide, O, ha, x, rfl, .ref a, rfl, a, A 20, rfl, O, T.no 20 (by decide) (by decide), .inl ⟨ha, fun dx h0 hne => q dx h0 hne⟩⟩
theorem sc_BadMove : FnScope ["self", "name"] ["self", "name"] (defScope sI_BadMove) := ⟨rfl, rfl, rfl, by decide +kernel, rfl, by decide +kernel, by decide +kernel⟩
theorem ok_BadMove (T : Errs K mg A B fd) : FnOk P w K mg base CX0 1 (B 21) (fd 21) ["self", "name"] (spI (A 21) "name") := by
  obtain ⟨mc, rd, fc⟩ := T.mc
  refine T.F21.ok sc_BadMove (fun vs H Q E h => ?_) (fun cdv Z outer s H vs Q E hr h => ?_)
  · obtain ⟨a, x, rfl, _⟩ := h
    rfl
  · obtain ⟨a, x, rfl, ha, q⟩ := h
    refine ⟨_, pss_cons (ps_expr (pe_ownInit (by rfl) T.g0 rd T.ga fc (pa_cons (pv 0) (pa_cons pe_str pa_nil)))) (pss_one (ps_ost (pv 0) (pv 1))), ?_⟩
    have O := T.ox 21 (by decide) (by decide)
    refine ⟨.ref a, rfl, a, A 21, [_], rfl, by decide, O, ha, x, rfl, .ref a, rfl, a, A 21, rfl, O, T.no 21 (by decide) (by decide), .inl ⟨ha, fun dx h0 hne => q dx h0 hne⟩⟩
theorem sc_BadResult : FnScope ["self", "index"] ["self", "index"] (defScope sI_BadResult) := ⟨rfl, rfl, rfl, by decide +kernel, rfl, by decide +kernel, by decide +kernel⟩
theorem ok_BadResult (T : Errs K mg A B fd) : FnOk P w K mg base CX0 1 (B 22) (fd 22) ["self", "index"] (spI (A 22) "index") := by
  obtain ⟨mc, rd, fc⟩ := T.mc
  refine T.F22.ok sc_BadResult (fun vs H Q E h => ?_) (fun cdv Z outer s H vs Q E hr h => ?_)
  · obtain ⟨a, x, rfl, _⟩ := h
    rfl
  · obtain ⟨a, x, rfl, ha, q⟩ := h
    refine ⟨_, pss_cons (ps_expr (pe_ownInit (by rfl) T.g0 rd T.ga fc (pa_cons (pv 0) (pa_cons pe_str pa_nil)))) (pss_one (ps_ost (pv 0) (pv 1))), ?_⟩
    have O := T.ox 22 (by decide) (by decide)
    refine ⟨.ref a, rfl, a, A 22, [_], rfl, by decide, O, ha, x, rfl, .ref a, rfl, a, A 22, rfl, O, T.no 22 (by decide) (by decide), .inl ⟨ha, fun dx h0 hne => q dx h0 hne⟩⟩
theorem sc_BadRule : FnScope ["self", "index"] ["self", "index"] (defScope sI_BadRule) := ⟨rfl, rfl, rfl, by decide +kernel, rfl, by decide +kernel, by decide +kernel⟩
theorem ok_BadRule (T : Errs K mg A B fd) : FnOk P w K mg base CX0 1 (B 23) (fd 23) ["self", "index"] (spI (A 23) "index") := by
  obtain ⟨mc, rd, fc⟩ := T.mc
  refine T.F23.ok sc_BadRule (fun vs H Q E h => ?_) (fun cdv Z outer s H vs Q E hr h => ?_)
  · obtain ⟨a, x, rfl, _⟩ := h
    rfl
  · obtain ⟨a, x, rfl, ha, q⟩ := h
    refine ⟨_, pss_cons (ps_expr (pe_ownInit (by rfl) T.g0 rd T.ga fc (pa_cons (pv 0) (pa_cons pe_str pa_nil)))) (pss_one (ps_ost (pv 0) (pv 1))), ?_⟩
    have O := T.ox 23 (by decide) (by decide)
    refine ⟨.ref a, rfl, a, A 23, [_], rfl, by decide, O, ha, x, rfl, .ref a, rfl, a, A 23, rfl, O, T.no 23 (by decide) (by decide), .inl ⟨ha, fun dx h0 hne => q dx h0 hne⟩⟩
theorem sc_Faulted : FnScope ["self", "word"] ["self", "word"] (defScope sI_Faulted) := ⟨rfl, rfl, rfl, by decide +kernel, rfl, by decide +kernel, by decide +kernel⟩
theorem ok_Faulted (T : Errs K mg A B fd) : FnOk P w K mg base CX0 1 (B 24) (fd 24) ["self", "word"] (spI (A 24) "word") := by
  obtain ⟨mc, rd, fc⟩ := T.mc
  refine T.F24.ok sc_Faulted (fun vs H Q E h => ?_) (fun cdv Z outer s H vs Q E hr h => ?_)
  · obtain ⟨a, x, rfl, _⟩ := h
    rfl
  · obtain ⟨a, x, rfl, ha, q⟩ := h
    refine ⟨_, pss_cons (ps_expr (pe_ownInit (by rfl) T.g0 rd T.ga fc (pa_cons (pv 0) (pa_cons pe_str pa_nil)))) (pss_one (ps_ost (pv 0) (pv 1))), ?_⟩
    have O := T.ox 24 (by decide) (by decide)
    refine ⟨.ref a, rfl, a, A 24, [_], rfl, by decide, O, ha, x, rfl, .ref a, rfl, a, A 24, rfl, O, T.no 24 (by decide) (by decide), .inl ⟨ha, fun dx h0 hne => q dx h0 hne⟩⟩
theorem sc_Unexpected : FnScope ["self", "what"] ["self", "what"] (defScope sI_Unexpected) := ⟨rfl, rfl, rfl, by decide +kernel, rfl, by decide +kernel, by decide +kernel⟩
theorem ok_Unexpected (T : Errs K mg A B fd) : FnOk P w K mg base CX0 1 (B 25) (fd 25) ["self", "what"] (spI (A 25) "what") := by
  obtain ⟨mc, rd, fc⟩ := T.mc
  refine T.F25.ok sc_Unexpected (fun vs H Q E h => ?_) (fun cdv Z outer s H vs Q E hr h => ?_)
  · obtain ⟨a, x, rfl, _⟩ := h
    rfl
  · obtain ⟨a, x, rfl, ha, q⟩ := h
    refine ⟨_, pss_cons (ps_expr (pe_ownInit (by rfl) T.g0 rd T.ga fc (pa_cons (pv 0) (pa_cons pe_str pa_nil)))) (pss_one (ps_ost (pv 0) (pv 1))), ?_⟩
    have O := T.ox 25 (by decide) (by decide)
    refine ⟨.ref a, rfl, a, A 25, [_], rfl, by decide, O, ha, x, rfl, .ref a, rfl, a, A 25, rfl, O, T.no 25 (by decide) (by decide), .inl ⟨ha, fun dx h0 hne => q dx h0 hne⟩⟩
theorem sc_Undecided : FnScope ["self", "could"] ["self", "could"] (defScope sI_Undecided) := ⟨rfl, rfl, rfl, by decide +kernel, rfl, by decide +kernel, by decide +kernel⟩
theorem ok_Undecided (T : Errs K mg A B fd) : FnOk P w K mg base CX0 1 (B 26) (fd 26) ["self", "could"] (spI (A 26) "could") := by
  obtain ⟨mc, rd, fc⟩ := T.mc
  refine T.F26.ok sc_Undecided (fun vs H Q E h => ?_) (fun cdv Z outer s H vs Q E hr h => ?_)
  · obtain ⟨a, x, rfl, _⟩ := h
    rfl
  · obtain ⟨a, x, rfl, ha, q⟩ := h
    refine ⟨_, pss_cons (ps_expr (pe_ownInit (by rfl) T.g0 rd T.ga fc (pa_cons (pv 0) (pa_cons pe_str pa_nil)))) (pss_one (ps_ost (pv 0) (pv 1))), ?_⟩
    have O := T.ox 26 (by decide) (by decide)
    refine ⟨.ref a, rfl, a, A 26, [_], rfl, by decide, O, ha, x, rfl, .ref a, rfl, a, A 26, rfl, O, T.no 26 (by decide) (by decide), .inl ⟨ha, fun dx h0 hne => q dx h0 hne⟩⟩
theorem sc_Missing : FnScope ["self", "lacking"] ["self", "lacking"] (defScope sI_Missing) := ⟨rfl, rfl, rfl, by decide +kernel, rfl, by decide +kernel, by decide +kernel⟩
theorem ok_Missing (T : Errs K mg A B fd) : FnOk P w K mg base CX0 1 (B 27) (fd 27) ["self", "lacking"] (spI (A 27) "lacking") := by
  obtain ⟨mc, rd, fc⟩ := T.mc
  refine T.F27.ok sc_Missing (fun vs H Q E h => ?_) (fun cdv Z outer s H vs Q E hr h => ?_)
  · obtain ⟨a, x, rfl, _⟩ := h
    rfl
  · obtain ⟨a, x, rfl, ha, q⟩ := h
    refine ⟨_, pss_cons (ps_expr (pe_ownInit (by rfl) T.g0 rd T.ga fc (pa_cons (pv 0) (pa_cons pe_str pa_nil)))) (pss_one (ps_ost (pv 0) (pv 1))), ?_⟩
    have O := T.ox 27 (by decide) (by decide)
    refine ⟨.ref a, rfl, a, A 27, [_], rfl, by decide, O, ha, x, rfl, .ref a, rfl, a, A 27, rfl, O, T.no 27 (by decide) (by decide), .inl ⟨ha, fun dx h0 hne => q dx h0 hne⟩⟩
theorem sc_NoPlace : FnScope ["self", "name"] ["self", "name"] (defScope sI_NoPlace) := ⟨rfl, rfl, rfl, by decide +kernel, rfl, by decide +kernel, by decide +kernel⟩
theorem ok_NoPlace (T : Errs K mg A B fd) : FnOk P w K mg base CX0 1 (B 28) (fd 28) ["self", "name"] (spI (A 28) "name") := by
  obtain ⟨mc, rd, fc⟩ := T.mc
  refine T.F28.ok sc_NoPlace (fun vs H Q E h => ?_) (fun cdv Z outer s H vs Q E hr h => ?_)
  · obtain ⟨a, x, rfl, _⟩ := h
    rfl
  · obtain ⟨a, x, rfl, ha, q⟩ := h
    refine ⟨_, pss_cons (ps_expr (pe_ownInit (by rfl) T.g0 rd T.ga fc (pa_cons (pv 0) (pa_cons pe_str pa_nil)))) (pss_one (ps_ost (pv 0) (pv 1))), ?_⟩
    have O := T.ox 28 (by decide) (by decide)
    refine ⟨.ref a, rfl, a, A 28, [_], rfl, by decide, O, ha, x, rfl, .ref a, rfl, a, A 28, rfl, O, T.no 28 (by decide) (by decide), .inl ⟨ha, fun dx h0 hne => q dx h0 hne⟩⟩
theorem sc_BadName : FnScope ["self", "name"] ["self", "name"] (defScope sI_BadName) := ⟨rfl, rfl, rfl, by decide +kernel, rfl, by decide +kernel, by decide +kernel⟩
theorem ok_BadName (T : Errs K mg A B fd) : FnOk P w K mg base CX0 1 (B 29) (fd 29) ["self", "name"] (spI (A 29) "name") := by
  obtain ⟨mc, rd, fc⟩ := T.mc
  refine T.F29.ok sc_BadName (fun vs H Q E h => ?_) (fun cdv Z outer s H vs Q E hr h => ?_)
  · obtain ⟨a, x, rfl, _⟩ := h
    rfl
  · obtain ⟨a, x, rfl, ha, q⟩ := h
    refine ⟨_, pss_cons (ps_expr (pe_ownInit (by rfl) T.g0 rd T.ga fc (pa_cons (pv 0) (pa_cons pe_str pa_nil)))) (pss_one (ps_ost (pv 0) (pv 1))), ?_⟩
    have O := T.ox 29 (by decide) (by decide)
    refine ⟨.ref a, rfl, a, A 29, [_], rfl, by decide, O, ha, x, rfl, .ref a, rfl, a, A 29, rfl, O, T.no 29 (by decide) (by decide), .inl ⟨ha, fun dx h0 hne => q dx h0 hne⟩⟩
theorem sc_BadText : FnScope ["self", "row"] ["self", "row"] (defScope sI_BadText) := ⟨rfl, rfl, rfl, by decide +kernel, rfl, by decide +kernel, by decide +kernel⟩
theorem ok_BadText (T : Errs K mg A B fd) : FnOk P w K mg base CX0 1 (B 30) (fd 30) ["self", "row"] (spI (A 30) "row") := by
  obtain ⟨mc, rd, fc⟩ := T.mc
  refine T.F30.ok sc_BadText (fun vs H Q E h => ?_) (fun cdv Z outer s H vs Q E hr h => ?_)
  · obtain ⟨a, x, rfl, _⟩ := h
    rfl
  · obtain ⟨a, x, rfl, ha, q⟩ := h
    refine ⟨_, pss_cons (ps_expr (pe_ownInit (by rfl) T.g0 rd T.ga fc (pa_cons (pv 0) (pa_cons pe_str pa_nil)))) (pss_one (ps_ost (pv 0) (pv 1))), ?_⟩
    have O := T.ox 30 (by decide) (by decide)
    refine ⟨.ref a, rfl, a, A 30, [_], rfl, by decide, O, ha, x, rfl, .ref a, rfl, a, A 30, rfl, O, T.no 30 (by decide) (by decide), .inl ⟨ha, fun dx h0 hne => q dx h0 hne⟩⟩
theorem bn_BadCall (T : Errs K mg A B fd) : Binds K (fd 17) ["self", "path"] [] := T.F17.binds fun _ _ _ _ _ _ us hl => match us, hl with | [_, _], _ => rfl
theorem bk_BadCall (T : Errs K mg A B fd) (s : Shared) (a b : Value) (_ : K.In s.heap) : BindsTo s (fd 17) ⟨[a], [("path", b)]⟩ [("self", a), ("path", b)] := by
  obtain ⟨oc, od, kV, dc, pm, an, cdv, ct, osl, e, lk, hcd⟩ := T.F17.ex
  rw [e]
  exact .of_eq rfl
theorem bn_BadPlan (T : Errs K mg A B fd) : Binds K (fd 18) ["self", "index"] [] := T.F18.binds fun _ _ _ _ _ _ us hl => match us, hl with | [_, _], _ => rfl
theorem bk_BadPlan (T : Errs K mg A B fd) (s : Shared) (a b : Value) (_ : K.In s.heap) : BindsTo s (fd 18) ⟨[a], [("index", b)]⟩ [("self", a), ("index", b)] := by
  obtain ⟨oc, od, kV, dc, pm, an, cdv, ct, osl, e, lk, hcd⟩ := T.F18.ex
  rw [e]
  exact .of_eq rfl
theorem bn_NoName (T : Errs K mg A B fd) : Binds K (fd 19) ["self", "name"] [] := T.F19.binds fun _ _ _ _ _ _ us hl => match us, hl with | [_, _], _ => rfl
theorem bk_NoName (T : Errs K mg A B fd) (s : Shared) (a b : Value) (_ : K.In s.heap) : BindsTo s (fd 19) ⟨[a], [("name", b)]⟩ [("self", a), ("name", b)] := by
  obtain ⟨oc, od, kV, dc, pm, an, cdv, ct, osl, e, lk, hcd⟩ := T.F19.ex
  rw [e]
  exact .of_eq rfl
theorem bn_BadRecord (T : Errs K mg A B fd) : Binds K (fd 20) ["self", "index"] [] := T.F20.binds fun _ _ _ _ _ _ us hl => match us, hl with | [_, _], _ => rfl
theorem bk_BadRecord (T : Errs K mg A B fd) (s : Shared) (a b : Value) (_ : K.In s.heap) : BindsTo s (fd 20) ⟨[a], [("index", b)]⟩ [("self", a), ("index", b)] := by
  obtain ⟨oc, od, kV, dc, pm, an, cdv, ct, osl, e, lk, hcd⟩ := T.F20.ex
  rw [e]
  exact .of_eq rfl
theorem bn_BadMove (T : Errs K mg A B fd) : Binds K (fd 21) ["self", "name"] [] := T.F21.binds fun _ _ _ _ _ _ us hl => match us, hl with | [_, _], _ => rfl
theorem bk_BadMove (T : Errs K mg A B fd) (s : Shared) (a b : Value) (_ : K.In s.heap) : BindsTo s (fd 21) ⟨[a], [("name", b)]⟩ [("self", a), ("name", b)] := by
  obtain ⟨oc, od, kV, dc, pm, an, cdv, ct, osl, e, lk, hcd⟩ := T.F21.ex
  rw [e]
  exact .of_eq rfl
theorem bn_BadResult (T : Errs K mg A B fd) : Binds K (fd 22) ["self", "index"] [] := T.F22.binds fun _ _ _ _ _ _ us hl => match us, hl with | [_, _], _ => rfl
theorem bk_BadResult (T : Errs K mg A B fd) (s : Shared) (a b : Value) (_ : K.In s.heap) : BindsTo s (fd 22) ⟨[a], [("index", b)]⟩ [("self", a), ("index", b)] := by
  obtain ⟨oc, od, kV, dc, pm, an, cdv, ct, osl, e, lk, hcd⟩ := T.F22.ex
  rw [e]
  exact .of_eq rfl
theorem bn_BadRule (T : Errs K mg A B fd) : Binds K (fd 23) ["self", "index"] [] := T.F23.binds fun _ _ _ _ _ _ us hl => match us, hl with | [_, _], _ => rfl
theorem bk_BadRule (T : Errs K mg A B fd) (s : Shared) (a b : Value) (_ : K.In s.heap) : BindsTo s (fd 23) ⟨[a], [("index", b)]⟩ [("self", a), ("index", b)] := by
  obtain ⟨oc, od, kV, dc, pm, an, cdv, ct, osl, e, lk, hcd⟩ := T.F23.ex
  rw [e]
  exact .of_eq rfl
theorem bn_Faulted (T : Errs K mg A B fd) : Binds K (fd 24) ["self", "word"] [] := T.F24.binds fun _ _ _ _ _ _ us hl => match us, hl with | [_, _], _ => rfl
theorem bk_Faulted (T : Errs K mg A B fd) (s : Shared) (a b : Value) (_ : K.In s.heap) : BindsTo s (fd 24) ⟨[a], [("word", b)]⟩ [("self", a), ("word", b)] := by
  obtain ⟨oc, od, kV, dc, pm, an, cdv, ct, osl, e, lk, hcd⟩ := T.F24.ex
  rw [e]
  exact .of_eq rfl
theorem bn_Unexpected (T : Errs K mg A B fd) : Binds K (fd 25) ["self", "what"] [] := T.F25.binds fun _ _ _ _ _ _ us hl => match us, hl with | [_, _], _ => rfl
theorem bk_Unexpected (T : Errs K mg A B fd) (s : Shared) (a b : Value) (_ : K.In s.heap) : BindsTo s (fd 25) ⟨[a], [("what", b)]⟩ [("self", a), ("what", b)] := by
  obtain ⟨oc, od, kV, dc, pm, an, cdv, ct, osl, e, lk, hcd⟩ := T.F25.ex
  rw [e]
  exact .of_eq rfl
theorem bn_Undecided (T : Errs K mg A B fd) : Binds K (fd 26) ["self", "could"] [] := T.F26.binds fun _ _ _ _ _ _ us hl => match us, hl with | [_, _], _ => rfl
theorem bk_Undecided (T : Errs K mg A B fd) (s : Shared) (a b : Value) (_ : K.In s.heap) : BindsTo s (fd 26) ⟨[a], [("could", b)]⟩ [("self", a), ("could", b)] := by
  obtain ⟨oc, od, kV, dc, pm, an, cdv, ct, osl, e, lk, hcd⟩ := T.F26.ex
  rw [e]
  exact .of_eq rfl
theorem bn_Missing (T : Errs K mg A B fd) : Binds K (fd 27) ["self", "lacking"] [] := T.F27.binds fun _ _ _ _ _ _ us hl => match us, hl with | [_, _], _ => rfl
theorem bk_Missing (T : Errs K mg A B fd) (s : Shared) (a b : Value) (_ : K.In s.heap) : BindsTo s (fd 27) ⟨[a], [("lacking", b)]⟩ [("self", a), ("lacking", b)] := by
  obtain ⟨oc, od, kV, dc, pm, an, cdv, ct, osl, e, lk, hcd⟩ := T.F27.ex
  rw [e]
  exact .of_eq rfl
theorem bn_NoPlace (T : Errs K mg A B fd) : Binds K (fd 28) ["self", "name"] [] := T.F28.binds fun _ _ _ _ _ _ us hl => match us, hl with | [_, _], _ => rfl
theorem bk_NoPlace (T : Errs K mg A B fd) (s : Shared) (a b : Value) (_ : K.In s.heap) : BindsTo s (fd 28) ⟨[a], [("name", b)]⟩ [("self", a), ("name", b)] := by
  obtain ⟨oc, od, kV, dc, pm, an, cdv, ct, osl, e, lk, hcd⟩ := T.F28.ex
  rw [e]
  exact .of_eq rfl
theorem bn_BadName (T : Errs K mg A B fd) : Binds K (fd 29) ["self", "name"] [] := T.F29.binds fun _ _ _ _ _ _ us hl => match us, hl with | [_, _], _ => rfl
theorem bk_BadName (T : Errs K mg A B fd) (s : Shared) (a b : Value) (_ : K.In s.heap) : BindsTo s (fd 29) ⟨[a], [("name", b)]⟩ [("self", a), ("name", b)] := by
  obtain ⟨oc, od, kV, dc, pm, an, cdv, ct, osl, e, lk, hcd⟩ := T.F29.ex
  rw [e]
  exact .of_eq rfl
theorem bn_BadText (T : Errs K mg A B fd) : Binds K (fd 30) ["self", "row"] [] := T.F30.binds fun _ _ _ _ _ _ us hl => match us, hl with | [_, _], _ => rfl
theorem bk_BadText (T : Errs K mg A B fd) (s : Shared) (a b : Value) (_ : K.In s.heap) : BindsTo s (fd 30) ⟨[a], [("row", b)]⟩ [("self", a), ("row", b)] := by
  obtain ⟨oc, od, kV, dc, pm, an, cdv, ct, osl, e, lk, hcd⟩ := T.F30.ex
  rw [e]
  exact .of_eq rfl
end
end Ck
namespace Ck
open PySem PySem.Spec PyProof.Rows L2
section
variable {P : Program} {w : World} {K : PySem.W.Frag} {mg : Str → Option Value} {base : Heap} {A B : Nat → Addr} {fd : Nat → FuncData}
theorem go_asg {te : TE} {i : Nat} {r : TS} {D : Ends} {σ : L2.St} {H : Hp} (h : te σ H fun x H1 => r D (σ.set i (some x)) H1) : tSeq (tAsg te (gName i)) r D σ H := h
theorem go_ret {te : TE} {D : Ends} {σ : L2.St} {H : Hp} (h : te σ H D.rt) : tRet te D σ H := h
/-! ### the marks -/
def mk (i j : Nat) : V := .bl (decide (i = j))
def spMk (A : Nat → Addr) (js : List Nat) : Sp := fun vs H Q _ => ∃ (a : Addr) (i : Nat), vs = [.ref a] ∧ i < 31 ∧ ExAt H a (A i) ∧ ∀ p H', H p = none → Same H H' → H' p = some (.lst (js.map (mk i))) → Q (.ref p) H'
/-- isinstance(error, C) for each of some classes -/
def taIs (K : PySem.W.Frag) (A : Nat → Addr) : List Nat → TA
  | [] => tNil
  | j :: js => tCons (tCB (rIsX K) (tCons (tVar 0) (tCons (tC (.ref (A j))) tNil))) (taIs K A js)
theorem rd_is (T : Errs K mg A B fd) {a : Addr} {i : Nat} (hi : i < 31) {H : Hp} (hx : ExAt H a (A i)) {σ : L2.St} (hs : σ[0]? = some (some (.ref a))) : ∀ (js : List Nat), (∀ j ∈ js, j < 31 ∧ j ≠ 0) → ∀ Q : List V → Hp → Prop, Q (js.map (mk i)) H → taIs K A js σ H Q
  | [], _, Q, q => q
  | j :: js, hj, Q, q => by
    obtain ⟨h1, h2⟩ := hj j (List.mem_cons_self ..)
    refine ⟨.ref a, hs, a, A i, _, _, _, rfl, .own _, hx, T.xc i hi, T.kit i j hi h1 h2, ?_⟩
    exact rd_is T hi hx hs js (fun y hy => hj y (List.mem_cons_of_mem _ hy)) (fun vs H2 => Q (_ :: vs) H2) q
theorem rd_isL (T : Errs K mg A B fd) {a : Addr} {i : Nat} (hi : i < 31) {H : Hp} (hx : ExAt H a (A i)) {σ : L2.St} (hs : σ[0]? = some (some (.ref a))) (js : List Nat) (hj : ∀ j ∈ js, j < 31 ∧ j ≠ 0) (hl : js.length ≤ 100) {Q : VK}
    (k : ∀ p H', H p = none → Same H H' → H' p = some (.lst (js.map (mk i))) → Q (.ref p) H') : tLst (taIs K A js) σ H Q :=
  rd_is T hi hx hs js hj _ ⟨by rw [List.length_map]; exact Nat.le_of_lt (small1000 (by omega)), fun p np => k p _ np (same_upd np) upd_same⟩
/-- found + [..] -/
theorem rd_cat {ta : TA} {m : Nat} {p : Addr} {xs : List V} {H : Hp} {σ : L2.St} {Q : VK} (hs : σ[m]? = some (some (.ref p))) (hp : H p = some (.lst xs)) (hz : xs.length ≤ 1000)
    (hr : tLst ta σ H fun y H1 => ∃ b zs, y = .ref b ∧ Same H H1 ∧ H1 b = some (.lst zs) ∧ zs.length ≤ 1000 ∧ ∀ p' H', H1 p' = none → Same H1 H' → H' p' = some (.lst (xs ++ zs)) → Q (.ref p') H')
    (mo : MonoE (tLst ta)) : tOp rCat (tVar m) (tLst ta) σ H Q := by
  refine ⟨_, hs, mo σ H _ _ ?_ hr⟩
  rintro y H1 ⟨b, zs, rfl, s1, hb, hz2, k⟩
  exact ⟨p, b, xs, zs, rfl, rfl, s1 _ _ hp, hb, by rw [sizeLine_eq]; omega, fun p' n' => k p' _ n' (same_upd n') upd_same⟩
theorem mono_lst {ta : TA} (h : MonoA ta) : MonoE (tLst ta) := fun σ H Q Q' k q => h σ H _ _ (fun vs H1 z => ⟨z.1, fun p np => k _ _ (z.2 p np)⟩) q
theorem mono_is (js : List Nat) : MonoA (taIs K A js) := by
  induction js with
  | nil => exact mono_nil
  | cons j js ih =>
    refine mono_cons (fun σ H Q Q' k q => ?_) ih
    obtain ⟨v, e, a, C, c, u, b, h1, h2, h3, h4, h5, z⟩ := q
    exact ⟨v, e, a, C, c, u, b, h1, h2, h3, h4, h5, k _ _ z⟩
theorem Same.new {H H' : Hp} (s : Same H H') {p : Addr} (h : H' p = none) : H p = none := s.free h
theorem rd_isC (T : Errs K mg A B fd) {a : Addr} {i : Nat} (hi : i < 31) {H : Hp} (hx : ExAt H a (A i)) {σ : L2.St} (hs : σ[0]? = some (some (.ref a))) {m : Nat} {p : Addr} {is : List Nat} (hm : σ[m]? = some (some (.ref p))) (hp : H p = some (.lst (is.map (mk i)))) (hz : is.length ≤ 100)
    (js : List Nat) (hj : ∀ j ∈ js, j < 31 ∧ j ≠ 0) (hl : js.length ≤ 100) {Q : VK} (k : ∀ p H', H p = none → Same H H' → H' p = some (.lst ((is ++ js).map (mk i))) → Q (.ref p) H') : tOp rCat (tVar m) (tLst (taIs K A js)) σ H Q :=
  rd_cat hm hp (by rw [List.length_map]; omega) (rd_isL T hi hx hs js hj hl fun b H1 nb s1 hb => ⟨b, _, rfl, s1, hb, by rw [List.length_map]; omega, fun p' H' n' s' h' => k p' H' (s1.free n') (s1.trans s') (by rw [h', List.map_append])⟩) (mono_lst (mono_is js))

theorem scPM : FnScope ["error", "found"] ["error"] (defScope s_plain_marks) := ⟨rfl, rfl, rfl, by decide +kernel, rfl, by decide +kernel, by decide +kernel⟩
theorem scMk : FnScope ["error", "found"] ["error"] (defScope s_marks) := ⟨rfl, rfl, rfl, by decide +kernel, rfl, by decide +kernel, by decide +kernel⟩
def jsP : List Nat := [1, 2, 3, 4, 5, 6, 7, 8, 9, 10, 11, 12, 13, 14, 15, 16]
theorem ok_plain_marks {f : Addr} {fdd : FuncData} {k : Nat} (F : Fun K "_law_plain_marks" "_law_plain_marks" s_plain_marks f fdd) (T : Errs K mg A B fd) : FnOk P w K mg base CX0 (k + 1) f fdd ["error"] (spMk A jsP) := by
  refine F.ok scPM (fun vs H Q E h => ?_) (fun cdv Z outer s H vs Q E hr h => ?_)
  · obtain ⟨a, i, rfl, _⟩ := h
    rfl
  · obtain ⟨a, i, rfl, hi, hx, q⟩ := h
    refine ⟨_, pss_cons (ps_set (i := 1) scPM.nd rfl (.inl rfl) (pe_lst (pa_cons (pe_callB call_isX (by rfl) T.isi boot_isinstance (pa_cons (pv 0) (pa_cons (pe_glob (v := .ref (A 1)) (by rfl) T.g1 rfl) pa_nil))) (pa_cons (pe_callB call_isX (by rfl) T.isi boot_isinstance (pa_cons (pv 0) (pa_cons (pe_glob (v := .ref (A 2)) (by rfl) T.g2 rfl) pa_nil))) (pa_cons (pe_callB call_isX (by rfl) T.isi boot_isinstance (pa_cons (pv 0) (pa_cons (pe_glob (v := .ref (A 3)) (by rfl) T.g3 rfl) pa_nil))) pa_nil)))))
      (pss_cons (ps_set (i := 1) scPM.nd rfl (.inl rfl) (pe_op op_cat (pv 1) (pe_lst (pa_cons (pe_callB call_isX (by rfl) T.isi boot_isinstance (pa_cons (pv 0) (pa_cons (pe_glob (v := .ref (A 4)) (by rfl) T.g4 rfl) pa_nil))) (pa_cons (pe_callB call_isX (by rfl) T.isi boot_isinstance (pa_cons (pv 0) (pa_cons (pe_glob (v := .ref (A 5)) (by rfl) T.g5 rfl) pa_nil))) (pa_cons (pe_callB call_isX (by rfl) T.isi boot_isinstance (pa_cons (pv 0) (pa_cons (pe_glob (v := .ref (A 6)) (by rfl) T.g6 rfl) pa_nil))) pa_nil))))))
      (pss_cons (ps_set (i := 1) scPM.nd rfl (.inl rfl) (pe_op op_cat (pv 1) (pe_lst (pa_cons (pe_callB call_isX (by rfl) T.isi boot_isinstance (pa_cons (pv 0) (pa_cons (pe_glob (v := .ref (A 7)) (by rfl) T.g7 rfl) pa_nil))) (pa_cons (pe_callB call_isX (by rfl) T.isi boot_isinstance (pa_cons (pv 0) (pa_cons (pe_glob (v := .ref (A 8)) (by rfl) T.g8 rfl) pa_nil))) (pa_cons (pe_callB call_isX (by rfl) T.isi boot_isinstance (pa_cons (pv 0) (pa_cons (pe_glob (v := .ref (A 9)) (by rfl) T.g9 rfl) pa_nil))) pa_nil))))))
      (pss_cons (ps_set (i := 1) scPM.nd rfl (.inl rfl) (pe_op op_cat (pv 1) (pe_lst (pa_cons (pe_callB call_isX (by rfl) T.isi boot_isinstance (pa_cons (pv 0) (pa_cons (pe_glob (v := .ref (A 10)) (by rfl) T.g10 rfl) pa_nil))) (pa_cons (pe_callB call_isX (by rfl) T.isi boot_isinstance (pa_cons (pv 0) (pa_cons (pe_glob (v := .ref (A 11)) (by rfl) T.g11 rfl) pa_nil))) (pa_cons (pe_callB call_isX (by rfl) T.isi boot_isinstance (pa_cons (pv 0) (pa_cons (pe_glob (v := .ref (A 12)) (by rfl) T.g12 rfl) pa_nil))) pa_nil))))))
      (pss_cons (ps_set (i := 1) scPM.nd rfl (.inl rfl) (pe_op op_cat (pv 1) (pe_lst (pa_cons (pe_callB call_isX (by rfl) T.isi boot_isinstance (pa_cons (pv 0) (pa_cons (pe_glob (v := .ref (A 13)) (by rfl) T.g13 rfl) pa_nil))) (pa_cons (pe_callB call_isX (by rfl) T.isi boot_isinstance (pa_cons (pv 0) (pa_cons (pe_glob (v := .ref (A 14)) (by rfl) T.g14 rfl) pa_nil))) (pa_cons (pe_callB call_isX (by rfl) T.isi boot_isinstance (pa_cons (pv 0) (pa_cons (pe_glob (v := .ref (A 15)) (by rfl) T.g15 rfl) pa_nil))) pa_nil))))))
      (pss_one (ps_ret (pe_op op_cat (pv 1) (pe_lst (pa_cons (pe_callB call_isX (by rfl) T.isi boot_isinstance (pa_cons (pv 0) (pa_cons (pe_glob (v := .ref (A 16)) (by rfl) T.g16 rfl) pa_nil))) pa_nil))))))))), ?_⟩
    refine go_asg (rd_isL (js := [1, 2, 3]) T hi hx (by rfl) (by decide) (by decide) fun p1 H1 n1 s1 l1 => ?_)
    refine go_asg (rd_isC (is := [1, 2, 3]) (js := [4, 5, 6]) T hi (hx.mono s1) (by rfl) (by rfl) l1 (by decide) (by decide) (by decide) fun p2 H2 n2 t2 l2 => ?_)
    have s2 := s1.trans t2
    refine go_asg (rd_isC (is := [1, 2, 3, 4, 5, 6]) (js := [7, 8, 9]) T hi (hx.mono s2) (by rfl) (by rfl) l2 (by decide) (by decide) (by decide) fun p3 H3 n3 t3 l3 => ?_)
    have s3 := s2.trans t3
    refine go_asg (rd_isC (is := [1, 2, 3, 4, 5, 6, 7, 8, 9]) (js := [10, 11, 12]) T hi (hx.mono s3) (by rfl) (by rfl) l3 (by decide) (by decide) (by decide) fun p4 H4 n4 t4 l4 => ?_)
    have s4 := s3.trans t4
    refine go_asg (rd_isC (is := [1, 2, 3, 4, 5, 6, 7, 8, 9, 10, 11, 12]) (js := [13, 14, 15]) T hi (hx.mono s4) (by rfl) (by rfl) l4 (by decide) (by decide) (by decide) fun p5 H5 n5 t5 l5 => ?_)
    have s5 := s4.trans t5
    refine go_ret (rd_isC (is := [1, 2, 3, 4, 5, 6, 7, 8, 9, 10, 11, 12, 13, 14, 15]) (js := [16]) T hi (hx.mono s5) (by rfl) (by rfl) l5 (by decide) (by decide) (by decide) fun p6 H6 n6 t6 l6 => ?_)
    have s6 := s5.trans t6
    exact q _ _ (s5.free n6) s6 l6
def jsO : List Nat := [17, 18, 19, 20, 21, 22, 23, 24, 25, 26, 27, 28, 29, 30]
theorem ok_marks {f fP : Addr} {fdd fdP : FuncData} {k : Nat} (F : Fun K "_law_marks" "_law_marks" s_marks f fdd) (FP : Fun K "_law_plain_marks" "_law_plain_marks" s_plain_marks fP fdP) (bP : Binds K fdP ["error"] []) (gP : mg "_law_plain_marks" = some (.ref fP)) (T : Errs K mg A B fd) :
    FnOk P w K mg base CX0 (k + 2) f fdd ["error"] (spMk A (jsP ++ jsO)) := by
  have GP : FnOk P w K mg base CX0 (k + 1) fP fdP ["error"] (spMk A jsP) := ok_plain_marks FP T
  refine F.ok scMk (fun vs H Q E h => ?_) (fun cdv Z outer s H vs Q E hr h => ?_)
  · obtain ⟨a, i, rfl, _⟩ := h
    rfl
  · obtain ⟨a, i, rfl, hi, hx, q⟩ := h
    refine ⟨_, pss_cons (ps_set (i := 1) scMk.nd rfl (.inl rfl) (pe_lst (pa_cons (pe_callB call_isX (by rfl) T.isi boot_isinstance (pa_cons (pv 0) (pa_cons (pe_glob (v := .ref (A 17)) (by rfl) T.g17 rfl) pa_nil))) (pa_cons (pe_callB call_isX (by rfl) T.isi boot_isinstance (pa_cons (pv 0) (pa_cons (pe_glob (v := .ref (A 18)) (by rfl) T.g18 rfl) pa_nil))) (pa_cons (pe_callB call_isX (by rfl) T.isi boot_isinstance (pa_cons (pv 0) (pa_cons (pe_glob (v := .ref (A 19)) (by rfl) T.g19 rfl) pa_nil))) pa_nil)))))
      (pss_cons (ps_set (i := 1) scMk.nd rfl (.inl rfl) (pe_op op_cat (pv 1) (pe_lst (pa_cons (pe_callB call_isX (by rfl) T.isi boot_isinstance (pa_cons (pv 0) (pa_cons (pe_glob (v := .ref (A 20)) (by rfl) T.g20 rfl) pa_nil))) (pa_cons (pe_callB call_isX (by rfl) T.isi boot_isinstance (pa_cons (pv 0) (pa_cons (pe_glob (v := .ref (A 21)) (by rfl) T.g21 rfl) pa_nil))) (pa_cons (pe_callB call_isX (by rfl) T.isi boot_isinstance (pa_cons (pv 0) (pa_cons (pe_glob (v := .ref (A 22)) (by rfl) T.g22 rfl) pa_nil))) pa_nil))))))
      (pss_cons (ps_set (i := 1) scMk.nd rfl (.inl rfl) (pe_op op_cat (pv 1) (pe_lst (pa_cons (pe_callB call_isX (by rfl) T.isi boot_isinstance (pa_cons (pv 0) (pa_cons (pe_glob (v := .ref (A 23)) (by rfl) T.g23 rfl) pa_nil))) (pa_cons (pe_callB call_isX (by rfl) T.isi boot_isinstance (pa_cons (pv 0) (pa_cons (pe_glob (v := .ref (A 24)) (by rfl) T.g24 rfl) pa_nil))) (pa_cons (pe_callB call_isX (by rfl) T.isi boot_isinstance (pa_cons (pv 0) (pa_cons (pe_glob (v := .ref (A 25)) (by rfl) T.g25 rfl) pa_nil))) pa_nil))))))
      (pss_cons (ps_set (i := 1) scMk.nd rfl (.inl rfl) (pe_op op_cat (pv 1) (pe_lst (pa_cons (pe_callB call_isX (by rfl) T.isi boot_isinstance (pa_cons (pv 0) (pa_cons (pe_glob (v := .ref (A 26)) (by rfl) T.g26 rfl) pa_nil))) (pa_cons (pe_callB call_isX (by rfl) T.isi boot_isinstance (pa_cons (pv 0) (pa_cons (pe_glob (v := .ref (A 27)) (by rfl) T.g27 rfl) pa_nil))) (pa_cons (pe_callB call_isX (by rfl) T.isi boot_isinstance (pa_cons (pv 0) (pa_cons (pe_glob (v := .ref (A 28)) (by rfl) T.g28 rfl) pa_nil))) pa_nil))))))
      (pss_one (ps_ret (pe_op op_cat (pe_op op_cat (pe_call GP hr (by rfl) gP FP.kp bP .nil pass0 (pa_cons (pv 0) pa_nil)) (pv 1)) (pe_lst (pa_cons (pe_callB call_isX (by rfl) T.isi boot_isinstance (pa_cons (pv 0) (pa_cons (pe_glob (v := .ref (A 29)) (by rfl) T.g29 rfl) pa_nil))) (pa_cons (pe_callB call_isX (by rfl) T.isi boot_isinstance (pa_cons (pv 0) (pa_cons (pe_glob (v := .ref (A 30)) (by rfl) T.g30 rfl) pa_nil))) pa_nil))))))))), ?_⟩
    refine go_asg (rd_isL (js := [17, 18, 19]) T hi hx (by rfl) (by decide) (by decide) fun p1 H1 n1 s1 l1 => ?_)
    refine go_asg (rd_isC (is := [17, 18, 19]) (js := [20, 21, 22]) T hi (hx.mono s1) (by rfl) (by rfl) l1 (by decide) (by decide) (by decide) fun p2 H2 n2 t2 l2 => ?_)
    have s2 := s1.trans t2
    refine go_asg (rd_isC (is := [17, 18, 19, 20, 21, 22]) (js := [23, 24, 25]) T hi (hx.mono s2) (by rfl) (by rfl) l2 (by decide) (by decide) (by decide) fun p3 H3 n3 t3 l3 => ?_)
    have s3 := s2.trans t3
    refine go_asg (rd_isC (is := [17, 18, 19, 20, 21, 22, 23, 24, 25]) (js := [26, 27, 28]) T hi (hx.mono s3) (by rfl) (by rfl) l3 (by decide) (by decide) (by decide) fun p4 H4 n4 t4 l4 => ?_)
    have s4 := s3.trans t4
    -- _law_plain_marks(error) + found + [..]
    refine go_ret ⟨.ref a, rfl, a, i, rfl, hi, hx.mono s4, fun pm Hm nm tm lm => ?_⟩
    refine ⟨.ref p4, rfl, pm, p4, _, _, rfl, rfl, lm, tm _ _ l4, by rw [List.length_map, List.length_map]; decide, fun pc nc => ?_⟩
    have tc := same_upd (o := HO.lst (jsP.map (mk i) ++ ([17, 18, 19, 20, 21, 22, 23, 24, 25, 26, 27, 28] : List Nat).map (mk i))) nc
    have sm := (s4.trans tm).trans tc
    refine rd_isL (js := [29, 30]) T hi (hx.mono sm) (by rfl) (by decide) (by decide) fun pl Hl nl tl ll => ?_
    refine ⟨pc, pl, _, _, rfl, rfl, tl _ _ upd_same, ll, by rw [List.length_append, List.length_map, List.length_map, List.length_map]; decide, fun pz nz => ?_⟩
    refine q _ _ (sm.free (tl.free nz)) (sm.trans (tl.trans (same_upd nz))) ?_
    rw [upd_same, ← List.map_append, ← List.map_append]
    rfl
/-! ### errors without an attribute -/
inductive Exs (A : Nat → Addr) (H : Hp) : List V → List Nat → Prop
  | nil : Exs A H [] []
  | cons {a : Addr} {j : Nat} {vs : List V} {js : List Nat} : ExAt H a (A j) → Exs A H vs js → Exs A H (.ref a :: vs) (j :: js)
theorem Exs.mono {H H' : Hp} {vs : List V} {js : List Nat} (h : Exs A H vs js) (s : Same H H') : Exs A H' vs js := by
  induction h with
  | nil => exact .nil
  | cons x _ ih => exact .cons (x.mono s) ih
theorem Exs.append {H : Hp} {vs us : List V} {js is : List Nat} (h : Exs A H vs js) (g : Exs A H us is) : Exs A H (vs ++ us) (js ++ is) := by
  induction h with
  | nil => exact g
  | cons x _ ih => exact .cons x ih
theorem Exs.length {H : Hp} {vs : List V} {js : List Nat} (h : Exs A H vs js) : vs.length = js.length := by
  induction h with
  | nil => rfl
  | cons _ _ ih => rw [List.length_cons, List.length_cons, ih]
theorem Exs.at {H : Hp} {vs : List V} {js : List Nat} (h : Exs A H vs js) : ∀ {i : Nat} {v : V}, vs[i]? = some v → ∃ a j, v = .ref a ∧ js[i]? = some j ∧ ExAt H a (A j) := by
  induction h with
  | nil => intro i v e; simp at e
  | @cons a j vs js x _ ih =>
    intro i v e
    cases i with
    | zero => exact ⟨a, j, (Option.some.inj e).symm, rfl, x⟩
    | succ i => exact ih e
def taMp (A : Nat → Addr) : List Nat → TA
  | [] => tNil
  | j :: js => tCons (tMp (A j) (tC (.str "no"))) (taMp A js)
theorem rd_mp {σ : L2.St} : ∀ (js : List Nat) (H : Hp) (Q : List V → Hp → Prop), (∀ vs H', Same H H' → Exs A H' vs js → Q vs H') → taMp A js σ H Q
  | [], H, Q, q => q [] H (Same.refl H) .nil
  | j :: js, H, Q, q => fun a H1 _ s1 x1 => rd_mp js H1 _ fun vs H' s2 xs => q _ H' (s1.trans s2) (.cons (x1.mono s2) xs)
theorem rd_mpL {σ : L2.St} {H : Hp} (js : List Nat) (hl : js.length ≤ 100) {Q : VK} (k : ∀ p H' vs, H p = none → Same H H' → Exs A H' vs js → H' p = some (.lst vs) → Q (.ref p) H') : tLst (taMp A js) σ H Q :=
  rd_mp js H _ fun vs H1 s1 xs => ⟨by rw [xs.length, sizeLine_eq]; omega, fun p np => k p _ vs (s1.free np) (s1.trans (same_upd np)) (xs.mono (same_upd np)) upd_same⟩
theorem mono_mp (js : List Nat) : MonoA (taMp A js) := by
  induction js with
  | nil => exact mono_nil
  | cons j js ih => exact mono_cons (fun σ H Q Q' k q a H' n s x => k _ _ (q a H' n s x)) ih
theorem rd_mpC {σ : L2.St} {H : Hp} {m : Nat} {p : Addr} {us : List V} {is : List Nat} (hm : σ[m]? = some (some (.ref p))) (hp : H p = some (.lst us)) (hu : Exs A H us is) (hz : is.length ≤ 100) (js : List Nat) (hl : js.length ≤ 100) {Q : VK}
    (k : ∀ p H' vs, H p = none → Same H H' → Exs A H' vs (is ++ js) → H' p = some (.lst vs) → Q (.ref p) H') : tOp rCat (tVar m) (tLst (taMp A js)) σ H Q :=
  rd_cat hm hp (by rw [hu.length]; omega) (rd_mpL js hl fun b H1 vs nb s1 xs hb => ⟨b, _, rfl, s1, hb, by rw [xs.length]; omega, fun p' H' n' s' h' => k p' H' _ (s1.free n') (s1.trans s') (((hu.mono s1).append xs).mono s') h'⟩) (mono_lst (mono_mp js))
theorem scPl : FnScope ["found"] [] (defScope s_plain) := ⟨rfl, rfl, rfl, by decide +kernel, rfl, by decide +kernel, by decide +kernel⟩
def spPl (A : Nat → Addr) : Sp := fun vs H Q _ => vs = [] ∧ ∀ p H' us, H p = none → Same H H' → Exs A H' us jsP → H' p = some (.lst us) → Q (.ref p) H'
theorem ok_plain {f : Addr} {fdd : FuncData} {k : Nat} (F : Fun K "_law_plain" "_law_plain" s_plain f fdd) (T : Errs K mg A B fd) : FnOk P w K mg base CX0 (k + 1) f fdd [] (spPl A) := by
  refine F.ok scPl (fun vs H Q E h => ?_) (fun cdv Z outer s H vs Q E hr h => ?_)
  · obtain ⟨rfl, _⟩ := h
    rfl
  · obtain ⟨rfl, q⟩ := h
    refine ⟨_, pss_cons (ps_set (i := 0) scPl.nd rfl (.inl rfl) (pe_lst (pa_cons (pe_mp (T.ex 1 (by decide)) T.g1 (T.kp 1 (by decide)) (by rfl) pe_str mono_c) (pa_cons (pe_mp (T.ex 2 (by decide)) T.g2 (T.kp 2 (by decide)) (by rfl) pe_str mono_c) (pa_cons (pe_mp (T.ex 3 (by decide)) T.g3 (T.kp 3 (by decide)) (by rfl) pe_str mono_c) (pa_cons (pe_mp (T.ex 4 (by decide)) T.g4 (T.kp 4 (by decide)) (by rfl) pe_str mono_c) (pa_cons (pe_mp (T.ex 5 (by decide)) T.g5 (T.kp 5 (by decide)) (by rfl) pe_str mono_c) (pa_cons (pe_mp (T.ex 6 (by decide)) T.g6 (T.kp 6 (by decide)) (by rfl) pe_str mono_c) pa_nil))))))))
      (pss_cons (ps_set (i := 0) scPl.nd rfl (.inl rfl) (pe_op op_cat (pv 0) (pe_lst (pa_cons (pe_mp (T.ex 7 (by decide)) T.g7 (T.kp 7 (by decide)) (by rfl) pe_str mono_c) (pa_cons (pe_mp (T.ex 8 (by decide)) T.g8 (T.kp 8 (by decide)) (by rfl) pe_str mono_c) (pa_cons (pe_mp (T.ex 9 (by decide)) T.g9 (T.kp 9 (by decide)) (by rfl) pe_str mono_c) (pa_cons (pe_mp (T.ex 10 (by decide)) T.g10 (T.kp 10 (by decide)) (by rfl) pe_str mono_c) (pa_cons (pe_mp (T.ex 11 (by decide)) T.g11 (T.kp 11 (by decide)) (by rfl) pe_str mono_c) (pa_cons (pe_mp (T.ex 12 (by decide)) T.g12 (T.kp 12 (by decide)) (by rfl) pe_str mono_c) pa_nil)))))))))
      (pss_one (ps_ret (pe_op op_cat (pv 0) (pe_lst (pa_cons (pe_mp (T.ex 13 (by decide)) T.g13 (T.kp 13 (by decide)) (by rfl) pe_str mono_c) (pa_cons (pe_mp (T.ex 14 (by decide)) T.g14 (T.kp 14 (by decide)) (by rfl) pe_str mono_c) (pa_cons (pe_mp (T.ex 15 (by decide)) T.g15 (T.kp 15 (by decide)) (by rfl) pe_str mono_c) (pa_cons (pe_mp (T.ex 16 (by decide)) T.g16 (T.kp 16 (by decide)) (by rfl) pe_str mono_c) pa_nil))))))))), ?_⟩
    refine go_asg (rd_mpL [1, 2, 3, 4, 5, 6] (by decide) fun p1 H1 v1 n1 s1 x1 l1 => ?_)
    refine go_asg (rd_mpC (by rfl) l1 x1 (by decide) [7, 8, 9, 10, 11, 12] (by decide) fun p2 H2 v2 n2 s2 x2 l2 => ?_)
    refine go_ret (rd_mpC (by rfl) l2 x2 (by decide) [13, 14, 15, 16] (by decide) fun p3 H3 v3 n3 s3 x3 l3 => ?_)
    exact q p3 H3 v3 (s1.free (s2.free n3)) ((s1.trans s2).trans s3) x3 l3
/-! ### errors with an attribute -/
def taPos (K : PySem.W.Frag) (A : Nat → Addr) : List Nat → TA
  | [] => tNil
  | j :: js => tCons (tXfV K (fl j) (tMd (A j) (fl j) (tCons (tVar 0) tNil))) (taPos K A js)
theorem rd_pos (T : Errs K mg A B fd) {x : V} {σ : L2.St} (hs : σ[0]? = some (some x)) : ∀ (js : List Nat), (∀ j ∈ js, 17 ≤ j ∧ j < 31) → ∀ (H : Hp) (Q : List V → Hp → Prop), (∀ H', Same H H' → Q (js.map fun _ => x) H') → taPos K A js σ H Q
  | [], _, H, Q, q => q H (Same.refl H)
  | j :: js, hj, H, Q, q => by
    obtain ⟨h1, h2⟩ := hj j (List.mem_cons_self ..)
    refine ⟨x, hs, x, rfl, fun a H1 _ s1 x1 => ?_⟩
    obtain ⟨d, e1, e2⟩ := x1
    refine ⟨a, A j, d, _, x, rfl, T.xc j h2, T.hd j h1 h2, T.no j h1 h2, e1, e2, by simp [List.lookup], ?_⟩
    exact rd_pos T hs js (fun y hy => hj y (List.mem_cons_of_mem _ hy)) H1 _ fun H' s2 => q H' (s1.trans s2)
theorem mono_md {C : Addr} {f : Str} {ta : TA} (h : MonoA ta) : MonoE (tMd C f ta) := fun σ H Q Q' k q => h σ H _ _ (fun vs H1 ⟨x, e, z⟩ => ⟨x, e, fun a H' n s y => k _ _ (z a H' n s y)⟩) q
theorem mono_xf {f : Str} {te : TE} (h : MonoE te) : MonoE (tXfV K f te) := fun σ H Q Q' k q => h σ H _ _ (fun v H1 ⟨a, C, d, fs, y, h1, h2, h3, h4, h5, h6, h7, z⟩ => ⟨a, C, d, fs, y, h1, h2, h3, h4, h5, h6, h7, k _ _ z⟩) q
theorem mono_pos (js : List Nat) : MonoA (taPos K A js) := by
  induction js with
  | nil => exact mono_nil
  | cons j js ih => exact mono_cons (mono_xf (mono_md (mono_cons mono_var mono_nil))) ih
theorem rd_posL (T : Errs K mg A B fd) {x : V} {σ : L2.St} {H : Hp} (hs : σ[0]? = some (some x)) (js : List Nat) (hj : ∀ j ∈ js, 17 ≤ j ∧ j < 31) (hl : js.length ≤ 100) {Q : VK} (k : ∀ p H', H p = none → Same H H' → H' p = some (.lst (js.map fun _ => x)) → Q (.ref p) H') : tLst (taPos K A js) σ H Q :=
  rd_pos T hs js hj H _ fun H1 s1 => ⟨by rw [List.length_map, sizeLine_eq]; omega, fun p np => k p _ (s1.free np) (s1.trans (same_upd np)) upd_same⟩
theorem rd_posC (T : Errs K mg A B fd) {x : V} {σ : L2.St} {H : Hp} (hs : σ[0]? = some (some x)) {m : Nat} {p : Addr} {is : List Nat} (hm : σ[m]? = some (some (.ref p))) (hp : H p = some (.lst (is.map fun _ => x))) (hz : is.length ≤ 100) (js : List Nat) (hj : ∀ j ∈ js, 17 ≤ j ∧ j < 31) (hl : js.length ≤ 100) {Q : VK}
    (k : ∀ p H', H p = none → Same H H' → H' p = some (.lst ((is ++ js).map fun _ => x)) → Q (.ref p) H') : tOp rCat (tVar m) (tLst (taPos K A js)) σ H Q :=
  rd_cat hm hp (by rw [List.length_map]; omega) (rd_posL T hs js hj hl fun b H1 nb s1 hb => ⟨b, _, rfl, s1, hb, by rw [List.length_map]; omega, fun p' H' n' s' h' => k p' H' (s1.free n') (s1.trans s') (by rw [h', List.map_append])⟩) (mono_lst (mono_pos js))
theorem scPs : FnScope ["x", "found"] ["x"] (defScope s_by_position) := ⟨rfl, rfl, rfl, by decide +kernel, rfl, by decide +kernel, by decide +kernel⟩
def spPs : Sp := fun vs H Q _ => ∃ x : V, vs = [x] ∧ ∀ p H', H p = none → Same H H' → H' p = some (.lst (jsO.map fun _ => x)) → Q (.ref p) H'
theorem ok_by_position {f : Addr} {fdd : FuncData} (F : Fun K "_law_by_position" "_law_by_position" s_by_position f fdd) (T : Errs K mg A B fd) : FnOk P w K mg base CX0 3 f fdd ["x"] spPs := by
  refine F.ok scPs (fun vs H Q E h => ?_) (fun cdv Z outer s H vs Q E hr h => ?_)
  · obtain ⟨x, rfl, _⟩ := h
    rfl
  · obtain ⟨x, rfl, q⟩ := h
    refine ⟨_, pss_cons (ps_set (i := 1) scPs.nd rfl (.inl rfl) (pe_lst (pa_cons (pe_xfV (pe_md1 (T.ox 17 (by decide) (by decide)) (T.ini 17 (by decide) (by decide)) (T.tyi 17 (by decide) (by decide)) (ok_BadCall T) hr (bn_BadCall T) (by rfl) T.g17 (pa_cons (pv 0) pa_nil) (mono_cons mono_var mono_nil))) (pa_cons (pe_xfV (pe_md1 (T.ox 18 (by decide) (by decide)) (T.ini 18 (by decide) (by decide)) (T.tyi 18 (by decide) (by decide)) (ok_BadPlan T) hr (bn_BadPlan T) (by rfl) T.g18 (pa_cons (pv 0) pa_nil) (mono_cons mono_var mono_nil))) (pa_cons (pe_xfV (pe_md1 (T.ox 19 (by decide) (by decide)) (T.ini 19 (by decide) (by decide)) (T.tyi 19 (by decide) (by decide)) (ok_NoName T) hr (bn_NoName T) (by rfl) T.g19 (pa_cons (pv 0) pa_nil) (mono_cons mono_var mono_nil))) (pa_cons (pe_xfV (pe_md1 (T.ox 20 (by decide) (by decide)) (T.ini 20 (by decide) (by decide)) (T.tyi 20 (by decide) (by decide)) (ok_BadRecord T) hr (bn_BadRecord T) (by rfl) T.g20 (pa_cons (pv 0) pa_nil) (mono_cons mono_var mono_nil))) pa_nil))))))
      (pss_cons (ps_set (i := 1) scPs.nd rfl (.inl rfl) (pe_op op_cat (pv 1) (pe_lst (pa_cons (pe_xfV (pe_md1 (T.ox 21 (by decide) (by decide)) (T.ini 21 (by decide) (by decide)) (T.tyi 21 (by decide) (by decide)) (ok_BadMove T) hr (bn_BadMove T) (by rfl) T.g21 (pa_cons (pv 0) pa_nil) (mono_cons mono_var mono_nil))) (pa_cons (pe_xfV (pe_md1 (T.ox 22 (by decide) (by decide)) (T.ini 22 (by decide) (by decide)) (T.tyi 22 (by decide) (by decide)) (ok_BadResult T) hr (bn_BadResult T) (by rfl) T.g22 (pa_cons (pv 0) pa_nil) (mono_cons mono_var mono_nil))) (pa_cons (pe_xfV (pe_md1 (T.ox 23 (by decide) (by decide)) (T.ini 23 (by decide) (by decide)) (T.tyi 23 (by decide) (by decide)) (ok_BadRule T) hr (bn_BadRule T) (by rfl) T.g23 (pa_cons (pv 0) pa_nil) (mono_cons mono_var mono_nil))) (pa_cons (pe_xfV (pe_md1 (T.ox 24 (by decide) (by decide)) (T.ini 24 (by decide) (by decide)) (T.tyi 24 (by decide) (by decide)) (ok_Faulted T) hr (bn_Faulted T) (by rfl) T.g24 (pa_cons (pv 0) pa_nil) (mono_cons mono_var mono_nil))) pa_nil)))))))
      (pss_cons (ps_set (i := 1) scPs.nd rfl (.inl rfl) (pe_op op_cat (pv 1) (pe_lst (pa_cons (pe_xfV (pe_md1 (T.ox 25 (by decide) (by decide)) (T.ini 25 (by decide) (by decide)) (T.tyi 25 (by decide) (by decide)) (ok_Unexpected T) hr (bn_Unexpected T) (by rfl) T.g25 (pa_cons (pv 0) pa_nil) (mono_cons mono_var mono_nil))) (pa_cons (pe_xfV (pe_md1 (T.ox 26 (by decide) (by decide)) (T.ini 26 (by decide) (by decide)) (T.tyi 26 (by decide) (by decide)) (ok_Undecided T) hr (bn_Undecided T) (by rfl) T.g26 (pa_cons (pv 0) pa_nil) (mono_cons mono_var mono_nil))) (pa_cons (pe_xfV (pe_md1 (T.ox 27 (by decide) (by decide)) (T.ini 27 (by decide) (by decide)) (T.tyi 27 (by decide) (by decide)) (ok_Missing T) hr (bn_Missing T) (by rfl) T.g27 (pa_cons (pv 0) pa_nil) (mono_cons mono_var mono_nil))) pa_nil))))))
      (pss_one (ps_ret (pe_op op_cat (pv 1) (pe_lst (pa_cons (pe_xfV (pe_md1 (T.ox 28 (by decide) (by decide)) (T.ini 28 (by decide) (by decide)) (T.tyi 28 (by decide) (by decide)) (ok_NoPlace T) hr (bn_NoPlace T) (by rfl) T.g28 (pa_cons (pv 0) pa_nil) (mono_cons mono_var mono_nil))) (pa_cons (pe_xfV (pe_md1 (T.ox 29 (by decide) (by decide)) (T.ini 29 (by decide) (by decide)) (T.tyi 29 (by decide) (by decide)) (ok_BadName T) hr (bn_BadName T) (by rfl) T.g29 (pa_cons (pv 0) pa_nil) (mono_cons mono_var mono_nil))) (pa_cons (pe_xfV (pe_md1 (T.ox 30 (by decide) (by decide)) (T.ini 30 (by decide) (by decide)) (T.tyi 30 (by decide) (by decide)) (ok_BadText T) hr (bn_BadText T) (by rfl) T.g30 (pa_cons (pv 0) pa_nil) (mono_cons mono_var mono_nil))) pa_nil))))))))), ?_⟩
    refine go_asg (rd_posL T (by rfl) [17, 18, 19, 20] (by decide) (by decide) fun p1 H1 n1 s1 l1 => ?_)
    refine go_asg (rd_posC (is := [17, 18, 19, 20]) T (by rfl) (by rfl) l1 (by decide) [21, 22, 23, 24] (by decide) (by decide) fun p2 H2 n2 s2 l2 => ?_)
    refine go_asg (rd_posC (is := [17, 18, 19, 20, 21, 22, 23, 24]) T (by rfl) (by rfl) l2 (by decide) [25, 26, 27] (by decide) (by decide) fun p3 H3 n3 s3 l3 => ?_)
    refine go_ret (rd_posC (is := [17, 18, 19, 20, 21, 22, 23, 24, 25, 26, 27]) T (by rfl) (by rfl) l3 (by decide) [28, 29, 30] (by decide) (by decide) fun p4 H4 n4 s4 l4 => ?_)
    exact q p4 H4 (s1.free (s2.free (s3.free n4))) (((s1.trans s2).trans s3).trans s4) l4
end
end Ck
namespace Ck
open PySem PySem.Spec PyProof.Rows L2
section
variable {P : Program} {w : World} {K : PySem.W.Frag} {mg : Str → Option Value} {base : Heap} {A B : Nat → Addr} {fd : Nat → FuncData}
/-! ### errors by the attribute's name, in pairs with what it holds -/
inductive Rws (A : Nat → Addr) (x : V) (H : Hp) : List V → List Nat → Prop
  | nil : Rws A x H [] []
  | cons {t a : Addr} {j : Nat} {vs : List V} {js : List Nat} : H t = some (.tup [.ref a, x]) → ExAt H a (A j) → Rws A x H vs js → Rws A x H (.ref t :: vs) (j :: js)
theorem Rws.mono {x : V} {H H' : Hp} {vs : List V} {js : List Nat} (h : Rws A x H vs js) (s : Same H H') : Rws A x H' vs js := by
  induction h with
  | nil => exact .nil
  | cons e y _ ih => exact .cons (s _ _ e) (y.mono s) ih
theorem Rws.append {x : V} {H : Hp} {vs us : List V} {js is : List Nat} (h : Rws A x H vs js) (g : Rws A x H us is) : Rws A x H (vs ++ us) (js ++ is) := by
  induction h with
  | nil => exact g
  | cons e y _ ih => exact .cons e y ih
theorem Rws.length {x : V} {H : Hp} {vs : List V} {js : List Nat} (h : Rws A x H vs js) : vs.length = js.length := by
  induction h with
  | nil => rfl
  | cons _ _ _ ih => rw [List.length_cons, List.length_cons, ih]
theorem Rws.at {x : V} {H : Hp} {vs : List V} {js : List Nat} (h : Rws A x H vs js) : ∀ {i : Nat} {v : V}, vs[i]? = some v → ∃ t a j, v = .ref t ∧ H t = some (.tup [.ref a, x]) ∧ js[i]? = some j ∧ ExAt H a (A j) := by
  induction h with
  | nil => intro i v e; simp at e
  | @cons t a j vs js e y _ ih =>
    intro i v z
    cases i with
    | zero => exact ⟨t, a, j, (Option.some.inj z).symm, e, rfl, y⟩
    | succ i => exact ih z
def taRw (K : PySem.W.Frag) : List (Nat × Nat) → TA
  | [] => tNil
  | p :: r => tCons (tTup (tCons (tVar p.1) (tCons (tXfV K (fl p.2) (tVar p.1)) tNil))) (taRw K r)
theorem rd_rw (T : Errs K mg A B fd) {x : V} {σ : L2.St} : ∀ (l : List (Nat × Nat)) (H : Hp), (∀ p ∈ l, 17 ≤ p.2 ∧ p.2 < 31 ∧ ∃ a, σ[p.1]? = some (some (.ref a)) ∧ HasF H a (A p.2) (fl p.2) x) →
    ∀ Q : List V → Hp → Prop, (∀ vs H', Same H H' → Rws A x H' vs (l.map (·.2)) → Q vs H') → taRw K l σ H Q
  | [], H, _, Q, q => q [] H (Same.refl H) .nil
  | p :: r, H, h, Q, q => by
    obtain ⟨h1, h2, a, hs, hf⟩ := h p (List.mem_cons_self ..)
    obtain ⟨d, e1, e2⟩ := id hf
    refine ⟨.ref a, hs, .ref a, hs, a, A p.2, d, _, x, rfl, T.xc _ h2, T.hd _ h1 h2, T.no _ h1 h2, e1, e2, by simp [List.lookup], (by show 2 ≤ sizeLine; decide), fun t nt => ?_⟩
    have s1 := same_upd (o := HO.tup [V.ref a, x]) nt
    refine rd_rw T r _ (fun y hy => ?_) _ fun vs H' s2 rs => q _ H' (s1.trans s2) (.cons (s2 _ _ upd_same) ((hf.mono s1).at.mono s2) rs)
    obtain ⟨g1, g2, b, gs, gf⟩ := h y (List.mem_cons_of_mem _ hy)
    exact ⟨g1, g2, b, gs, gf.mono s1⟩
theorem mono_rw (l : List (Nat × Nat)) : MonoA (taRw K l) := by
  induction l with
  | nil => exact mono_nil
  | cons p r ih =>
    refine mono_cons (fun σ H Q Q' k q => mono_cons mono_var (mono_cons (mono_xf mono_var) mono_nil) σ H _ _ (fun vs H1 z => ⟨z.1, fun t nt => k _ _ (z.2 t nt)⟩) q) ih
theorem rd_rwL (T : Errs K mg A B fd) {x : V} {σ : L2.St} {H : Hp} (l : List (Nat × Nat)) (h : ∀ p ∈ l, 17 ≤ p.2 ∧ p.2 < 31 ∧ ∃ a, σ[p.1]? = some (some (.ref a)) ∧ HasF H a (A p.2) (fl p.2) x) (hl : l.length ≤ 100) {Q : VK}
    (k : ∀ p H' vs, H p = none → Same H H' → Rws A x H' vs (l.map (·.2)) → H' p = some (.lst vs) → Q (.ref p) H') : tLst (taRw K l) σ H Q :=
  rd_rw T l H h _ fun vs H1 s1 rs => ⟨by rw [rs.length, List.length_map, sizeLine_eq]; omega, fun p np => k p _ vs (s1.free np) (s1.trans (same_upd np)) (rs.mono (same_upd np)) upd_same⟩
theorem rd_rwC (T : Errs K mg A B fd) {x : V} {σ : L2.St} {H : Hp} {m : Nat} {p : Addr} {us : List V} {is : List Nat} (hm : σ[m]? = some (some (.ref p))) (hp : H p = some (.lst us)) (hu : Rws A x H us is) (hz : is.length ≤ 100)
    (l : List (Nat × Nat)) (h : ∀ p ∈ l, 17 ≤ p.2 ∧ p.2 < 31 ∧ ∃ a, σ[p.1]? = some (some (.ref a)) ∧ HasF H a (A p.2) (fl p.2) x) (hl : l.length ≤ 100) {Q : VK}
    (k : ∀ p H' vs, H p = none → Same H H' → Rws A x H' vs (is ++ l.map (·.2)) → H' p = some (.lst vs) → Q (.ref p) H') : tOp rCat (tVar m) (tLst (taRw K l)) σ H Q :=
  rd_cat hm hp (by rw [hu.length]; omega) (rd_rwL T l h hl fun b H1 vs nb s1 xs hb => ⟨b, _, rfl, s1, hb, by rw [xs.length, List.length_map]; omega, fun p' H' n' s' h' => k p' H' _ (s1.free n') (s1.trans s') (((hu.mono s1).append xs).mono s') h'⟩) (mono_lst (mono_rw l))
theorem scBn : FnScope ["x", "first", "second", "third", "found"] ["x"] (defScope s_by_name) := ⟨rfl, rfl, rfl, by decide +kernel, rfl, by decide +kernel, by decide +kernel⟩
def spBn (A : Nat → Addr) : Sp := fun vs H Q _ => ∃ x : V, vs = [x] ∧ ∀ p H' us, H p = none → Same H H' → Rws A x H' us jsO → H' p = some (.lst us) → Q (.ref p) H'
theorem jsO_eq : ([17, 18, 19] ++ [20, 21, 22] ++ [23, 24, 25] ++ [26, 27, 28] ++ [29, 30] : List Nat) = jsO := rfl
theorem ok_by_name {f : Addr} {fdd : FuncData} (F : Fun K "_law_by_name" "_law_by_name" s_by_name f fdd) (T : Errs K mg A B fd) : FnOk P w K mg base CX0 3 f fdd ["x"] (spBn A) := by
  refine F.ok scBn (fun vs H Q E h => ?_) (fun cdv Z outer s H vs Q E hr h => ?_)
  · obtain ⟨x, rfl, _⟩ := h
    rfl
  · obtain ⟨x, rfl, q⟩ := h
    refine ⟨_, pss_cons (ps_par3 (i := 1) (j := 2) (l := 3) rfl scBn.nd rfl rfl rfl (by decide) (by decide) (by decide) rfl rfl rfl (pa_cons (pe_mdK (T.ox 17 (by decide) (by decide)) (T.ini 17 (by decide) (by decide)) (T.tyi 17 (by decide) (by decide)) (ok_BadCall T) hr (bk_BadCall T) (by rfl) T.g17 (pk_cons (pv 0) pk_nil) (mono_cons mono_var mono_nil)) (pa_cons (pe_mdK (T.ox 18 (by decide) (by decide)) (T.ini 18 (by decide) (by decide)) (T.tyi 18 (by decide) (by decide)) (ok_BadPlan T) hr (bk_BadPlan T) (by rfl) T.g18 (pk_cons (pv 0) pk_nil) (mono_cons mono_var mono_nil)) (pa_cons (pe_mdK (T.ox 19 (by decide) (by decide)) (T.ini 19 (by decide) (by decide)) (T.tyi 19 (by decide) (by decide)) (ok_NoName T) hr (bk_NoName T) (by rfl) T.g19 (pk_cons (pv 0) pk_nil) (mono_cons mono_var mono_nil)) pa_nil))) (by rfl))
      (pss_cons (ps_set (i := 4) scBn.nd rfl (.inl rfl) (pe_lst (pa_cons (pe_tup (pa_cons (pv 1) (pa_cons (pe_xfV (pv 1)) pa_nil))) (pa_cons (pe_tup (pa_cons (pv 2) (pa_cons (pe_xfV (pv 2)) pa_nil))) (pa_cons (pe_tup (pa_cons (pv 3) (pa_cons (pe_xfV (pv 3)) pa_nil))) pa_nil)))))
      (pss_cons (ps_par3 (i := 1) (j := 2) (l := 3) rfl scBn.nd rfl rfl rfl (by decide) (by decide) (by decide) rfl rfl rfl (pa_cons (pe_mdK (T.ox 20 (by decide) (by decide)) (T.ini 20 (by decide) (by decide)) (T.tyi 20 (by decide) (by decide)) (ok_BadRecord T) hr (bk_BadRecord T) (by rfl) T.g20 (pk_cons (pv 0) pk_nil) (mono_cons mono_var mono_nil)) (pa_cons (pe_mdK (T.ox 21 (by decide) (by decide)) (T.ini 21 (by decide) (by decide)) (T.tyi 21 (by decide) (by decide)) (ok_BadMove T) hr (bk_BadMove T) (by rfl) T.g21 (pk_cons (pv 0) pk_nil) (mono_cons mono_var mono_nil)) (pa_cons (pe_mdK (T.ox 22 (by decide) (by decide)) (T.ini 22 (by decide) (by decide)) (T.tyi 22 (by decide) (by decide)) (ok_BadResult T) hr (bk_BadResult T) (by rfl) T.g22 (pk_cons (pv 0) pk_nil) (mono_cons mono_var mono_nil)) pa_nil))) (by rfl))
      (pss_cons (ps_set (i := 4) scBn.nd rfl (.inl rfl) (pe_op op_cat (pv 4) (pe_lst (pa_cons (pe_tup (pa_cons (pv 1) (pa_cons (pe_xfV (pv 1)) pa_nil))) (pa_cons (pe_tup (pa_cons (pv 2) (pa_cons (pe_xfV (pv 2)) pa_nil))) (pa_cons (pe_tup (pa_cons (pv 3) (pa_cons (pe_xfV (pv 3)) pa_nil))) pa_nil))))))
      (pss_cons (ps_par3 (i := 1) (j := 2) (l := 3) rfl scBn.nd rfl rfl rfl (by decide) (by decide) (by decide) rfl rfl rfl (pa_cons (pe_mdK (T.ox 23 (by decide) (by decide)) (T.ini 23 (by decide) (by decide)) (T.tyi 23 (by decide) (by decide)) (ok_BadRule T) hr (bk_BadRule T) (by rfl) T.g23 (pk_cons (pv 0) pk_nil) (mono_cons mono_var mono_nil)) (pa_cons (pe_mdK (T.ox 24 (by decide) (by decide)) (T.ini 24 (by decide) (by decide)) (T.tyi 24 (by decide) (by decide)) (ok_Faulted T) hr (bk_Faulted T) (by rfl) T.g24 (pk_cons (pv 0) pk_nil) (mono_cons mono_var mono_nil)) (pa_cons (pe_mdK (T.ox 25 (by decide) (by decide)) (T.ini 25 (by decide) (by decide)) (T.tyi 25 (by decide) (by decide)) (ok_Unexpected T) hr (bk_Unexpected T) (by rfl) T.g25 (pk_cons (pv 0) pk_nil) (mono_cons mono_var mono_nil)) pa_nil))) (by rfl))
      (pss_cons (ps_set (i := 4) scBn.nd rfl (.inl rfl) (pe_op op_cat (pv 4) (pe_lst (pa_cons (pe_tup (pa_cons (pv 1) (pa_cons (pe_xfV (pv 1)) pa_nil))) (pa_cons (pe_tup (pa_cons (pv 2) (pa_cons (pe_xfV (pv 2)) pa_nil))) (pa_cons (pe_tup (pa_cons (pv 3) (pa_cons (pe_xfV (pv 3)) pa_nil))) pa_nil))))))
      (pss_cons (ps_par3 (i := 1) (j := 2) (l := 3) rfl scBn.nd rfl rfl rfl (by decide) (by decide) (by decide) rfl rfl rfl (pa_cons (pe_mdK (T.ox 26 (by decide) (by decide)) (T.ini 26 (by decide) (by decide)) (T.tyi 26 (by decide) (by decide)) (ok_Undecided T) hr (bk_Undecided T) (by rfl) T.g26 (pk_cons (pv 0) pk_nil) (mono_cons mono_var mono_nil)) (pa_cons (pe_mdK (T.ox 27 (by decide) (by decide)) (T.ini 27 (by decide) (by decide)) (T.tyi 27 (by decide) (by decide)) (ok_Missing T) hr (bk_Missing T) (by rfl) T.g27 (pk_cons (pv 0) pk_nil) (mono_cons mono_var mono_nil)) (pa_cons (pe_mdK (T.ox 28 (by decide) (by decide)) (T.ini 28 (by decide) (by decide)) (T.tyi 28 (by decide) (by decide)) (ok_NoPlace T) hr (bk_NoPlace T) (by rfl) T.g28 (pk_cons (pv 0) pk_nil) (mono_cons mono_var mono_nil)) pa_nil))) (by rfl))
      (pss_cons (ps_set (i := 4) scBn.nd rfl (.inl rfl) (pe_op op_cat (pv 4) (pe_lst (pa_cons (pe_tup (pa_cons (pv 1) (pa_cons (pe_xfV (pv 1)) pa_nil))) (pa_cons (pe_tup (pa_cons (pv 2) (pa_cons (pe_xfV (pv 2)) pa_nil))) (pa_cons (pe_tup (pa_cons (pv 3) (pa_cons (pe_xfV (pv 3)) pa_nil))) pa_nil))))))
      (pss_cons (ps_par (i := 1) (j := 2) rfl scBn.nd rfl rfl (by decide) rfl rfl (pa_cons (pe_mdK (T.ox 29 (by decide) (by decide)) (T.ini 29 (by decide) (by decide)) (T.tyi 29 (by decide) (by decide)) (ok_BadName T) hr (bk_BadName T) (by rfl) T.g29 (pk_cons (pv 0) pk_nil) (mono_cons mono_var mono_nil)) (pa_cons (pe_mdK (T.ox 30 (by decide) (by decide)) (T.ini 30 (by decide) (by decide)) (T.tyi 30 (by decide) (by decide)) (ok_BadText T) hr (bk_BadText T) (by rfl) T.g30 (pk_cons (pv 0) pk_nil) (mono_cons mono_var mono_nil)) pa_nil)) (by rfl))
      (pss_one (ps_ret (pe_op op_cat (pv 4) (pe_lst (pa_cons (pe_tup (pa_cons (pv 1) (pa_cons (pe_xfV (pv 1)) pa_nil))) (pa_cons (pe_tup (pa_cons (pv 2) (pa_cons (pe_xfV (pv 2)) pa_nil))) pa_nil)))))))))))))), ?_⟩
    refine ⟨x, rfl, x, rfl, fun a0_1 H0_1 n0_1 s0_1 f0_1 => ⟨x, rfl, x, rfl, fun a0_2 H0_2 n0_2 s0_2 f0_2 => ⟨x, rfl, x, rfl, fun a0_3 H0_3 n0_3 s0_3 f0_3 => ⟨_, _, _, rfl, ?_⟩⟩⟩⟩
    have F0 : ∀ p ∈ ([(1, 17), (2, 18), (3, 19)] : List (Nat × Nat)), 17 ≤ p.2 ∧ p.2 < 31 ∧ ∃ a, ([some x, some (.ref a0_1), some (.ref a0_2), some (.ref a0_3), none] : L2.St)[p.1]? = some (some (.ref a)) ∧ HasF H0_3 a (A p.2) (fl p.2) x := fun p hp => by
      simp only [List.mem_cons, List.not_mem_nil, or_false] at hp
      rcases hp with rfl | rfl | rfl
      · exact ⟨by decide, by decide, _, rfl, ((f0_1.mono s0_2).mono s0_3)⟩
      · exact ⟨by decide, by decide, _, rfl, (f0_2.mono s0_3)⟩
      · exact ⟨by decide, by decide, _, rfl, f0_3⟩
    have S0 := ((s0_1.trans s0_2).trans s0_3)
    refine go_asg (rd_rwL T [(1, 17), (2, 18), (3, 19)] F0 (by decide) fun p0 G0 v0 m0 t0 r0 l0 => ?_)
    have U0 := S0.trans t0
    refine ⟨x, rfl, x, rfl, fun a1_1 H1_1 n1_1 s1_1 f1_1 => ⟨x, rfl, x, rfl, fun a1_2 H1_2 n1_2 s1_2 f1_2 => ⟨x, rfl, x, rfl, fun a1_3 H1_3 n1_3 s1_3 f1_3 => ⟨_, _, _, rfl, ?_⟩⟩⟩⟩
    have F1 : ∀ p ∈ ([(1, 20), (2, 21), (3, 22)] : List (Nat × Nat)), 17 ≤ p.2 ∧ p.2 < 31 ∧ ∃ a, ([some x, some (.ref a1_1), some (.ref a1_2), some (.ref a1_3), some (.ref p0)] : L2.St)[p.1]? = some (some (.ref a)) ∧ HasF H1_3 a (A p.2) (fl p.2) x := fun p hp => by
      simp only [List.mem_cons, List.not_mem_nil, or_false] at hp
      rcases hp with rfl | rfl | rfl
      · exact ⟨by decide, by decide, _, rfl, ((f1_1.mono s1_2).mono s1_3)⟩
      · exact ⟨by decide, by decide, _, rfl, (f1_2.mono s1_3)⟩
      · exact ⟨by decide, by decide, _, rfl, f1_3⟩
    have S1 := ((s1_1.trans s1_2).trans s1_3)
    refine go_asg (rd_rwC T (m := 4) (by rfl) (S1 _ _ l0) (r0.mono S1) (by decide) [(1, 20), (2, 21), (3, 22)] F1 (by decide) fun p1 G1 v1 m1 t1 r1 l1 => ?_)
    have U1 := (U0.trans S1).trans t1
    refine ⟨x, rfl, x, rfl, fun a2_1 H2_1 n2_1 s2_1 f2_1 => ⟨x, rfl, x, rfl, fun a2_2 H2_2 n2_2 s2_2 f2_2 => ⟨x, rfl, x, rfl, fun a2_3 H2_3 n2_3 s2_3 f2_3 => ⟨_, _, _, rfl, ?_⟩⟩⟩⟩
    have F2 : ∀ p ∈ ([(1, 23), (2, 24), (3, 25)] : List (Nat × Nat)), 17 ≤ p.2 ∧ p.2 < 31 ∧ ∃ a, ([some x, some (.ref a2_1), some (.ref a2_2), some (.ref a2_3), some (.ref p1)] : L2.St)[p.1]? = some (some (.ref a)) ∧ HasF H2_3 a (A p.2) (fl p.2) x := fun p hp => by
      simp only [List.mem_cons, List.not_mem_nil, or_false] at hp
      rcases hp with rfl | rfl | rfl
      · exact ⟨by decide, by decide, _, rfl, ((f2_1.mono s2_2).mono s2_3)⟩
      · exact ⟨by decide, by decide, _, rfl, (f2_2.mono s2_3)⟩
      · exact ⟨by decide, by decide, _, rfl, f2_3⟩
    have S2 := ((s2_1.trans s2_2).trans s2_3)
    refine go_asg (rd_rwC T (m := 4) (by rfl) (S2 _ _ l1) (r1.mono S2) (by decide) [(1, 23), (2, 24), (3, 25)] F2 (by decide) fun p2 G2 v2 m2 t2 r2 l2 => ?_)
    have U2 := (U1.trans S2).trans t2
    refine ⟨x, rfl, x, rfl, fun a3_1 H3_1 n3_1 s3_1 f3_1 => ⟨x, rfl, x, rfl, fun a3_2 H3_2 n3_2 s3_2 f3_2 => ⟨x, rfl, x, rfl, fun a3_3 H3_3 n3_3 s3_3 f3_3 => ⟨_, _, _, rfl, ?_⟩⟩⟩⟩
    have F3 : ∀ p ∈ ([(1, 26), (2, 27), (3, 28)] : List (Nat × Nat)), 17 ≤ p.2 ∧ p.2 < 31 ∧ ∃ a, ([some x, some (.ref a3_1), some (.ref a3_2), some (.ref a3_3), some (.ref p2)] : L2.St)[p.1]? = some (some (.ref a)) ∧ HasF H3_3 a (A p.2) (fl p.2) x := fun p hp => by
      simp only [List.mem_cons, List.not_mem_nil, or_false] at hp
      rcases hp with rfl | rfl | rfl
      · exact ⟨by decide, by decide, _, rfl, ((f3_1.mono s3_2).mono s3_3)⟩
      · exact ⟨by decide, by decide, _, rfl, (f3_2.mono s3_3)⟩
      · exact ⟨by decide, by decide, _, rfl, f3_3⟩
    have S3 := ((s3_1.trans s3_2).trans s3_3)
    refine go_asg (rd_rwC T (m := 4) (by rfl) (S3 _ _ l2) (r2.mono S3) (by decide) [(1, 26), (2, 27), (3, 28)] F3 (by decide) fun p3 G3 v3 m3 t3 r3 l3 => ?_)
    have U3 := (U2.trans S3).trans t3
    refine ⟨x, rfl, x, rfl, fun a4_1 H4_1 n4_1 s4_1 f4_1 => ⟨x, rfl, x, rfl, fun a4_2 H4_2 n4_2 s4_2 f4_2 => ⟨_, _, rfl, ?_⟩⟩⟩
    have F4 : ∀ p ∈ ([(1, 29), (2, 30)] : List (Nat × Nat)), 17 ≤ p.2 ∧ p.2 < 31 ∧ ∃ a, ([some x, some (.ref a4_1), some (.ref a4_2), some (.ref a3_3), some (.ref p3)] : L2.St)[p.1]? = some (some (.ref a)) ∧ HasF H4_2 a (A p.2) (fl p.2) x := fun p hp => by
      simp only [List.mem_cons, List.not_mem_nil, or_false] at hp
      rcases hp with rfl | rfl
      · exact ⟨by decide, by decide, _, rfl, (f4_1.mono s4_2)⟩
      · exact ⟨by decide, by decide, _, rfl, f4_2⟩
    have S4 := (s4_1.trans s4_2)
    refine go_ret (rd_rwC T (m := 4) (by rfl) (S4 _ _ l3) (r3.mono S4) (by decide) [(1, 29), (2, 30)] F4 (by decide) fun p4 G4 v4 m4 t4 r4 l4 => ?_)
    have U4 := (U3.trans S4).trans t4
    exact q p4 G4 v4 ((U3.trans S4).free m4) U4 r4 l4
end
end Ck
namespace Ck
open PySem PySem.Spec PyProof.Rows L2
/-! ### enumerate, lists of bools, small numbers -/
theorem for_enum {K : PySem.W.Frag} {a : Addr} {xs : List V} {g : TG} {tb : TS} {D : Ends} {σ : L2.St} {H : Hp} (Pv : Nat → L2.St → Hp → Prop) (h0 : Pv 0 σ H) (hl : ∀ i σ H, i ≤ xs.length → Pv i σ H → SqL K H a xs)
    (hs : ∀ i x T σ H, xs[i]? = some x → Pv i σ H → H T = none → g (.ref T) σ (upd H T (.tup [.int (i : Nat), x])) fun σ2 H2 => tb { D with nx := Pv (i + 1), ct := Pv (i + 1), bk := D.nx } σ2 H2) (hd : ∀ σ H, Pv xs.length σ H → D.nx σ H) :
    ∃ W : Nat → Nat → L2.St → Hp → Prop, (∃ m, W 0 m σ H) ∧ ∀ i m σ H, W i m σ H →
      ((Ite K a).stop i H ∧ D.nx σ H) ∨ ((Ite K a).go i H ∧ ∃ N : L2.St → Hp → Prop, (∀ σ' H', N σ' H' → ∃ m', m' < m ∧ W (i + 1) m' σ' H') ∧ ∀ x H', (Ite K a).yld i H x H' → g x σ H' fun σ2 H2 => tb { D with nx := N, ct := N, bk := D.nx } σ2 H2) := by
  refine ⟨fun i m σ H => m + i = xs.length ∧ Pv i σ H, ⟨xs.length, rfl, h0⟩, ?_⟩
  rintro i m σ H ⟨e, p⟩
  have q := hl i σ H (by omega) p
  by_cases c : i < xs.length
  · refine .inr ⟨⟨xs, xs[i], q, List.getElem?_eq_getElem c⟩, Pv (i + 1), fun σ' H' p' => ⟨m - 1, by omega, by omega, p'⟩, ?_⟩
    rintro x H' ⟨T, y, rfl, nT, rfl, hy⟩
    exact hs i y T σ H (hy xs q) p nT
  · have e2 : i = xs.length := by omega
    subst e2
    exact .inl ⟨⟨xs, q, Nat.le_refl _⟩, hd σ H p⟩
section
variable {K : PySem.W.Frag} {H : Hp}
theorem data_bls : ∀ bs : List Bool, DpAll K H (bs.map V.bl) (bs.map PyData.bool)
  | [] => .nil
  | b :: bs => .cons (.bl b) (data_bls bs)
end
theorem lay_bls : ∀ bs : List Bool, PyData.canLayAll0 (bs.map PyData.bool) = true
  | [] => rfl
  | b :: bs => by
    show (PyData.canLay0 (.bool b) && PyData.canLayAll0 (bs.map PyData.bool)) = true
    rw [lay_bls bs]
    rfl
theorem deep_bls : ∀ bs : List Bool, PyData.depthAll (bs.map PyData.bool) ≤ 1
  | [] => by decide
  | b :: bs => by
    have := deep_bls bs
    rw [List.map_cons]
    simp only [PyData.depthAll, PyData.depth]
    omega
theorem lays_bls (bs : List Bool) : PyData.canLay0 (.list (bs.map PyData.bool)) = true := by
  simp only [PyData.canLay0]
  exact lay_bls bs
theorem shaped_bls (bs : List Bool) : SeqAt.shaped (.list (bs.map PyData.bool)) = true := by
  have h2 := deep_bls bs
  unfold SeqAt.shaped
  rw [Bool.and_eq_true_iff]
  refine ⟨lays_bls bs, decide_eq_true ?_⟩
  simp only [PyData.depth]
  omega
def row (i : Nat) : List Bool := (List.range 30).map fun k => decide (i = k)
theorem all_js : jsP ++ jsO = (List.range 30).map (· + 1) := by decide
theorem marks_row (i : Nat) : (jsP ++ jsO).map (mk (i + 1)) = (row i).map V.bl := by
  rw [all_js]
  unfold row mk
  rw [List.map_map, List.map_map]
  refine List.map_congr_left fun k _ => ?_
  show V.bl (decide (i + 1 = k + 1)) = V.bl (decide (i = k))
  exact congrArg V.bl (decide_eq_decide.mpr (by omega))
theorem row_at (i k : Nat) (h : k < 30) : V.bl (decide (V.int (0 + (k : Int)) = V.int (i : Int))) = .bl (decide (i = k)) := by
  exact congrArg V.bl (decide_eq_decide.mpr ⟨fun z => by have := V.int.inj z; omega, fun z => by rw [z, Int.zero_add]⟩)
theorem row_take (i k : Nat) (h : k < 30) : ((row i).take (k + 1)).map V.bl = ((row i).take k).map V.bl ++ [.bl (decide (i = k))] := by
  have e : (row i)[k]? = some (decide (i = k)) := by
    unfold row
    rw [List.getElem?_map, List.getElem?_range h]
    rfl
  rw [take_snoc e, List.map_append]
  rfl
theorem log_small {i : Int} (h0 : 0 ≤ i) (h1 : i < 1000) : i.natAbs.log2 < 1920 := by
  by_cases e : i.natAbs = 0
  · rw [e]
    decide
  · have h2 : i.natAbs < 2 ^ 10 := by
      have : (2 : Nat) ^ 10 = 1024 := by decide
      omega
    have := (Nat.log2_lt e).mpr h2
    omega
theorem rp_int {K : PySem.W.Frag} {H : Hp} {i : Int} (h : i.natAbs.log2 < 1920) : ∃ z, Rp K H (.int i) z := ⟨_, .inl ⟨i, rfl, h, rfl⟩⟩
theorem rp_of {K : PySem.W.Frag} {H : Hp} {x : V} {d : PyData} (h : Dp K H x d) (h0 : d.hasDict = false) (h1 : d.showable = true) (h2 : d.depth ≤ 18) (h3 : d.shown.length ≤ sizeLine) : ∃ z, Rp K H x z := ⟨_, .inr ⟨d, .of h h0, h1, h2, h3, rfl⟩⟩
theorem same_upd2 {H : Hp} {p : Addr} {o o' : HO} (h : H p = none) : Same H (upd (upd H p o) p o') := fun b x e => by
  rw [upd_ne (ne_of_none e h), upd_ne (ne_of_none e h)]
  exact e
theorem Dr.off {H : Hp} {d g p : Addr} {n : Nat} (D : Dr H d g n) (h : H p = none) : p ≠ d ∧ p ≠ g := by
  obtain ⟨c, gs, cs, r, t, h1, h2, _⟩ := D.ex
  exact ⟨(ne_of_none h1 h).symm, (ne_of_none h2 h).symm⟩
theorem ExAt.put {H : Hp} {a C p : Addr} {xs : List V} {o : HO} (h : ExAt H a C) (hp : H p = some (.lst xs)) : ExAt (upd H p o) a C := by
  rcases h with h | ⟨d, fs, h1, h2⟩
  · exact .inl (by rw [upd_ne (ne_of h hp fun z => by have z' : HO.ext _ = HO.lst xs := z; cases z')]; exact h)
  · refine .inr ⟨d, fs, ?_, ?_⟩
    · rw [upd_ne (ne_of h1 hp fun z => by have z' : HO.ext _ = HO.lst xs := z; cases z')]; exact h1
    · rw [upd_ne (ne_of h2 hp fun z => by have z' : HO.ext _ = HO.lst xs := z; cases z')]; exact h2
theorem Exs.put {A : Nat → Addr} {H : Hp} {p : Addr} {xs vs : List V} {js : List Nat} {o : HO} (h : Exs A H vs js) (hp : H p = some (.lst xs)) : Exs A (upd H p o) vs js := by
  induction h with
  | nil => exact .nil
  | cons x _ ih => exact .cons (x.put hp) ih
theorem js_at {m j : Nat} (h : (jsP ++ jsO)[m]? = some j) : m < 30 ∧ j = m + 1 := by
  rw [all_js, List.getElem?_map] at h
  by_cases c : m < 30
  · rw [List.getElem?_range c] at h
    exact ⟨c, (Option.some.inj h).symm⟩
  · rw [List.getElem?_eq_none (by rw [List.length_range]; omega)] at h
    cases h
/-! ### the law -/
section
variable {P : Program} {w : World} {K : PySem.W.Frag} {mg : Str → Option Value} {base : Heap} {A B : Nat → Addr} {fd : Nat → FuncData}
def nmL : List Str := ["script", "state", "turn", "some", "x", "rows", "every", "at", "error", "entry", "k", "part"]
theorem scLaw : FnScope ["script", "state", "turn", "some", "x", "rows", "every", "at", "error", "entry", "k", "part"] ["script"] (defScope s_law) := ⟨rfl, rfl, rfl, by decide +kernel, rfl, by decide +kernel, by decide +kernel⟩
def spLaw (K : PySem.W.Frag) : Sp := fun vs H Q _ => ∃ (a : Addr) (ns : List Int), vs = [.ref a] ∧ SqL K H a (ns.map V.int) ∧ ns.length ≤ 63 ∧ ∀ H', Q (.bl true) H'
/-- the defs that the law calls -/
structure Defs (P : Program) (w : World) (K : PySem.W.Frag) (mg : Str → Option Value) (base : Heap) (A : Nat → Addr) : Prop where
  beg : ∃ f fd, FnOk P w K mg base CX0 1 f fd ["script"] (spBegun K) ∧ mg "_law_begun" = some (.ref f) ∧ PySem.W.keepIn K (.ref f) = true ∧ Binds K fd ["script"] []
  take : ∃ f fd, FnOk P w K mg base CX0 2 f fd ["state", "span"] spTake ∧ mg "_law_take" = some (.ref f) ∧ PySem.W.keepIn K (.ref f) = true ∧ Binds K fd ["state", "span"] []
  pick : ∃ f fd, FnOk P w K mg base CX0 3 f fd ["state", "some"] (spPick K) ∧ mg "_law_pick" = some (.ref f) ∧ PySem.W.keepIn K (.ref f) = true ∧ Binds K fd ["state", "some"] []
  mark : ∃ f fd, FnOk P w K mg base CX0 2 f fd ["error"] (spMk A (jsP ++ jsO)) ∧ mg "_law_marks" = some (.ref f) ∧ PySem.W.keepIn K (.ref f) = true ∧ Binds K fd ["error"] []
  plain : ∃ f fd, FnOk P w K mg base CX0 1 f fd [] (spPl A) ∧ mg "_law_plain" = some (.ref f) ∧ PySem.W.keepIn K (.ref f) = true ∧ Binds K fd [] []
  name : ∃ f fd, FnOk P w K mg base CX0 3 f fd ["x"] (spBn A) ∧ mg "_law_by_name" = some (.ref f) ∧ PySem.W.keepIn K (.ref f) = true ∧ Binds K fd ["x"] []
  pos : ∃ f fd, FnOk P w K mg base CX0 3 f fd ["x"] spPs ∧ mg "_law_by_position" = some (.ref f) ∧ PySem.W.keepIn K (.ref f) = true ∧ Binds K fd ["x"] []
  range : mg "range" = none
  enum : mg "enumerate" = none
  repr : mg "repr" = none
theorem ok_law {f : Addr} {fdd : FuncData} (F : Fun K "law" "law" s_law f fdd) (T : Errs K mg A B fd) (d0 : Defs P w K mg base A) : FnG P w K mg base CX0 4 f fdd ["script"] (spLaw K) := by
  obtain ⟨fB, dB, GB, gB, kB, bB⟩ := d0.beg
  obtain ⟨fT, dT, GT, gT, kT, bT⟩ := d0.take
  obtain ⟨fP, dP, GP, gP, kP, bP⟩ := d0.pick
  obtain ⟨fM, dM, GM, gM, kM, bM⟩ := d0.mark
  obtain ⟨fL, dL, GL, gL, kL, bL⟩ := d0.plain
  obtain ⟨fN, dN, GN, gN, kN, bN⟩ := d0.name
  obtain ⟨fO, dO, GO, gO, kO, bO⟩ := d0.pos
  refine fnG_of F scLaw (fun vs H Q E h => ?_) (fun cdv Z outer s H vs Q E hgd hr h => ?_)
  · obtain ⟨a, ns, rfl, _⟩ := h
    rfl
  · obtain ⟨a, ns, rfl, hS, hlen, q⟩ := h
    have hu20 : (Z.deeper (envOfC "law" (defScope s_law) s.heap.objs.size f cdv)).units + 20 < cLine := by have := hr.un; omega
    refine ⟨_, PSs.nox (pss_cons (ps_set (i := 1) scLaw.nd rfl (.inl rfl) (pe_call GB (hr.mono (by decide)) (by rfl) gB kB bB .nil pass0 (pa_cons (pv 0) pa_nil)))
      (pss_cons (ps_for PassesOwn.never rfl (pi_range1 (by rfl) d0.range (pa_cons pe_int pa_nil)) (pg_name (i := 2) scLaw.nd rfl (.inl rfl))
        (pss_cons (ps_set (i := 3) scLaw.nd rfl (.inl rfl) (pe_lst (pa_cons pe_int (pa_cons pe_int (pa_cons (pe_un un_neg pe_int) (pa_cons (pe_op op_pow pe_int pe_int) (pa_cons pe_str (pa_cons pe_str (pa_cons pe_non (pa_cons pe_bl (pa_cons (pe_tup (pa_cons pe_str (pa_cons (pe_tup (pa_cons pe_int pa_nil)) (pa_cons (pe_tup pa_nil) pa_nil)))) (pa_cons (pe_lst (pa_cons pe_int (pa_cons pe_int pa_nil))) (pa_cons (pe_disp (pps_cons pe_str pe_int pps_nil) (by rfl) (by rfl) (fun z => by cases z) (by decide)) (pa_cons (pe_call GT (hr.mono (by decide)) (by rfl) gT kT bT .nil pass0 (pa_cons (pv 1) (pa_cons pe_int pa_nil))) pa_nil))))))))))))))
        (pss_cons (ps_set (i := 4) scLaw.nd rfl (.inr rfl) (pe_call GP (hr.mono (by decide)) (by rfl) gP kP bP .nil pass0 (pa_cons (pv 1) (pa_cons (pv 3) pa_nil))))
        (pss_cons (ps_set (i := 5) scLaw.nd rfl (.inl rfl) (pe_call GN (hr.mono (by decide)) (by rfl) gN kN bN .nil pass0 (pa_cons (pv 4) pa_nil)))
        (pss_cons (ps_set (i := 6) scLaw.nd rfl (.inl rfl) (pe_op op_cat (pe_call0 GL (hr.mono (by decide)) (by rfl) gL kL bL .nil pass0) (pe_lc (own := [("entry", 9)]) (g := gName 9) rfl scLaw.nd (pi_list (pv 5)) (blkOk_by (own := [("entry", 9)]) (N := nmL) (sc := defScope s_law) (by decide +kernel)) (fun _ _ _ _ _ => pg_name (i := 9) scLaw.nd rfl (Or.inl rfl)) (fun _ _ _ _ _ => pts_nil) (fun _ _ _ _ _ => pe_ix (ix_tupK K rfl) (pv 9) pe_int (fun _ _ => rfl)))))
        (pss_cons (ps_for PassesOwn.never rfl (pi_enum (by rfl) d0.enum (pa_cons (pv 6) pa_nil)) (pg_tup rfl (pgs_cons (pg_name (i := 7) scLaw.nd rfl (.inr rfl)) (pgs_cons (pg_name (i := 8) scLaw.nd rfl (.inl rfl)) pgs_nil)))
          (pss_cons (ps_if (PW.pt (pw_or (pt_not (pt_val (pe_callB call_isX (by rfl) T.isi boot_isinstance (pa_cons (pv 8) (pa_cons (pe_glob (v := .ref (A 0)) (by rfl) T.g0 rfl) pa_nil))))) (pw_or1 (pt_not (pt_val (pe_callB call_isX (by rfl) T.isi boot_isinstance (pa_cons (pv 8) (pa_cons (pe_bltn (v := .ty "ValueError") (by rfl) T.ve Boot.«ValueError» rfl) pa_nil)))))))) (pss_one (ps_ret pe_bl)) pss_nil)
          (pss_one (ps_if (pt_cmpR (op_neD hr.units) (pe_call GM (hr.mono (by decide)) (by rfl) gM kM bM .nil pass0 (pa_cons (pv 8) pa_nil)) (pe_lc (own := [("k", 10)]) (g := gName 10) rfl scLaw.nd (pi_range1 (by rfl) d0.range (pa_cons pe_int pa_nil)) (blkOk_by (own := [("k", 10)]) (N := nmL) (sc := defScope s_law) (by decide +kernel)) (fun _ _ _ _ _ => pg_name (i := 10) scLaw.nd rfl (Or.inl rfl)) (fun _ _ _ _ _ => pts_nil) (fun _ _ _ _ _ => pe_cmpR op_eq (pv 10) (pv 7) (nomark _))) (nomark _)) (pss_one (ps_ret pe_bl)) pss_nil))))
        (pss_cons (ps_if (pt_cmpR (op_neD hr.units) (pe_lc (own := [("entry", 9)]) (g := gName 9) rfl scLaw.nd (pi_list (pv 5)) (blkOk_by (own := [("entry", 9)]) (N := nmL) (sc := defScope s_law) (by decide +kernel)) (fun _ _ _ _ _ => pg_name (i := 9) scLaw.nd rfl (Or.inl rfl)) (fun _ _ _ _ _ => pts_one (pt_cmpR op_ne (pe_callB (call_reprK K rfl hgd hu20) (by rfl) d0.repr boot_repr (pa_cons (pe_ix (ix_tupK K rfl) (pv 9) pe_int (fun _ _ => rfl)) pa_nil)) (pe_callB (call_reprK K rfl hgd hu20) (by rfl) d0.repr boot_repr (pa_cons (pv 4) pa_nil)) (nomark _))) (fun _ _ _ _ _ => pv 9)) (pe_lst pa_nil) (nomark _)) (pss_one (ps_ret pe_bl)) pss_nil)
        (pss_one (ps_if (pt_cmpR (op_neD hr.units) (pe_lc (own := [("part", 11)]) (g := gName 11) rfl scLaw.nd (pi_list (pe_call GO (hr.mono (by decide)) (by rfl) gO kO bO .nil pass0 (pa_cons (pv 4) pa_nil))) (blkOk_by (own := [("part", 11)]) (N := nmL) (sc := defScope s_law) (by decide +kernel)) (fun _ _ _ _ _ => pg_name (i := 11) scLaw.nd rfl (Or.inl rfl)) (fun _ _ _ _ _ => pts_one (pt_cmpR op_ne (pe_callB (call_reprK K rfl hgd hu20) (by rfl) d0.repr boot_repr (pa_cons (pv 11) pa_nil)) (pe_callB (call_reprK K rfl hgd hu20) (by rfl) d0.repr boot_repr (pa_cons (pv 4) pa_nil)) (nomark _))) (fun _ _ _ _ _ => pv 11)) (pe_lst pa_nil) (nomark _)) (pss_one (ps_ret pe_bl)) pss_nil)))))))))
      (pss_one (ps_ret (pe_and (pe_callB call_isX (by rfl) T.isi boot_isinstance (pa_cons (pe_mp (T.ex 0 (by decide)) T.g0 (T.kp 0 (by decide)) (by rfl) pe_str mono_c) (pa_cons (pe_bltn (v := .ty "ValueError") (by rfl) T.ve Boot.«ValueError» rfl) pa_nil))) (pe_one (pe_cmpR op_notIn_seq pe_bl (pe_call GM (hr.mono (by decide)) (by rfl) gM kM bM .nil pass0 (pa_cons (pe_mp (T.ex 0 (by decide)) T.g0 (T.kp 0 (by decide)) (by rfl) pe_str mono_c) pa_nil)) (by rfl)))))))), ?_⟩
    -- state = _law_begun(script); for turn in range(2)
    refine ⟨.ref a, rfl, a, ns, rfl, hS, hlen, fun d g H1 nd ng s1 D => ?_⟩
    refine ⟨2, rfl, by decide, by decide, for_range (lo := 0) (n := 2) (fun i σ H => ∃ v2 v3 v4 v5 v6 v7 v8 : Option V, σ = [some (.ref a), some (.ref d), v2, v3, v4, v5, v6, v7, v8, none, none, none] ∧ Dr H d g (10 - 2 * i))
      ⟨none, none, none, none, none, none, none, rfl, D.less (by decide)⟩ ?_ ?_⟩
    · rintro i σ H2 hi ⟨v2, v3, v4, v5, v6, v7, v8, rfl, D2⟩
      obtain ⟨n, hn⟩ : ∃ n, 10 - 2 * i = n + 1 + 1 := ⟨8 - 2 * i, by omega⟩
      rw [hn] at D2
      -- some = [..]
      refine ⟨1, rfl, _, _, rfl, rfl, ⟨by decide, by decide, by decide⟩, (by show 1 ≤ sizeLine; decide), fun t1 n1 => ⟨(by show 0 ≤ sizeLine; decide), fun t2 n2 => ⟨(by show 3 ≤ sizeLine; decide), fun t3 n3 => ⟨(by show 2 ≤ sizeLine; decide), fun l1 m1 => fun p1 np1 =>
        ⟨upd_same, [(Sum.inr "a", .int 1)], rfl, (by show 1 ≤ 15; decide), .ref d, rfl, d, g, n + 1, 1000, rfl, ?_, by decide, by decide, fun z H3 z0 z1 kp D3 => ⟨(by show 12 ≤ sizeLine; decide), fun ps nps => ?_⟩⟩⟩⟩⟩⟩
      · exact (((((D2.mono (same_upd n1)).mono (same_upd n2)).mono (same_upd n3)).mono (same_upd m1)).mono (same_upd2 np1))
      have Da := D2.mono (same_upd (o := HO.tup [V.int 1]) n1)
      have Db := Da.mono (same_upd (o := HO.tup []) n2)
      have Dc := Db.mono (same_upd (o := HO.tup [V.str "it", V.ref t1, V.ref t2]) n3)
      have Dd := Dc.mono (same_upd (o := HO.lst [V.int 1, V.int 2]) m1)
      have s5 := same_upd2 (o := HO.dK []) (o' := HO.dK [(Sum.inr "a", V.int 1)]) np1
      have s4 := (same_upd (o := HO.lst [V.int 1, V.int 2]) m1).trans s5
      have s3 := (same_upd (o := HO.tup [V.str "it", V.ref t1, V.ref t2]) n3).trans s4
      have s2 := (same_upd (o := HO.tup []) n2).trans s3
      have k1 : H3 t1 = some (.tup [.int 1]) := kp _ _ (D2.off n1).1 (D2.off n1).2 (s2 _ _ upd_same)
      have k2 : H3 t2 = some (.tup []) := kp _ _ (Da.off n2).1 (Da.off n2).2 (s3 _ _ upd_same)
      have k3 : H3 t3 = some (.tup [.str "it", .ref t1, .ref t2]) := kp _ _ (Db.off n3).1 (Db.off n3).2 (s4 _ _ upd_same)
      have k4 : H3 l1 = some (.lst [.int 1, .int 2]) := kp _ _ (Dc.off m1).1 (Dc.off m1).2 (s5 _ _ upd_same)
      have k5 : H3 p1 = some (.dK [(Sum.inr "a", .int 1)]) := kp _ _ (Dd.off np1).1 (Dd.off np1).2 upd_same
      -- x = _law_pick(state, some)
      refine ⟨.ref d, rfl, .ref ps, rfl, d, g, ps, n, _, rfl, D3.mono (same_upd nps), (D3.off nps).1, (D3.off nps).2, upd_same, (by show 0 < 12; decide), (by show 12 < 1000; decide), fun x H5 hx kp5 D5 => ?_⟩
      have kk : ∀ {b : Addr} {o : HO}, b ≠ d → b ≠ g → H3 b = some o → H5 b = some o := fun {b o} h1 h2 e => kp5 b o h1 h2 (same_upd nps b o e)
      obtain ⟨zz, R⟩ : ∃ zz, Rp K H5 x zz := by
        simp only [List.mem_cons, List.not_mem_nil, or_false] at hx
        rcases hx with rfl | rfl | rfl | rfl | rfl | rfl | rfl | rfl | rfl | rfl | rfl | rfl
        · exact rp_int (by decide +kernel)
        · exact rp_int (by decide +kernel)
        · exact rp_int (by decide +kernel)
        · exact rp_int (by decide +kernel)
        · exact rp_of (.str _) (by decide +kernel) (by decide +kernel) (by decide +kernel) (by decide +kernel)
        · exact rp_of (.str _) (by decide +kernel) (by decide +kernel) (by decide +kernel) (by decide +kernel)
        · exact rp_of .non (by decide +kernel) (by decide +kernel) (by decide +kernel) (by decide +kernel)
        · exact rp_of (.bl _) (by decide +kernel) (by decide +kernel) (by decide +kernel) (by decide +kernel)
        · exact rp_of (d := .tuple [.str "it", .tuple [.int 1], .tuple []]) (.tup (.of (kk (Db.off n3).1 (Db.off n3).2 k3)) (.cons (.str _) (.cons (.tup (.of (kk (D2.off n1).1 (D2.off n1).2 k1)) (.cons (.int 1) .nil)) (.cons (.tup (.of (kk (Da.off n2).1 (Da.off n2).2 k2)) .nil) .nil))))
            (by decide +kernel) (by decide +kernel) (by decide +kernel) (by decide +kernel)
        · exact rp_of (d := .list [.int 1, .int 2]) (.lst (.of (kk (Dc.off m1).1 (Dc.off m1).2 k4)) (.cons (.int 1) (.cons (.int 2) .nil))) (by decide +kernel) (by decide +kernel) (by decide +kernel) (by decide +kernel)
        · exact ⟨_, .inr ⟨.dict [(.str "a", .int 1)], .one (kk (Dd.off np1).1 (Dd.off np1).2 k5) (.int 1) (by decide +kernel) (fun _ z => nomatch z), by decide +kernel, by decide +kernel, by decide +kernel, rfl⟩⟩
        · exact rp_int (log_small z0 z1)
      -- rows = _law_by_name(x); every = _law_plain() + [entry[0] for entry in rows]
      refine ⟨x, rfl, x, rfl, fun pr H6 us npr s6 rw6 l6 => ?_⟩
      refine ⟨rfl, fun pp H7 vp npp s7 x7 l7 => ?_⟩
      have hus : us.length = 14 := rw6.length
      refine ⟨.ref pr, rfl, pr, rfl, ⟨us, .of (s7 _ _ l6)⟩, fun Dl hDl => lc_list (K := K) (a := pr) (xs := us) (fun i H' => Same H7 H' ∧ ∃ vs, H' Dl = some (.lst vs) ∧ Exs A H' vs (jsO.take i)) ⟨same_upd hDl, [], upd_same, .nil⟩ (fun i H' _ p => .of (p.1 _ _ (s7 _ _ l6))) ?_ ?_⟩
      · rintro m v H' hv ⟨sm, vs, hD, xs⟩
        obtain ⟨t, e, j, rfl, ht, hj, hx⟩ := (rw6.mono (s7.trans sm)).at hv
        refine ⟨rfl, .ref t, rfl, t, [.ref e, x], 0, .ref e, rfl, rfl, .of ht, atI_nat (j := 0) rfl, vs, hD, ?_, fun b o y => ?_, vs ++ [.ref e], upd_same, ?_⟩
        · rw [xs.length, List.length_take]
          have : jsO.length = 14 := rfl
          exact small1000 (by omega)
        · rw [upd_ne (ne_of_none y hDl)]
          exact sm b o y
        · rw [take_snoc hj]
          exact (xs.put hD).append (.cons (hx.put hD) .nil)
      rintro H' ⟨sm, vs, hD, xs⟩
      rw [hus, show jsO.take 14 = jsO from rfl] at xs
      refine ⟨pp, Dl, vp, vs, rfl, rfl, sm _ _ l7, hD, (by rw [x7.length, xs.length]; decide), fun pe npe => ?_⟩
      have s8 := same_upd (o := HO.lst (vp ++ vs)) npe
      have E8 := ((x7.mono sm).append xs).mono s8
      have S8 : Same H5 (upd H' pe (HO.lst (vp ++ vs))) := (s6.trans (s7.trans sm)).trans s8
      -- for at, error in enumerate(every)
      refine ⟨.ref pe, rfl, pe, vp ++ vs, rfl, .of upd_same, for_enum (K := K) (a := pe) (xs := vp ++ vs) (fun m σ H9 => ∃ w7 w8 : Option V, σ = [some (.ref a), some (.ref d), some (.int (0 + (i : Int))), some (.ref ps), some x, some (.ref pr), some (.ref pe), w7, w8, none, none, none] ∧ Same (upd H' pe (HO.lst (vp ++ vs))) H9)
        ⟨v7, v8, rfl, Same.refl _⟩ (fun m σ H9 _ p => by obtain ⟨_, _, _, s9⟩ := p; exact .of (s9 _ _ upd_same)) ?_ ?_⟩
      · rintro m y Tt σ H9 hy ⟨w7, w8, rfl, s9⟩ nT
        obtain ⟨e, j, rfl, hj, hx⟩ := (E8.mono s9).at hy
        obtain ⟨hm, rfl⟩ := js_at hj
        have hj31 : m + 1 < 31 := by omega
        have hx := hx.mono (same_upd (o := HO.tup [V.int (m : Nat), V.ref e]) nT)
        refine ⟨Tt, [.int (m : Nat), .ref e], rfl, .inl (.inl upd_same), rfl, .int (m : Nat), [.ref e], rfl, .ref e, [], rfl, rfl, ?_⟩
        refine ⟨.ref e, rfl, e, A (m + 1), _, _, true, rfl, .own _, hx, T.xc _ hj31, T.kit0 _ hj31, true, rfl, iteF ?_⟩
        refine ⟨.ref e, rfl, e, A (m + 1), .ty "ValueError", _, true, rfl, .ty _, hx, T.xc _ hj31, T.kitV _ hj31, true, rfl, iteF ?_⟩
        refine ⟨.ref e, rfl, e, m + 1, rfl, hj31, hx, fun pm H10 npm s10 l10 => ?_⟩
        rw [marks_row] at l10
        refine ⟨30, rfl, by decide, by decide, fun Dk hDk => lc_range (lo := 0) (n := 30) (fun k H' => Same H10 H' ∧ H' Dk = some (.lst (((row m).take k).map V.bl))) ⟨same_upd hDk, upd_same⟩ ?_ ?_⟩
        · rintro k H11 hk ⟨s11, e11⟩
          refine ⟨rfl, .int (0 + (k : Int)), rfl, .int (m : Nat), rfl, rfl, _, e11, ?_, fun b o y => ?_, ?_⟩
          · rw [List.length_map, List.length_take]
            exact small1000 (by omega)
          · rw [upd_ne (ne_of_none y hDk)]
            exact s11 b o y
          · rw [upd_same, row_at m k hk, row_take m k hk]
        · rintro H11 ⟨s11, e11⟩
          rw [show (row m).take 30 = row m from List.take_of_length_le (by rw [show (row m).length = 30 from by unfold row; rw [List.length_map, List.length_range]]; exact Nat.le_refl _)] at e11
          refine ⟨.list ((row m).map .bool), .list ((row m).map .bool), .lst (.of (s11 _ _ l10)) (data_bls _), .lst (.of e11) (data_bls _), shaped_bls _, shaped_bls _, _, rfl, ?_⟩
          rw [SeqAt.eqv_refl _ (lays_bls _)]
          exact iteF ⟨_, _, rfl, s9.trans ((same_upd nT).trans (s10.trans s11))⟩
      rintro σ H9 ⟨w7, w8, rfl, s9⟩
      have S9 := S8.trans s9
      have rw9 := rw6.mono ((((s7.trans sm).trans s8)).trans s9)
      have l9 : H9 pr = some (.lst us) := s9 _ _ (s8 _ _ (sm _ _ (s7 _ _ l6)))
      -- [entry for entry in rows if repr(entry[1]) != repr(x)] != []
      refine ⟨.ref pr, rfl, pr, rfl, ⟨us, .of l9⟩, fun Dm hDm => lc_list (K := K) (a := pr) (xs := us) (fun i H' => Same H9 H' ∧ H' Dm = some (.lst [])) ⟨same_upd hDm, upd_same⟩ (fun i H' _ p => .of (p.1 _ _ l9)) ?_ ?_⟩
      · rintro m v H10 hv ⟨s10, e10⟩
        obtain ⟨t, e, j, rfl, ht, hj, hx⟩ := (rw9.mono s10).at hv
        have R10 := R.mono (S9.trans s10)
        refine ⟨rfl, .ref t, rfl, t, [.ref e, x], 1, x, rfl, rfl, .of ht, atI_nat (j := 1) rfl, x, zz, rfl, R10, x, rfl, x, zz, rfl, R10, rfl, _, rfl, ?_⟩
        rw [decide_eq_true rfl]
        exact iteF ⟨s10, e10⟩
      rintro H10 ⟨s10, e10⟩
      refine ⟨Nat.zero_le _, fun pn npn => ?_⟩
      refine ⟨.list [], .list [], .lst (.of (same_upd npn _ _ e10)) .nil, .lst (.of upd_same) .nil, by decide, by decide, _, rfl, ?_⟩
      rw [show PyData.eqv (.list []) (.list []) = true from by decide]
      refine iteF ?_
      have S10 := (S9.trans s10).trans (same_upd (o := HO.lst []) npn)
      -- [part for part in _law_by_position(x) if repr(part) != repr(x)] != []
      refine ⟨x, rfl, x, rfl, fun pq H11 npq s11 l11 => ⟨pq, rfl, ⟨_, .of l11⟩, fun Dn hDn => lc_list (K := K) (a := pq) (xs := jsO.map fun _ => x) (fun i H' => Same H11 H' ∧ H' Dn = some (.lst [])) ⟨same_upd hDn, upd_same⟩ (fun i H' _ p => .of (p.1 _ _ l11)) ?_ ?_⟩⟩
      · rintro m v H12 hv ⟨s12, e12⟩
        obtain rfl : v = x := by
          rw [List.getElem?_map] at hv
          cases q0 : jsO[m]? with
          | none => rw [q0] at hv; cases hv
          | some _ => rw [q0] at hv; exact (Option.some.inj hv).symm
        have R12 := R.mono ((S10.trans s11).trans s12)
        refine ⟨rfl, v, rfl, v, zz, rfl, R12, v, rfl, v, zz, rfl, R12, rfl, _, rfl, ?_⟩
        rw [decide_eq_true rfl]
        exact iteF ⟨s12, e12⟩
      rintro H12 ⟨s12, e12⟩
      refine ⟨Nat.zero_le _, fun po npo => ?_⟩
      refine ⟨.list [], .list [], .lst (.of (same_upd npo _ _ e12)) .nil, .lst (.of upd_same) .nil, by decide, by decide, _, rfl, ?_⟩
      rw [show PyData.eqv (.list []) (.list []) = true from by decide]
      refine iteF ⟨_, _, _, _, _, _, _, rfl, ?_⟩
      have D6 := D5.mono (((S10.trans s11).trans s12).trans (same_upd (o := HO.lst []) npo))
      exact D6.less (by omega)
    · rintro σ H2 ⟨v2, v3, v4, v5, v6, v7, v8, rfl, D2⟩
      intro a0 H3 n3 s3 x3
      refine ⟨a0, A 0, .ty "ValueError", _, true, rfl, .ty _, x3, T.xc 0 (by decide), T.kitV 0 (by decide), true, rfl, iteT ?_⟩
      intro a1 H4 n4 s4 x4
      refine ⟨a1, 0, rfl, by decide, x4, fun pm H5 npm s5 l5 => ?_⟩
      refine ⟨pm, _, rfl, .inl (.of l5), rfl, by decide, ?_⟩
      rw [show inV (V.bl true) ((jsP ++ jsO).map (mk 0)) = false from by decide]
      exact q _
end
end Ck
namespace Ck
open PySem PySem.Spec PyProof.Rows L2
/-! ### what is asked of the written part, by computation -/
def ve4 : List Value := [.type "ValueError", .type "Exception", .type "BaseException", .type "object"]
def clsB (K : PySem.W.Frag) (C : Addr) : Bool :=
  (PySem.W.clsIn K C).isSome && (PySem.W.findIn K (.ref C) "__getattribute__" == some (some (.builtin "BaseException.__getattribute__"))) && (PySem.W.findIn K (.ref C) "__getattr__" == some none) &&
  (PySem.W.subIn K (.ref C) (.type "BaseException") == some true) && (PySem.W.findIn K (.ref C) "__class__" == some (some (.builtin "object.__class__"))) &&
  (PySem.W.specialIn K (.builtin "object.__class__") "__get__" == some (some (.builtin "getset_descriptor.__get__"))) && (PySem.W.takesIn K (.builtin "object.__class__") == some true) && (PySem.W.mroIn K C (.type "object") == some true) &&
  PySem.W.keepIn K (.ref C) && (PySem.W.kitOne K (.ref C) (.type "ValueError") == some true)
theorem clsB_ok {K : PySem.W.Frag} {C : Addr} (h : clsB K C = true) : XcC K C ∧ PySem.W.keepIn K (.ref C) = true ∧ PySem.W.kitOne K (.ref C) (.type "ValueError") = some true := by
  simp only [clsB, Bool.and_eq_true, beq_iff_eq] at h
  obtain ⟨⟨⟨⟨⟨⟨⟨⟨⟨h1, h2⟩, h3⟩, h4⟩, h5⟩, h6⟩, h7⟩, h8⟩, h9⟩, h10⟩ := h
  exact ⟨⟨h1, h2, h3, h4, h5, h6, h7, h8⟩, h9, h10⟩
def kitB (K : PySem.W.Frag) (l : List Addr) : Bool :=
  (List.range 31).all fun i => (List.range 31).all fun j => PySem.W.kitOne K (.ref (l.getD i 0)) (.ref (l.getD j 0)) == some (decide (i = j) || decide (j = 0))
def ownB (K : PySem.W.Frag) (C I : Addr) (f : Str) : Bool :=
  (PySem.W.findIn K (.ref C) "__setattr__" == some (some (.builtin "object.__setattr__"))) && (PySem.W.subIn K (.ref C) (.type "BaseException") == some true) && (PySem.W.typeIn K (.ref C) == some (.type "type")) &&
  PySem.W.keepIn K (.ref C) && PySem.W.hasDictIn K C && (PySem.W.findIn K (.ref C) f == some none) && (PySem.W.findIn K (.ref C) "__init__" == some (some (.ref I))) && (PySem.W.typeIn K (.ref I) == some (.type "function")) && PySem.W.keepIn K (.ref I)
structure Own (K : PySem.W.Frag) (C I : Addr) (f : Str) : Prop where
  sa : PySem.W.findIn K (.ref C) "__setattr__" = some (some (.builtin "object.__setattr__"))
  ex : PySem.W.subIn K (.ref C) (.type "BaseException") = some true
  ty : PySem.W.typeIn K (.ref C) = some (.type "type")
  kc : PySem.W.keepIn K (.ref C) = true
  hd : PySem.W.hasDictIn K C = true
  no : PySem.W.findIn K (.ref C) f = some none
  ini : PySem.W.findIn K (.ref C) "__init__" = some (some (.ref I))
  tyi : PySem.W.typeIn K (.ref I) = some (.type "function")
  ki : PySem.W.keepIn K (.ref I) = true
theorem ownB_ok {K : PySem.W.Frag} {C I : Addr} {f : Str} (h : ownB K C I f = true) : Own K C I f := by
  simp only [ownB, Bool.and_eq_true, beq_iff_eq] at h
  obtain ⟨⟨⟨⟨⟨⟨⟨⟨h1, h2⟩, h3⟩, h4⟩, h5⟩, h6⟩, h7⟩, h8⟩, h9⟩ := h
  exact ⟨h1, h2, h3, h4, h5, h6, h7, h8, h9⟩
def plainB (K : PySem.W.Frag) (l : List Addr) : Bool := (List.range 17).all fun i => PySem.W.excIn K (l.getD i 0) ve4 "ValueError.__new__"
def allB (K : PySem.W.Frag) (l b : List Addr) : Bool := (List.range 31).all (fun i => clsB K (l.getD i 0)) && kitB K l && plainB K l && (List.range 14).all fun i => ownB K (l.getD (i + 17) 0) (b.getD i 0) (fl (i + 17))
theorem all_at {n i : Nat} {p : Nat → Bool} (h : (List.range n).all p = true) (hi : i < n) : p i = true := List.all_eq_true.mp h i (List.mem_range.mpr hi)
structure AllOk (K : PySem.W.Frag) (A B : Nat → Addr) : Prop where
  kit : ∀ i j, i < 31 → j < 31 → j ≠ 0 → PySem.W.kitOne K (.ref (A i)) (.ref (A j)) = some (decide (i = j))
  kit0 : ∀ i, i < 31 → PySem.W.kitOne K (.ref (A i)) (.ref (A 0)) = some true
  cls : ∀ i, i < 31 → XcC K (A i) ∧ PySem.W.keepIn K (.ref (A i)) = true ∧ PySem.W.kitOne K (.ref (A i)) (.type "ValueError") = some true
  ex : ∀ i, i < 17 → PySem.W.excIn K (A i) ve4 "ValueError.__new__" = true
  own : ∀ i, 17 ≤ i → i < 31 → Own K (A i) (B i) (fl i)
theorem allB_ok {K : PySem.W.Frag} {l b : List Addr} (h : allB K l b = true) : AllOk K (fun i => l.getD i 0) (fun i => b.getD (i - 17) 0) := by
  simp only [allB, Bool.and_eq_true] at h
  obtain ⟨⟨⟨h1, h2⟩, h3⟩, h4⟩ := h
  have kt : ∀ i j, i < 31 → j < 31 → PySem.W.kitOne K (.ref (l.getD i 0)) (.ref (l.getD j 0)) = some (decide (i = j) || decide (j = 0)) := fun i j hi hj => by
    have a := all_at h2 hi
    exact beq_iff_eq.mp (all_at a hj)
  refine ⟨fun i j hi hj h0 => ?_, fun i hi => ?_, fun i hi => clsB_ok (all_at (p := fun i => clsB K (l.getD i 0)) h1 hi), fun i hi => all_at (p := fun i => PySem.W.excIn K (l.getD i 0) ve4 "ValueError.__new__") h3 hi, fun i h0 hi => ?_⟩
  · rw [kt i j hi hj, decide_eq_false h0, Bool.or_false]
  · rw [kt i 0 hi (by decide), show decide ((0 : Nat) = 0) = true from rfl, Bool.or_true]
  · have := ownB_ok (all_at (p := fun i => ownB K (l.getD (i + 17) 0) (b.getD i 0) (fl (i + 17))) h4 (show i - 17 < 14 by omega))
    have e : i - 17 + 17 = i := by omega
    rw [e] at this
    exact this

theorem all_mk {P : Program} {w : World} {K : PySem.W.Frag} {h : Heap} {mg : Str → Option Value} {fa : Addr} (X : K.In h) (G : h.Ns mainGlobals mg) (hfa : mg "law" = some (.ref fa))
    {c0 c1 c2 c3 c4 c5 c6 c7 c8 c9 c10 c11 c12 c13 c14 c15 c16 c17 c18 c19 c20 c21 c22 c23 c24 c25 c26 c27 c28 c29 c30 b17 b18 b19 b20 b21 b22 b23 b24 b25 b26 b27 b28 b29 b30 f0 f1 f2 f3 f4 f5 f6 f7 f8 f9 : Addr}
    (a0 : PySem.W.nsIn K mainGlobals "TakerError" = some (some (.ref c0)))
    (a1 : PySem.W.nsIn K mainGlobals "BadValue" = some (some (.ref c1)))
    (a2 : PySem.W.nsIn K mainGlobals "BadPattern" = some (some (.ref c2)))
    (a3 : PySem.W.nsIn K mainGlobals "BadExpectation" = some (some (.ref c3)))
    (a4 : PySem.W.nsIn K mainGlobals "NotFree" = some (some (.ref c4)))
    (a5 : PySem.W.nsIn K mainGlobals "NotKept" = some (some (.ref c5)))
    (a6 : PySem.W.nsIn K mainGlobals "NoIndex" = some (some (.ref c6)))
    (a7 : PySem.W.nsIn K mainGlobals "Conflicted" = some (some (.ref c7)))
    (a8 : PySem.W.nsIn K mainGlobals "NoConflict" = some (some (.ref c8)))
    (a9 : PySem.W.nsIn K mainGlobals "NotWon" = some (some (.ref c9)))
    (a10 : PySem.W.nsIn K mainGlobals "NoState" = some (some (.ref c10)))
    (a11 : PySem.W.nsIn K mainGlobals "Lost" = some (some (.ref c11)))
    (a12 : PySem.W.nsIn K mainGlobals "BadHands" = some (some (.ref c12)))
    (a13 : PySem.W.nsIn K mainGlobals "NoOrder" = some (some (.ref c13)))
    (a14 : PySem.W.nsIn K mainGlobals "NotAllowed" = some (some (.ref c14)))
    (a15 : PySem.W.nsIn K mainGlobals "BadCount" = some (some (.ref c15)))
    (a16 : PySem.W.nsIn K mainGlobals "BadOrder" = some (some (.ref c16)))
    (a17 : PySem.W.nsIn K mainGlobals "BadCall" = some (some (.ref c17)))
    (a18 : PySem.W.nsIn K mainGlobals "BadPlan" = some (some (.ref c18)))
    (a19 : PySem.W.nsIn K mainGlobals "NoName" = some (some (.ref c19)))
    (a20 : PySem.W.nsIn K mainGlobals "BadRecord" = some (some (.ref c20)))
    (a21 : PySem.W.nsIn K mainGlobals "BadMove" = some (some (.ref c21)))
    (a22 : PySem.W.nsIn K mainGlobals "BadResult" = some (some (.ref c22)))
    (a23 : PySem.W.nsIn K mainGlobals "BadRule" = some (some (.ref c23)))
    (a24 : PySem.W.nsIn K mainGlobals "Faulted" = some (some (.ref c24)))
    (a25 : PySem.W.nsIn K mainGlobals "Unexpected" = some (some (.ref c25)))
    (a26 : PySem.W.nsIn K mainGlobals "Undecided" = some (some (.ref c26)))
    (a27 : PySem.W.nsIn K mainGlobals "Missing" = some (some (.ref c27)))
    (a28 : PySem.W.nsIn K mainGlobals "NoPlace" = some (some (.ref c28)))
    (a29 : PySem.W.nsIn K mainGlobals "BadName" = some (some (.ref c29)))
    (a30 : PySem.W.nsIn K mainGlobals "BadText" = some (some (.ref c30)))
    {nm17 q17 : Str} {N17 : Addr} {bs17 : List Value} {sn17 : List Str} {su17 : List Value} {ab17 : Bool} {co17 : Option Bool} {dd17 : Option Addr} {k017 k117 k217 k317 k517 : Option Value}
    (x17 : K.lookup c17 = some (excClassObj nm17 q17 c17 N17 bs17 [.ref c0, .type "ValueError", .type "Exception", .type "BaseException", .type "object"] true sn17 su17 ab17 co17 dd17 k017 k117 k217 k317 k517 "ValueError.__new__"))
    (i17 : PySem.W.findIn K (.ref c17) "__init__" = some (some (.ref b17)))
    {oi17 ki17 di17 pi17 ci17 ti17 : Value} {od17 an17 : Option Addr} {sl17 : Array (Option Value)}
    (l17 : K.lookup b17 = some ⟨oi17, od17, .func (PySem.W.fnOf "__init__" "BadCall.__init__" (defArgs sI_BadCall) (defBody sI_BadCall) (defScope sI_BadCall) .none ki17 di17 pi17 an17 ci17 ti17), sl17⟩) (e17 : PySem.W.codeIn K ci17 "BadCall.__init__" = true)
    {nm18 q18 : Str} {N18 : Addr} {bs18 : List Value} {sn18 : List Str} {su18 : List Value} {ab18 : Bool} {co18 : Option Bool} {dd18 : Option Addr} {k018 k118 k218 k318 k518 : Option Value}
    (x18 : K.lookup c18 = some (excClassObj nm18 q18 c18 N18 bs18 [.ref c0, .type "ValueError", .type "Exception", .type "BaseException", .type "object"] true sn18 su18 ab18 co18 dd18 k018 k118 k218 k318 k518 "ValueError.__new__"))
    (i18 : PySem.W.findIn K (.ref c18) "__init__" = some (some (.ref b18)))
    {oi18 ki18 di18 pi18 ci18 ti18 : Value} {od18 an18 : Option Addr} {sl18 : Array (Option Value)}
    (l18 : K.lookup b18 = some ⟨oi18, od18, .func (PySem.W.fnOf "__init__" "BadPlan.__init__" (defArgs sI_BadPlan) (defBody sI_BadPlan) (defScope sI_BadPlan) .none ki18 di18 pi18 an18 ci18 ti18), sl18⟩) (e18 : PySem.W.codeIn K ci18 "BadPlan.__init__" = true)
    {nm19 q19 : Str} {N19 : Addr} {bs19 : List Value} {sn19 : List Str} {su19 : List Value} {ab19 : Bool} {co19 : Option Bool} {dd19 : Option Addr} {k019 k119 k219 k319 k519 : Option Value}
    (x19 : K.lookup c19 = some (excClassObj nm19 q19 c19 N19 bs19 [.ref c0, .type "ValueError", .type "Exception", .type "BaseException", .type "object"] true sn19 su19 ab19 co19 dd19 k019 k119 k219 k319 k519 "ValueError.__new__"))
    (i19 : PySem.W.findIn K (.ref c19) "__init__" = some (some (.ref b19)))
    {oi19 ki19 di19 pi19 ci19 ti19 : Value} {od19 an19 : Option Addr} {sl19 : Array (Option Value)}
    (l19 : K.lookup b19 = some ⟨oi19, od19, .func (PySem.W.fnOf "__init__" "NoName.__init__" (defArgs sI_NoName) (defBody sI_NoName) (defScope sI_NoName) .none ki19 di19 pi19 an19 ci19 ti19), sl19⟩) (e19 : PySem.W.codeIn K ci19 "NoName.__init__" = true)
    {nm20 q20 : Str} {N20 : Addr} {bs20 : List Value} {sn20 : List Str} {su20 : List Value} {ab20 : Bool} {co20 : Option Bool} {dd20 : Option Addr} {k020 k120 k220 k320 k520 : Option Value}
    (x20 : K.lookup c20 = some (excClassObj nm20 q20 c20 N20 bs20 [.ref c0, .type "ValueError", .type "Exception", .type "BaseException", .type "object"] true sn20 su20 ab20 co20 dd20 k020 k120 k220 k320 k520 "ValueError.__new__"))
    (i20 : PySem.W.findIn K (.ref c20) "__init__" = some (some (.ref b20)))
    {oi20 ki20 di20 pi20 ci20 ti20 : Value} {od20 an20 : Option Addr} {sl20 : Array (Option Value)}
    (l20 : K.lookup b20 = some ⟨oi20, od20, .func (PySem.W.fnOf "__init__" "BadRecord.__init__" (defArgs sI_BadRecord) (defBody sI_BadRecord) (defScope sI_BadRecord) .none ki20 di20 pi20 an20 ci20 ti20), sl20⟩) (e20 : PySem.W.codeIn K ci20 "BadRecord.__init__" = true)
    {nm21 q21 : Str} {N21 : Addr} {bs21 : List Value} {sn21 : List Str} {su21 : List Value} {ab21 : Bool} {co21 : Option Bool} {dd21 : Option Addr} {k021 k121 k221 k321 k521 : Option Value}
    (x21 : K.lookup c21 = some (excClassObj nm21 q21 c21 N21 bs21 [.ref c0, .type "ValueError", .type "Exception", .type "BaseException", .type "object"] true sn21 su21 ab21 co21 dd21 k021 k121 k221 k321 k521 "ValueError.__new__"))
    (i21 : PySem.W.findIn K (.ref c21) "__init__" = some (some (.ref b21)))
    {oi21 ki21 di21 pi21 ci21 ti21 : Value} {od21 an21 : Option Addr} {sl21 : Array (Option Value)}
    (l21 : K.lookup b21 = some ⟨oi21, od21, .func (PySem.W.fnOf "__init__" "BadMove.__init__" (defArgs sI_BadMove) (defBody sI_BadMove) (defScope sI_BadMove) .none ki21 di21 pi21 an21 ci21 ti21), sl21⟩) (e21 : PySem.W.codeIn K ci21 "BadMove.__init__" = true)
    {nm22 q22 : Str} {N22 : Addr} {bs22 : List Value} {sn22 : List Str} {su22 : List Value} {ab22 : Bool} {co22 : Option Bool} {dd22 : Option Addr} {k022 k122 k222 k322 k522 : Option Value}
    (x22 : K.lookup c22 = some (excClassObj nm22 q22 c22 N22 bs22 [.ref c0, .type "ValueError", .type "Exception", .type "BaseException", .type "object"] true sn22 su22 ab22 co22 dd22 k022 k122 k222 k322 k522 "ValueError.__new__"))
    (i22 : PySem.W.findIn K (.ref c22) "__init__" = some (some (.ref b22)))
    {oi22 ki22 di22 pi22 ci22 ti22 : Value} {od22 an22 : Option Addr} {sl22 : Array (Option Value)}
    (l22 : K.lookup b22 = some ⟨oi22, od22, .func (PySem.W.fnOf "__init__" "BadResult.__init__" (defArgs sI_BadResult) (defBody sI_BadResult) (defScope sI_BadResult) .none ki22 di22 pi22 an22 ci22 ti22), sl22⟩) (e22 : PySem.W.codeIn K ci22 "BadResult.__init__" = true)
    {nm23 q23 : Str} {N23 : Addr} {bs23 : List Value} {sn23 : List Str} {su23 : List Value} {ab23 : Bool} {co23 : Option Bool} {dd23 : Option Addr} {k023 k123 k223 k323 k523 : Option Value}
    (x23 : K.lookup c23 = some (excClassObj nm23 q23 c23 N23 bs23 [.ref c0, .type "ValueError", .type "Exception", .type "BaseException", .type "object"] true sn23 su23 ab23 co23 dd23 k023 k123 k223 k323 k523 "ValueError.__new__"))
    (i23 : PySem.W.findIn K (.ref c23) "__init__" = some (some (.ref b23)))
    {oi23 ki23 di23 pi23 ci23 ti23 : Value} {od23 an23 : Option Addr} {sl23 : Array (Option Value)}
    (l23 : K.lookup b23 = some ⟨oi23, od23, .func (PySem.W.fnOf "__init__" "BadRule.__init__" (defArgs sI_BadRule) (defBody sI_BadRule) (defScope sI_BadRule) .none ki23 di23 pi23 an23 ci23 ti23), sl23⟩) (e23 : PySem.W.codeIn K ci23 "BadRule.__init__" = true)
    {nm24 q24 : Str} {N24 : Addr} {bs24 : List Value} {sn24 : List Str} {su24 : List Value} {ab24 : Bool} {co24 : Option Bool} {dd24 : Option Addr} {k024 k124 k224 k324 k524 : Option Value}
    (x24 : K.lookup c24 = some (excClassObj nm24 q24 c24 N24 bs24 [.ref c0, .type "ValueError", .type "Exception", .type "BaseException", .type "object"] true sn24 su24 ab24 co24 dd24 k024 k124 k224 k324 k524 "ValueError.__new__"))
    (i24 : PySem.W.findIn K (.ref c24) "__init__" = some (some (.ref b24)))
    {oi24 ki24 di24 pi24 ci24 ti24 : Value} {od24 an24 : Option Addr} {sl24 : Array (Option Value)}
    (l24 : K.lookup b24 = some ⟨oi24, od24, .func (PySem.W.fnOf "__init__" "Faulted.__init__" (defArgs sI_Faulted) (defBody sI_Faulted) (defScope sI_Faulted) .none ki24 di24 pi24 an24 ci24 ti24), sl24⟩) (e24 : PySem.W.codeIn K ci24 "Faulted.__init__" = true)
    {nm25 q25 : Str} {N25 : Addr} {bs25 : List Value} {sn25 : List Str} {su25 : List Value} {ab25 : Bool} {co25 : Option Bool} {dd25 : Option Addr} {k025 k125 k225 k325 k525 : Option Value}
    (x25 : K.lookup c25 = some (excClassObj nm25 q25 c25 N25 bs25 [.ref c0, .type "ValueError", .type "Exception", .type "BaseException", .type "object"] true sn25 su25 ab25 co25 dd25 k025 k125 k225 k325 k525 "ValueError.__new__"))
    (i25 : PySem.W.findIn K (.ref c25) "__init__" = some (some (.ref b25)))
    {oi25 ki25 di25 pi25 ci25 ti25 : Value} {od25 an25 : Option Addr} {sl25 : Array (Option Value)}
    (l25 : K.lookup b25 = some ⟨oi25, od25, .func (PySem.W.fnOf "__init__" "Unexpected.__init__" (defArgs sI_Unexpected) (defBody sI_Unexpected) (defScope sI_Unexpected) .none ki25 di25 pi25 an25 ci25 ti25), sl25⟩) (e25 : PySem.W.codeIn K ci25 "Unexpected.__init__" = true)
    {nm26 q26 : Str} {N26 : Addr} {bs26 : List Value} {sn26 : List Str} {su26 : List Value} {ab26 : Bool} {co26 : Option Bool} {dd26 : Option Addr} {k026 k126 k226 k326 k526 : Option Value}
    (x26 : K.lookup c26 = some (excClassObj nm26 q26 c26 N26 bs26 [.ref c0, .type "ValueError", .type "Exception", .type "BaseException", .type "object"] true sn26 su26 ab26 co26 dd26 k026 k126 k226 k326 k526 "ValueError.__new__"))
    (i26 : PySem.W.findIn K (.ref c26) "__init__" = some (some (.ref b26)))
    {oi26 ki26 di26 pi26 ci26 ti26 : Value} {od26 an26 : Option Addr} {sl26 : Array (Option Value)}
    (l26 : K.lookup b26 = some ⟨oi26, od26, .func (PySem.W.fnOf "__init__" "Undecided.__init__" (defArgs sI_Undecided) (defBody sI_Undecided) (defScope sI_Undecided) .none ki26 di26 pi26 an26 ci26 ti26), sl26⟩) (e26 : PySem.W.codeIn K ci26 "Undecided.__init__" = true)
    {nm27 q27 : Str} {N27 : Addr} {bs27 : List Value} {sn27 : List Str} {su27 : List Value} {ab27 : Bool} {co27 : Option Bool} {dd27 : Option Addr} {k027 k127 k227 k327 k527 : Option Value}
    (x27 : K.lookup c27 = some (excClassObj nm27 q27 c27 N27 bs27 [.ref c0, .type "ValueError", .type "Exception", .type "BaseException", .type "object"] true sn27 su27 ab27 co27 dd27 k027 k127 k227 k327 k527 "ValueError.__new__"))
    (i27 : PySem.W.findIn K (.ref c27) "__init__" = some (some (.ref b27)))
    {oi27 ki27 di27 pi27 ci27 ti27 : Value} {od27 an27 : Option Addr} {sl27 : Array (Option Value)}
    (l27 : K.lookup b27 = some ⟨oi27, od27, .func (PySem.W.fnOf "__init__" "Missing.__init__" (defArgs sI_Missing) (defBody sI_Missing) (defScope sI_Missing) .none ki27 di27 pi27 an27 ci27 ti27), sl27⟩) (e27 : PySem.W.codeIn K ci27 "Missing.__init__" = true)
    {nm28 q28 : Str} {N28 : Addr} {bs28 : List Value} {sn28 : List Str} {su28 : List Value} {ab28 : Bool} {co28 : Option Bool} {dd28 : Option Addr} {k028 k128 k228 k328 k528 : Option Value}
    (x28 : K.lookup c28 = some (excClassObj nm28 q28 c28 N28 bs28 [.ref c0, .type "ValueError", .type "Exception", .type "BaseException", .type "object"] true sn28 su28 ab28 co28 dd28 k028 k128 k228 k328 k528 "ValueError.__new__"))
    (i28 : PySem.W.findIn K (.ref c28) "__init__" = some (some (.ref b28)))
    {oi28 ki28 di28 pi28 ci28 ti28 : Value} {od28 an28 : Option Addr} {sl28 : Array (Option Value)}
    (l28 : K.lookup b28 = some ⟨oi28, od28, .func (PySem.W.fnOf "__init__" "NoPlace.__init__" (defArgs sI_NoPlace) (defBody sI_NoPlace) (defScope sI_NoPlace) .none ki28 di28 pi28 an28 ci28 ti28), sl28⟩) (e28 : PySem.W.codeIn K ci28 "NoPlace.__init__" = true)
    {nm29 q29 : Str} {N29 : Addr} {bs29 : List Value} {sn29 : List Str} {su29 : List Value} {ab29 : Bool} {co29 : Option Bool} {dd29 : Option Addr} {k029 k129 k229 k329 k529 : Option Value}
    (x29 : K.lookup c29 = some (excClassObj nm29 q29 c29 N29 bs29 [.ref c0, .type "ValueError", .type "Exception", .type "BaseException", .type "object"] true sn29 su29 ab29 co29 dd29 k029 k129 k229 k329 k529 "ValueError.__new__"))
    (i29 : PySem.W.findIn K (.ref c29) "__init__" = some (some (.ref b29)))
    {oi29 ki29 di29 pi29 ci29 ti29 : Value} {od29 an29 : Option Addr} {sl29 : Array (Option Value)}
    (l29 : K.lookup b29 = some ⟨oi29, od29, .func (PySem.W.fnOf "__init__" "BadName.__init__" (defArgs sI_BadName) (defBody sI_BadName) (defScope sI_BadName) .none ki29 di29 pi29 an29 ci29 ti29), sl29⟩) (e29 : PySem.W.codeIn K ci29 "BadName.__init__" = true)
    {nm30 q30 : Str} {N30 : Addr} {bs30 : List Value} {sn30 : List Str} {su30 : List Value} {ab30 : Bool} {co30 : Option Bool} {dd30 : Option Addr} {k030 k130 k230 k330 k530 : Option Value}
    (x30 : K.lookup c30 = some (excClassObj nm30 q30 c30 N30 bs30 [.ref c0, .type "ValueError", .type "Exception", .type "BaseException", .type "object"] true sn30 su30 ab30 co30 dd30 k030 k130 k230 k330 k530 "ValueError.__new__"))
    (i30 : PySem.W.findIn K (.ref c30) "__init__" = some (some (.ref b30)))
    {oi30 ki30 di30 pi30 ci30 ti30 : Value} {od30 an30 : Option Addr} {sl30 : Array (Option Value)}
    (l30 : K.lookup b30 = some ⟨oi30, od30, .func (PySem.W.fnOf "__init__" "BadText.__init__" (defArgs sI_BadText) (defBody sI_BadText) (defScope sI_BadText) .none ki30 di30 pi30 an30 ci30 ti30), sl30⟩) (e30 : PySem.W.codeIn K ci30 "BadText.__init__" = true)
    (A0 : PySem.W.nsIn K mainGlobals "_law_begun" = some (some (.ref f0)))
    {oc0 kV0 dc0 pm0 cd0 ct0 : Value} {oD0 aN0 : Option Addr} {sL0 : Array (Option Value)}
    (L0 : K.lookup f0 = some ⟨oc0, oD0, .func (PySem.W.fnOf "_law_begun" "_law_begun" (defArgs sBegun) (defBody sBegun) (defScope sBegun) .none kV0 dc0 pm0 aN0 cd0 ct0), sL0⟩) (E0 : PySem.W.codeIn K cd0 "_law_begun" = true) (K0 : PySem.W.keepIn K (.ref f0) = true)
    (A1 : PySem.W.nsIn K mainGlobals "_law_mixed" = some (some (.ref f1)))
    {oc1 kV1 dc1 pm1 cd1 ct1 : Value} {oD1 aN1 : Option Addr} {sL1 : Array (Option Value)}
    (L1 : K.lookup f1 = some ⟨oc1, oD1, .func (PySem.W.fnOf "_law_mixed" "_law_mixed" (defArgs sMixed) (defBody sMixed) (defScope sMixed) .none kV1 dc1 pm1 aN1 cd1 ct1), sL1⟩) (E1 : PySem.W.codeIn K cd1 "_law_mixed" = true) (K1 : PySem.W.keepIn K (.ref f1) = true)
    (A2 : PySem.W.nsIn K mainGlobals "_law_take" = some (some (.ref f2)))
    {oc2 kV2 dc2 pm2 cd2 ct2 : Value} {oD2 aN2 : Option Addr} {sL2 : Array (Option Value)}
    (L2 : K.lookup f2 = some ⟨oc2, oD2, .func (PySem.W.fnOf "_law_take" "_law_take" (defArgs sTake) (defBody sTake) (defScope sTake) .none kV2 dc2 pm2 aN2 cd2 ct2), sL2⟩) (E2 : PySem.W.codeIn K cd2 "_law_take" = true) (K2 : PySem.W.keepIn K (.ref f2) = true)
    (A3 : PySem.W.nsIn K mainGlobals "_law_pick" = some (some (.ref f3)))
    {oc3 kV3 dc3 pm3 cd3 ct3 : Value} {oD3 aN3 : Option Addr} {sL3 : Array (Option Value)}
    (L3 : K.lookup f3 = some ⟨oc3, oD3, .func (PySem.W.fnOf "_law_pick" "_law_pick" (defArgs sPick) (defBody sPick) (defScope sPick) .none kV3 dc3 pm3 aN3 cd3 ct3), sL3⟩) (E3 : PySem.W.codeIn K cd3 "_law_pick" = true) (K3 : PySem.W.keepIn K (.ref f3) = true)
    (A4 : PySem.W.nsIn K mainGlobals "_law_plain_marks" = some (some (.ref f4)))
    {oc4 kV4 dc4 pm4 cd4 ct4 : Value} {oD4 aN4 : Option Addr} {sL4 : Array (Option Value)}
    (L4 : K.lookup f4 = some ⟨oc4, oD4, .func (PySem.W.fnOf "_law_plain_marks" "_law_plain_marks" (defArgs s_plain_marks) (defBody s_plain_marks) (defScope s_plain_marks) .none kV4 dc4 pm4 aN4 cd4 ct4), sL4⟩) (E4 : PySem.W.codeIn K cd4 "_law_plain_marks" = true) (K4 : PySem.W.keepIn K (.ref f4) = true)
    (A5 : PySem.W.nsIn K mainGlobals "_law_marks" = some (some (.ref f5)))
    {oc5 kV5 dc5 pm5 cd5 ct5 : Value} {oD5 aN5 : Option Addr} {sL5 : Array (Option Value)}
    (L5 : K.lookup f5 = some ⟨oc5, oD5, .func (PySem.W.fnOf "_law_marks" "_law_marks" (defArgs s_marks) (defBody s_marks) (defScope s_marks) .none kV5 dc5 pm5 aN5 cd5 ct5), sL5⟩) (E5 : PySem.W.codeIn K cd5 "_law_marks" = true) (K5 : PySem.W.keepIn K (.ref f5) = true)
    (A6 : PySem.W.nsIn K mainGlobals "_law_plain" = some (some (.ref f6)))
    {oc6 kV6 dc6 pm6 cd6 ct6 : Value} {oD6 aN6 : Option Addr} {sL6 : Array (Option Value)}
    (L6 : K.lookup f6 = some ⟨oc6, oD6, .func (PySem.W.fnOf "_law_plain" "_law_plain" (defArgs s_plain) (defBody s_plain) (defScope s_plain) .none kV6 dc6 pm6 aN6 cd6 ct6), sL6⟩) (E6 : PySem.W.codeIn K cd6 "_law_plain" = true) (K6 : PySem.W.keepIn K (.ref f6) = true)
    (A7 : PySem.W.nsIn K mainGlobals "_law_by_name" = some (some (.ref f7)))
    {oc7 kV7 dc7 pm7 cd7 ct7 : Value} {oD7 aN7 : Option Addr} {sL7 : Array (Option Value)}
    (L7 : K.lookup f7 = some ⟨oc7, oD7, .func (PySem.W.fnOf "_law_by_name" "_law_by_name" (defArgs s_by_name) (defBody s_by_name) (defScope s_by_name) .none kV7 dc7 pm7 aN7 cd7 ct7), sL7⟩) (E7 : PySem.W.codeIn K cd7 "_law_by_name" = true) (K7 : PySem.W.keepIn K (.ref f7) = true)
    (A8 : PySem.W.nsIn K mainGlobals "_law_by_position" = some (some (.ref f8)))
    {oc8 kV8 dc8 pm8 cd8 ct8 : Value} {oD8 aN8 : Option Addr} {sL8 : Array (Option Value)}
    (L8 : K.lookup f8 = some ⟨oc8, oD8, .func (PySem.W.fnOf "_law_by_position" "_law_by_position" (defArgs s_by_position) (defBody s_by_position) (defScope s_by_position) .none kV8 dc8 pm8 aN8 cd8 ct8), sL8⟩) (E8 : PySem.W.codeIn K cd8 "_law_by_position" = true) (K8 : PySem.W.keepIn K (.ref f8) = true)
    (A9 : PySem.W.nsIn K mainGlobals "law" = some (some (.ref f9)))
    {oc9 kV9 dc9 pm9 cd9 ct9 : Value} {oD9 aN9 : Option Addr} {sL9 : Array (Option Value)}
    (L9 : K.lookup f9 = some ⟨oc9, oD9, .func (PySem.W.fnOf "law" "law" (defArgs s_law) (defBody s_law) (defScope s_law) .none kV9 dc9 pm9 aN9 cd9 ct9), sL9⟩) (E9 : PySem.W.codeIn K cd9 "law" = true) (K9 : PySem.W.keepIn K (.ref f9) = true)
    (z0 : PySem.W.nsIn K mainGlobals "isinstance" = some none)
    (z1 : PySem.W.nsIn K mainGlobals "ValueError" = some none)
    (z2 : PySem.W.nsIn K mainGlobals "list" = some none)
    (z3 : PySem.W.nsIn K mainGlobals "int" = some none)
    (z4 : PySem.W.nsIn K mainGlobals "len" = some none)
    (z5 : PySem.W.nsIn K mainGlobals "range" = some none)
    (z6 : PySem.W.nsIn K mainGlobals "enumerate" = some none)
    (z7 : PySem.W.nsIn K mainGlobals "repr" = some none)
    (rd : PySem.W.readsIn K c0 (.type "type") = true) (fc : PySem.W.findCls K (.ref c0) (.type "type") "__init__" = some (.val (.builtin "ValueError.__init__"))) (ga : PySem.W.specialIn K (.ref c0) "__getattribute__" = some (some (.builtin "type.__getattribute__")))
    (all : allB K [c0, c1, c2, c3, c4, c5, c6, c7, c8, c9, c10, c11, c12, c13, c14, c15, c16, c17, c18, c19, c20, c21, c22, c23, c24, c25, c26, c27, c28, c29, c30] [b17, b18, b19, b20, b21, b22, b23, b24, b25, b26, b27, b28, b29, b30] = true) :
    ∃ fd : FuncData, (∀ (s : Shared) (v : Value), BindsTo s fd ⟨[v], []⟩ [("script", v)]) ∧ ∀ base : Heap, K.In base → base.Ns mainGlobals mg → FnG P w K mg base CX0 4 fa fd ["script"] (spLaw K) := by
  have e := hfa.symm.trans (PySem.W.mg_of X G A9)
  cases e
  have O := allB_ok all
  have Fi17 := fun_mk (st := sI_BadCall) l17 e17 (O.own 17 (by decide) (by decide)).ki
  have Fi18 := fun_mk (st := sI_BadPlan) l18 e18 (O.own 18 (by decide) (by decide)).ki
  have Fi19 := fun_mk (st := sI_NoName) l19 e19 (O.own 19 (by decide) (by decide)).ki
  have Fi20 := fun_mk (st := sI_BadRecord) l20 e20 (O.own 20 (by decide) (by decide)).ki
  have Fi21 := fun_mk (st := sI_BadMove) l21 e21 (O.own 21 (by decide) (by decide)).ki
  have Fi22 := fun_mk (st := sI_BadResult) l22 e22 (O.own 22 (by decide) (by decide)).ki
  have Fi23 := fun_mk (st := sI_BadRule) l23 e23 (O.own 23 (by decide) (by decide)).ki
  have Fi24 := fun_mk (st := sI_Faulted) l24 e24 (O.own 24 (by decide) (by decide)).ki
  have Fi25 := fun_mk (st := sI_Unexpected) l25 e25 (O.own 25 (by decide) (by decide)).ki
  have Fi26 := fun_mk (st := sI_Undecided) l26 e26 (O.own 26 (by decide) (by decide)).ki
  have Fi27 := fun_mk (st := sI_Missing) l27 e27 (O.own 27 (by decide) (by decide)).ki
  have Fi28 := fun_mk (st := sI_NoPlace) l28 e28 (O.own 28 (by decide) (by decide)).ki
  have Fi29 := fun_mk (st := sI_BadName) l29 e29 (O.own 29 (by decide) (by decide)).ki
  have Fi30 := fun_mk (st := sI_BadText) l30 e30 (O.own 30 (by decide) (by decide)).ki
  have F0 := fun_mk (st := sBegun) L0 E0 K0
  have F1 := fun_mk (st := sMixed) L1 E1 K1
  have F2 := fun_mk (st := sTake) L2 E2 K2
  have F3 := fun_mk (st := sPick) L3 E3 K3
  have F4 := fun_mk (st := s_plain_marks) L4 E4 K4
  have F5 := fun_mk (st := s_marks) L5 E5 K5
  have F6 := fun_mk (st := s_plain) L6 E6 K6
  have F7 := fun_mk (st := s_by_name) L7 E7 K7
  have F8 := fun_mk (st := s_by_position) L8 E8 K8
  have F9 := fun_mk (st := s_law) L9 E9 K9
  have ox : ∀ i, 17 ≤ i → i < 31 → OexC K (([c0, c1, c2, c3, c4, c5, c6, c7, c8, c9, c10, c11, c12, c13, c14, c15, c16, c17, c18, c19, c20, c21, c22, c23, c24, c25, c26, c27, c28, c29, c30] : List Addr).getD i 0) := fun i h0 hi => by
    have W := O.own i h0 hi
    refine ⟨?_, W.sa, W.ex, W.ty, W.kc⟩
    have r5 : PySem.HandSPX.refsVE [.ref c0, .type "ValueError", .type "Exception", .type "BaseException", .type "object"] = true := rfl
    obtain ⟨k, rfl⟩ : ∃ k, i = k + 17 := ⟨i - 17, by omega⟩
    have hk : k < 14 := by omega
    clear h0 hi W
    match k, hk with
    | 0, _ => exact ⟨_, _, _, _, _, _, _, _, _, _, _, _, _, _, _, x17, r5⟩
    | 1, _ => exact ⟨_, _, _, _, _, _, _, _, _, _, _, _, _, _, _, x18, r5⟩
    | 2, _ => exact ⟨_, _, _, _, _, _, _, _, _, _, _, _, _, _, _, x19, r5⟩
    | 3, _ => exact ⟨_, _, _, _, _, _, _, _, _, _, _, _, _, _, _, x20, r5⟩
    | 4, _ => exact ⟨_, _, _, _, _, _, _, _, _, _, _, _, _, _, _, x21, r5⟩
    | 5, _ => exact ⟨_, _, _, _, _, _, _, _, _, _, _, _, _, _, _, x22, r5⟩
    | 6, _ => exact ⟨_, _, _, _, _, _, _, _, _, _, _, _, _, _, _, x23, r5⟩
    | 7, _ => exact ⟨_, _, _, _, _, _, _, _, _, _, _, _, _, _, _, x24, r5⟩
    | 8, _ => exact ⟨_, _, _, _, _, _, _, _, _, _, _, _, _, _, _, x25, r5⟩
    | 9, _ => exact ⟨_, _, _, _, _, _, _, _, _, _, _, _, _, _, _, x26, r5⟩
    | 10, _ => exact ⟨_, _, _, _, _, _, _, _, _, _, _, _, _, _, _, x27, r5⟩
    | 11, _ => exact ⟨_, _, _, _, _, _, _, _, _, _, _, _, _, _, _, x28, r5⟩
    | 12, _ => exact ⟨_, _, _, _, _, _, _, _, _, _, _, _, _, _, _, x29, r5⟩
    | 13, _ => exact ⟨_, _, _, _, _, _, _, _, _, _, _, _, _, _, _, x30, r5⟩
    | k + 14, hk => exact absurd hk (by omega)
  have T : Errs K mg (fun i => ([c0, c1, c2, c3, c4, c5, c6, c7, c8, c9, c10, c11, c12, c13, c14, c15, c16, c17, c18, c19, c20, c21, c22, c23, c24, c25, c26, c27, c28, c29, c30] : List Addr).getD i 0) (fun i => ([b17, b18, b19, b20, b21, b22, b23, b24, b25, b26, b27, b28, b29, b30] : List Addr).getD (i - 17) 0) (fun i => ([PySem.W.fnOf "__init__" "BadCall.__init__" (defArgs sI_BadCall) (defBody sI_BadCall) (defScope sI_BadCall) .none ki17 di17 pi17 an17 ci17 ti17, PySem.W.fnOf "__init__" "BadPlan.__init__" (defArgs sI_BadPlan) (defBody sI_BadPlan) (defScope sI_BadPlan) .none ki18 di18 pi18 an18 ci18 ti18, PySem.W.fnOf "__init__" "NoName.__init__" (defArgs sI_NoName) (defBody sI_NoName) (defScope sI_NoName) .none ki19 di19 pi19 an19 ci19 ti19, PySem.W.fnOf "__init__" "BadRecord.__init__" (defArgs sI_BadRecord) (defBody sI_BadRecord) (defScope sI_BadRecord) .none ki20 di20 pi20 an20 ci20 ti20, PySem.W.fnOf "__init__" "BadMove.__init__" (defArgs sI_BadMove) (defBody sI_BadMove) (defScope sI_BadMove) .none ki21 di21 pi21 an21 ci21 ti21, PySem.W.fnOf "__init__" "BadResult.__init__" (defArgs sI_BadResult) (defBody sI_BadResult) (defScope sI_BadResult) .none ki22 di22 pi22 an22 ci22 ti22, PySem.W.fnOf "__init__" "BadRule.__init__" (defArgs sI_BadRule) (defBody sI_BadRule) (defScope sI_BadRule) .none ki23 di23 pi23 an23 ci23 ti23, PySem.W.fnOf "__init__" "Faulted.__init__" (defArgs sI_Faulted) (defBody sI_Faulted) (defScope sI_Faulted) .none ki24 di24 pi24 an24 ci24 ti24, PySem.W.fnOf "__init__" "Unexpected.__init__" (defArgs sI_Unexpected) (defBody sI_Unexpected) (defScope sI_Unexpected) .none ki25 di25 pi25 an25 ci25 ti25, PySem.W.fnOf "__init__" "Undecided.__init__" (defArgs sI_Undecided) (defBody sI_Undecided) (defScope sI_Undecided) .none ki26 di26 pi26 an26 ci26 ti26, PySem.W.fnOf "__init__" "Missing.__init__" (defArgs sI_Missing) (defBody sI_Missing) (defScope sI_Missing) .none ki27 di27 pi27 an27 ci27 ti27, PySem.W.fnOf "__init__" "NoPlace.__init__" (defArgs sI_NoPlace) (defBody sI_NoPlace) (defScope sI_NoPlace) .none ki28 di28 pi28 an28 ci28 ti28, PySem.W.fnOf "__init__" "BadName.__init__" (defArgs sI_BadName) (defBody sI_BadName) (defScope sI_BadName) .none ki29 di29 pi29 an29 ci29 ti29, PySem.W.fnOf "__init__" "BadText.__init__" (defArgs sI_BadText) (defBody sI_BadText) (defScope sI_BadText) .none ki30 di30 pi30 an30 ci30 ti30] : List FuncData).getD (i - 17) (PySem.W.fnOf "__init__" "BadCall.__init__" (defArgs sI_BadCall) (defBody sI_BadCall) (defScope sI_BadCall) .none ki17 di17 pi17 an17 ci17 ti17)) :=
    { isi := PySem.W.mg_none_of X G z0, ve := PySem.W.mg_none_of X G z1, kit := O.kit, kit0 := O.kit0, kitV := fun i hi => (O.cls i hi).2.2, xc := fun i hi => (O.cls i hi).1, ex := O.ex, kp := fun i hi => (O.cls i hi).2.1,
      mc := ⟨_, rd, fc⟩, ga := ga, hd := fun i h0 hi => (O.own i h0 hi).hd, ini := fun i h0 hi => (O.own i h0 hi).ini, tyi := fun i h0 hi => (O.own i h0 hi).tyi, no := fun i h0 hi => (O.own i h0 hi).no, ox := ox,
      g0 := PySem.W.mg_of X G a0, g1 := PySem.W.mg_of X G a1, g2 := PySem.W.mg_of X G a2, g3 := PySem.W.mg_of X G a3, g4 := PySem.W.mg_of X G a4, g5 := PySem.W.mg_of X G a5, g6 := PySem.W.mg_of X G a6, g7 := PySem.W.mg_of X G a7, g8 := PySem.W.mg_of X G a8, g9 := PySem.W.mg_of X G a9, g10 := PySem.W.mg_of X G a10, g11 := PySem.W.mg_of X G a11, g12 := PySem.W.mg_of X G a12, g13 := PySem.W.mg_of X G a13, g14 := PySem.W.mg_of X G a14, g15 := PySem.W.mg_of X G a15, g16 := PySem.W.mg_of X G a16, g17 := PySem.W.mg_of X G a17, g18 := PySem.W.mg_of X G a18, g19 := PySem.W.mg_of X G a19, g20 := PySem.W.mg_of X G a20, g21 := PySem.W.mg_of X G a21, g22 := PySem.W.mg_of X G a22, g23 := PySem.W.mg_of X G a23, g24 := PySem.W.mg_of X G a24, g25 := PySem.W.mg_of X G a25, g26 := PySem.W.mg_of X G a26, g27 := PySem.W.mg_of X G a27, g28 := PySem.W.mg_of X G a28, g29 := PySem.W.mg_of X G a29, g30 := PySem.W.mg_of X G a30,
      F17 := Fi17, F18 := Fi18, F19 := Fi19, F20 := Fi20, F21 := Fi21, F22 := Fi22, F23 := Fi23, F24 := Fi24, F25 := Fi25, F26 := Fi26, F27 := Fi27, F28 := Fi28, F29 := Fi29, F30 := Fi30 }
  have B0 := F0.binds (ps := ["script"]) fun _ _ _ _ _ _ us hl => match us, hl with | [_], _ => rfl
  have B1 := F1.binds (ps := ["state"]) fun _ _ _ _ _ _ us hl => match us, hl with | [_], _ => rfl
  have B2 := F2.binds (ps := ["state", "span"]) fun _ _ _ _ _ _ us hl => match us, hl with | [_, _], _ => rfl
  have B3 := F3.binds (ps := ["state", "some"]) fun _ _ _ _ _ _ us hl => match us, hl with | [_, _], _ => rfl
  have B4 := F4.binds (ps := ["error"]) fun _ _ _ _ _ _ us hl => match us, hl with | [_], _ => rfl
  have B5 := F5.binds (ps := ["error"]) fun _ _ _ _ _ _ us hl => match us, hl with | [_], _ => rfl
  have B6 := F6.binds (ps := []) fun _ _ _ _ _ _ us hl => match us, hl with | [], _ => rfl
  have B7 := F7.binds (ps := ["x"]) fun _ _ _ _ _ _ us hl => match us, hl with | [_], _ => rfl
  have B8 := F8.binds (ps := ["x"]) fun _ _ _ _ _ _ us hl => match us, hl with | [_], _ => rfl
  refine ⟨PySem.W.fnOf "law" "law" (defArgs s_law) (defBody s_law) (defScope s_law) .none kV9 dc9 pm9 aN9 cd9 ct9, fun s v => .of_eq rfl, fun base _ _ => ok_law F9 T
    { beg := ⟨f0, _, ok_begun (k := 0) F0 (PySem.W.mg_none_of X G z2), PySem.W.mg_of X G A0, K0, B0⟩,
       take := ⟨f2, _, ok_take (k := 0) F2 F1 B1 (PySem.W.mg_of X G A1) (PySem.W.mg_none_of X G z3), PySem.W.mg_of X G A2, K2, B2⟩,
       pick := ⟨f3, _, ok_pick (k := 0) F3 (ok_take (k := 0) F2 F1 B1 (PySem.W.mg_of X G A1) (PySem.W.mg_none_of X G z3)) K2 B2 (PySem.W.mg_of X G A2) (PySem.W.mg_none_of X G z4), PySem.W.mg_of X G A3, K3, B3⟩,
       mark := ⟨f5, _, ok_marks (k := 0) F5 F4 B4 (PySem.W.mg_of X G A4) T, PySem.W.mg_of X G A5, K5, B5⟩,
       plain := ⟨f6, _, ok_plain (k := 0) F6 T, PySem.W.mg_of X G A6, K6, B6⟩,
       name := ⟨f7, _, ok_by_name F7 T, PySem.W.mg_of X G A7, K7, B7⟩,
       pos := ⟨f8, _, ok_by_position F8 T, PySem.W.mg_of X G A8, K8, B8⟩,
       range := PySem.W.mg_none_of X G z5, enum := PySem.W.mg_none_of X G z6, repr := PySem.W.mg_none_of X G z7 }⟩
end Ck
open PySem PySem.W PyProof.Rows
set_option maxHeartbeats 0 in
theorem PySem.Challenge.cw_calltakers_k08_errors_apart_holds : PySem.Challenge.rw_calltakers_k08_errors_apart.Holds := by
  w_on; o_law; k_head; (case hw => w_witness2)
  k_fill
  refine Ck.walkG (l := PySem.Challenge.rw_calltakers_k08_errors_apart) (n := 63) (k := 4) (x := "script") (sp := Ck.spLaw) rfl (by decide) rfl ⟨rfl, by decide, by decide⟩ (fun w h Y => PySem.W.kIn_of Y) ?F (fun _ _ a ns hl hS => ⟨a, ns, rfl, hS, hl, fun _ => rfl⟩)
  case F =>
    intro w mg fa h KX G hmg
    refine' Ck.all_mk KX G hmg ?a0 ?a1 ?a2 ?a3 ?a4 ?a5 ?a6 ?a7 ?a8 ?a9 ?a10 ?a11 ?a12 ?a13 ?a14 ?a15 ?a16 ?a17 ?a18 ?a19 ?a20 ?a21 ?a22 ?a23 ?a24 ?a25 ?a26 ?a27 ?a28 ?a29 ?a30 ?x17 ?i17 ?l17 ?e17 ?x18 ?i18 ?l18 ?e18 ?x19 ?i19 ?l19 ?e19 ?x20 ?i20 ?l20 ?e20 ?x21 ?i21 ?l21 ?e21 ?x22 ?i22 ?l22 ?e22 ?x23 ?i23 ?l23 ?e23 ?x24 ?i24 ?l24 ?e24 ?x25 ?i25 ?l25 ?e25 ?x26 ?i26 ?l26 ?e26 ?x27 ?i27 ?l27 ?e27 ?x28 ?i28 ?l28 ?e28 ?x29 ?i29 ?l29 ?e29 ?x30 ?i30 ?l30 ?e30 ?A0 ?L0 ?E0 ?K0 ?A1 ?L1 ?E1 ?K1 ?A2 ?L2 ?E2 ?K2 ?A3 ?L3 ?E3 ?K3 ?A4 ?L4 ?E4 ?K4 ?A5 ?L5 ?E5 ?K5 ?A6 ?L6 ?E6 ?K6 ?A7 ?L7 ?E7 ?K7 ?A8 ?L8 ?E8 ?K8 ?A9 ?L9 ?E9 ?K9 ?z0 ?z1 ?z2 ?z3 ?z4 ?z5 ?z6 ?z7 ?rd ?fc ?ga ?all
    (case a0 => k_is)
    (case a1 => k_is)
    (case a2 => k_is)
    (case a3 => k_is)
    (case a4 => k_is)
    (case a5 => k_is)
    (case a6 => k_is)
    (case a7 => k_is)
    (case a8 => k_is)
    (case a9 => k_is)
    (case a10 => k_is)
    (case a11 => k_is)
    (case a12 => k_is)
    (case a13 => k_is)
    (case a14 => k_is)
    (case a15 => k_is)
    (case a16 => k_is)
    (case a17 => k_is)
    (case a18 => k_is)
    (case a19 => k_is)
    (case a20 => k_is)
    (case a21 => k_is)
    (case a22 => k_is)
    (case a23 => k_is)
    (case a24 => k_is)
    (case a25 => k_is)
    (case a26 => k_is)
    (case a27 => k_is)
    (case a28 => k_is)
    (case a29 => k_is)
    (case a30 => k_is)
    (case x17 => k_is)
    (case i17 => k_is)
    (case l17 => k_is)
    (case e17 => k_is)
    (case x18 => k_is)
    (case i18 => k_is)
    (case l18 => k_is)
    (case e18 => k_is)
    (case x19 => k_is)
    (case i19 => k_is)
    (case l19 => k_is)
    (case e19 => k_is)
    (case x20 => k_is)
    (case i20 => k_is)
    (case l20 => k_is)
    (case e20 => k_is)
    (case x21 => k_is)
    (case i21 => k_is)
    (case l21 => k_is)
    (case e21 => k_is)
    (case x22 => k_is)
    (case i22 => k_is)
    (case l22 => k_is)
    (case e22 => k_is)
    (case x23 => k_is)
    (case i23 => k_is)
    (case l23 => k_is)
    (case e23 => k_is)
    (case x24 => k_is)
    (case i24 => k_is)
    (case l24 => k_is)
    (case e24 => k_is)
    (case x25 => k_is)
    (case i25 => k_is)
    (case l25 => k_is)
    (case e25 => k_is)
    (case x26 => k_is)
    (case i26 => k_is)
    (case l26 => k_is)
    (case e26 => k_is)
    (case x27 => k_is)
    (case i27 => k_is)
    (case l27 => k_is)
    (case e27 => k_is)
    (case x28 => k_is)
    (case i28 => k_is)
    (case l28 => k_is)
    (case e28 => k_is)
    (case x29 => k_is)
    (case i29 => k_is)
    (case l29 => k_is)
    (case e29 => k_is)
    (case x30 => k_is)
    (case i30 => k_is)
    (case l30 => k_is)
    (case e30 => k_is)
    (case A0 => k_is)
    (case L0 => k_is)
    (case E0 => k_is)
    (case K0 => k_is)
    (case A1 => k_is)
    (case L1 => k_is)
    (case E1 => k_is)
    (case K1 => k_is)
    (case A2 => k_is)
    (case L2 => k_is)
    (case E2 => k_is)
    (case K2 => k_is)
    (case A3 => k_is)
    (case L3 => k_is)
    (case E3 => k_is)
    (case K3 => k_is)
    (case A4 => k_is)
    (case L4 => k_is)
    (case E4 => k_is)
    (case K4 => k_is)
    (case A5 => k_is)
    (case L5 => k_is)
    (case E5 => k_is)
    (case K5 => k_is)
    (case A6 => k_is)
    (case L6 => k_is)
    (case E6 => k_is)
    (case K6 => k_is)
    (case A7 => k_is)
    (case L7 => k_is)
    (case E7 => k_is)
    (case K7 => k_is)
    (case A8 => k_is)
    (case L8 => k_is)
    (case E8 => k_is)
    (case K8 => k_is)
    (case A9 => k_is)
    (case L9 => k_is)
    (case E9 => k_is)
    (case K9 => k_is)
    (case z0 => k_is)
    (case z1 => k_is)
    (case z2 => k_is)
    (case z3 => k_is)
    (case z4 => k_is)
    (case z5 => k_is)
    (case z6 => k_is)
    (case z7 => k_is)
    (case rd => k_is)
    (case fc => k_is)
    (case ga => k_is)
    (case all => kernel_rfl)
