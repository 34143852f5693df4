import PyProof.Rows.All
import Wide.All
import OpenK.AllK
import Wide.FinOn
import HandS.ForMost
import HandS.ForExc
import HandS.Flow
import HandS.Evl
import KE.DataCmp
import HandS.Style
import HandS.IsInst
import HandS.Conv
import HandS.WordsExc
import HandS.RaiseMore
import HandS.TupAny
import HandS.List
import HandS.Lambda
import HandS.ExcIs
import HandS.TryMany
import HandS.Dict
import HandS.EndTab
import KE.KNestM
import PySem.Challenge.RW_calltakers_k01_values_ordered
set_option Elab.async false
set_option linter.all false
set_option maxRecDepth 100000
set_option maxHeartbeats 4000000
namespace Ck
open PySem PySem.Spec PyProof.Rows L2
/-! ### the text -/
def topS (i : Nat) : Stmt := PySem.Challenge.pw_calltakers_k01_values_ordered.main.body.getD i (.Pass ⟨0, 0, 0, 0⟩)
abbrev sBegun : Stmt := topS 15
abbrev sMixed : Stmt := topS 16
abbrev sTake : Stmt := topS 17
abbrev sPick : Stmt := topS 18
/-! ### the state of the draws -/
theorem k_gc : ¬ (("great" : Str) = "cells") := by decide +kernel
theorem k_gr : ¬ (("great" : Str) = "rest") := by decide +kernel
theorem k_gt : ¬ (("great" : Str) = "turn") := by decide +kernel
theorem k_cr : ¬ (("cells" : Str) = "rest") := by decide +kernel
theorem k_ct : ¬ (("cells" : Str) = "turn") := by decide +kernel
theorem k_rt : ¬ (("rest" : Str) = "turn") := by decide +kernel
theorem kr {a b : Str} (h : ¬ a = b) : ¬ ((Sum.inr a : Key) = Sum.inr b) := fun z => h (Sum.inr.inj z)
def dS (g c : Addr) (r t : Int) : List (Key × V) := [(Sum.inr "great", .ref g), (Sum.inr "cells", .ref c), (Sum.inr "rest", .int r), (Sum.inr "turn", .int t)]
theorem v_great (g c : Addr) (r t : Int) : valV (dS g c r t) (Sum.inr "great") = some (.ref g) := valV_pos (p := ((Sum.inr "great" : Key), V.ref g)) rfl
theorem v_cells (g c : Addr) (r t : Int) : valV (dS g c r t) (Sum.inr "cells") = some (.ref c) := by
  unfold dS
  rw [valV_neg (p := ((Sum.inr "great" : Key), V.ref g)) (kr k_gc), valV_pos (p := ((Sum.inr "cells" : Key), V.ref c)) rfl]
theorem v_rest (g c : Addr) (r t : Int) : valV (dS g c r t) (Sum.inr "rest") = some (.int r) := by
  unfold dS
  rw [valV_neg (p := ((Sum.inr "great" : Key), V.ref g)) (kr k_gr), valV_neg (p := ((Sum.inr "cells" : Key), V.ref c)) (kr k_cr), valV_pos (p := ((Sum.inr "rest" : Key), V.int r)) rfl]
theorem v_turn (g c : Addr) (r t : Int) : valV (dS g c r t) (Sum.inr "turn") = some (.int t) := by
  unfold dS
  rw [valV_neg (p := ((Sum.inr "great" : Key), V.ref g)) (kr k_gt), valV_neg (p := ((Sum.inr "cells" : Key), V.ref c)) (kr k_ct), valV_neg (p := ((Sum.inr "rest" : Key), V.int r)) (kr k_rt), valV_pos (p := ((Sum.inr "turn" : Key), V.int t)) rfl]
theorem p_rest (g c : Addr) (r t y : Int) : putK (dS g c r t) (Sum.inr "rest") (.int y) = dS g c y t := by
  unfold putK
  rw [valV_any, v_rest, Option.isSome_some, if_pos rfl]
  unfold dS
  rw [List.map_cons, List.map_cons, List.map_cons, List.map_cons, List.map_nil, if_neg (kr k_gr), if_neg (kr k_cr), if_pos rfl, if_neg (kr fun z => k_rt z.symm)]
theorem p_turn (g c : Addr) (r t y : Int) : putK (dS g c r t) (Sum.inr "turn") (.int y) = dS g c r y := by
  unfold putK
  rw [valV_any, v_turn, Option.isSome_some, if_pos rfl]
  unfold dS
  rw [List.map_cons, List.map_cons, List.map_cons, List.map_cons, List.map_nil, if_neg (kr k_gt), if_neg (kr k_ct), if_neg (kr k_rt), if_pos rfl]
theorem dS_len (g c : Addr) (r t : Int) : (dS g c r t).length < sizeLine := by
  show 4 < sizeLine
  decide
/-- the state of the draws stands at d, its list of great numbers at g; n more draws are provided for -/
structure Dr (H : Hp) (d g : Addr) (n : Nat) : Prop where
  ex : ∃ (c : Addr) (gs cs : List Int) (r t : Int), H d = some (.dK (dS g c r t)) ∧ H g = some (.lst (gs.map V.int)) ∧ H c = some (.lst (cs.map V.int)) ∧ c ≠ g ∧ 0 ≤ r ∧ (∀ z ∈ gs, 0 ≤ z) ∧ 0 ≤ t ∧ t + n ≤ 1000000 ∧ gs.length ≤ 63
theorem dS_inj {g c g' c' : Addr} {r t r' t' : Int} (h : (some (HO.dK (dS g c r t)) : Option HO) = some (.dK (dS g' c' r' t'))) : g = g' ∧ c = c' := by
  have h1 := HO.dK.inj (Option.some.inj h)
  unfold dS at h1
  have h2 := List.cons.inj h1
  have h3 := List.cons.inj h2.2
  exact ⟨V.ref.inj (Prod.mk.inj h2.1).2, V.ref.inj (Prod.mk.inj h3.1).2⟩
/-- all but the draws' state is as it was, and the state's cells are the same list -/
structure Keep (d g : Addr) (H H' : Hp) : Prop where
  k : ∀ b o, b ≠ d → b ≠ g → H b = some o → H' b = some o
  c : ∀ g' c' r t, H d = some (.dK (dS g' c' r t)) → ∃ r' t', H' d = some (.dK (dS g' c' r' t'))
instance {d g : Addr} {H H' : Hp} : CoeFun (Keep d g H H') fun _ => ∀ b o, b ≠ d → b ≠ g → H b = some o → H' b = some o := ⟨Keep.k⟩
theorem Keep.refl {d g : Addr} {H : Hp} : Keep d g H H := ⟨fun _ _ _ _ h => h, fun _ _ r t h => ⟨r, t, h⟩⟩
theorem Keep.trans {d g : Addr} {H H1 H2 : Hp} (a : Keep d g H H1) (b : Keep d g H1 H2) : Keep d g H H2 := ⟨fun c o h1 h2 h => b.k c o h1 h2 (a.k c o h1 h2 h), fun g' c' r t h => by
  obtain ⟨r1, t1, h1⟩ := a.c g' c' r t h
  exact b.c g' c' r1 t1 h1⟩
theorem Keep.of {d g : Addr} {H H' : Hp} (s : Same H H') : Keep d g H H' := ⟨fun b o _ _ h => s b o h, fun _ _ r t h => ⟨r, t, s _ _ h⟩⟩
theorem Keep.mk2 {d g g0 c0 : Addr} {r0 t0 r1 t1 : Int} {H H' : Hp} (k : ∀ b o, b ≠ d → b ≠ g → H b = some o → H' b = some o) (h : H d = some (.dK (dS g0 c0 r0 t0))) (h' : H' d = some (.dK (dS g0 c0 r1 t1))) : Keep d g H H' := ⟨k, fun g' c' r t e => by
  rw [h] at e
  obtain ⟨rfl, rfl⟩ := dS_inj e
  exact ⟨r1, t1, h'⟩⟩
/-- the list of the cells stands at c -/
def Cell (H : Hp) (d c : Addr) : Prop := ∃ g r t, H d = some (.dK (dS g c r t))
theorem Keep.cell {d g c : Addr} {H H' : Hp} (k : Keep d g H H') (h : Cell H d c) : Cell H' d c := by
  obtain ⟨g', r, t, e⟩ := h
  obtain ⟨r', t', e'⟩ := k.c g' c r t e
  exact ⟨g', r', t', e'⟩
theorem Dr.cell {H : Hp} {d g : Addr} {n : Nat} (D : Dr H d g n) : ∃ c gs, Cell H d c ∧ H c = some (.lst gs) := by
  obtain ⟨c, gs, cs, r, t, h1, h2, h3, _⟩ := D.ex
  exact ⟨c, _, ⟨g, r, t, h1⟩, h3⟩
/-- a list of another place is written -/
theorem Dr.put {H : Hp} {d g c p : Addr} {n : Nat} {o : HO} (D : Dr H d g n) (hc : Cell H d c) (h1 : p ≠ d) (h2 : p ≠ g) (h3 : p ≠ c) : Dr (upd H p o) d g n := by
  obtain ⟨c', gs, cs, r, t, e1, e2, e3, z⟩ := D.ex
  obtain ⟨g0, r0, t0, e0⟩ := hc
  rw [e1] at e0
  obtain ⟨_, rfl⟩ := dS_inj e0
  exact ⟨c', gs, cs, r, t, by rw [upd_ne h1.symm]; exact e1, by rw [upd_ne h2.symm]; exact e2, by rw [upd_ne h3.symm]; exact e3, z⟩
theorem Cell.put {H : Hp} {d c p : Addr} {o : HO} (h : Cell H d c) (h1 : p ≠ d) : Cell (upd H p o) d c := by
  obtain ⟨g0, r0, t0, e0⟩ := h
  exact ⟨g0, r0, t0, by rw [upd_ne h1.symm]; exact e0⟩
theorem Dr.ne (D : Dr H d g n) : d ≠ g := by
  obtain ⟨c, gs, cs, r, t, h1, h2, _⟩ := D.ex
  exact ne_of h1 h2 fun z => by cases z
theorem Dr.mono {H H' : Hp} {d g : Addr} {n : Nat} (D : Dr H d g n) (s : Same H H') : Dr H' d g n := by
  obtain ⟨c, gs, cs, r, t, h1, h2, h3, z⟩ := D.ex
  exact ⟨c, gs, cs, r, t, s _ _ h1, s _ _ h2, s _ _ h3, z⟩
theorem Dr.less {H : Hp} {d g : Addr} {n m : Nat} (D : Dr H d g n) (h : m ≤ n) : Dr H d g m := by
  obtain ⟨c, gs, cs, r, t, h1, h2, h3, h4, h5, h6, h7, h8, h9⟩ := D.ex
  exact ⟨c, gs, cs, r, t, h1, h2, h3, h4, h5, h6, h7, by omega, h9⟩
theorem same_upd {H : Hp} {p : Addr} {o : HO} (h : H p = none) : Same H (upd H p o) := fun b x e => by
  rw [upd_ne (ne_of_none e h)]
  exact e
section
variable {P : Program} {w : World} {K : PySem.W.Frag} {mg : Str → Option Value} {base : Heap}
/-! ### _law_begun -/
theorem scBegun : FnScope ["script", "wide", "cell"] ["script"] (defScope sBegun) := ⟨rfl, rfl, rfl, by decide +kernel, rfl, by decide +kernel, by decide +kernel⟩
def spBegun (K : PySem.W.Frag) : Sp := fun vs H Q _ => ∃ (a : Addr) (ns : List Int), vs = [.ref a] ∧ SqL K H a (ns.map V.int) ∧ ns.length ≤ 63 ∧ ∀ d g H', H d = none → H g = none → Same H H' → Dr H' d g 1000000 → Q (.ref d) H'
def wide (ns : List Int) : List Int := (ns.filter fun z => decide (10 ^ 18 ≤ z)).map fun z => z - 10 ^ 18
theorem wide_nn (ns : List Int) : ∀ z ∈ wide ns, 0 ≤ z := fun z h => by
  obtain ⟨y, hy, rfl⟩ := List.mem_map.mp h
  have := of_decide_eq_true (List.mem_filter.mp hy).2
  omega
theorem wide_len (ns : List Int) : (wide ns).length ≤ ns.length := by
  unfold wide
  rw [List.length_map]
  exact List.length_filter_le _ _
theorem take_snoc {α : Type} {l : List α} {i : Nat} {x : α} (h : l[i]? = some x) : l.take (i + 1) = l.take i ++ [x] := by
  rw [List.take_add_one, h]
  rfl
theorem wide_yes {ns : List Int} {i : Nat} {z : Int} (h : ns[i]? = some z) (c : 10 ^ 18 ≤ z) : wide (ns.take (i + 1)) = wide (ns.take i) ++ [z - 10 ^ 18] := by
  unfold wide
  rw [take_snoc h, List.filter_append, List.map_append, List.filter_cons, if_pos (decide_eq_true c)]
  rfl
theorem wide_no {ns : List Int} {i : Nat} {z : Int} (h : ns[i]? = some z) (c : ¬ 10 ^ 18 ≤ z) : wide (ns.take (i + 1)) = wide (ns.take i) := by
  unfold wide
  rw [take_snoc h, List.filter_append, List.map_append, List.filter_cons, if_neg (by rw [decide_eq_false c]; decide)]
  show _ ++ [] = _
  rw [List.append_nil]
theorem at_int {ns : List Int} {i : Nat} {x : V} (h : (ns.map V.int)[i]? = some x) : ∃ z, ns[i]? = some z ∧ x = .int z := by
  rw [List.getElem?_map] at h
  cases e : ns[i]? with
  | none => rw [e] at h; cases h
  | some z => rw [e] at h; exact ⟨z, rfl, (Option.some.inj h).symm⟩
theorem ok_begun {f : Addr} {fd : FuncData} {k : Nat} (F : Fun K "_law_begun" "_law_begun" sBegun f fd) (ml : mg "list" = none) : FnOk P w K mg base CX0 (k + 1) f fd ["script"] (spBegun K) := by
  refine F.ok scBegun (fun vs H Q E h => ?_) (fun cdv A outer s H vs Q E hr h => ?_)
  · obtain ⟨a, ns, rfl, _⟩ := h
    rfl
  · obtain ⟨a, ns, rfl, hS, hlen, q⟩ := h
    refine ⟨_, pss_cons (ps_setLc (i := 1) (own := [("cell", 2)]) (g := gName 2) rfl scBegun.nd rfl rfl (sw_true rfl rfl rfl (by decide +kernel)) (pi_list (pv 0)) (blkOk_by (own := [("cell", 2)]) (N := ["script", "wide", "cell"]) (sc := defScope sBegun) (by decide +kernel))
        (fun _ _ _ _ _ => pg_name (i := 2) scBegun.nd rfl (Or.inl rfl)) (fun _ _ _ _ _ => pts_one (pt_cmpR op_ge (pv 2) (pe_op op_pow pe_int pe_int) (nomark _)))
        (fun _ _ _ _ _ => pe_op op_sub (pv 2) (pe_op op_pow pe_int pe_int)))
      (pss_one (ps_ret (pe_disp (pps_cons pe_str (pv 1) (pps_cons pe_str (pe_callTy call_list_of (by rfl) ml boot_list (pa_cons (pv 0) pa_nil)) (pps_cons pe_str pe_int (pps_cons pe_str pe_int pps_nil)))) (by rfl) (by rfl) (fun z => by cases z) (by decide)))), ?_⟩
    refine ⟨.ref a, rfl, a, rfl, ⟨_, hS⟩, fun g hg => lc_list (K := K) (a := a) (xs := ns.map V.int) (fun i H' => Same H H' ∧ H' g = some (.lst ((wide (ns.take i)).map V.int))) ⟨same_upd hg, upd_same⟩ (fun i H' _ p => p.1.seq hS) ?_ ?_⟩
    · rintro i x H' hx ⟨sm, hG⟩
      obtain ⟨z, hz, rfl⟩ := at_int hx
      have hi : i < ns.length := (List.getElem?_eq_some_iff.mp hz).1
      have p18 : (10 : Int) ^ (18 : Int).toNat = 10 ^ 18 := rfl
      refine ⟨rfl, .int z, rfl, _, _, rfl, rfl, ⟨by decide, by decide, by decide⟩, _, _, rfl, rfl, _, rfl, ?_⟩
      rw [p18]
      by_cases c : (10 : Int) ^ 18 ≤ z
      · rw [decide_eq_true c]
        refine iteT ?_
        refine ⟨.int z, rfl, _, _, rfl, rfl, ⟨by decide, by decide, by decide⟩, _, _, rfl, rfl, (wide (ns.take i)).map V.int, hG, ?_, ?_, ?_⟩
        · rw [List.length_map]
          exact small1000 (by have := wide_len (ns.take i); rw [List.length_take] at this; omega)
        · exact fun b o e => by
            rw [upd_ne (ne_of_none e hg)]
            exact sm b o e
        · rw [upd_same, wide_yes hz c, List.map_append]
          rfl
      · rw [decide_eq_false c]
        refine iteF ?_
        exact ⟨sm, by rw [wide_no hz c]; exact hG⟩
    · rintro H' ⟨sm, hG⟩
      rw [List.length_map, List.take_length] at hG
      intro d hd
      have hgd : g ≠ d := ne_of_none hG hd
      have hd0 : H d = none := by
        cases e : H d with
        | none => rfl
        | some o => rw [sm d o e] at hd; cases hd
      refine ⟨.ref g, rfl, .ref a, rfl, a, _, rfl, .inl ((same_upd hd).seq (sm.seq hS)), fun c hc => ?_⟩
      have hcd : c ≠ d := fun z => by rw [z, upd_same] at hc; cases hc
      have hcg : c ≠ g := fun z => by rw [z, upd_ne hgd, hG] at hc; cases hc
      have hc0 : H' c = none := by rw [upd_ne hcd] at hc; exact hc
      refine ⟨by rw [upd_ne hcd.symm, upd_same], dS g c 0 0, rfl, (by show 4 ≤ 15; decide), q d g _ hd0 hg (fun b o e => ?_) ⟨c, wide ns, ns, 0, 0, ?_, ?_, ?_, hcg, Int.le_refl 0, wide_nn ns, Int.le_refl 0, by decide, Nat.le_trans (wide_len ns) hlen⟩⟩
      · rw [upd_ne (ne_of_none e hd0), upd_ne (ne_of_none (sm b o e) hc0), upd_ne (ne_of_none e hd0)]
        exact sm b o e
      · rw [upd_same]
        rfl
      · rw [upd_ne hgd, upd_ne hcg.symm, upd_ne hgd]
        exact hG
      · rw [upd_ne hcd, upd_same]
/-! ### _law_mixed -/
theorem scMixed : FnScope ["state", "turn", "found", "prime", "blend", "cell"] ["state"] (defScope sMixed) := ⟨rfl, rfl, rfl, by decide +kernel, rfl, by decide +kernel, by decide +kernel⟩
def spMixed : Sp := fun vs H Q _ => ∃ (d g c : Addr) (cs : List Int) (r t : Int), vs = [.ref d] ∧ H d = some (.dK (dS g c r t)) ∧ H c = some (.lst (cs.map V.int)) ∧ 0 ≤ t ∧ t ≤ 1000000 ∧
  ∀ (z : Int) H', 0 ≤ z → (∀ b o, b ≠ d → H b = some o → H' b = some o) → H' d = some (.dK (dS g c r (t + 1))) → Q (.int z) H'
def primes : List Int := [2147483629, 2147483587, 2147483579, 2147483563, 2147483549, 2147483543]
theorem primes_ok : ∀ p ∈ primes, 0 < p ∧ p < 2147483648 := by decide
theorem ok_mixed {f : Addr} {fd : FuncData} {k : Nat} (F : Fun K "_law_mixed" "_law_mixed" sMixed f fd) (mi : mg "int" = none) : FnOk P w K mg base CX0 (k + 1) f fd ["state"] spMixed := by
  refine F.ok scMixed (fun vs H Q E h => ?_) (fun cdv A outer s H vs Q E hr h => ?_)
  · obtain ⟨d, g, c, cs, r, t, rfl, _⟩ := h
    rfl
  · obtain ⟨d, g, c, cs, r, t, rfl, hd, hc, ht, ht2, q⟩ := h
    have hu := hu_of hr
    refine ⟨_, pss_cons (ps_set (i := 1) scMixed.nd rfl (.inl rfl) (pe_op op_add (pe_dget hu (pv 0) pe_str (fun _ _ => rfl)) pe_int))
      (pss_cons (ps_dput hu (pv 0) pe_str (pv 1) rfl)
      (pss_cons (ps_set (i := 2) scMixed.nd rfl (.inl rfl) pe_int)
      (pss_cons (ps_for PassesOwn.never rfl (pi_list (pe_lst (pa_cons pe_int (pa_cons pe_int (pa_cons pe_int (pa_cons pe_int (pa_cons pe_int (pa_cons pe_int pa_nil)))))))) (pg_name (i := 3) scMixed.nd rfl (.inl rfl))
        (pss_cons (ps_set (i := 4) scMixed.nd rfl (.inl rfl) (pe_op op_add (pe_op op_mul pe_int (pv 1)) (pe_op op_fdivN (pv 3) pe_int)))
        (pss_cons (ps_for PassesOwn.never rfl (pi_list (pe_dget hu (pv 0) pe_str (fun _ _ => rfl))) (pg_name (i := 5) scMixed.nd rfl (.inl rfl))
          (pss_one (ps_set (i := 4) scMixed.nd rfl (.inl rfl) (pe_op op_mod (pe_callTy call_int1 (by rfl) mi boot_int (pa_cons (pe_op op_add (pe_op op_mul (pv 4) pe_int) (pv 5)) pa_nil)) (pv 3)))))
        (pss_one (ps_set (i := 2) scMixed.nd rfl (.inl rfl) (pe_op op_add (pe_op op_mul (pv 2) pe_int) (pe_op op_mod (pe_callTy call_int1 (by rfl) mi boot_int (pa_cons (pe_op op_pow (pv 4) pe_int) pa_nil)) (pv 3))))))))
      (pss_one (ps_ret (pv 2)))))), ?_⟩
    -- turn = state['turn'] + 1; state['turn'] = turn; found = 0
    have g1 : DGet H d (.str "turn") (some (.int t)) := by
      have := DGet.k (k := (Sum.inr "turn" : Key)) hd
      rw [v_turn] at this
      exact this
    refine ⟨.ref d, rfl, d, .int t, rfl, g1, _, _, rfl, rfl, ?_⟩
    refine ⟨.int (t + 1), rfl, .ref d, rfl, d, _, rfl, DPut.k (k := (Sum.inr "turn" : Key)) hd (dS_len ..), ?_⟩
    rw [p_turn]
    generalize hH1 : upd H d (.dK (dS g c r (t + 1))) = H1
    have e1 : H1 d = some (.dK (dS g c r (t + 1))) := by rw [← hH1, upd_same]
    have o1 : ∀ b o, b ≠ d → H b = some o → H1 b = some o := fun b o hb e => by rw [← hH1, upd_ne hb]; exact e
    have hcd : c ≠ d := ne_of hc hd fun z => by cases z
    -- the list of primes
    refine ⟨by decide, fun p np => ?_⟩
    have s1 : Same H1 (upd H1 p (.lst (primes.map V.int))) := same_upd np
    generalize hH2 : upd H1 p (.lst (primes.map V.int)) = H2 at s1
    have e2 : H2 d = some (.dK (dS g c r (t + 1))) := s1 _ _ e1
    have c2 : H2 c = some (.lst (cs.map V.int)) := s1 _ _ (o1 c _ hcd hc)
    have p2 : H2 p = some (.lst (primes.map V.int)) := by rw [← hH2, upd_same]
    have o2 : ∀ b o, b ≠ d → H b = some o → H2 b = some o := fun b o hb e => s1 b o (o1 b o hb e)
    refine ⟨p, rfl, ⟨primes.map V.int, ?_⟩, ?_⟩
    · show SqL _ (upd H1 p (.lst (primes.map V.int))) p _
      rw [hH2]
      exact .of p2
    show ∃ W : Nat → Nat → L2.St → Hp → Prop, (∃ m, W 0 m _ (upd H1 p (.lst (primes.map V.int)))) ∧ _
    rw [hH2]
    refine for_list (K := K) (a := p) (xs := primes.map V.int) (fun i σ H' => H' = H2 ∧ ∃ (z : Int) (x3 x4 x5 : Option V), σ = [some (.ref d), some (.int (t + 1)), some (.int z), x3, x4, x5] ∧ 0 ≤ z) ⟨rfl, 0, none, none, none, rfl, Int.le_refl 0⟩ (fun i σ H' _ h => by rw [h.1]; exact .of p2) ?_ ?_
    · rintro i x σ H' hx ⟨rfl, z, x3, x4, x5, rfl, hz⟩
      obtain ⟨pr, hpr, rfl⟩ := at_int hx
      obtain ⟨q1, q2⟩ := primes_ok pr (List.mem_of_getElem? hpr)
      -- blend = 130363 * turn + prime // 13
      refine ⟨.int (t + 1), rfl, _, _, rfl, rfl, .inl ⟨by decide, by decide⟩, .int pr, rfl, _, _, rfl, rfl, ⟨by decide, by decide⟩, _, _, rfl, rfl, ?_⟩
      have b0n : ((130363 : Int) * (t + 1) + pr.fdiv 13).natAbs < 2 ^ 64 := by
        have h13 : pr.fdiv 13 = pr / 13 := Int.fdiv_eq_ediv_of_nonneg pr (by decide)
        rw [h13]
        have : (2 : Nat) ^ 64 = 18446744073709551616 := by decide
        omega
      have gc : DGet H' d (.str "cells") (some (.ref c)) := by
        have := DGet.k (k := (Sum.inr "cells" : Key)) e2
        rw [v_cells] at this
        exact this
      refine ⟨.ref d, rfl, d, .ref c, rfl, gc, c, rfl, ⟨cs.map V.int, .of c2⟩, ?_⟩
      refine for_list (K := K) (a := c) (xs := cs.map V.int) (fun i σ H3 => H3 = H' ∧ ∃ (b : Int) (x5 : Option V), σ = [some (.ref d), some (.int (t + 1)), some (.int z), some (.int pr), some (.int b), x5] ∧ b.natAbs < 2 ^ 64) ⟨rfl, 130363 * (t + 1) + pr.fdiv 13, x5, rfl, b0n⟩ (fun i σ H3 _ h => by rw [h.1]; exact .of c2) ?_ ?_
      · rintro j y σ H3 hy ⟨rfl, b, y5, rfl, hb⟩
        obtain ⟨cell, hcell, rfl⟩ := at_int hy
        refine ⟨.int b, rfl, _, _, rfl, rfl, .inr ⟨by decide, by decide⟩, .int cell, rfl, _, _, rfl, rfl, .inl ⟨_, rfl, .int pr, rfl, _, _, rfl, rfl, q1, ?_⟩⟩
        refine ⟨rfl, _, _, rfl, ?_⟩
        have h0 := Int.emod_nonneg (b * 48271 + cell) (Int.ne_of_gt q1)
        have h1 := Int.emod_lt_of_pos (b * 48271 + cell) q1
        have : (2 : Nat) ^ 64 = 18446744073709551616 := by decide
        omega
      · rintro σ H3 ⟨rfl, b, y5, rfl, hb⟩
        refine ⟨.int z, rfl, _, _, rfl, rfl, .inr ⟨by decide, by decide⟩, .int b, rfl, _, _, rfl, rfl, ⟨by decide, by decide, hb⟩, .inl ⟨_, rfl, .int pr, rfl, _, _, rfl, rfl, q1, _, _, rfl, rfl, ?_⟩⟩
        refine ⟨rfl, _, _, _, _, rfl, ?_⟩
        have h0 := Int.emod_nonneg (b ^ (5 : Int).toNat) (Int.ne_of_gt q1)
        omega
    · rintro σ H' ⟨rfl, z, x3, x4, x5, rfl, hz⟩
      exact ⟨.int z, rfl, q z H' hz o2 e2⟩
/-! ### _law_take -/
theorem scTake : FnScope ["state", "span", "found"] ["state", "span"] (defScope sTake) := ⟨rfl, rfl, rfl, by decide +kernel, rfl, by decide +kernel, by decide +kernel⟩
def spTake : Sp := fun vs H Q _ => ∃ (d g : Addr) (n : Nat) (span : Int), vs = [.ref d, .int span] ∧ Dr H d g (n + 1) ∧ 0 < span ∧ span < 1073741824 ∧
  ∀ (z : Int) H', 0 ≤ z → z < span → Keep d g H H' → Dr H' d g n → Q (.int z) H'
theorem data_ints {H : Hp} : ∀ ns : List Int, DpAll K H (ns.map V.int) (ns.map PyData.int)
  | [] => .nil
  | z :: ns => .cons (.int z) (data_ints ns)
theorem canLay_ints : ∀ ns : List Int, PyData.canLayAll0 (ns.map PyData.int) = true
  | [] => rfl
  | z :: ns => by
    show (PyData.canLay0 (.int z) && PyData.canLayAll0 (ns.map PyData.int)) = true
    rw [canLay_ints ns]
    rfl
theorem depth_ints : ∀ ns : List Int, PyData.depthAll (ns.map PyData.int) ≤ 1
  | [] => by decide
  | z :: ns => by
    have := depth_ints ns
    rw [List.map_cons]
    simp only [PyData.depthAll, PyData.depth]
    omega
theorem shaped_ints (ns : List Int) : SeqAt.shaped (.list (ns.map PyData.int)) = true := by
  have h1 := canLay_ints ns
  have h2 := depth_ints ns
  unfold SeqAt.shaped
  rw [Bool.and_eq_true_iff]
  refine ⟨?_, decide_eq_true ?_⟩
  · simp only [PyData.canLay0]
    exact h1
  · simp only [PyData.depth]
    omega
theorem eqv_nil : ∀ ns : List Int, PyData.eqv (.list (ns.map PyData.int)) (.list []) = ns.isEmpty
  | [] => by simp [PyData.eqv, PyData.eqvAll]
  | z :: ns => by simp [PyData.eqv, PyData.eqvAll]
theorem ok_take {f fM : Addr} {fd fdM : FuncData} {k : Nat} (F : Fun K "_law_take" "_law_take" sTake f fd) (FM : Fun K "_law_mixed" "_law_mixed" sMixed fM fdM) (bM : Binds K fdM ["state"] []) (gM : mg "_law_mixed" = some (.ref fM)) (mi : mg "int" = none) :
    FnOk P w K mg base CX0 (k + 2) f fd ["state", "span"] spTake := by
  have GM : FnOk P w K mg base CX0 (k + 1) fM fdM ["state"] spMixed := ok_mixed FM mi
  refine F.ok scTake (fun vs H Q E h => ?_) (fun cdv A outer s H vs Q E hr h => ?_)
  · obtain ⟨d, g, n, span, rfl, _⟩ := h
    rfl
  · obtain ⟨d, g, n, span, rfl, D, hs0, hs1, q⟩ := h
    have hu := hu_of hr
    refine ⟨_, Evl.pss_cut (ps_if (PW.pt (pw_and (pt_cmpR op_eq (pe_dget hu (pv 0) pe_str (fun _ _ => rfl)) pe_int (nomark _)) (pw_and1 (pt_cmpR (op_neD hr.units) (pe_dget hu (pv 0) pe_str (fun _ _ => rfl)) (pe_lst pa_nil) (nomark _)))))
        (pss_one (ps_dput hu (pv 0) pe_str (pe_bm PySem.F.plainAttrs_list PySem.F.slot_list_pop PySem.F.type_list_pop mt_popAt (pe_dget hu (pv 0) pe_str (fun _ _ => rfl)) (pa_cons pe_int pa_nil)) rfl))
        (pss_one (ps_if (pt_cmpR op_eq (pe_dget hu (pv 0) pe_str (fun _ _ => rfl)) pe_int (nomark _))
          (pss_one (ps_dput hu (pv 0) pe_str (pe_call GM hr (by rfl) gM FM.kp bM .nil pass0 (pa_cons (pv 0) pa_nil)) rfl)) pss_nil)))
      (pss_cons (ps_set (i := 2) scTake.nd rfl (.inl rfl) (pe_op op_mod (pe_callTy call_int1 (by rfl) mi boot_int (pa_cons (pe_dget hu (pv 0) pe_str (fun _ _ => rfl)) pa_nil)) (pv 1)))
      (pss_cons (ps_dput hu (pv 0) pe_str (pe_op op_fdivN (pe_dget hu (pv 0) pe_str (fun _ _ => rfl)) (pv 1)) rfl)
      (pss_one (ps_ret (pv 2))))), ?_⟩
    obtain ⟨c, gs, cs, r, t, h1, h2, h3, hcg, hr0, hgs, ht0, htn, hgl⟩ := D.ex
    have hdg : d ≠ g := D.ne
    have hcd : c ≠ d := ne_of h3 h1 fun z => by cases z
    have gR : ∀ {H1 : Hp} {r t : Int}, H1 d = some (.dK (dS g c r t)) → DGet H1 d (.str "rest") (some (.int r)) := fun {H1 r t} e => by
      have := DGet.k (k := (Sum.inr "rest" : Key)) e
      rw [v_rest] at this
      exact this
    have gG : ∀ {H1 : Hp} {r t : Int}, H1 d = some (.dK (dS g c r t)) → DGet H1 d (.str "great") (some (.ref g)) := fun {H1 r t} e => by
      have := DGet.k (k := (Sum.inr "great" : Key)) e
      rw [v_great] at this
      exact this
    -- behind the ifs: some rest that is not negative
    refine ⟨fun σ' H' => σ' = [some (.ref d), some (.int span), none] ∧ Keep d g H H' ∧ ∃ (gs : List Int) (r t : Int), H' d = some (.dK (dS g c r t)) ∧ H' g = some (.lst (gs.map V.int)) ∧ H' c = some (.lst (cs.map V.int)) ∧ 0 ≤ r ∧ (∀ z ∈ gs, 0 ≤ z) ∧ 0 ≤ t ∧ t + n ≤ 1000000 ∧ gs.length ≤ 63, ?_, ?_⟩
    · refine ⟨.ref d, rfl, d, .int r, rfl, gR h1, rfl, _, rfl, ?_⟩
      by_cases e0 : r = 0
      · subst e0
        refine iteT ?_
        refine ⟨.ref d, rfl, d, .ref g, rfl, gG h1, Nat.zero_le _, fun p np => ?_⟩
        have s1 : Same H (upd H p (.lst [])) := same_upd np
        refine ⟨.list (gs.map PyData.int), .list [], .lst (.of (s1 _ _ h2)) (data_ints gs), .lst (.of upd_same) .nil, shaped_ints gs, by decide, _, rfl, ?_⟩
        rw [eqv_nil]
        cases gs with
        | cons y ys =>
          refine iteT ?_
          -- state['rest'] = state['great'].pop(0)
          refine ⟨.ref d, rfl, d, .ref g, rfl, gG (s1 _ _ h1), .inl ⟨rfl, _, .of (s1 _ _ h2)⟩, g, (y :: ys).map V.int, 0, 0, .int y, rfl, rfl, s1 _ _ h2, by decide, by decide, ?_, rfl, ?_⟩
          · show (if (decide ((0 : Int) ≤ (if (0 : Int) < 0 then 0 + _ else 0)) && decide ((if (0 : Int) < 0 then 0 + _ else 0) < (((y :: ys).map V.int).length : Int))) = true then some (Int.toNat (if (0 : Int) < 0 then 0 + _ else 0)) else none) = some 0
            have : (0 : Int) < (((y :: ys).map V.int).length : Int) := by
              rw [List.length_map, List.length_cons]
              omega
            simp [this]
          · refine ⟨.ref d, rfl, d, _, rfl, DPut.k (k := (Sum.inr "rest" : Key)) (by rw [upd_ne hdg]; exact s1 _ _ h1) (dS_len ..), ?_⟩
            rw [p_rest]
            refine ⟨rfl, Keep.mk2 (fun b o hb hg e => ?_) h1 upd_same, ys, y, t, upd_same, ?_, ?_, hgs y (List.mem_cons_self ..), fun z hz => hgs z (List.mem_cons_of_mem _ hz), ht0, by omega, by rw [List.length_cons] at hgl; omega⟩
            · rw [upd_ne hb, upd_ne hg]
              exact s1 b o e
            · rw [upd_ne hdg.symm, upd_same]
              rfl
            · rw [upd_ne hcd, upd_ne hcg]
              exact s1 _ _ h3
        | nil =>
          refine iteF ?_
          refine ⟨.ref d, rfl, d, .int 0, rfl, gR (s1 _ _ h1), rfl, _, rfl, ?_⟩
          refine iteT ?_
          refine ⟨.ref d, rfl, d, g, c, cs, 0, t, rfl, s1 _ _ h1, s1 _ _ h3, ht0, by omega, fun z H' hz k' hd' => ?_⟩
          refine ⟨.ref d, rfl, d, _, rfl, DPut.k (k := (Sum.inr "rest" : Key)) hd' (dS_len ..), ?_⟩
          rw [p_rest]
          refine ⟨rfl, Keep.mk2 (fun b o hb hg e => ?_) h1 upd_same, [], z, t + 1, upd_same, ?_, ?_, hz, hgs, by omega, by omega, hgl⟩
          · rw [upd_ne hb]
            exact k' b o hb (s1 b o e)
          · rw [upd_ne hdg.symm]
            exact k' _ _ hdg.symm (s1 _ _ h2)
          · rw [upd_ne hcd]
            exact k' _ _ hcd (s1 _ _ h3)
      · have en : decide (V.int r = V.int 0) = false := decide_eq_false fun z => e0 (V.int.inj z)
        rw [en]
        refine iteF ?_
        refine ⟨.ref d, rfl, d, .int r, rfl, gR h1, rfl, _, rfl, ?_⟩
        rw [en]
        refine iteF ?_
        exact ⟨rfl, Keep.refl, gs, r, t, h1, h2, h3, hr0, hgs, ht0, by omega, hgl⟩
    · rintro σ' H' ⟨rfl, kp, gs, r, t, h1, h2, h3, hr0, hgs, ht0, htn, hgl⟩
      refine ⟨.ref d, rfl, d, .int r, rfl, gR h1, .inl ⟨r, rfl, .int span, rfl, _, _, rfl, rfl, hs0, ?_⟩⟩
      refine ⟨.ref d, rfl, d, .int r, rfl, gR h1, .int span, rfl, _, _, rfl, rfl, ⟨by omega, by omega⟩, .ref d, rfl, d, _, rfl, DPut.k (k := (Sum.inr "rest" : Key)) h1 (dS_len ..), ?_⟩
      rw [p_rest]
      have hq0 : 0 ≤ r.fdiv span := by
        rw [Int.fdiv_eq_ediv_of_nonneg r (Int.le_of_lt hs0)]
        exact Int.ediv_nonneg hr0 (Int.le_of_lt hs0)
      refine ⟨.int (r % span), rfl, q _ _ (Int.emod_nonneg r (Int.ne_of_gt hs0)) (Int.emod_lt_of_pos r hs0) (kp.trans (Keep.mk2 (fun b o hb hg e => ?_) h1 upd_same)) ⟨c, gs, cs, r.fdiv span, t, upd_same, ?_, ?_, hcg, hq0, hgs, ht0, htn, hgl⟩⟩
      · rw [upd_ne hb]
        exact e
      · rw [upd_ne hdg.symm]
        exact h2
      · rw [upd_ne hcd]
        exact h3
/-! ### _law_pick -/
theorem scPick : FnScope ["state", "some"] ["state", "some"] (defScope sPick) := ⟨rfl, rfl, rfl, by decide +kernel, rfl, by decide +kernel, by decide +kernel⟩
def spPick (K : PySem.W.Frag) : Sp := fun vs H Q _ => ∃ (d g a : Addr) (n : Nat) (xs : List V), vs = [.ref d, .ref a] ∧ Dr H d g (n + 1) ∧ a ≠ d ∧ a ≠ g ∧ H a = some (.lst xs) ∧ 0 < xs.length ∧ xs.length < 1000 ∧
  ∀ (x : V) H', x ∈ xs → Keep d g H H' → Dr H' d g n → Q x H'
theorem ok_pick {f fT : Addr} {fd fdT : FuncData} {k : Nat} (F : Fun K "_law_pick" "_law_pick" sPick f fd) (GT : FnOk P w K mg base CX0 (k + 2) fT fdT ["state", "span"] spTake) (kT : PySem.W.keepIn K (.ref fT) = true) (bT : Binds K fdT ["state", "span"] []) (gT : mg "_law_take" = some (.ref fT)) (ml : mg "len" = none) :
    FnOk P w K mg base CX0 (k + 3) f fd ["state", "some"] (spPick K) := by
  refine F.ok scPick (fun vs H Q E h => ?_) (fun cdv A outer s H vs Q E hr h => ?_)
  · obtain ⟨d, g, a, n, xs, rfl, _⟩ := h
    rfl
  · obtain ⟨d, g, a, n, xs, rfl, D, had, hag, ha, h0, h1, q⟩ := h
    refine ⟨_, pss_one (ps_ret (pe_ix ix_list (pv 1) (pe_call GT hr (by rfl) gT kT bT .nil pass0 (pa_cons (pv 0) (pa_cons (pe_callB call_len_seq (by rfl) ml PySem.boot_len (pa_cons (pv 1) pa_nil)) pa_nil))) (fun _ _ => rfl))), ?_⟩
    refine ⟨.ref a, rfl, .ref d, rfl, .ref a, rfl, a, xs, rfl, .inl (.of ha), d, g, n, xs.length, rfl, D, by omega, by omega, fun z H' hz0 hz1 kp D' => ?_⟩
    have hz : z.toNat < xs.length := by omega
    refine ⟨a, xs, z, xs[z.toNat], rfl, rfl, .of (kp a _ had hag ha), at_of (j := z.toNat) (by omega) (List.getElem?_eq_getElem hz), q _ H' (List.getElem_mem hz) kp D'⟩
end
end Ck
namespace Ck
open PySem PySem.Spec PyProof.Rows L2
/-! ### defs that are called where no repr is under way -/
structure FnG (P : Program) (w : World) (K : PySem.W.Frag) (mg : Str → Option Value) (base : Heap) (CX : CXT) (k : Nat) (f : Addr) (fd : FuncData) (ps : List Str) (sp : Sp) : Prop where
  len : ∀ vs H Q E, sp vs H Q E → vs.length = ps.length
  go : ∀ (B : Around), B.guards = some [] → Room k B → ∀ (fr : List Env) (z : Shared) (H : Hp) (as : Args) (us : List Value) (vs : List V) (Q : VK) (E : XK), Env0 P w K mg base B fr z H →
    BindsTo z fd as (ps.zip us) → Vals vs us → sp vs H Q E → codeAny (model P w) B (.call (.ref f) as) (CR CX fr P w H z Q E) z
section
variable {P : Program} {w : World} {K : PySem.W.Frag} {mg : Str → Option Value} {base : Heap} {CX : CXT}
theorem FnG.of {k : Nat} {f : Addr} {fd : FuncData} {ps : List Str} {sp : Sp} (F : FnOk P w K mg base CX k f fd ps sp) : FnG P w K mg base CX k f fd ps sp :=
  ⟨F.len, fun B _ hr fr z H as us vs Q E e hb r h => F.run B fr z H as us vs Q E hr e hb r h⟩
/-- a def by its body, the body read where no repr is under way -/
theorem fnG_of {x qual : Str} {st : Stmt} {f : Addr} {fd : FuncData} {N ps : List Str} {k : Nat} {sp : Sp} (F : Fun K x qual st f fd) (S : FnScope N ps (defScope st)) (len : ∀ vs H Q E, sp vs H Q E → vs.length = ps.length)
    (body : ∀ (cd : Value) (B : Around) (fr : List Env) (z : Shared) (H : Hp) (vs : List V) (Q : VK) (E : XK), B.guards = some [] → Room k (B.deeper (envOfC qual (defScope st) z.heap.objs.size f cd)) → sp vs H Q E →
      ∃ t, PSs (cxOf CX P w K mg base N qual (defScope st) f cd B fr z H E) (defBody st) t ∧ t { nx := fun _ H' => Q .non H', rt := Q } (start N vs) H) : FnG P w K mg base CX (k + 1) f fd ps sp := by
  obtain ⟨oc, od, kV, doc, pm, an, cd, ct, osl, rfl, lk, hcd⟩ := F.ex
  refine ⟨len, fun B hg hr fr z H as us vs Q E e0 hb r hs => ?_⟩
  have at_ : K.In z.heap := e0.mod.kin.keeps fun b o y => (e0.bs b o y).1
  have lm : z.heap.NoLimit := e0.mod.nolimit.keeps fun b o y => (e0.bs b o y).1
  have kd : ∀ y ∈ ps.zip us, (defScope st).names.lookup y.1 = some .local ∨ ((defScope st).names.lookup y.1 = some .cell ∧ ((cellsFrom (z.heap.objs.size + 1) (defScope st).names []).lookup y.1).isSome = true) := by
    rintro ⟨n, v⟩ hy
    exact (S.par n (List.of_mem_zip hy).1).imp id fun q => ⟨q, PySem.W.cellsFrom_some _ _ _ (.inl q)⟩
  refine codeAny_call_function hr.depth (at_ _ _ lk) rfl S.co S.gen rfl (PySem.W.codeRec_of at_ hcd) (hb _ _ _ _ (wpAny_newFunctionEnv_cells S.kind kd fun env he z1 x => ?_))
  subst he
  refine ⟨lm.keeps x.toInCall.keep, codeAny_func ?_⟩
  obtain ⟨t, ht, hq⟩ := body cd B fr z H vs Q E hg (hr.deeper _) hs
  refine wpAny_mono (ht.run [] z1 (start N vs) H _ (inv_start S hr.hd e0 (len _ _ _ _ hs) r x) hq) (fun fl z2 hz => ?_) fun _ _ y => y
  cases fl with
  | ret u => obtain ⟨v, σ', H', J, rv, q⟩ := hz; exact ⟨v, H', J.os, J.bare, J.base, J.hok, rv, q⟩
  | next => obtain ⟨σ', H', J, q⟩ := hz; exact ⟨V.non, H', J.os, J.bare, J.base, J.hok, rfl, q⟩
  | brk => obtain ⟨_, _, _, q⟩ := hz; exact q.elim
  | cont => obtain ⟨_, _, _, q⟩ := hz; exact q.elim
end
section
variable {X : Cx} {CX : CXT} {k : Nat} {f : Addr} {fd : FuncData} {ps : List Str} {sp : Sp} {dvs : List V} {ds : List Value} {E : XK} {x : Str} {p pos : Pos} {e : Expr} {es : List Expr} {t : TA}
theorem runG {pins : List (Addr × Obj)} {σ : L2.St} {H : Hp} {s : Shared} {Q : VK} {us : List Value} {vs : List V} (hgd : X.A.guards = some []) (F : FnG X.prog X.w X.K X.mg X.base CX k f fd ps sp) (hr : Room k X.A) (hb : Binds X.K fd ps ds) (hd : Vals dvs ds) (hx : Passes CX X E)
    (I : Inv X pins σ H s) (r : Vals vs us) (h : sp (vs ++ dvs) H Q E) : wpAny (model X.prog X.w) X.A (call (.ref f) us) (EP X pins σ Q) X.xe s := by
  have r2 : Vals (vs ++ dvs) (us ++ ds) := r.append hd
  refine wpAny_call (codeAny_mono (F.go X.A hgd hr X.stack s H ⟨us, []⟩ (us ++ ds) (vs ++ dvs) Q E I.env0 (hb s us I.kIn (by rw [← r2.length]; exact F.len _ _ _ _ h)) r2 h) fun y z hz => ?_)
  cases y with
  | error er => exact hx pins σ H s er z I hz
  | ok fl =>
    cases fl with
    | ret u => exact I.after hz
    | next => exact hz.elim
    | brk => exact hz.elim
    | cont => exact hz.elim
theorem pe_callG (hgd : X.A.guards = some []) (F : FnG X.prog X.w X.K X.mg X.base CX k f fd ps sp) (hr : Room k X.A) (hg : Gl X x) (hm : X.mg x = some (.ref f)) (hk : PySem.W.keepIn X.K (.ref f) = true) (hb : Binds X.K fd ps ds) (hd : Vals dvs ds) (hx : Passes CX X E)
    (ha : PA X (e :: es) t) (hdb : (x == ("__debug__" : Str)) = false := by decide) (he : starEach (e :: es) X.env = (false, eval e X.env) :: starEach es X.env := by rfl) (hpl : (backTo pos (starEach es X.env)).any (·.1) = false := by rfl) :
    PE X (.Call (.Name x p) (e :: es) [] pos) (tCall sp dvs E t) :=
  ⟨fun pins s σ H Q I h => wpAny_Call_Name_kw (ld_glob I hg hm (PySem.W.callWith_K (h₀ := X.base) I.ok.mod.kin hk (thn (ha.run pos pins s σ H _ I h) fun us s1 ⟨vs, H1, I1, r, q⟩ => ⟨I1.kIn, runG hgd F hr hb hd hx I1 r q⟩) he hpl) hdb)⟩
end
/-! ### the law's own call -/
/-- what stands at the law's entry: the script alone, if it is none of the module's objects -/
def entryH (K : PySem.W.Frag) (a : Addr) (o : Obj) (xs : List V) : Hp := fun b => if b = a ∧ K.lookup a = none then some (.frz o (.lst xs)) else none
theorem entryH_at {K : PySem.W.Frag} {a b : Addr} {o : Obj} {xs : List V} {u : HO} (h : entryH K a o xs b = some u) : b = a ∧ K.lookup a = none ∧ u = .frz o (.lst xs) := by
  unfold entryH at h
  split at h
  · rename_i c
    exact ⟨c.1, c.2, (Option.some.inj h).symm⟩
  · cases h
theorem callG {P : Program} {w : World} {K : PySem.W.Frag} {mg mb : Str → Option Value} {k : Nat} {fa a : Addr} {fd : FuncData} {x : Str} {sp : Sp} {z : Shared} {us : List Value} {ns : List Int}
    (at_ : K.In z.heap) (gl : z.heap.Ns mainGlobals mg) (bl : z.heap.Ns builtinsNs mb) (bb : ∀ x : Str, x ≠ "__name__" → mb x = bootBuiltins x) (lm : z.heap.NoLimit) (gn : z.gens = #[])
    (ho : z.heap.get? a = some { cls := .type "list", data := .seq us.toArray }) (hi : IntsAre us ns) (hl : ns.length ≤ sizeLine) (hr : Room k callerA)
    (F : ∀ base : Heap, K.In base → base.Ns mainGlobals mg → FnG P w K mg base CX0 k fa fd [x] sp) (hb : ∀ (s : Shared) (u : Value), BindsTo s fd ⟨[u], []⟩ [(x, u)])
    (hs : ∀ H : Hp, SqL K H a (ns.map V.int) → sp [.ref a] H (fun v _ => v = .bl true) E0) :
    codeAny (model P w) callerA (.call (.ref fa) ⟨[.ref a], []⟩) (fun r z' => r = .ok (.ret (.bool true)) ∧ OldK z.heap z'.heap ∧ z'.os = z.os ∧ AllBare z'.gens) z := by
  have rv := vals_ints hi
  have lenV := hi.length
  generalize hO : ({ cls := .type "list", data := .seq us.toArray } : Obj) = o at ho
  have od : o.data = .seq us.toArray 0 := by rw [← hO]
  have oc : o.cls = .type "list" := by rw [← hO]
  have odc : o.dict = none := by rw [← hO]
  generalize hH : entryH K a o (ns.map V.int) = H
  have only : ∀ {b : Addr} {u : HO}, H b = some u → b = a ∧ K.lookup a = none ∧ u = .frz o (.lst (ns.map V.int)) := fun {b u} e => entryH_at (K := K) (by rw [hH]; exact e)
  have hok : HOk P w H z.heap := fun b u e => by
    obtain ⟨rfl, _, rfl⟩ := only e
    exact ⟨ho, by rw [List.length_map]; exact hl, us, _, rv, by rw [← hO] at ho; exact ho⟩
  have hS : SqL K H a (ns.map V.int) := by
    cases e : K.lookup a with
    | none => exact .inl (.inr ⟨o, by rw [← hH]; exact if_pos ⟨rfl, e⟩⟩)
    | some o' =>
      have q := at_ a o' e
      rw [ho] at q
      cases q
      exact .inr ⟨o, us.toArray, 0, e, oc, odc, od, by rw [List.size_toArray, lenV]; exact hl, by simpa using rv⟩
  have free : ∀ {b : Addr} {y : Obj}, z.heap.get? b = some y → y ≠ o ∨ K.lookup a ≠ none → H b = none := fun {b y} e d => by
    cases q : H b with
    | none => rfl
    | some u =>
      obtain ⟨rfl, n, _⟩ := only q
      rw [ho] at e
      rcases d with d | d
      · exact absurd (Option.some.inj e).symm d
      · exact absurd n d
  have nsT : ∀ {b : Addr} {m : Str → Option Value}, z.heap.Ns b m → (hidT z.heap H).Ns b m := by
    rintro b m ⟨y, es, ep, e, d, r⟩
    exact ⟨y, es, ep, hidT_get e (free e (.inl fun q => by rw [q, od] at d; cases d)), d, r⟩
  have inT : K.In (hidT z.heap H) := fun b y e => hidT_get (at_ b y e) (by
    cases q : H b with
    | none => rfl
    | some u =>
      obtain ⟨rfl, n, _⟩ := only q
      rw [n] at e
      cases e)
  have md : Mod K mg (hidT z.heap H) := ⟨inT, nsT gl, ⟨mb, nsT bl, bb⟩, by
    obtain ⟨mc, h1, h2⟩ := lm
    exact ⟨mc, nsT h1, h2⟩⟩
  have e0 : Env0 P w K mg (hidT z.heap H) callerA [] z H := ⟨rfl, md, fun b y e => of_hidT e, Nat.le_of_eq (hidT_size _ _), trivial, fun b m => absurd (show b ∈ ([] : List Addr) from m) (by simp), hok, .of_eq gn⟩
  refine codeAny_mono ((F _ inT (nsT gl)).go callerA rfl hr [] z H ⟨[.ref a], []⟩ [.ref a] [.ref a] _ _ e0 (hb z (.ref a)) (.cons rfl .nil) (hs H hS)) fun r z' y => ?_
  cases r with
  | error e => exact y.elim
  | ok fl =>
    cases fl with
    | next => exact y.elim
    | brk => exact y.elim
    | cont => exact y.elim
    | ret u =>
      obtain ⟨v, H', os, bare, un, hok', rv', q⟩ := y
      have q : v = .bl true := q
      subst q
      obtain rfl : u = Value.bool true := rv'
      refine ⟨rfl, OldK.of_keep fun b y e => ?_, os, bare⟩
      cases q : H b with
      | none => exact un.keep b y e q (fun m => absurd (show b ∈ ([] : List Addr) from m) (by simp)) (by simp)
      | some u =>
        obtain ⟨rfl, _, rfl⟩ := only q
        obtain ⟨e2, _⟩ := hok' b _ (un.frzs b o _ q)
        rw [ho] at e
        cases e
        exact e2
theorem walkG {l : PySem.W.OpenLaw} {n k : Nat} {q : Program} {loose : List Str} {XP : (Str → Option Value) → Heap → Prop} {YP : World → Heap → Prop} {d : DefRec} {K : Params → PySem.W.Frag} {sp : PySem.W.Frag → Sp} {x : Str}
    (hn : l.most = some n) (hz : n ≤ sizeLine) (hdf : d.params.defaults = []) (hr : Room k callerA) (hY : ∀ (w : World) (h : Heap), YP w h → (K w.params).In h)
    (F : ∀ (w : World) (mg : Str → Option Value) (fa : Addr) (h : Heap), (K w.params).In h → h.Ns mainGlobals mg → mg d.name = some (.ref fa) →
      ∃ fd : FuncData, (∀ (s : Shared) (u : Value), BindsTo s fd ⟨[u], []⟩ [(x, u)]) ∧ ∀ base : Heap, (K w.params).In base → base.Ns mainGlobals mg → FnG l.prog w (K w.params) mg base CX0 k fa fd [x] (sp (K w.params)))
    (hs : ∀ (K : PySem.W.Frag) (H : Hp) (a : Addr) (ns : List Int), ns.length ≤ n → SqL K H a (ns.map V.int) → sp K [.ref a] H (fun v _ => v = .bl true) E0) :
    PySem.W.WalkO q loose XP YP l.row.toRowW d [] (fun f vs => PySem.call f vs) := by
  refine Att.attach_call hn hdf fun w z0 z1 mg mb fa o pm cd doc a us ns G Y ho hd hcd hmg hobj hints hlen hg => ?_
  obtain ⟨fd, hb, hF⟩ := F w mg fa _ (hY w _ Y) G.T.g hmg
  exact callG (hY w _ Y) G.T.g G.T.b G.T.builtins G.T.nolimit hg hobj hints (Nat.le_trans hlen hz) hr hF hb fun H hS => hs _ H a ns hlen hS
/-! ### repr -/
/-- data, dicts too -/
inductive Dx (K : PySem.W.Frag) (H : Hp) : V → PyData → Prop
  | of {v : V} {d : PyData} : Dp K H v d → d.hasDict = false → Dx K H v d
  | one {p : Addr} {x : Str} {v : V} {d : PyData} : H p = some (.dK [(Sum.inr x, v)]) → Dp K H v d → d.hasDict = false → (∀ a, v ≠ .ref a) → Dx K H (.ref p) (.dict [(.str x, d)])
theorem Dx.mono {K : PySem.W.Frag} {H H' : Hp} (s : Same H H') {v : V} {d : PyData} (h : Dx K H v d) (m : ∀ {v d}, Dp K H v d → Dp K H' v d) : Dx K H' v d := by
  cases h with
  | of a b => exact .of (m a) b
  | one a b c e => exact .one (s _ _ a) (m b) c e
mutual
theorem dp_mono {K : PySem.W.Frag} {H H' : Hp} (s : Same H H') : ∀ (d : PyData) (v : V), Dp K H v d → Dp K H' v d
  | .none, _, h => by cases h; exact .non
  | .bool b, _, h => by cases h; exact .bl b
  | .int i, _, h => by cases h; exact .int i
  | .str x, _, h => by cases h; exact .str x
  | .list ds, _, h => by
    cases h with
    | lst a b => exact .lst (s.seq a) (dpAll_mono s ds _ b)
  | .tuple ds, _, h => by
    cases h with
    | tup a b =>
      refine .tup ?_ (dpAll_mono s ds _ b)
      rcases a with (a | ⟨o, a⟩) | a
      · exact .inl (.inl (s _ _ a))
      · exact .inl (.inr ⟨o, s _ _ a⟩)
      · exact .inr a
  | .dict _, _, h => by cases h
theorem dpAll_mono {K : PySem.W.Frag} {H H' : Hp} (s : Same H H') : ∀ (ds : List PyData) (vs : List V), DpAll K H vs ds → DpAll K H' vs ds
  | [], _, h => by cases h; exact .nil
  | d :: ds, _, h => by
    cases h with
    | cons a b => exact .cons (dp_mono s d _ a) (dpAll_mono s ds _ b)
end
/-- what repr says of a value -/
def Rp (K : PySem.W.Frag) (H : Hp) (x : V) (z : Str) : Prop := (∃ i : Int, x = .int i ∧ i.natAbs.log2 < 1920 ∧ z = toString i) ∨ ∃ d, Dx K H x d ∧ d.showable = true ∧ d.depth ≤ 18 ∧ d.shown.length ≤ sizeLine ∧ z = d.shown
theorem Rp.mono {K : PySem.W.Frag} {H H' : Hp} {x : V} {z : Str} (h : Rp K H x z) (s : Same H H') : Rp K H' x z := by
  rcases h with h | ⟨d, a, b⟩
  · exact .inl h
  · exact .inr ⟨d, a.mono s fun {_ _} q => dp_mono s _ _ q, b⟩
theorem call_repr {X : Cx} (hg : X.A.guards = some []) (hu : X.A.units + 20 < cLine) : CallR X (.builtin "repr") (fun xs H Q => ∃ x z, xs = [x] ∧ Rp X.K H x z ∧ Q (.str z) H) := by
  intro pins s σ H xs us Q I r h
  obtain ⟨x, z, rfl, hx, q⟩ := h
  obtain ⟨u, rfl, ru⟩ := vals1 r
  rcases hx with ⟨i, rfl, hi, rfl⟩ | ⟨d, hx, hs, hd, hz, rfl⟩
  · obtain ⟨t, rfl⟩ := ru
    exact PySem.P.repr_of_int hi ⟨.str (toString i), H, I.tok _, ⟨_, rfl⟩, q⟩
  have end_ : ∀ (h' : Heap) (t : Tok) (tk : Nat), (∀ b o, s.heap.get? b = some o → h'.get? b = some o) → EP X pins σ Q (.str d.shown t) { s with heap := h', toks := tk } := fun h' t tk k => ⟨.str d.shown, H, I.kept (t' := tk) k, ⟨t, rfl⟩, q⟩
  have main : ∀ as, Reads s.heap u d as → (d.hasDict = true → sysModules ∉ as) → wpAny (model X.prog X.w) X.A (call (.builtin "repr") [u]) (EP X pins σ Q) X.xe s := fun as rd ns => by
    cases u with
    | ref a => exact repr_of_reads' rd hs ns hg (by omega) (fun _ _ e => e) (fun h' u tk k => end_ h' u tk k) hz
    | none => cases rd; exact PySem.P.repr_of_none (by simpa only [PyData.shown] using end_ s.heap s.toks (s.toks + 1) fun _ _ e => e)
    | bool b => cases rd; exact PySem.P.repr_of_bool (by simpa only [PyData.shown] using end_ s.heap s.toks (s.toks + 1) fun _ _ e => e)
    | int i t => cases rd; exact PySem.P.repr_of_int (by simpa [PyData.showable] using hs) (by simpa only [PyData.shown] using end_ s.heap s.toks (s.toks + 1) fun _ _ e => e)
    | str y t => cases rd; exact PySem.P.repr_of_str (by simpa only [PyData.shown] using end_ s.heap s.toks (s.toks + 1) fun _ _ e => e) (by simpa only [PyData.shown] using hz)
    | _ => cases rd
  cases hx with
  | of hp hn =>
    obtain ⟨as, rd⟩ := Dp.reads I d x u hp ru
    exact main as rd fun z => by rw [hn] at z; cases z
  | @one p y v d' hp hv hn nr =>
    obtain rfl : u = Value.ref p := ru
    obtain ⟨_, hsys, vs, kv, o, es, ep, ho, ⟨hc, _, _⟩, hdat, _, hes, _⟩ := I.hok p _ hp
    cases kv with
    | @cons _ kv1 _ _ h1 h2 =>
      cases h2
      obtain ⟨k, v1⟩ := kv1
      obtain ⟨ek0, rv⟩ := h1
      obtain rfl : Sum.inr y = k := ek0
      generalize hl : es.toList = l at hes
      cases hes with
      | @cons en _ _ _ hk hv' hr =>
        cases hr
        obtain ⟨tk, ek⟩ := Value.isStrOf_shape (x := y) (v := en.key) hk
        have hv2 : en.val = v1 := hv'
        obtain ⟨as, rd⟩ := Dp.reads I d' v v1 hv rv
        have z0 : as = [] := by
          cases v with
          | ref a => exact absurd rfl (nr a)
          | non => cases hv; cases rv; cases rd; rfl
          | bl b => cases hv; cases rv; cases rd; rfl
          | int i => cases hv; obtain ⟨_, rfl⟩ := rv; cases rd; rfl
          | str z => cases hv; obtain ⟨_, rfl⟩ := rv; cases rd; rfl
          | _ => cases hv
        subst z0
        have r1 : ReadsAll s.heap (es.toList.map (·.key)) ([((PyData.str y : PyData), d')].map (·.1)) ([] ++ []) := by
          rw [hl]
          show ReadsAll s.heap [en.key] [PyData.str y] _
          rw [ek]
          exact .cons (.str y tk) .nil
        have r2 : ReadsAll s.heap (es.toList.map (·.val)) ([((PyData.str y : PyData), d')].map (·.2)) ([] ++ []) := by
          rw [hl]
          show ReadsAll s.heap [en.val] [d'] _
          rw [hv2]
          exact .cons rd .nil
        refine main _ (.dict ho hc hdat r1 r2) fun _ m => ?_
        have : sysModules = p := by simpa using m
        rw [this] at hsys
        exact absurd hsys (by simp)
def rRepr (K : PySem.W.Frag) : List V → Hp → VK → Prop := fun xs H Q => ∃ x z, xs = [x] ∧ Rp K H x z ∧ Q (.str z) H
theorem call_reprK {X : Cx} (K : PySem.W.Frag) (hK : X.K = K) (hg : X.A.guards = some []) (hu : X.A.units + 20 < cLine) : CallR X (.builtin "repr") (rRepr K) := by
  subst hK
  exact call_repr hg hu
theorem ix_tupK {X : Cx} (K : PySem.W.Frag) (hK : X.K = K) : IxR X (rIxT K) := by
  subst hK
  exact ix_tup
end Ck
set_option autoImplicit false
namespace Ck
open PySem PySem.SeqAt
open AutoSeq1 (wpAny_loadPart')
open MeetsSeq MeetsSeq2 MeetsSeq3 SeqRoads2
/-! ### the first place decides -/
section
variable {l b : Addr} {x y : Value} {xs ys : List Value} {n n2 : Nat} {dd dd2 : Option Addr} {sl sl2 : Array (Option Value)} {k : Bool}
theorem tup_ltM :
    Meets (Builtin.«tuple.__lt__» ⟨[.ref l, .ref b], []⟩)
      (fun A R s => s.heap.get? l = some { cls := .type "tuple", dict := dd, data := .seq (x :: xs).toArray n, slots := sl } ∧ s.heap.get? b = some { cls := .type "tuple", dict := dd2, data := .seq (y :: ys).toArray n2, slots := sl2 } ∧
        EqAt A.in1 s x y false ∧ RcOp .Lt A.in1 s x y k ∧ R (.ok (.ret (.bool k))) s) :=
  .of_wp fun prog w A R s h => by
    obtain ⟨hp, g, d, tk, os⟩ := s; obtain ⟨hl, hb, he, hr, h⟩ := h
    have f2 := AutoSeq1.sub_tuple_tuple
    have e1 := he prog w
    have r1 := hr prog w
    wp_walk using wpAny_loadPart' hl, wpAny_loadPart' hb, e1, r1
    exact ⟨_, rfl, h⟩
theorem tup_gtM :
    Meets (Builtin.«tuple.__gt__» ⟨[.ref l, .ref b], []⟩)
      (fun A R s => s.heap.get? l = some { cls := .type "tuple", dict := dd, data := .seq (x :: xs).toArray n, slots := sl } ∧ s.heap.get? b = some { cls := .type "tuple", dict := dd2, data := .seq (y :: ys).toArray n2, slots := sl2 } ∧
        EqAt A.in1 s x y false ∧ RcOp .Gt A.in1 s x y k ∧ R (.ok (.ret (.bool k))) s) :=
  .of_wp fun prog w A R s h => by
    obtain ⟨hp, g, d, tk, os⟩ := s; obtain ⟨hl, hb, he, hr, h⟩ := h
    have f2 := AutoSeq1.sub_tuple_tuple
    have e1 := he prog w
    have r1 := hr prog w
    wp_walk using wpAny_loadPart' hl, wpAny_loadPart' hb, e1, r1
    exact ⟨_, rfl, h⟩
theorem lst_ltM :
    Meets (Builtin.«list.__lt__» ⟨[.ref l, .ref b], []⟩)
      (fun A R s => s.heap.get? l = some { cls := .type "list", dict := dd, data := .seq (x :: xs).toArray n, slots := sl } ∧ s.heap.get? b = some { cls := .type "list", dict := dd2, data := .seq (y :: ys).toArray n2, slots := sl2 } ∧
        EqAt A.in1 s x y false ∧ RcOp .Lt A.in1 s x y k ∧ R (.ok (.ret (.bool k))) s) := by
  intro prog w A R s h
  obtain ⟨hp, g, d, tk, os⟩ := s; obtain ⟨hl, hb, he, hr, h⟩ := h
  have f3 := AutoSeq1.sub_list_list
  wp_walk using wpAny_loadPart' hl, wpAny_loadPart' hb
  refine ⟨plainId_quiet plain_eq_loop _, codeAny_builtin entry_eq_loop ?_⟩
  rw [Around.under_plainId plain_eq_loop _]
  have he' : EqAt A.in1 ⟨hp, g, d, tk, os⟩ ((x :: xs).toArray[Int.toNat 0]'(by simp)) ((y :: ys).toArray[Int.toNat 0]'(by simp)) false := he
  have e1 := he' prog w
  have hr' : RcOp .Lt A.in1 ⟨hp, g, d, tk, os⟩ ((x :: xs).toArray[Int.toNat 0]'(by simp)) ((y :: ys).toArray[Int.toNat 0]'(by simp)) k := hr
  have r1 := hr' prog w
  wp_walk using wpAny_loadPart' hl, wpAny_loadPart' hb, e1, r1
  exact h
end
section
variable {A : Around} {s : Shared} {l b : Addr} {x y : Value} {xs ys : List Value} {k : Bool}
theorem tup_lt1 (hl : s.heap.IsTuple l (x :: xs).toArray) (hb : s.heap.IsTuple b (y :: ys).toArray) (hu : A.units < cLine) (he : EqAt A.in1 s x y false) (hr : RcOp .Lt A.in1 s x y k) : RcOp .Lt A s (.ref l) (.ref b) k := fun prog w E Q h => by
  obtain ⟨⟨cls, dd, data, sl⟩, ho, hc, n, hd⟩ := id hl
  obtain ⟨⟨cls2, dd2, data2, sl2⟩, ho2, hc2, n2, hd2⟩ := id hb
  simp only at hc hd hc2 hd2
  subst hc hd hc2 hd2
  exact richCompare_meets_room (op := .Lt) ⟨_, ho, rfl⟩ ⟨_, ho2, rfl⟩ F.slot_tuple_lt F.entry_tuple_lt (F.args_tuple_lt_2 _ _) tup_ltM
    ⟨ho, ho2, he, hr, show Value.bool k ≠ Value.notImplemented ∧ Q (.bool k) s from ⟨(fun x => nomatch x), h⟩⟩ hu
theorem tup_gt1 (hl : s.heap.IsTuple l (x :: xs).toArray) (hb : s.heap.IsTuple b (y :: ys).toArray) (hu : A.units < cLine) (he : EqAt A.in1 s x y false) (hr : RcOp .Gt A.in1 s x y k) : RcOp .Gt A s (.ref l) (.ref b) k := fun prog w E Q h => by
  obtain ⟨⟨cls, dd, data, sl⟩, ho, hc, n, hd⟩ := id hl
  obtain ⟨⟨cls2, dd2, data2, sl2⟩, ho2, hc2, n2, hd2⟩ := id hb
  simp only at hc hd hc2 hd2
  subst hc hd hc2 hd2
  exact richCompare_meets_room (op := .Gt) ⟨_, ho, rfl⟩ ⟨_, ho2, rfl⟩ F.slot_tuple_gt F.entry_tuple_gt (F.args_tuple_gt_2 _ _) tup_gtM
    ⟨ho, ho2, he, hr, show Value.bool k ≠ Value.notImplemented ∧ Q (.bool k) s from ⟨(fun x => nomatch x), h⟩⟩ hu
theorem lst_lt1 (hl : s.heap.IsList l (x :: xs).toArray) (hb : s.heap.IsList b (y :: ys).toArray) (hu : A.units < cLine) (he : EqAt A.in1 s x y false) (hr : RcOp .Lt A.in1 s x y k) : RcOp .Lt A s (.ref l) (.ref b) k := fun prog w E Q h => by
  obtain ⟨⟨cls, dd, data, sl⟩, ho, hc, n, hd⟩ := id hl
  obtain ⟨⟨cls2, dd2, data2, sl2⟩, ho2, hc2, n2, hd2⟩ := id hb
  simp only at hc hd hc2 hd2
  subst hc hd hc2 hd2
  exact richCompare_meets_room (op := .Lt) ⟨_, ho, rfl⟩ ⟨_, ho2, rfl⟩ F.slot_list_lt F.entry_list_lt (F.args_list_lt_2 _ _) lst_ltM
    ⟨ho, ho2, he, hr, show Value.bool k ≠ Value.notImplemented ∧ Q (.bool k) s from ⟨(fun x => nomatch x), h⟩⟩ hu
end
end Ck
set_option autoImplicit false
namespace Ck
open PySem PySem.SeqAt PySem.W PyProof.Rows
/-! ### values, their sameness and order -/
mutual
def isV : PyData → Bool
  | .none => true
  | .bool _ => true
  | .int _ => true
  | .str x => PyData.strOk x
  | .tuple xs => isVs xs
  | .list _ => false
  | .dict _ => false
def isVs : List PyData → Bool
  | [] => true
  | x :: xs => isV x && isVs xs
end
def rkV : PyData → Int
  | .none => 0
  | .bool _ => 1
  | .int _ => 2
  | .str _ => 3
  | _ => 4
mutual
def eqV : PyData → PyData → Bool
  | .none, y => match y with | .none => true | _ => false
  | .bool a, y => match y with | .bool b => a == b | _ => false
  | .int a, y => match y with | .int b => a == b | _ => false
  | .str a, y => match y with | .str b => a == b | _ => false
  | .tuple xs, y => match y with | .tuple ys => eqVs xs ys | _ => false
  | .list _, _ => false
  | .dict _, _ => false
def eqVs : List PyData → List PyData → Bool
  | [], ys => match ys with | [] => true | _ => false
  | x :: xs, ys => match ys with | [] => false | y :: ys => eqV x y && eqVs xs ys
end
def ltS (a b : Str) : Bool := dataLt (.str a) (.str b)
mutual
def ltV : PyData → PyData → Bool
  | .none, y => decide (0 < rkV y)
  | .bool a, y => match y with | .bool b => !a && b | y => decide (1 < rkV y)
  | .int a, y => match y with | .int b => decide (a < b) | y => decide (2 < rkV y)
  | .str a, y => match y with | .str b => ltS a b | y => decide (3 < rkV y)
  | .tuple xs, y => match y with | .tuple ys => ltVs xs ys | y => decide (4 < rkV y)
  | .list _, _ => false
  | .dict _, _ => false
def ltVs : List PyData → List PyData → Bool
  | [], ys => match ys with | [] => false | _ :: _ => true
  | x :: xs, ys => match ys with | [] => false | y :: ys => if eqV x y = true then ltVs xs ys else ltV x y
end
mutual
def keyD : PyData → PyData
  | .none => .tuple [.int 0, .none]
  | .bool b => .tuple [.int 1, .bool b]
  | .int i => .tuple [.int 2, .int i]
  | .str x => .tuple [.int 3, .str x]
  | .tuple xs => .tuple [.int 4, .tuple (keyDs xs)]
  | .list _ => .none
  | .dict _ => .none
def keyDs : List PyData → List PyData
  | [] => []
  | x :: xs => keyD x :: keyDs xs
end
mutual
def rnkD : PyData → PyData
  | .none => .list [.int 0, .int 0]
  | .bool b => .list [.int 1, .bool b]
  | .int i => .list [.int 2, .int i]
  | .str x => .list [.int 3, .str x]
  | .tuple xs => .list [.int 4, .list (rnkDs xs)]
  | .list _ => .none
  | .dict _ => .none
def rnkDs : List PyData → List PyData
  | [] => []
  | x :: xs => rnkD x :: rnkDs xs
end
theorem isVs_cons {x : PyData} {xs : List PyData} (h : isVs (x :: xs) = true) : isV x = true ∧ isVs xs = true := by
  rw [isVs, Bool.and_eq_true] at h
  exact h
theorem ltVs_cons (x y : PyData) (xs ys : List PyData) : ltVs (x :: xs) (y :: ys) = if eqV x y = true then ltVs xs ys else ltV x y := by rw [ltVs]
theorem eqVs_cons (x y : PyData) (xs ys : List PyData) : eqVs (x :: xs) (y :: ys) = (eqV x y && eqVs xs ys) := by rw [eqVs]
mutual
theorem eqV_eq : ∀ x y : PyData, eqV x y = true → x = y
  | .none, y, h => by cases y <;> simp [eqV] at h ⊢
  | .bool a, y, h => by cases y <;> simp [eqV] at h ⊢; exact h
  | .int a, y, h => by cases y <;> simp [eqV] at h ⊢; exact h
  | .str a, y, h => by cases y <;> simp [eqV] at h ⊢; exact h
  | .tuple xs, y, h => by
    cases y with
    | tuple ys => rw [eqV] at h; rw [eqVs_eq xs ys h]
    | _ => simp [eqV] at h
  | .list _, y, h => by simp [eqV] at h
  | .dict _, y, h => by simp [eqV] at h
theorem eqVs_eq : ∀ xs ys : List PyData, eqVs xs ys = true → xs = ys
  | [], ys, h => by cases ys <;> simp [eqVs] at h ⊢
  | x :: xs, ys, h => by
    cases ys with
    | nil => simp [eqVs] at h
    | cons y ys =>
      rw [eqVs_cons, Bool.and_eq_true] at h
      rw [eqV_eq x y h.1, eqVs_eq xs ys h.2]
end
mutual
theorem eqV_refl : ∀ x : PyData, isV x = true → eqV x x = true
  | .none, _ => by simp [eqV]
  | .bool a, _ => by simp [eqV]
  | .int a, _ => by simp [eqV]
  | .str a, _ => by simp [eqV]
  | .tuple xs, h => by rw [eqV]; exact eqVs_refl xs (by simpa [isV] using h)
  | .list _, h => by simp [isV] at h
  | .dict _, h => by simp [isV] at h
theorem eqVs_refl : ∀ xs : List PyData, isVs xs = true → eqVs xs xs = true
  | [], _ => by simp [eqVs]
  | x :: xs, h => by rw [eqVs_cons, eqV_refl x (isVs_cons h).1, eqVs_refl xs (isVs_cons h).2]; rfl
end
theorem eqV_symm {x y : PyData} (hx : isV x = true) (hy : isV y = true) : eqV y x = eqV x y := by
  cases h : eqV x y with
  | true => rw [← eqV_eq x y h]; exact eqV_refl x hx
  | false =>
    cases h2 : eqV y x with
    | false => rfl
    | true => rw [eqV_eq y x h2, eqV_refl x hx] at h; exact h
/-! strings -/
theorem ltS_irr (a : Str) : ltS a a = false := lex_irrefl _
theorem ltS_tot {a b : Str} (h : ¬ a = b) : ltS a b = !ltS b a := by
  cases h1 : ltS a b with
  | false =>
    cases h2 : ltS b a with
    | true => rfl
    | false =>
      have e := lex_total _ _ h1 h2
      simp only [keyToks] at e
      exact absurd (str_of_cps (Sum.inr.inj (List.cons.inj e).1)) h
  | true =>
    cases h2 : ltS b a with
    | false => rfl
    | true =>
      have := lex_trans _ _ _ h1 h2
      rw [lex_irrefl] at this
      exact absurd this (by decide)
theorem ltS_neg (a b c : Str) (h : ltS a c = true) : ltS a b = true ∨ ltS b c = true := lex_negTrans _ _ _ h
mutual
theorem ltV_irr : ∀ x : PyData, isV x = true → ltV x x = false
  | .none, _ => by simp [ltV, rkV]
  | .bool a, _ => by simp [ltV]
  | .int a, _ => by simp [ltV]
  | .str a, _ => by rw [ltV]; exact ltS_irr a
  | .tuple xs, h => by rw [ltV]; exact ltVs_irr xs (by simpa [isV] using h)
  | .list _, h => by simp [isV] at h
  | .dict _, h => by simp [isV] at h
theorem ltVs_irr : ∀ xs : List PyData, isVs xs = true → ltVs xs xs = false
  | [], _ => by simp [ltVs]
  | x :: xs, h => by rw [ltVs_cons, if_pos (eqV_refl x (isVs_cons h).1)]; exact ltVs_irr xs (isVs_cons h).2
end
mutual
theorem ltV_tot : ∀ x y : PyData, isV x = true → isV y = true → eqV x y = false → ltV x y = !ltV y x
  | .none, y, _, hy, h => by cases y <;> simp [ltV, eqV, rkV, isV] at h hy ⊢
  | .bool a, y, _, hy, h => by
    cases y with
    | bool b => simp [ltV, eqV] at h ⊢; cases a <;> cases b <;> simp_all
    | _ => simp [ltV, eqV, rkV, isV] at h hy ⊢
  | .int a, y, _, hy, h => by
    cases y with
    | int b =>
      simp [ltV, eqV] at h ⊢
      rw [← decide_not]
      exact decide_eq_decide.mpr (by omega)
    | _ => simp [ltV, eqV, rkV, isV] at h hy ⊢
  | .str a, y, _, hy, h => by
    cases y with
    | str b => simp [ltV, eqV] at h ⊢; exact ltS_tot h
    | _ => simp [ltV, eqV, rkV, isV] at h hy ⊢
  | .tuple xs, y, hx, hy, h => by
    cases y with
    | tuple ys => rw [ltV, ltV]; exact ltVs_tot xs ys (by simpa [isV] using hx) (by simpa [isV] using hy) (by simpa [eqV] using h)
    | _ => simp [ltV, eqV, rkV, isV] at h hy ⊢
  | .list _, y, hx, hy, h => by simp [isV] at hx
  | .dict _, y, hx, hy, h => by simp [isV] at hx
theorem ltVs_tot : ∀ xs ys : List PyData, isVs xs = true → isVs ys = true → eqVs xs ys = false → ltVs xs ys = !ltVs ys xs
  | [], ys, _, _, h => by cases ys <;> simp [ltVs, eqVs] at h ⊢
  | x :: xs, [], _, _, h => by simp [ltVs]
  | x :: xs, y :: ys, hx, hy, h => by
    rw [ltVs_cons, ltVs_cons, eqV_symm (isVs_cons hx).1 (isVs_cons hy).1]
    cases e : eqV x y with
    | true =>
      rw [if_pos rfl, if_pos rfl]
      rw [eqVs_cons, e, Bool.true_and] at h
      exact ltVs_tot xs ys (isVs_cons hx).2 (isVs_cons hy).2 h
    | false =>
      rw [if_neg Bool.false_ne_true, if_neg Bool.false_ne_true]
      exact ltV_tot x y (isVs_cons hx).1 (isVs_cons hy).1 e
end
theorem ltV_rk {x y : PyData} (hx : isV x = true) (hy : isV y = true) (h : rkV x < rkV y) : ltV x y = true := by
  cases x <;> cases y <;> simp [rkV, ltV, isV] at h hx hy ⊢
theorem ltV_of_rk {x y : PyData} (hx : isV x = true) (hy : isV y = true) (h : ltV x y = true) : rkV x ≤ rkV y := by
  cases x <;> cases y <;> simp [rkV, ltV, isV] at h hx hy ⊢
theorem k_bool {y : PyData} (h : rkV y = 1) : ∃ b, y = .bool b := by cases y <;> first | exact ⟨_, rfl⟩ | (exact absurd h (by decide)) | (exact absurd h (by simp [rkV]))
theorem k_int {y : PyData} (h : rkV y = 2) : ∃ b, y = .int b := by cases y <;> first | exact ⟨_, rfl⟩ | (exact absurd h (by simp [rkV]))
theorem k_str {y : PyData} (h : rkV y = 3) : ∃ b, y = .str b := by cases y <;> first | exact ⟨_, rfl⟩ | (exact absurd h (by simp [rkV]))
theorem k_tup {y : PyData} (h : rkV y = 4) (hv : isV y = true) : ∃ b, y = .tuple b := by
  cases y with
  | tuple b => exact ⟨b, rfl⟩
  | list _ => simp [isV] at hv
  | dict _ => simp [isV] at hv
  | _ => simp [rkV] at h
mutual
theorem ltV_neg : ∀ x y z : PyData, isV x = true → isV y = true → isV z = true → ltV x z = true → ltV x y = true ∨ ltV y z = true
  | x, y, z, hx, hy, hz, h => by
    have r := ltV_of_rk hx hz h
    rcases Int.lt_trichotomy (rkV x) (rkV y) with c | c | c
    · exact .inl (ltV_rk hx hy c)
    · rcases Int.lt_trichotomy (rkV y) (rkV z) with d | d | d
      · exact .inr (ltV_rk hy hz d)
      · cases x with
        | none =>
          rw [ltV] at h
          have h' := of_decide_eq_true h
          have z0 : rkV PyData.none = 0 := rfl
          omega
        | bool a =>
          obtain ⟨b, rfl⟩ := k_bool (y := y) c.symm
          obtain ⟨e, rfl⟩ := k_bool (y := z) d.symm
          simp only [ltV] at h ⊢
          cases a <;> cases b <;> cases e <;> first | exact .inl rfl | exact .inr rfl | exact absurd h Bool.false_ne_true
        | int a =>
          obtain ⟨b, rfl⟩ := k_int (y := y) c.symm
          obtain ⟨e, rfl⟩ := k_int (y := z) d.symm
          simp only [ltV, decide_eq_true_eq] at h ⊢
          omega
        | str a =>
          obtain ⟨b, rfl⟩ := k_str (y := y) c.symm
          obtain ⟨e, rfl⟩ := k_str (y := z) d.symm
          simp only [ltV] at h ⊢
          exact ltS_neg a b e h
        | tuple xs =>
          obtain ⟨ys, rfl⟩ := k_tup (y := y) c.symm hy
          obtain ⟨zs, rfl⟩ := k_tup (y := z) d.symm hz
          simp only [ltV] at h ⊢
          exact ltVs_neg xs ys zs (by simpa [isV] using hx) (by simpa [isV] using hy) (by simpa [isV] using hz) h
        | list xs => simp [isV] at hx
        | dict xs => simp [isV] at hx
      · omega
    · exact .inr (ltV_rk hy hz (by omega))
theorem ltVs_neg : ∀ xs ys zs : List PyData, isVs xs = true → isVs ys = true → isVs zs = true → ltVs xs zs = true → ltVs xs ys = true ∨ ltVs ys zs = true
  | [], [], zs, _, _, _, h => .inr h
  | [], _ :: _, zs, _, _, _, h => .inl (by simp [ltVs])
  | _ :: _, ys, [], _, _, _, h => by simp [ltVs] at h
  | x :: xs, [], z :: zs, _, _, _, h => .inr (by simp [ltVs])
  | x :: xs, y :: ys, z :: zs, hx, hy, hz, h => by
    rw [ltVs_cons] at h
    rw [ltVs_cons, ltVs_cons]
    cases e : eqV x z with
    | true =>
      rw [e, if_pos rfl] at h
      have e' := eqV_eq x z e
      subst e'
      cases e2 : eqV x y with
      | true =>
        have e2' := eqV_eq x y e2
        subst e2'
        rw [if_pos rfl, e2, if_pos rfl]
        exact ltVs_neg xs ys zs (isVs_cons hx).2 (isVs_cons hy).2 (isVs_cons hz).2 h
      | false =>
        rw [if_neg Bool.false_ne_true, eqV_symm (isVs_cons hx).1 (isVs_cons hy).1, e2, if_neg Bool.false_ne_true]
        have t := ltV_tot x y (isVs_cons hx).1 (isVs_cons hy).1 e2
        cases q : ltV y x with
        | true => exact .inr rfl
        | false => rw [q] at t; exact .inl t
    | false =>
      rw [e, if_neg Bool.false_ne_true] at h
      rcases ltV_neg x y z (isVs_cons hx).1 (isVs_cons hy).1 (isVs_cons hz).1 h with k | k
      · left
        cases e2 : eqV x y with
        | false => rw [if_neg Bool.false_ne_true]; exact k
        | true =>
          have e2' := eqV_eq x y e2
          subst e2'
          rw [ltV_irr x (isVs_cons hx).1] at k
          exact absurd k (by decide)
      · right
        cases e2 : eqV y z with
        | false => rw [if_neg Bool.false_ne_true]; exact k
        | true =>
          have e2' := eqV_eq y z e2
          subst e2'
          rw [ltV_irr y (isVs_cons hy).1] at k
          exact absurd k (by decide)
end
end Ck
set_option autoImplicit false
namespace Ck
open PySem PySem.SeqAt PySem.W PyProof.Rows
/-! ### the order of the keys, as the machine finds it -/
def payD : PyData → PyData
  | .none => .none
  | .bool b => .bool b
  | .int i => .int i
  | .str x => .str x
  | .tuple xs => .tuple (keyDs xs)
  | .list _ => .none
  | .dict _ => .none
def payR : PyData → PyData
  | .none => .int 0
  | .bool b => .bool b
  | .int i => .int i
  | .str x => .str x
  | .tuple xs => .list (rnkDs xs)
  | .list _ => .none
  | .dict _ => .none
theorem keyD_eq {x : PyData} (h : isV x = true) : keyD x = .tuple [.int (rkV x), payD x] := by cases x <;> first | rfl | (simp [isV] at h)
theorem rnkD_eq {x : PyData} (h : isV x = true) : rnkD x = .list [.int (rkV x), payR x] := by cases x <;> first | rfl | (simp [isV] at h)
mutual
theorem eqv_key : ∀ x y : PyData, isV x = true → isV y = true → PyData.eqv (keyD x) (keyD y) = eqV x y
  | .none, y, _, hy => by cases y <;> simp [keyD, PyData.eqv, PyData.eqvAll, eqV, isV] at hy ⊢
  | .bool a, y, _, hy => by cases y <;> simp [keyD, PyData.eqv, PyData.eqvAll, eqV, isV] at hy ⊢
  | .int a, y, _, hy => by cases y <;> simp [keyD, PyData.eqv, PyData.eqvAll, eqV, isV] at hy ⊢
  | .str a, y, _, hy => by cases y <;> simp [keyD, PyData.eqv, PyData.eqvAll, eqV, isV] at hy ⊢
  | .tuple xs, y, hx, hy => by
    cases y with
    | tuple ys =>
      have := eqvs_key xs ys (by simpa [isV] using hx) (by simpa [isV] using hy)
      simp [keyD, PyData.eqv, PyData.eqvAll, eqV, this]
    | _ => simp [keyD, PyData.eqv, PyData.eqvAll, eqV, isV] at hy ⊢
  | .list _, y, hx, _ => by simp [isV] at hx
  | .dict _, y, hx, _ => by simp [isV] at hx
theorem eqvs_key : ∀ xs ys : List PyData, isVs xs = true → isVs ys = true → PyData.eqvAll (keyDs xs) (keyDs ys) = eqVs xs ys
  | [], ys, _, _ => by cases ys <;> simp [keyDs, PyData.eqvAll, eqVs]
  | x :: xs, [], _, _ => by simp [keyDs, PyData.eqvAll, eqVs]
  | x :: xs, y :: ys, hx, hy => by
    rw [keyDs, keyDs, PyData.eqvAll, eqVs_cons, eqv_key x y (isVs_cons hx).1 (isVs_cons hy).1, eqvs_key xs ys (isVs_cons hx).2 (isVs_cons hy).2]
end
mutual
theorem eqv_rnk : ∀ x y : PyData, isV x = true → isV y = true → PyData.eqv (rnkD x) (rnkD y) = eqV x y
  | .none, y, _, hy => by cases y <;> simp [rnkD, PyData.eqv, PyData.eqvAll, eqV, isV] at hy ⊢
  | .bool a, y, _, hy => by cases y <;> simp [rnkD, PyData.eqv, PyData.eqvAll, eqV, isV] at hy ⊢
  | .int a, y, _, hy => by cases y <;> simp [rnkD, PyData.eqv, PyData.eqvAll, eqV, isV] at hy ⊢
  | .str a, y, _, hy => by cases y <;> simp [rnkD, PyData.eqv, PyData.eqvAll, eqV, isV] at hy ⊢
  | .tuple xs, y, hx, hy => by
    cases y with
    | tuple ys =>
      have := eqvs_rnk xs ys (by simpa [isV] using hx) (by simpa [isV] using hy)
      simp [rnkD, PyData.eqv, PyData.eqvAll, eqV, this]
    | _ => simp [rnkD, PyData.eqv, PyData.eqvAll, eqV, isV] at hy ⊢
  | .list _, y, hx, _ => by simp [isV] at hx
  | .dict _, y, hx, _ => by simp [isV] at hx
theorem eqvs_rnk : ∀ xs ys : List PyData, isVs xs = true → isVs ys = true → PyData.eqvAll (rnkDs xs) (rnkDs ys) = eqVs xs ys
  | [], ys, _, _ => by cases ys <;> simp [rnkDs, PyData.eqvAll, eqVs]
  | x :: xs, [], _, _ => by simp [rnkDs, PyData.eqvAll, eqVs]
  | x :: xs, y :: ys, hx, hy => by
    rw [rnkDs, rnkDs, PyData.eqvAll, eqVs_cons, eqv_rnk x y (isVs_cons hx).1 (isVs_cons hy).1, eqvs_rnk xs ys (isVs_cons hx).2 (isVs_cons hy).2]
end
mutual
theorem lay_key : ∀ x : PyData, isV x = true → (keyD x).canLay0 = true
  | .none, _ => rfl
  | .bool _, _ => rfl
  | .int _, _ => rfl
  | .str x, h => by
    have : PyData.strOk x = true := by simpa [isV] using h
    simp [keyD, rnkD, PyData.canLay0, PyData.canLayAll0, this]
  | .tuple xs, h => by
    have := lays_key xs (by simpa [isV] using h)
    simp [keyD, PyData.canLay0, PyData.canLayAll0, this]
  | .list _, h => by simp [isV] at h
  | .dict _, h => by simp [isV] at h
theorem lays_key : ∀ xs : List PyData, isVs xs = true → PyData.canLayAll0 (keyDs xs) = true
  | [], _ => rfl
  | x :: xs, h => by
    have h1 := lay_key x (isVs_cons h).1
    have h2 := lays_key xs (isVs_cons h).2
    simp [keyDs, PyData.canLayAll0, h1, h2]
end
mutual
theorem lay_rnk : ∀ x : PyData, isV x = true → (rnkD x).canLay0 = true
  | .none, _ => rfl
  | .bool _, _ => rfl
  | .int _, _ => rfl
  | .str x, h => by
    have : PyData.strOk x = true := by simpa [isV] using h
    simp [keyD, rnkD, PyData.canLay0, PyData.canLayAll0, this]
  | .tuple xs, h => by
    have := lays_rnk xs (by simpa [isV] using h)
    simp [rnkD, PyData.canLay0, PyData.canLayAll0, this]
  | .list _, h => by simp [isV] at h
  | .dict _, h => by simp [isV] at h
theorem lays_rnk : ∀ xs : List PyData, isVs xs = true → PyData.canLayAll0 (rnkDs xs) = true
  | [], _ => rfl
  | x :: xs, h => by
    have h1 := lay_rnk x (isVs_cons h).1
    have h2 := lays_rnk xs (isVs_cons h).2
    simp [rnkDs, PyData.canLayAll0, h1, h2]
end
theorem keyDs_len : ∀ xs : List PyData, (keyDs xs).length = xs.length
  | [] => rfl
  | x :: xs => by rw [keyDs, List.length_cons, List.length_cons, keyDs_len xs]
theorem rnkDs_len : ∀ xs : List PyData, (rnkDs xs).length = xs.length
  | [] => rfl
  | x :: xs => by rw [rnkDs, List.length_cons, List.length_cons, rnkDs_len xs]
/-- the signs of a list of keys, place by place -/
theorem first_lt {F : PyData → PyData} (he : ∀ x y, isV x = true → isV y = true → PyData.eqv (F x) (F y) = eqV x y) : ∀ (xs ys : List PyData), isVs xs = true → isVs ys = true →
    firstLt (pairEq (xs.map F) (ys.map F)) (fun j => ltV (xs.getD j .none) (ys.getD j .none)) (decide (xs.length < ys.length)) (List.range (min xs.length ys.length)) = ltVs xs ys
  | [], [], _, _ => by simp [firstLt, ltVs]
  | [], y :: ys, _, _ => by simp [firstLt, ltVs]
  | x :: xs, [], _, _ => by simp [firstLt, ltVs]
  | x :: xs, y :: ys, hx, hy => by
    have ih := first_lt he xs ys (isVs_cons hx).2 (isVs_cons hy).2
    have em : min (x :: xs).length (y :: ys).length = min xs.length ys.length + 1 := by rw [List.length_cons, List.length_cons]; omega
    have ed : decide ((x :: xs).length < (y :: ys).length) = decide (xs.length < ys.length) := by
      rw [List.length_cons, List.length_cons]
      exact decide_eq_decide.mpr (by omega)
    have e0 : pairEq ((x :: xs).map F) ((y :: ys).map F) 0 = eqV x y := he x y (isVs_cons hx).1 (isVs_cons hy).1
    rw [em, ed, List.range_succ_eq_map, ltVs_cons]
    cases h : eqV x y with
    | true =>
      rw [firstLt_yes (e0.trans h), firstLt_map, if_pos rfl, ← ih]
      rfl
    | false =>
      rw [firstLt_no (e0.trans h), if_neg Bool.false_ne_true]
      rfl
theorem first_gt {F : PyData → PyData} (he : ∀ x y, isV x = true → isV y = true → PyData.eqv (F x) (F y) = eqV x y) : ∀ (xs ys : List PyData), isVs xs = true → isVs ys = true →
    firstLt (pairEq (xs.map F) (ys.map F)) (fun j => ltV (ys.getD j .none) (xs.getD j .none)) (decide (xs.length > ys.length)) (List.range (min xs.length ys.length)) = ltVs ys xs
  | [], [], _, _ => by simp [firstLt, ltVs]
  | [], y :: ys, _, _ => by simp [firstLt, ltVs]
  | x :: xs, [], _, _ => by simp [firstLt, ltVs]
  | x :: xs, y :: ys, hx, hy => by
    have ih := first_gt he xs ys (isVs_cons hx).2 (isVs_cons hy).2
    have em : min (x :: xs).length (y :: ys).length = min xs.length ys.length + 1 := by rw [List.length_cons, List.length_cons]; omega
    have ed : decide ((x :: xs).length > (y :: ys).length) = decide (xs.length > ys.length) := by
      rw [List.length_cons, List.length_cons]
      exact decide_eq_decide.mpr (by omega)
    have e0 : pairEq ((x :: xs).map F) ((y :: ys).map F) 0 = eqV x y := he x y (isVs_cons hx).1 (isVs_cons hy).1
    rw [em, ed, List.range_succ_eq_map, ltVs_cons, eqV_symm (isVs_cons hx).1 (isVs_cons hy).1]
    cases h : eqV x y with
    | true =>
      rw [firstLt_yes (e0.trans h), firstLt_map, if_pos rfl, ← ih]
      rfl
    | false =>
      rw [firstLt_no (e0.trans h), if_neg Bool.false_ne_true]
      rfl
theorem keyDs_map : ∀ xs : List PyData, keyDs xs = xs.map keyD
  | [] => rfl
  | x :: xs => by rw [keyDs, List.map_cons, keyDs_map xs]
theorem rnkDs_map : ∀ xs : List PyData, rnkDs xs = xs.map rnkD
  | [] => rfl
  | x :: xs => by rw [rnkDs, List.map_cons, rnkDs_map xs]
theorem rkV_eqV {x y : PyData} (h : rkV x ≠ rkV y) : eqV x y = false := by
  cases e : eqV x y with
  | false => rfl
  | true => exact absurd (by rw [eqV_eq x y e]) h
theorem ltV_ne {x y : PyData} (hx : isV x = true) (hy : isV y = true) (h : rkV x ≠ rkV y) : ltV x y = decide (rkV x < rkV y) := by
  by_cases c : rkV x < rkV y
  · rw [decide_eq_true c]
    exact ltV_rk hx hy c
  · rw [decide_eq_false c]
    cases e : ltV x y with
    | false => rfl
    | true =>
      have := ltV_of_rk hx hy e
      omega
theorem b2i_lt (a b : Bool) : decide (b2i a < b2i b) = (!a && b) := by cases a <;> cases b <;> rfl
theorem two_firstLt {e r : Nat → Bool} {k : Bool} (h0 : e 0 = true) (h1 : e 1 = true → k = false) (h2 : e 1 = false → r 1 = k) : firstLt e r false (List.range 2) = k := by
  show firstLt e r false [0, 1] = k
  rw [firstLt_yes h0]
  cases c : e 1 with
  | true => rw [firstLt_yes c, h1 c]; rfl
  | false => rw [firstLt_no c]; exact h2 c

section
/-- the payloads, where the kinds are one and the payloads differ -/
theorem pay_kl (x y : PyData) (IH : ∀ xs ys, x = .tuple xs → y = .tuple ys → ∀ (A : Around) (s : Shared) (vs ws : List Value) (as bs : List Addr), ReadsAll s.heap vs (keyDs xs) as → ReadsAll s.heap ws (keyDs ys) bs →
      A.units + PyData.depthAll (keyDs xs) < cLine → ∀ j (h1 : j < vs.length) (h2 : j < ws.length), RcOp .Lt A s vs[j] ws[j] (ltV (xs.getD j .none) (ys.getD j .none))) (A : Around) (s : Shared) (v u : Value) (as bs : List Addr)
    (hx : isV x = true) (hy : isV y = true) (hk : rkV x = rkV y) (hn : PyData.eqv (payD x) (payD y) = false) (ra : Reads s.heap v (payD x) as) (rb : Reads s.heap u (payD y) bs) (hu : A.units + (payD x).depth < cLine) : RcOp .Lt A s v u (ltV x y) := by
  cases x with
  | none =>
    cases y <;> simp [rkV, isV] at hk hy
    simp [payD, PyData.eqv] at hn
  | bool a =>
    obtain ⟨b, rfl⟩ := k_bool hk.symm
    cases ra
    cases rb
    intro prog w E Q hq
    have e : (ltV (.bool a) (.bool b)) = decide (b2i a < b2i b) := by rw [b2i_lt]; simp only [ltV]
    rw [e] at hq
    exact lt_bool hq
  | int a =>
    obtain ⟨b, rfl⟩ := k_int hk.symm
    cases ra
    cases rb
    intro prog w E Q hq
    simp only [ltV] at hq
    exact P.lt_int hq
  | str a =>
    obtain ⟨b, rfl⟩ := k_str hk.symm
    cases ra
    cases rb
    intro prog w E Q hq
    simp only [ltV, ltS] at hq
    rw [dataLt_str] at hq
    exact P.lt_str hq
  | tuple xs =>
    obtain ⟨ys, rfl⟩ := k_tup (y := y) hk.symm hy
    have ih := IH xs ys rfl rfl
    have hxs : isVs xs = true := by simpa [isV] using hx
    have hys : isVs ys = true := by simpa [isV] using hy
    cases ra with
    | @tuple l o vs n _ as₁ h1 h2 h3 h4 =>
      cases rb with
      | @tuple l' o' vs' n' _ bs₁ k1 k2 k3 k4 =>
        have n1 : vs.size = xs.length := by have := ReadsAll.length _ _ _ h4; rw [keyDs_len] at this; simpa using this
        have n2 : vs'.size = ys.length := by have := ReadsAll.length _ _ _ k4; rw [keyDs_len] at this; simpa using this
        have hu1 : A.in1.units + PyData.depthAll (keyDs xs) < cLine := by
          show A.units + 1 + _ < _
          have : (payD (.tuple xs)).depth = PyData.depthAll (keyDs xs) + 1 := rfl
          omega
        have e : (ltV (.tuple xs) (.tuple ys)) = firstLt (pairEq (xs.map keyD) (ys.map keyD)) (fun j => ltV (xs.getD j .none) (ys.getD j .none)) (decide (vs.size < vs'.size)) (List.range (min vs.size vs'.size)) := by
          rw [n1, n2]
          simp only [ltV]
          exact (first_lt (F := keyD) eqv_key xs ys hxs hys).symm
        rw [e]
        refine RcLt.tuples ⟨_, h1, h2, _, h3⟩ ⟨_, k1, k2, _, k3⟩ (by omega) (fun j j1 j2 => ?_) fun j j1 j2 hj => ?_
        · have := eqAt_readsAll (keyDs xs) (keyDs ys) A.in1 s vs.toList vs'.toList _ _ h4 k4 (lays_key xs hxs) (lays_key ys hys) (Nat.lt_of_le_of_lt (Nat.add_le_add_left (Nat.min_le_left _ _) _) hu1) j (by simpa using j1) (by simpa using j2)
          rw [keyDs_map, keyDs_map] at this
          simpa using this
        · show RcOp .Lt _ _ _ _ _
          have := ih A.in1 s vs.toList vs'.toList _ _ h4 k4 hu1 j (by simpa using j1) (by simpa using j2)
          simpa using this
  | list _ => simp [isV] at hx
  | dict _ => simp [isV] at hx
theorem one_kl (x y : PyData) (PY : ∀ (A : Around) (s : Shared) (v u : Value) (as bs : List Addr),
    rkV x = rkV y → PyData.eqv (payD x) (payD y) = false → Reads s.heap v (payD x) as → Reads s.heap u (payD y) bs → A.units + (payD x).depth < cLine → RcOp .Lt A s v u (ltV x y)) (A : Around) (s : Shared) (v u : Value) (as bs : List Addr)
    (hx : isV x = true) (hy : isV y = true) (ra : Reads s.heap v (keyD x) as) (rb : Reads s.heap u (keyD y) bs) (hu : A.units + (keyD x).depth < cLine) : RcOp .Lt A s v u (ltV x y) := by
  have ek : PyData.eqv (keyD x) (keyD y) = eqV x y := eqv_key x y hx hy
  have lx : (keyD x).canLay0 = true := lay_key x hx
  have ly : (keyD y).canLay0 = true := lay_key y hy
  rw [keyD_eq hx] at ra lx hu ek
  rw [keyD_eq hy] at rb ly ek
  have dd : (PyData.tuple [.int (rkV x), payD x]).depth = (payD x).depth + 1 := by
    show max 0 (max (payD x).depth 0) + 1 = _
    omega
  rw [dd] at hu
  cases ra with
  | @tuple l o vs n _ as₁ h1 h2 h3 h4 =>
    cases rb with
    | @tuple l' o' vs' n' _ bs₁ k1 k2 k3 k4 =>
      obtain ⟨vl⟩ := vs
      obtain ⟨wl⟩ := vs'
      cases h4 with
      | cons r1 r2 =>
        cases r2 with
        | cons r2 r3 =>
          cases r3
          cases k4 with
          | cons q1 q2 =>
            cases q2 with
            | cons q2 q3 =>
              cases q3
              cases r1 with
              | int _ t1 =>
                cases q1 with
                | int _ t2 =>
                  have e0 : EqAt A.in1 s (.int (rkV x) t1) (.int (rkV y) t2) (rkV x == rkV y) := EqAt.int_int _ _ _ _
                  by_cases c : rkV x = rkV y
                  · have e1 := eqAt_reads (payD x) (payD y) A.in1 s _ _ _ _ r2 q2 (by simpa [PyData.canLay0, PyData.canLayAll0] using lx) (by simpa [PyData.canLay0, PyData.canLayAll0] using ly) (by
                      show A.units + 1 + _ < _
                      have := Nat.min_le_left (payD x).depth (payD y).depth
                      omega)
                    have ep : PyData.eqv (payD x) (payD y) = eqV x y := by
                      rw [← ek]
                      simp [PyData.eqv, PyData.eqvAll, c]
                    have G := RcLt.tuples (A := A) (s := s) (l := l) (b := l') (e := fun j => if j = 0 then true else eqV x y) (r := fun _ => ltV x y) ⟨_, h1, h2, _, h3⟩ ⟨_, k1, k2, _, k3⟩ (by omega) (fun j j1 j2 => ?_) fun j j1 j2 hj => ?_
                    · have z : firstLt (fun j => if j = 0 then true else eqV x y) (fun _ => ltV x y) false (List.range 2) = ltV x y := two_firstLt rfl (fun h => by
                        have h : eqV x y = true := h
                        rw [← eqV_eq x y h]
                        exact ltV_irr x hx) fun _ => rfl
                      rw [← z]
                      exact G
                    · match j, j1 with
                      | 0, _ =>
                        have : (rkV x == rkV y) = true := by simp [c]
                        rw [this] at e0
                        exact e0
                      | 1, _ =>
                        rw [ep] at e1
                        exact e1
                    · match j, j1 with
                      | 0, _ => exact absurd (show true = false from hj) (by decide)
                      | 1, _ =>
                        have hj : eqV x y = false := hj
                        exact PY A.in1 s _ _ _ _ c (ep.trans hj) r2 q2 (by show A.units + 1 + _ < _; omega)
                  · have z : (rkV x == rkV y) = false := by simp [c]
                    rw [z] at e0
                    rw [ltV_ne hx hy c]
                    exact tup_lt1 ⟨_, h1, h2, _, h3⟩ ⟨_, k1, k2, _, k3⟩ (by omega) e0 fun prog w E Q hq => P.lt_int hq
mutual
theorem all_kl : ∀ (x y : PyData) (A : Around) (s : Shared) (v u : Value) (as bs : List Addr), isV x = true → isV y = true → Reads s.heap v (keyD x) as → Reads s.heap u (keyD y) bs → A.units + (keyD x).depth < cLine → RcOp .Lt A s v u (ltV x y)
  | .tuple xs, y, A, s, v, u, as, bs, hx, hy, ra, rb, hu =>
    one_kl (.tuple xs) y (fun A s v u as bs hk hn ra rb hu => pay_kl (.tuple xs) y (fun xs' ys e1 e2 A s vs ws as bs ra' rb' hu' j h1 h2 => by
      obtain rfl : xs = xs' := PyData.tuple.inj e1
      subst e2
      exact alls_kl xs ys A s vs ws as bs (by simpa [isV] using hx) (by simpa [isV] using hy) ra' rb' hu' j h1 h2) A s v u as bs hx hy hk hn ra rb hu) A s v u as bs hx hy ra rb hu
  | .none, y, A, s, v, u, as, bs, hx, hy, ra, rb, hu =>
    one_kl .none y (fun A s v u as bs hk hn ra rb hu => pay_kl .none y (fun _ _ e => by cases e) A s v u as bs hx hy hk hn ra rb hu) A s v u as bs hx hy ra rb hu
  | .bool a, y, A, s, v, u, as, bs, hx, hy, ra, rb, hu =>
    one_kl (.bool a) y (fun A s v u as bs hk hn ra rb hu => pay_kl (.bool a) y (fun _ _ e => by cases e) A s v u as bs hx hy hk hn ra rb hu) A s v u as bs hx hy ra rb hu
  | .int a, y, A, s, v, u, as, bs, hx, hy, ra, rb, hu =>
    one_kl (.int a) y (fun A s v u as bs hk hn ra rb hu => pay_kl (.int a) y (fun _ _ e => by cases e) A s v u as bs hx hy hk hn ra rb hu) A s v u as bs hx hy ra rb hu
  | .str a, y, A, s, v, u, as, bs, hx, hy, ra, rb, hu =>
    one_kl (.str a) y (fun A s v u as bs hk hn ra rb hu => pay_kl (.str a) y (fun _ _ e => by cases e) A s v u as bs hx hy hk hn ra rb hu) A s v u as bs hx hy ra rb hu
  | .list _, _, _, _, _, _, _, _, hx, _, _, _, _ => by simp [isV] at hx
  | .dict _, _, _, _, _, _, _, _, hx, _, _, _, _ => by simp [isV] at hx
theorem alls_kl : ∀ (xs ys : List PyData) (A : Around) (s : Shared) (vs ws : List Value) (as bs : List Addr), isVs xs = true → isVs ys = true → ReadsAll s.heap vs (keyDs xs) as → ReadsAll s.heap ws (keyDs ys) bs →
      A.units + PyData.depthAll (keyDs xs) < cLine → ∀ j (h1 : j < vs.length) (h2 : j < ws.length), RcOp .Lt A s vs[j] ws[j] (ltV (xs.getD j .none) (ys.getD j .none))
  | [], _, _, _, _, _, _, _, _, _, ra, _, _, j, h1, _ => by cases ra; exact absurd h1 (Nat.not_lt_zero _)
  | _ :: _, [], _, _, _, _, _, _, _, _, _, rb, _, j, _, h2 => by cases rb; exact absurd h2 (Nat.not_lt_zero _)
  | x :: xs, y :: ys, A, s, vs, ws, as, bs, hx, hy, ra, rb, hu, j, h1, h2 => by
    cases ra with
    | cons r rs =>
      cases rb with
      | cons r' rs' =>
        have hu : A.units + max (keyD x).depth (PyData.depthAll (keyDs xs)) < cLine := hu
        cases j with
        | zero => exact all_kl x y A s _ _ _ _ (isVs_cons hx).1 (isVs_cons hy).1 r r' (by omega)
        | succ j => exact alls_kl xs ys A s _ _ _ _ (isVs_cons hx).2 (isVs_cons hy).2 rs rs' (by omega) j (Nat.lt_of_succ_lt_succ h1) (Nat.lt_of_succ_lt_succ h2)
end
end

section
/-- the payloads, where the kinds are one and the payloads differ -/
theorem pay_kg (x y : PyData) (IH : ∀ xs ys, x = .tuple xs → y = .tuple ys → ∀ (A : Around) (s : Shared) (vs ws : List Value) (as bs : List Addr), ReadsAll s.heap vs (keyDs xs) as → ReadsAll s.heap ws (keyDs ys) bs →
      A.units + PyData.depthAll (keyDs xs) < cLine → ∀ j (h1 : j < vs.length) (h2 : j < ws.length), RcOp .Gt A s vs[j] ws[j] (ltV (ys.getD j .none) (xs.getD j .none))) (A : Around) (s : Shared) (v u : Value) (as bs : List Addr)
    (hx : isV x = true) (hy : isV y = true) (hk : rkV x = rkV y) (hn : PyData.eqv (payD x) (payD y) = false) (ra : Reads s.heap v (payD x) as) (rb : Reads s.heap u (payD y) bs) (hu : A.units + (payD x).depth < cLine) : RcOp .Gt A s v u (ltV y x) := by
  cases x with
  | none =>
    cases y <;> simp [rkV, isV] at hk hy
    simp [payD, PyData.eqv] at hn
  | bool a =>
    obtain ⟨b, rfl⟩ := k_bool hk.symm
    cases ra
    cases rb
    intro prog w E Q hq
    have e : (ltV (.bool b) (.bool a)) = decide (b2i b < b2i a) := by rw [b2i_lt]; simp only [ltV]
    rw [e] at hq
    exact gt_bool hq
  | int a =>
    obtain ⟨b, rfl⟩ := k_int hk.symm
    cases ra
    cases rb
    intro prog w E Q hq
    simp only [ltV] at hq
    exact P.gt_int hq
  | str a =>
    obtain ⟨b, rfl⟩ := k_str hk.symm
    cases ra
    cases rb
    intro prog w E Q hq
    simp only [ltV, ltS] at hq
    rw [dataLt_str] at hq
    exact P.gt_str hq
  | tuple xs =>
    obtain ⟨ys, rfl⟩ := k_tup (y := y) hk.symm hy
    have ih := IH xs ys rfl rfl
    have hxs : isVs xs = true := by simpa [isV] using hx
    have hys : isVs ys = true := by simpa [isV] using hy
    cases ra with
    | @tuple l o vs n _ as₁ h1 h2 h3 h4 =>
      cases rb with
      | @tuple l' o' vs' n' _ bs₁ k1 k2 k3 k4 =>
        have n1 : vs.size = xs.length := by have := ReadsAll.length _ _ _ h4; rw [keyDs_len] at this; simpa using this
        have n2 : vs'.size = ys.length := by have := ReadsAll.length _ _ _ k4; rw [keyDs_len] at this; simpa using this
        have hu1 : A.in1.units + PyData.depthAll (keyDs xs) < cLine := by
          show A.units + 1 + _ < _
          have : (payD (.tuple xs)).depth = PyData.depthAll (keyDs xs) + 1 := rfl
          omega
        have e : (ltV (.tuple ys) (.tuple xs)) = firstLt (pairEq (xs.map keyD) (ys.map keyD)) (fun j => ltV (ys.getD j .none) (xs.getD j .none)) (decide (vs.size > vs'.size)) (List.range (min vs.size vs'.size)) := by
          rw [n1, n2]
          simp only [ltV]
          exact (first_gt (F := keyD) eqv_key xs ys hxs hys).symm
        rw [e]
        refine RcOp.tuples_gt ⟨_, h1, h2, _, h3⟩ ⟨_, k1, k2, _, k3⟩ (by omega) (fun j j1 j2 => ?_) fun j j1 j2 hj => ?_
        · have := eqAt_readsAll (keyDs xs) (keyDs ys) A.in1 s vs.toList vs'.toList _ _ h4 k4 (lays_key xs hxs) (lays_key ys hys) (Nat.lt_of_le_of_lt (Nat.add_le_add_left (Nat.min_le_left _ _) _) hu1) j (by simpa using j1) (by simpa using j2)
          rw [keyDs_map, keyDs_map] at this
          simpa using this
        · show RcOp .Gt _ _ _ _ _
          have := ih A.in1 s vs.toList vs'.toList _ _ h4 k4 hu1 j (by simpa using j1) (by simpa using j2)
          simpa using this
  | list _ => simp [isV] at hx
  | dict _ => simp [isV] at hx
theorem one_kg (x y : PyData) (PY : ∀ (A : Around) (s : Shared) (v u : Value) (as bs : List Addr),
    rkV x = rkV y → PyData.eqv (payD x) (payD y) = false → Reads s.heap v (payD x) as → Reads s.heap u (payD y) bs → A.units + (payD x).depth < cLine → RcOp .Gt A s v u (ltV y x)) (A : Around) (s : Shared) (v u : Value) (as bs : List Addr)
    (hx : isV x = true) (hy : isV y = true) (ra : Reads s.heap v (keyD x) as) (rb : Reads s.heap u (keyD y) bs) (hu : A.units + (keyD x).depth < cLine) : RcOp .Gt A s v u (ltV y x) := by
  have ek : PyData.eqv (keyD x) (keyD y) = eqV x y := eqv_key x y hx hy
  have lx : (keyD x).canLay0 = true := lay_key x hx
  have ly : (keyD y).canLay0 = true := lay_key y hy
  rw [keyD_eq hx] at ra lx hu ek
  rw [keyD_eq hy] at rb ly ek
  have dd : (PyData.tuple [.int (rkV x), payD x]).depth = (payD x).depth + 1 := by
    show max 0 (max (payD x).depth 0) + 1 = _
    omega
  rw [dd] at hu
  cases ra with
  | @tuple l o vs n _ as₁ h1 h2 h3 h4 =>
    cases rb with
    | @tuple l' o' vs' n' _ bs₁ k1 k2 k3 k4 =>
      obtain ⟨vl⟩ := vs
      obtain ⟨wl⟩ := vs'
      cases h4 with
      | cons r1 r2 =>
        cases r2 with
        | cons r2 r3 =>
          cases r3
          cases k4 with
          | cons q1 q2 =>
            cases q2 with
            | cons q2 q3 =>
              cases q3
              cases r1 with
              | int _ t1 =>
                cases q1 with
                | int _ t2 =>
                  have e0 : EqAt A.in1 s (.int (rkV x) t1) (.int (rkV y) t2) (rkV x == rkV y) := EqAt.int_int _ _ _ _
                  by_cases c : rkV x = rkV y
                  · have e1 := eqAt_reads (payD x) (payD y) A.in1 s _ _ _ _ r2 q2 (by simpa [PyData.canLay0, PyData.canLayAll0] using lx) (by simpa [PyData.canLay0, PyData.canLayAll0] using ly) (by
                      show A.units + 1 + _ < _
                      have := Nat.min_le_left (payD x).depth (payD y).depth
                      omega)
                    have ep : PyData.eqv (payD x) (payD y) = eqV x y := by
                      rw [← ek]
                      simp [PyData.eqv, PyData.eqvAll, c]
                    have G := RcOp.tuples_gt (A := A) (s := s) (l := l) (b := l') (e := fun j => if j = 0 then true else eqV x y) (r := fun _ => ltV y x) ⟨_, h1, h2, _, h3⟩ ⟨_, k1, k2, _, k3⟩ (by omega) (fun j j1 j2 => ?_) fun j j1 j2 hj => ?_
                    · have z : firstLt (fun j => if j = 0 then true else eqV x y) (fun _ => ltV y x) false (List.range 2) = ltV y x := two_firstLt rfl (fun h => by
                        have h : eqV x y = true := h
                        rw [← eqV_eq x y h]
                        exact ltV_irr x hx) fun _ => rfl
                      rw [← z]
                      exact G
                    · match j, j1 with
                      | 0, _ =>
                        have : (rkV x == rkV y) = true := by simp [c]
                        rw [this] at e0
                        exact e0
                      | 1, _ =>
                        rw [ep] at e1
                        exact e1
                    · match j, j1 with
                      | 0, _ => exact absurd (show true = false from hj) (by decide)
                      | 1, _ =>
                        have hj : eqV x y = false := hj
                        exact PY A.in1 s _ _ _ _ c (ep.trans hj) r2 q2 (by show A.units + 1 + _ < _; omega)
                  · have z : (rkV x == rkV y) = false := by simp [c]
                    rw [z] at e0
                    rw [ltV_ne hy hx (fun z => c z.symm)]
                    exact tup_gt1 ⟨_, h1, h2, _, h3⟩ ⟨_, k1, k2, _, k3⟩ (by omega) e0 fun prog w E Q hq => P.gt_int hq
mutual
theorem all_kg : ∀ (x y : PyData) (A : Around) (s : Shared) (v u : Value) (as bs : List Addr), isV x = true → isV y = true → Reads s.heap v (keyD x) as → Reads s.heap u (keyD y) bs → A.units + (keyD x).depth < cLine → RcOp .Gt A s v u (ltV y x)
  | .tuple xs, y, A, s, v, u, as, bs, hx, hy, ra, rb, hu =>
    one_kg (.tuple xs) y (fun A s v u as bs hk hn ra rb hu => pay_kg (.tuple xs) y (fun xs' ys e1 e2 A s vs ws as bs ra' rb' hu' j h1 h2 => by
      obtain rfl : xs = xs' := PyData.tuple.inj e1
      subst e2
      exact alls_kg xs ys A s vs ws as bs (by simpa [isV] using hx) (by simpa [isV] using hy) ra' rb' hu' j h1 h2) A s v u as bs hx hy hk hn ra rb hu) A s v u as bs hx hy ra rb hu
  | .none, y, A, s, v, u, as, bs, hx, hy, ra, rb, hu =>
    one_kg .none y (fun A s v u as bs hk hn ra rb hu => pay_kg .none y (fun _ _ e => by cases e) A s v u as bs hx hy hk hn ra rb hu) A s v u as bs hx hy ra rb hu
  | .bool a, y, A, s, v, u, as, bs, hx, hy, ra, rb, hu =>
    one_kg (.bool a) y (fun A s v u as bs hk hn ra rb hu => pay_kg (.bool a) y (fun _ _ e => by cases e) A s v u as bs hx hy hk hn ra rb hu) A s v u as bs hx hy ra rb hu
  | .int a, y, A, s, v, u, as, bs, hx, hy, ra, rb, hu =>
    one_kg (.int a) y (fun A s v u as bs hk hn ra rb hu => pay_kg (.int a) y (fun _ _ e => by cases e) A s v u as bs hx hy hk hn ra rb hu) A s v u as bs hx hy ra rb hu
  | .str a, y, A, s, v, u, as, bs, hx, hy, ra, rb, hu =>
    one_kg (.str a) y (fun A s v u as bs hk hn ra rb hu => pay_kg (.str a) y (fun _ _ e => by cases e) A s v u as bs hx hy hk hn ra rb hu) A s v u as bs hx hy ra rb hu
  | .list _, _, _, _, _, _, _, _, hx, _, _, _, _ => by simp [isV] at hx
  | .dict _, _, _, _, _, _, _, _, hx, _, _, _, _ => by simp [isV] at hx
theorem alls_kg : ∀ (xs ys : List PyData) (A : Around) (s : Shared) (vs ws : List Value) (as bs : List Addr), isVs xs = true → isVs ys = true → ReadsAll s.heap vs (keyDs xs) as → ReadsAll s.heap ws (keyDs ys) bs →
      A.units + PyData.depthAll (keyDs xs) < cLine → ∀ j (h1 : j < vs.length) (h2 : j < ws.length), RcOp .Gt A s vs[j] ws[j] (ltV (ys.getD j .none) (xs.getD j .none))
  | [], _, _, _, _, _, _, _, _, _, ra, _, _, j, h1, _ => by cases ra; exact absurd h1 (Nat.not_lt_zero _)
  | _ :: _, [], _, _, _, _, _, _, _, _, _, rb, _, j, _, h2 => by cases rb; exact absurd h2 (Nat.not_lt_zero _)
  | x :: xs, y :: ys, A, s, vs, ws, as, bs, hx, hy, ra, rb, hu, j, h1, h2 => by
    cases ra with
    | cons r rs =>
      cases rb with
      | cons r' rs' =>
        have hu : A.units + max (keyD x).depth (PyData.depthAll (keyDs xs)) < cLine := hu
        cases j with
        | zero => exact all_kg x y A s _ _ _ _ (isVs_cons hx).1 (isVs_cons hy).1 r r' (by omega)
        | succ j => exact alls_kg xs ys A s _ _ _ _ (isVs_cons hx).2 (isVs_cons hy).2 rs rs' (by omega) j (Nat.lt_of_succ_lt_succ h1) (Nat.lt_of_succ_lt_succ h2)
end
end

section
/-- the payloads, where the kinds are one and the payloads differ -/
theorem pay_rl (x y : PyData) (IH : ∀ xs ys, x = .tuple xs → y = .tuple ys → ∀ (A : Around) (s : Shared) (vs ws : List Value) (as bs : List Addr), ReadsAll s.heap vs (rnkDs xs) as → ReadsAll s.heap ws (rnkDs ys) bs →
      A.units + PyData.depthAll (rnkDs xs) < cLine → ∀ j (h1 : j < vs.length) (h2 : j < ws.length), RcOp .Lt A s vs[j] ws[j] (ltV (xs.getD j .none) (ys.getD j .none))) (A : Around) (s : Shared) (v u : Value) (as bs : List Addr)
    (hx : isV x = true) (hy : isV y = true) (hk : rkV x = rkV y) (hn : PyData.eqv (payR x) (payR y) = false) (ra : Reads s.heap v (payR x) as) (rb : Reads s.heap u (payR y) bs) (hu : A.units + (payR x).depth < cLine) : RcOp .Lt A s v u (ltV x y) := by
  cases x with
  | none =>
    cases y <;> simp [rkV, isV] at hk hy
    simp [payR, PyData.eqv] at hn
  | bool a =>
    obtain ⟨b, rfl⟩ := k_bool hk.symm
    cases ra
    cases rb
    intro prog w E Q hq
    have e : (ltV (.bool a) (.bool b)) = decide (b2i a < b2i b) := by rw [b2i_lt]; simp only [ltV]
    rw [e] at hq
    exact lt_bool hq
  | int a =>
    obtain ⟨b, rfl⟩ := k_int hk.symm
    cases ra
    cases rb
    intro prog w E Q hq
    simp only [ltV] at hq
    exact P.lt_int hq
  | str a =>
    obtain ⟨b, rfl⟩ := k_str hk.symm
    cases ra
    cases rb
    intro prog w E Q hq
    simp only [ltV, ltS] at hq
    rw [dataLt_str] at hq
    exact P.lt_str hq
  | tuple xs =>
    obtain ⟨ys, rfl⟩ := k_tup (y := y) hk.symm hy
    have ih := IH xs ys rfl rfl
    have hxs : isVs xs = true := by simpa [isV] using hx
    have hys : isVs ys = true := by simpa [isV] using hy
    cases ra with
    | @list l o vs n _ as₁ h1 h2 h3 h4 =>
      cases rb with
      | @list l' o' vs' n' _ bs₁ k1 k2 k3 k4 =>
        have n1 : vs.size = xs.length := by have := ReadsAll.length _ _ _ h4; rw [rnkDs_len] at this; simpa using this
        have n2 : vs'.size = ys.length := by have := ReadsAll.length _ _ _ k4; rw [rnkDs_len] at this; simpa using this
        have hu1 : A.in1.units + PyData.depthAll (rnkDs xs) < cLine := by
          show A.units + 1 + _ < _
          have : (payR (.tuple xs)).depth = PyData.depthAll (rnkDs xs) + 1 := rfl
          omega
        have e : (ltV (.tuple xs) (.tuple ys)) = firstLt (pairEq (xs.map rnkD) (ys.map rnkD)) (fun j => ltV (xs.getD j .none) (ys.getD j .none)) (decide (vs.size < vs'.size)) (List.range (min vs.size vs'.size)) := by
          rw [n1, n2]
          simp only [ltV]
          exact (first_lt (F := rnkD) eqv_rnk xs ys hxs hys).symm
        rw [e]
        refine RcLt.lists ⟨_, h1, h2, _, h3⟩ ⟨_, k1, k2, _, k3⟩ (by omega) (fun j j1 j2 => ?_) fun j j1 j2 hj => ?_
        · have := eqAt_readsAll (rnkDs xs) (rnkDs ys) A.in1 s vs.toList vs'.toList _ _ h4 k4 (lays_rnk xs hxs) (lays_rnk ys hys) (Nat.lt_of_le_of_lt (Nat.add_le_add_left (Nat.min_le_left _ _) _) hu1) j (by simpa using j1) (by simpa using j2)
          rw [rnkDs_map, rnkDs_map] at this
          simpa using this
        · show RcOp .Lt _ _ _ _ _
          have := ih A.in1 s vs.toList vs'.toList _ _ h4 k4 hu1 j (by simpa using j1) (by simpa using j2)
          simpa using this
  | list _ => simp [isV] at hx
  | dict _ => simp [isV] at hx
theorem one_rl (x y : PyData) (PY : ∀ (A : Around) (s : Shared) (v u : Value) (as bs : List Addr),
    rkV x = rkV y → PyData.eqv (payR x) (payR y) = false → Reads s.heap v (payR x) as → Reads s.heap u (payR y) bs → A.units + (payR x).depth < cLine → RcOp .Lt A s v u (ltV x y)) (A : Around) (s : Shared) (v u : Value) (as bs : List Addr)
    (hx : isV x = true) (hy : isV y = true) (ra : Reads s.heap v (rnkD x) as) (rb : Reads s.heap u (rnkD y) bs) (hu : A.units + (rnkD x).depth < cLine) : RcOp .Lt A s v u (ltV x y) := by
  have ek : PyData.eqv (rnkD x) (rnkD y) = eqV x y := eqv_rnk x y hx hy
  have lx : (rnkD x).canLay0 = true := lay_rnk x hx
  have ly : (rnkD y).canLay0 = true := lay_rnk y hy
  rw [rnkD_eq hx] at ra lx hu ek
  rw [rnkD_eq hy] at rb ly ek
  have dd : (PyData.list [.int (rkV x), payR x]).depth = (payR x).depth + 1 := by
    show max 0 (max (payR x).depth 0) + 1 = _
    omega
  rw [dd] at hu
  cases ra with
  | @list l o vs n _ as₁ h1 h2 h3 h4 =>
    cases rb with
    | @list l' o' vs' n' _ bs₁ k1 k2 k3 k4 =>
      obtain ⟨vl⟩ := vs
      obtain ⟨wl⟩ := vs'
      cases h4 with
      | cons r1 r2 =>
        cases r2 with
        | cons r2 r3 =>
          cases r3
          cases k4 with
          | cons q1 q2 =>
            cases q2 with
            | cons q2 q3 =>
              cases q3
              cases r1 with
              | int _ t1 =>
                cases q1 with
                | int _ t2 =>
                  have e0 : EqAt A.in1 s (.int (rkV x) t1) (.int (rkV y) t2) (rkV x == rkV y) := EqAt.int_int _ _ _ _
                  by_cases c : rkV x = rkV y
                  · have e1 := eqAt_reads (payR x) (payR y) A.in1 s _ _ _ _ r2 q2 (by simpa [PyData.canLay0, PyData.canLayAll0] using lx) (by simpa [PyData.canLay0, PyData.canLayAll0] using ly) (by
                      show A.units + 1 + _ < _
                      have := Nat.min_le_left (payR x).depth (payR y).depth
                      omega)
                    have ep : PyData.eqv (payR x) (payR y) = eqV x y := by
                      rw [← ek]
                      simp [PyData.eqv, PyData.eqvAll, c]
                    have G := RcLt.lists (A := A) (s := s) (l := l) (b := l') (e := fun j => if j = 0 then true else eqV x y) (r := fun _ => ltV x y) ⟨_, h1, h2, _, h3⟩ ⟨_, k1, k2, _, k3⟩ (by omega) (fun j j1 j2 => ?_) fun j j1 j2 hj => ?_
                    · have z : firstLt (fun j => if j = 0 then true else eqV x y) (fun _ => ltV x y) false (List.range 2) = ltV x y := two_firstLt rfl (fun h => by
                        have h : eqV x y = true := h
                        rw [← eqV_eq x y h]
                        exact ltV_irr x hx) fun _ => rfl
                      rw [← z]
                      exact G
                    · match j, j1 with
                      | 0, _ =>
                        have : (rkV x == rkV y) = true := by simp [c]
                        rw [this] at e0
                        exact e0
                      | 1, _ =>
                        rw [ep] at e1
                        exact e1
                    · match j, j1 with
                      | 0, _ => exact absurd (show true = false from hj) (by decide)
                      | 1, _ =>
                        have hj : eqV x y = false := hj
                        exact PY A.in1 s _ _ _ _ c (ep.trans hj) r2 q2 (by show A.units + 1 + _ < _; omega)
                  · have z : (rkV x == rkV y) = false := by simp [c]
                    rw [z] at e0
                    rw [ltV_ne hx hy c]
                    exact lst_lt1 ⟨_, h1, h2, _, h3⟩ ⟨_, k1, k2, _, k3⟩ (by omega) e0 fun prog w E Q hq => P.lt_int hq
mutual
theorem all_rl : ∀ (x y : PyData) (A : Around) (s : Shared) (v u : Value) (as bs : List Addr), isV x = true → isV y = true → Reads s.heap v (rnkD x) as → Reads s.heap u (rnkD y) bs → A.units + (rnkD x).depth < cLine → RcOp .Lt A s v u (ltV x y)
  | .tuple xs, y, A, s, v, u, as, bs, hx, hy, ra, rb, hu =>
    one_rl (.tuple xs) y (fun A s v u as bs hk hn ra rb hu => pay_rl (.tuple xs) y (fun xs' ys e1 e2 A s vs ws as bs ra' rb' hu' j h1 h2 => by
      obtain rfl : xs = xs' := PyData.tuple.inj e1
      subst e2
      exact alls_rl xs ys A s vs ws as bs (by simpa [isV] using hx) (by simpa [isV] using hy) ra' rb' hu' j h1 h2) A s v u as bs hx hy hk hn ra rb hu) A s v u as bs hx hy ra rb hu
  | .none, y, A, s, v, u, as, bs, hx, hy, ra, rb, hu =>
    one_rl .none y (fun A s v u as bs hk hn ra rb hu => pay_rl .none y (fun _ _ e => by cases e) A s v u as bs hx hy hk hn ra rb hu) A s v u as bs hx hy ra rb hu
  | .bool a, y, A, s, v, u, as, bs, hx, hy, ra, rb, hu =>
    one_rl (.bool a) y (fun A s v u as bs hk hn ra rb hu => pay_rl (.bool a) y (fun _ _ e => by cases e) A s v u as bs hx hy hk hn ra rb hu) A s v u as bs hx hy ra rb hu
  | .int a, y, A, s, v, u, as, bs, hx, hy, ra, rb, hu =>
    one_rl (.int a) y (fun A s v u as bs hk hn ra rb hu => pay_rl (.int a) y (fun _ _ e => by cases e) A s v u as bs hx hy hk hn ra rb hu) A s v u as bs hx hy ra rb hu
  | .str a, y, A, s, v, u, as, bs, hx, hy, ra, rb, hu =>
    one_rl (.str a) y (fun A s v u as bs hk hn ra rb hu => pay_rl (.str a) y (fun _ _ e => by cases e) A s v u as bs hx hy hk hn ra rb hu) A s v u as bs hx hy ra rb hu
  | .list _, _, _, _, _, _, _, _, hx, _, _, _, _ => by simp [isV] at hx
  | .dict _, _, _, _, _, _, _, _, hx, _, _, _, _ => by simp [isV] at hx
theorem alls_rl : ∀ (xs ys : List PyData) (A : Around) (s : Shared) (vs ws : List Value) (as bs : List Addr), isVs xs = true → isVs ys = true → ReadsAll s.heap vs (rnkDs xs) as → ReadsAll s.heap ws (rnkDs ys) bs →
      A.units + PyData.depthAll (rnkDs xs) < cLine → ∀ j (h1 : j < vs.length) (h2 : j < ws.length), RcOp .Lt A s vs[j] ws[j] (ltV (xs.getD j .none) (ys.getD j .none))
  | [], _, _, _, _, _, _, _, _, _, ra, _, _, j, h1, _ => by cases ra; exact absurd h1 (Nat.not_lt_zero _)
  | _ :: _, [], _, _, _, _, _, _, _, _, _, rb, _, j, _, h2 => by cases rb; exact absurd h2 (Nat.not_lt_zero _)
  | x :: xs, y :: ys, A, s, vs, ws, as, bs, hx, hy, ra, rb, hu, j, h1, h2 => by
    cases ra with
    | cons r rs =>
      cases rb with
      | cons r' rs' =>
        have hu : A.units + max (rnkD x).depth (PyData.depthAll (rnkDs xs)) < cLine := hu
        cases j with
        | zero => exact all_rl x y A s _ _ _ _ (isVs_cons hx).1 (isVs_cons hy).1 r r' (by omega)
        | succ j => exact alls_rl xs ys A s _ _ _ _ (isVs_cons hx).2 (isVs_cons hy).2 rs rs' (by omega) j (Nat.lt_of_succ_lt_succ h1) (Nat.lt_of_succ_lt_succ h2)
end
end
end Ck
set_option autoImplicit true
namespace Ck
open PySem PySem.Spec PyProof.Rows L2
abbrev s_is : Stmt := topS 7
abbrev s_chk : Stmt := topS 8
abbrev s_kind : Stmt := topS 9
abbrev s_rank : Stmt := topS 10
abbrev s_key : Stmt := topS 11
abbrev s_same : Stmt := topS 12
abbrev s_cmp : Stmt := topS 13
/-! ### types of values -/
def tyS : PyData → String
  | .none => "NoneType"
  | .bool _ => "bool"
  | .int _ => "int"
  | .str _ => "str"
  | .tuple _ => "tuple"
  | .list _ => "list"
  | .dict _ => "dict"
theorem dp_ty {K : PySem.W.Frag} {H : Hp} {v : V} {d : PyData} (h : Dp K H v d) : TyX K H v (.type (tyS d)) := by
  cases h with
  | non => exact .base .non
  | bl b => exact .base (.bl b)
  | int i => exact .base (.int i)
  | str x => exact .base (.str x)
  | lst hs _ =>
    rcases hs with (h | ⟨o, h⟩) | ⟨o, its, n, h, c, _⟩
    · exact .base (.lst h)
    · exact .base (.frz h)
    · exact .kList h c
  | tup hs _ =>
    rcases hs with (h | ⟨o, h⟩) | ⟨o, its, n, h, c, _⟩
    · exact .base (.tup h)
    · exact .fTuple h
    · exact .kTuple h c
theorem ty_lst {K : PySem.W.Frag} {H : Hp} {a : Addr} {xs : List V} (hs : SqL K H a xs) : TyX K H (.ref a) (.type "list") := by
  rcases hs with (h | ⟨o, h⟩) | ⟨o, its, n, h, c, _⟩
  · exact .base (.lst h)
  · exact .base (.frz h)
  · exact .kList h c
theorem ty_tup {K : PySem.W.Frag} {H : Hp} {a : Addr} {xs : List V} (hs : SqT K H a xs) : TyX K H (.ref a) (.type "tuple") := by
  rcases hs with (h | ⟨o, h⟩) | ⟨o, its, n, h, c, _⟩
  · exact .base (.tup h)
  · exact .fTuple h
  · exact .kTuple h c
theorem same_tup {K : PySem.W.Frag} {H H' : Hp} (s : Same H H') {a : Addr} {xs : List V} (hs : SqT K H a xs) : SqT K H' a xs := by
  rcases hs with (h | ⟨o, h⟩) | h
  · exact .inl (.inl (s _ _ h))
  · exact .inl (.inr ⟨o, s _ _ h⟩)
  · exact .inr h
/-! ### what is a value -/
def TvB (K : PySem.W.Frag) (H : Hp) (v : V) (b : Bool) : Prop := ((v = .non ∨ (∃ x, v = .bl x) ∨ (∃ i, v = .int i) ∨ ∃ x, v = .str x) ∧ b = true) ∨ ((∃ a xs, v = .ref a ∧ SqL K H a xs) ∧ b = false) ∨ ((∃ a kvs, v = .ref a ∧ H a = some (.dK kvs)) ∧ b = false)
/-- an object, nested up to n deep: whether it is a value -/
def Tv (K : PySem.W.Frag) (H : Hp) : Nat → V → Bool → Prop
  | 0, v, b => TvB K H v b
  | n + 1, v, b => TvB K H v b ∨ ∃ a xs bs, v = .ref a ∧ SqT K H a xs ∧ xs.length < 1000 ∧ Paired (Tv K H n) xs bs ∧ b = bs.all id
theorem TvB.mono {K : PySem.W.Frag} {H H' : Hp} (s : Same H H') {v : V} {b : Bool} (h : TvB K H v b) : TvB K H' v b := by
  rcases h with h | ⟨⟨a, xs, e, h⟩, hb⟩ | ⟨⟨a, kvs, e, h⟩, hb⟩
  · exact .inl h
  · exact .inr (.inl ⟨⟨a, xs, e, s.seq h⟩, hb⟩)
  · exact .inr (.inr ⟨⟨a, kvs, e, s _ _ h⟩, hb⟩)
theorem paired_mono {α β : Type} {F G : α → β → Prop} (h : ∀ a b, F a b → G a b) : ∀ {xs ys}, Paired F xs ys → Paired G xs ys
  | _, _, .nil => .nil
  | _, _, .cons a b => .cons (h _ _ a) (paired_mono h b)
theorem Tv.mono {K : PySem.W.Frag} {H H' : Hp} (s : Same H H') : ∀ {n : Nat} {v : V} {b : Bool}, Tv K H n v b → Tv K H' n v b
  | 0, _, _, h => TvB.mono s h
  | n + 1, _, _, h => by
    rcases h with h | ⟨a, xs, bs, e, h, hl, p, hb⟩
    · exact .inl (h.mono s)
    · exact .inr ⟨a, xs, bs, e, same_tup s h, hl, paired_mono (fun _ _ q => Tv.mono s q) p, hb⟩
theorem Tv.base {K : PySem.W.Frag} {H : Hp} {v : V} {b : Bool} (h : TvB K H v b) : ∀ n, Tv K H n v b
  | 0 => h
  | n + 1 => .inl h
theorem Tv.up {K : PySem.W.Frag} {H : Hp} : ∀ {n : Nat} {v : V} {b : Bool}, Tv K H n v b → Tv K H (n + 1) v b
  | 0, _, _, h => .inl h
  | n + 1, _, _, h => by
    rcases h with h | ⟨a, xs, bs, e, h, hl, p, hb⟩
    · exact .inl h
    · exact .inr ⟨a, xs, bs, e, h, hl, paired_mono (fun _ _ q => Tv.up q) p, hb⟩
theorem paired_len {α β : Type} {F : α → β → Prop} : ∀ {xs ys}, Paired F xs ys → xs.length = ys.length
  | _, _, .nil => rfl
  | _, _, .cons _ b => congrArg (· + 1) (paired_len b)
theorem paired_at {α β : Type} {F : α → β → Prop} : ∀ {xs ys} {i : Nat} {x}, Paired F xs ys → xs[i]? = some x → ∃ y, ys[i]? = some y ∧ F x y
  | _, _, i, x, .nil, h => by cases i <;> simp at h
  | _, _, 0, x, .cons a _, h => by
    obtain rfl := Option.some.inj h
    exact ⟨_, rfl, a⟩
  | _, _, i + 1, x, .cons _ b, h => paired_at (i := i) b h
theorem Tv.out {K : PySem.W.Frag} {H : Hp} {n : Nat} {v : V} {b : Bool} (h : Tv K H n v b) : TvB K H v b ∨ ∃ m a xs bs, n = m + 1 ∧ v = .ref a ∧ SqT K H a xs ∧ xs.length < 1000 ∧ Paired (Tv K H m) xs bs ∧ b = bs.all id := by
  cases n with
  | zero => exact .inl h
  | succ n =>
    rcases h with h | ⟨a, xs, bs, h⟩
    · exact .inl h
    · exact .inr ⟨n, a, xs, bs, rfl, h⟩
/-- a datum's type and what the two questions say of it -/
theorem TvB.ty {K : PySem.W.Frag} {H : Hp} {v : V} {b : Bool} (h : TvB K H v b) : ∃ T, TyX K H v (.type T) ∧ kitB T "tuple" = some false ∧ (¬ v = .non → PySem.W.kitAny K (.type T) [.type "bool", .type "int", .type "str"] = some b) ∧ (v = .non → b = true) := by
  rcases h with ⟨rfl | ⟨x, rfl⟩ | ⟨i, rfl⟩ | ⟨x, rfl⟩, rfl⟩ | ⟨⟨a, xs, rfl, h⟩, rfl⟩ | ⟨⟨a, kvs, rfl, h⟩, rfl⟩
  · exact ⟨"NoneType", .base .non, by decide +kernel, fun z => absurd rfl z, fun _ => rfl⟩
  · exact ⟨"bool", .base (.bl x), by decide +kernel, fun _ => kitAny_cons (kit_ty (r := true) (by decide +kernel)) (fun z => by cases z) fun _ => rfl, fun z => by cases z⟩
  · exact ⟨"int", .base (.int i), by decide +kernel, fun _ => kitAny_cons (kit_ty (r := false) (by decide +kernel)) (fun _ => kitAny_cons (kit_ty (r := true) (by decide +kernel)) (fun z => by cases z) fun _ => rfl) (fun z => by cases z), fun z => by cases z⟩
  · exact ⟨"str", .base (.str x), by decide +kernel, fun _ => kitAny_cons (kit_ty (r := false) (by decide +kernel)) (fun _ => kitAny_cons (kit_ty (r := false) (by decide +kernel)) (fun _ => kitAny_cons (kit_ty (r := true) (by decide +kernel)) (fun z => by cases z) fun _ => rfl) (fun z => by cases z)) (fun z => by cases z), fun z => by cases z⟩
  · exact ⟨"list", ty_lst h, by decide +kernel, fun _ => kitAny_cons (kit_ty (r := false) (by decide +kernel)) (fun _ => kitAny_cons (kit_ty (r := false) (by decide +kernel)) (fun _ => kitAny_cons (kit_ty (r := false) (by decide +kernel)) (fun _ => kitAny_nil) (fun z => by cases z)) (fun z => by cases z)) (fun z => by cases z), fun z => by cases z⟩
  · exact ⟨"dict", .base (.dK h), by decide +kernel, fun _ => kitAny_cons (kit_ty (r := false) (by decide +kernel)) (fun _ => kitAny_cons (kit_ty (r := false) (by decide +kernel)) (fun _ => kitAny_cons (kit_ty (r := false) (by decide +kernel)) (fun _ => kitAny_nil) (fun z => by cases z)) (fun z => by cases z)) (fun z => by cases z), fun z => by cases z⟩
theorem all_snoc (bs : List Bool) (b : Bool) : (bs ++ [b]).all id = (bs.all id && b) := by rw [List.all_append, List.all_cons, List.all_nil, Bool.and_true]; rfl
section
variable {P : Program} {w : World} {K : PySem.W.Frag} {mg : Str → Option Value} {base : Heap}
/-! ### is_value -/
theorem scIs : FnScope ["thing", "item"] ["thing"] (defScope s_is) := ⟨rfl, rfl, rfl, by decide +kernel, rfl, by decide +kernel, by decide +kernel⟩
def spIs (K : PySem.W.Frag) (n : Nat) : Sp := fun vs H Q _ => ∃ v b, vs = [v] ∧ Tv K H n v b ∧ ∀ H', Same H H' → Q (.bl b) H'
def spIsP (K : PySem.W.Frag) : Nat → Sp
  | 0 => fun _ _ _ _ => False
  | n + 1 => spIs K n
/-- what the built-in names must be -/
structure Blt (mg : Str → Option Value) : Prop where
  isi : mg "isinstance" = none
  tup : mg "tuple" = none
  all : mg "all" = none
  bool : mg "bool" = none
  int : mg "int" = none
  str : mg "str" = none
theorem ok_is1 {f : Addr} {fd : FuncData} {n : Nat} (F : Fun K "is_value" "is_value" s_is f fd) (bF : Binds K fd ["thing"] []) (gF : mg "is_value" = some (.ref f)) (T : Blt mg)
    (G : FnOk P w K mg base CX0 n f fd ["thing"] (spIsP K n)) : FnOk P w K mg base CX0 (n + 1) f fd ["thing"] (spIs K n) := by
  refine F.ok scIs (fun vs H Q E h => ?_) (fun cdv A outer s H vs Q E hr h => ?_)
  · obtain ⟨v, b, rfl, _⟩ := h
    rfl
  · obtain ⟨v, b, rfl, hv, q⟩ := h
    refine ⟨_, pss_cons (ps_if (pt_val (pe_callB call_isi (by rfl) T.isi boot_isinstance (pa_cons (pv 0) (pa_cons (pe_bltn (v := .ty "tuple") (by rfl) T.tup boot_tuple (by rfl)) pa_nil))))
        (pss_one (ps_ret (pe_callB (cr_all rfl) (by rfl) T.all (by decide +kernel) (pa_cons (pe_lc rfl scIs.nd (pi_tup (pv 0)) (blkOk_by (own := [("item", 1)]) (N := ["thing", "item"]) (sc := defScope s_is) (by decide +kernel))
          (fun _ _ _ _ _ => pg_name (i := 1) scIs.nd rfl (Or.inl rfl)) (fun _ _ _ _ _ => pts_nil)
          (fun _ _ _ _ _ => pe_call G hr (by rfl) gF F.kp bF .nil pass0 (pa_cons (pv 1) pa_nil))) pa_nil)))) pss_nil)
      (pss_one (ps_ret (pe_or (pe_cmpR op_isN (pv 0) pe_non rfl) (pe_one (pe_callB call_isiT (by rfl) T.isi boot_isinstance (pa_cons (pv 0) (pa_cons (pe_tup (pa_cons (pe_bltn (v := .ty "bool") (by rfl) T.bool boot_bool (by rfl)) (pa_cons (pe_bltn (v := .ty "int") (by rfl) T.int boot_int (by rfl)) (pa_cons (pe_bltn (v := .ty "str") (by rfl) T.str boot_str (by rfl)) pa_nil)))) pa_nil))))))), ?_⟩
    rcases hv.out with h | ⟨m, a, xs, bs, rfl, rfl, hS, hl, p, rfl⟩
    · obtain ⟨T, ty, k1, k2, k3⟩ := h.ty
      refine ⟨v, rfl, v, .ty "tuple", .type T, .type "tuple", false, rfl, .ty "tuple", ty, kit_ty k1, false, rfl, ?_⟩
      refine ⟨v, rfl, rfl, _, rfl, ?_⟩
      by_cases e : v = .non
      · rw [decide_eq_true e]
        refine iteT ?_
        rw [k3 e] at q
        exact q H (Same.refl H)
      · rw [decide_eq_false e]
        refine iteF ?_
        refine ⟨v, rfl, by decide, fun t ht => ?_⟩
        obtain ⟨T2, ty2, _, k22, _⟩ := (h.mono (same_upd ht)).ty
        exact ⟨v, t, [.ty "bool", .ty "int", .ty "str"], .type T2, _, b, rfl, upd_same, .cons (.ty _) (.cons (.ty _) (.cons (.ty _) .nil)), ty2, k22 e, q _ (same_upd ht)⟩
    · refine ⟨.ref a, rfl, .ref a, .ty "tuple", .type "tuple", .type "tuple", true, rfl, .ty "tuple", ty_tup hS, kit_ty (by decide +kernel), true, rfl, ?_⟩
      refine ⟨.ref a, rfl, a, rfl, ⟨_, hS⟩, fun g hg => lc_tup (K := K) (a := a) (xs := xs) (fun i H' => Same H H' ∧ H' g = some (.lst ((bs.take i).map V.bl))) ⟨same_upd hg, upd_same⟩ (fun i H' _ p => same_tup p.1 hS) ?_ ?_⟩
      · rintro i x H' hx ⟨sm, hG⟩
        obtain ⟨c, hc, tx⟩ := paired_at p hx
        have hi : i < bs.length := (List.getElem?_eq_some_iff.mp hc).1
        refine ⟨rfl, x, rfl, x, c, rfl, tx.mono sm, fun H2 s2 => ⟨_, s2 _ _ hG, ?_, ?_, ?_⟩⟩
        · rw [List.length_map, List.length_take]
          have := paired_len p
          exact small1000 (by omega)
        · exact fun b o e => by
            rw [upd_ne (ne_of_none e hg)]
            exact s2 b o (sm b o e)
        · rw [upd_same, take_snoc hc, List.map_append]
          rfl
      · rintro H' ⟨sm, hG⟩
        rw [paired_len p, List.take_length] at hG
        exact ⟨g, bs, rfl, .inl (.inl hG), q _ sm⟩
end
end Ck
namespace Ck
open PySem PySem.Spec PyProof.Rows L2
/-! ### values of a bounded depth and width -/
mutual
def wd (b : Nat) : PyData → Bool
  | .tuple xs => decide (xs.length ≤ b) && wds b xs
  | .none => true
  | .bool _ => true
  | .int _ => true
  | .str _ => true
  | .list _ => true
  | .dict _ => true
def wds (b : Nat) : List PyData → Bool
  | [] => true
  | x :: xs => wd b x && wds b xs
end
structure Vd (n : Nat) (d : PyData) : Prop where
  v : isV d = true
  w : wd 100 d = true
  d : d.depth ≤ n
theorem Vd.up {n m : Nat} {d : PyData} (h : Vd n d) (e : n ≤ m) : Vd m d := ⟨h.v, h.w, Nat.le_trans h.d e⟩
theorem vds_at : ∀ {ds : List PyData} {i : Nat} {d : PyData}, isVs ds = true → wds 100 ds = true → ds[i]? = some d → isV d = true ∧ wd 100 d = true ∧ d.depth ≤ PyData.depthAll ds
  | [], i, d, _, _, h => by cases i <;> simp at h
  | x :: xs, i, d, h1, h2, h => by
    have h2 : (wd 100 x && wds 100 xs) = true := h2
    rw [Bool.and_eq_true] at h2
    have e : PyData.depthAll (x :: xs) = max x.depth (PyData.depthAll xs) := rfl
    cases i with
    | zero =>
      obtain rfl := Option.some.inj h
      exact ⟨(isVs_cons h1).1, h2.1, by rw [e]; exact Nat.le_max_left _ _⟩
    | succ i =>
      obtain ⟨a, b, c⟩ := vds_at (isVs_cons h1).2 h2.2 (show xs[i]? = some d from h)
      exact ⟨a, b, by rw [e]; exact Nat.le_trans c (Nat.le_max_right _ _)⟩
theorem Vd.len {n : Nat} {ds : List PyData} (h : Vd n (.tuple ds)) : ds.length ≤ 100 := by
  have := h.w
  simp only [wd, Bool.and_eq_true, decide_eq_true_eq] at this
  exact this.1
theorem Vd.pos {n : Nat} {ds : List PyData} (h : Vd n (.tuple ds)) : ∃ m, n = m + 1 := by
  have : (PyData.tuple ds).depth = PyData.depthAll ds + 1 := rfl
  have := h.d
  exact ⟨n - 1, by omega⟩
theorem Vd.at {n : Nat} {ds : List PyData} {i : Nat} {d : PyData} (h : Vd (n + 1) (.tuple ds)) (hi : ds[i]? = some d) : Vd n d := by
  have hw := h.w
  simp only [wd, Bool.and_eq_true, decide_eq_true_eq] at hw
  obtain ⟨a, b, c⟩ := vds_at (by simpa [isV] using h.v) hw.2 hi
  have : (PyData.tuple ds).depth = PyData.depthAll ds + 1 := rfl
  have := h.d
  exact ⟨a, b, by omega⟩
theorem dpAll_at {K : PySem.W.Frag} {H : Hp} : ∀ {vs : List V} {ds : List PyData} {i : Nat} {v : V}, DpAll K H vs ds → vs[i]? = some v → ∃ d, ds[i]? = some d ∧ Dp K H v d
  | _, _, i, v, .nil, h => by cases i <;> simp at h
  | _, _, 0, v, .cons a _, h => by
    obtain rfl := Option.some.inj h
    exact ⟨_, rfl, a⟩
  | _, _, i + 1, v, .cons _ b, h => dpAll_at (i := i) b h
theorem dpAll_len {K : PySem.W.Frag} {H : Hp} : ∀ {vs : List V} {ds : List PyData}, DpAll K H vs ds → vs.length = ds.length
  | _, _, .nil => rfl
  | _, _, .cons _ b => congrArg (· + 1) (dpAll_len b)
theorem dpAll_snoc {K : PySem.W.Frag} {H : Hp} {v : V} {d : PyData} (h : Dp K H v d) : ∀ {vs : List V} {ds : List PyData}, DpAll K H vs ds → DpAll K H (vs ++ [v]) (ds ++ [d])
  | _, _, .nil => .cons h .nil
  | _, _, .cons a b => .cons a (dpAll_snoc h b)
theorem bs_true {n : Nat} : (List.replicate n true).all id = true := by
  induction n with
  | zero => rfl
  | succ n ih => rw [List.replicate_succ, List.all_cons, ih]; rfl
mutual
theorem dp_tv {K : PySem.W.Frag} {H : Hp} : ∀ (n : Nat) (d : PyData) (v : V), Dp K H v d → Vd n d → Tv K H n v true
  | n, .none, _, h, _ => by cases h; exact Tv.base (.inl ⟨.inl rfl, rfl⟩) n
  | n, .bool b, _, h, _ => by cases h; exact Tv.base (.inl ⟨.inr (.inl ⟨b, rfl⟩), rfl⟩) n
  | n, .int i, _, h, _ => by cases h; exact Tv.base (.inl ⟨.inr (.inr (.inl ⟨i, rfl⟩)), rfl⟩) n
  | n, .str x, _, h, _ => by cases h; exact Tv.base (.inl ⟨.inr (.inr (.inr ⟨x, rfl⟩)), rfl⟩) n
  | 0, .tuple ds, _, h, hv => by obtain ⟨m, e⟩ := hv.pos; cases e
  | n + 1, .tuple ds, _, h, hv => by
    cases h with
    | @tup a xs _ hs hd =>
      have hl : xs.length ≤ 100 := by rw [dpAll_len hd]; exact hv.len
      have hw := hv.w
      simp only [wd, Bool.and_eq_true, decide_eq_true_eq] at hw
      have hdp : (PyData.tuple ds).depth = PyData.depthAll ds + 1 := rfl
      have hdd := hv.d
      exact .inr ⟨a, xs, List.replicate ds.length true, rfl, hs, by omega, dpAll_tv n ds xs hd (by simpa [isV] using hv.v) hw.2 (by omega), bs_true.symm⟩
  | _, .list _, _, _, hv => by have := hv.v; simp [isV] at this
  | _, .dict _, _, _, hv => by have := hv.v; simp [isV] at this
theorem dpAll_tv {K : PySem.W.Frag} {H : Hp} : ∀ (n : Nat) (ds : List PyData) (vs : List V), DpAll K H vs ds → isVs ds = true → wds 100 ds = true → PyData.depthAll ds ≤ n → Paired (Tv K H n) vs (List.replicate ds.length true)
  | n, [], _, h, _, _, _ => by cases h; exact .nil
  | n, d :: ds, _, h, h1, h2, h3 => by
    have h2 : (wd 100 d && wds 100 ds) = true := h2
    rw [Bool.and_eq_true] at h2
    have h3 : max d.depth (PyData.depthAll ds) ≤ n := h3
    cases h with
    | cons a b =>
      rw [List.length_cons, List.replicate_succ]
      exact .cons (dp_tv n d _ a ⟨(isVs_cons h1).1, h2.1, by omega⟩) (dpAll_tv n ds _ b (isVs_cons h1).2 h2.2 (by omega))
end
mutual
theorem key_deep : ∀ d : PyData, (keyD d).depth ≤ 2 * d.depth + 1
  | .none => by decide
  | .bool _ => by simp [keyD, PyData.depth, PyData.depthAll]
  | .int _ => by simp [keyD, PyData.depth, PyData.depthAll]
  | .str _ => by simp [keyD, PyData.depth, PyData.depthAll]
  | .tuple xs => by
    have := keys_deep xs
    simp only [keyD, PyData.depth, PyData.depthAll]
    omega
  | .list _ => by simp [keyD, PyData.depth]
  | .dict _ => by simp [keyD, PyData.depth]
theorem keys_deep : ∀ ds : List PyData, PyData.depthAll (keyDs ds) ≤ 2 * PyData.depthAll ds + 1
  | [] => by decide
  | d :: ds => by
    have h1 := key_deep d
    have h2 := keys_deep ds
    simp only [keyDs, PyData.depthAll]
    omega
end
/-- a datum that stands by what is new in H' over H -/
def Own (K : PySem.W.Frag) (H H' : Hp) (v : V) (d : PyData) : Prop := ∀ H3, (∀ b o, H b = none → H' b = some o → H3 b = some o) → Dp K H3 v d
theorem Own.dp {K : PySem.W.Frag} {H H' : Hp} {v : V} {d : PyData} (h : Own K H H' v d) : Dp K H' v d := h H' fun _ _ _ e => e
section
variable {P : Program} {w : World} {K : PySem.W.Frag} {mg : Str → Option Value} {base : Heap}
theorem ok_is {f : Addr} {fd : FuncData} (F : Fun K "is_value" "is_value" s_is f fd) (bF : Binds K fd ["thing"] []) (gF : mg "is_value" = some (.ref f)) (T : Blt mg) : ∀ n, FnOk P w K mg base CX0 (n + 1) f fd ["thing"] (spIs K n)
  | 0 => ok_is1 F bF gF T ⟨fun _ _ _ _ h => h.elim, fun _ _ _ _ _ _ _ _ _ _ _ _ _ h => h.elim⟩
  | n + 1 => ok_is1 F bF gF T (ok_is F bF gF T n)
/-! ### _rank -/
theorem scRank : FnScope ["value"] ["value"] (defScope s_rank) := ⟨rfl, rfl, rfl, by decide +kernel, rfl, by decide +kernel, by decide +kernel⟩
def spRank (K : PySem.W.Frag) : Sp := fun vs H Q _ => ∃ v d, vs = [v] ∧ Dp K H v d ∧ isV d = true ∧ Q (.int (rkV d)) H
theorem ok_rank {f : Addr} {fd : FuncData} (F : Fun K "_rank" "_rank" s_rank f fd) (T : Blt mg) : FnOk P w K mg base CX0 1 f fd ["value"] (spRank K) := by
  refine F.ok scRank (fun vs H Q E h => ?_) (fun cdv A outer s H vs Q E hr h => ?_)
  · obtain ⟨v, d, rfl, _⟩ := h
    rfl
  · obtain ⟨v, d, rfl, hd, hv, q⟩ := h
    refine ⟨_, pss_cons (ps_if (pt_cmpR op_isN (pv 0) pe_non (nomark _)) (pss_one (ps_ret pe_int)) pss_nil)
      (pss_cons (ps_if (pt_val (pe_callB call_isi (by rfl) T.isi boot_isinstance (pa_cons (pv 0) (pa_cons (pe_bltn (v := .ty "bool") (by rfl) T.bool boot_bool (by rfl)) pa_nil)))) (pss_one (ps_ret pe_int)) pss_nil)
      (pss_cons (ps_if (pt_val (pe_callB call_isi (by rfl) T.isi boot_isinstance (pa_cons (pv 0) (pa_cons (pe_bltn (v := .ty "int") (by rfl) T.int boot_int (by rfl)) pa_nil)))) (pss_one (ps_ret pe_int)) pss_nil)
      (pss_one (ps_ret (pe_ifExp (pt_val (pe_callB call_isi (by rfl) T.isi boot_isinstance (pa_cons (pv 0) (pa_cons (pe_bltn (v := .ty "str") (by rfl) T.str boot_str (by rfl)) pa_nil)))) pe_int pe_int))))), ?_⟩
    have ty := dp_ty hd
    refine ⟨v, rfl, rfl, _, rfl, ?_⟩
    cases d with
    | none =>
      cases hd
      exact q
    | bool b =>
      cases hd
      refine iteF ?_
      exact ⟨.bl b, rfl, .bl b, .ty "bool", .type "bool", .type "bool", true, rfl, .ty "bool", ty, kit_ty (by decide +kernel), true, rfl, q⟩
    | int i =>
      cases hd
      refine iteF ?_
      refine ⟨.int i, rfl, .int i, .ty "bool", .type "int", .type "bool", false, rfl, .ty "bool", ty, kit_ty (by decide +kernel), false, rfl, ?_⟩
      exact ⟨.int i, rfl, .int i, .ty "int", .type "int", .type "int", true, rfl, .ty "int", ty, kit_ty (by decide +kernel), true, rfl, q⟩
    | str x =>
      cases hd
      refine iteF ?_
      refine ⟨.str x, rfl, .str x, .ty "bool", .type "str", .type "bool", false, rfl, .ty "bool", ty, kit_ty (by decide +kernel), false, rfl, ?_⟩
      refine ⟨.str x, rfl, .str x, .ty "int", .type "str", .type "int", false, rfl, .ty "int", ty, kit_ty (by decide +kernel), false, rfl, ?_⟩
      exact ⟨.str x, rfl, .str x, .ty "str", .type "str", .type "str", true, rfl, .ty "str", ty, kit_ty (by decide +kernel), true, rfl, q⟩
    | tuple ds =>
      cases hd with
      | @tup a xs _ hs hd =>
        refine iteF ?_
        refine ⟨.ref a, rfl, .ref a, .ty "bool", .type "tuple", .type "bool", false, rfl, .ty "bool", ty, kit_ty (by decide +kernel), false, rfl, ?_⟩
        refine ⟨.ref a, rfl, .ref a, .ty "int", .type "tuple", .type "int", false, rfl, .ty "int", ty, kit_ty (by decide +kernel), false, rfl, ?_⟩
        exact ⟨.ref a, rfl, .ref a, .ty "str", .type "tuple", .type "str", false, rfl, .ty "str", ty, kit_ty (by decide +kernel), false, rfl, q⟩
    | list _ => simp [isV] at hv
    | dict _ => simp [isV] at hv
/-! ### order_key -/
theorem scKey : FnScope ["value", "item"] ["value"] (defScope s_key) := ⟨rfl, rfl, rfl, by decide +kernel, rfl, by decide +kernel, by decide +kernel⟩
def spKey (K : PySem.W.Frag) (n : Nat) : Sp := fun vs H Q _ => ∃ v d, vs = [v] ∧ Dp K H v d ∧ Vd n d ∧ ∀ p H', Same H H' → Own K H H' (.ref p) (keyD d) → Q (.ref p) H'
def spKeyP (K : PySem.W.Frag) : Nat → Sp
  | 0 => fun _ _ _ _ => False
  | n + 1 => spKey K n
theorem ok_key1 {f fR : Addr} {fd fdR : FuncData} {n : Nat} (F : Fun K "order_key" "order_key" s_key f fd) (bF : Binds K fd ["value"] []) (gF : mg "order_key" = some (.ref f)) (T : Blt mg)
    (FR : Fun K "_rank" "_rank" s_rank fR fdR) (bR : Binds K fdR ["value"] []) (gR : mg "_rank" = some (.ref fR))
    (G : FnOk P w K mg base CX0 (n + 1) f fd ["value"] (spKeyP K n)) : FnOk P w K mg base CX0 (n + 2) f fd ["value"] (spKey K n) := by
  have GR : FnOk P w K mg base CX0 (n + 1) fR fdR ["value"] (spRank K) := (ok_rank FR T).mono (by omega)
  refine F.ok scKey (fun vs H Q E h => ?_) (fun cdv A outer s H vs Q E hr h => ?_)
  · obtain ⟨v, d, rfl, _⟩ := h
    rfl
  · obtain ⟨v, d, rfl, hd, hv, q⟩ := h
    refine ⟨_, pss_cons (ps_if (pt_val (pe_callB call_isi (by rfl) T.isi boot_isinstance (pa_cons (pv 0) (pa_cons (pe_bltn (v := .ty "tuple") (by rfl) T.tup boot_tuple (by rfl)) pa_nil))))
        (pss_one (ps_ret (pe_tup (pa_cons (pe_call GR hr (by rfl) gR FR.kp bR .nil pass0 (pa_cons (pv 0) pa_nil)) (pa_cons (pe_tupleOf (by rfl) T.tup
          (pe_lc rfl scKey.nd (pi_tup (pv 0)) (blkOk_by (own := [("item", 1)]) (N := ["value", "item"]) (sc := defScope s_key) (by decide +kernel))
            (fun _ _ _ _ _ => pg_name (i := 1) scKey.nd rfl (Or.inl rfl)) (fun _ _ _ _ _ => pts_nil)
            (fun _ _ _ _ _ => pe_call G hr (by rfl) gF F.kp bF .nil pass0 (pa_cons (pv 1) pa_nil)))) pa_nil))))) pss_nil)
      (pss_one (ps_ret (pe_tup (pa_cons (pe_call GR hr (by rfl) gR FR.kp bR .nil pass0 (pa_cons (pv 0) pa_nil)) (pa_cons (pv 0) pa_nil))))), ?_⟩
    have ty := dp_ty hd
    have leaf : ∀ p, keyD d = .tuple [.int (rkV d), d] → (∀ a, v ≠ .ref a) → H p = none → Own K H (upd H p (.tup [.int (rkV d), v])) (.ref p) (keyD d) := fun p ek nr hp H3 k => by
      rw [ek]
      refine .tup (.inl (.inl (k p _ hp upd_same))) (.cons (.int _) (.cons ?_ .nil))
      cases hd with
      | non => exact .non
      | bl b => exact .bl b
      | int i => exact .int i
      | str x => exact .str x
      | lst _ _ => exact absurd rfl (nr _)
      | tup _ _ => exact absurd rfl (nr _)
    cases d with
    | none =>
      cases hd
      refine ⟨.non, rfl, .non, .ty "tuple", .type "NoneType", .type "tuple", false, rfl, .ty "tuple", ty, kit_ty (by decide +kernel), false, rfl, ?_⟩
      exact ⟨.non, rfl, .non, _, rfl, .non, rfl, .non, rfl, by decide, fun p hp => q p _ (same_upd hp) (leaf p rfl (fun _ z => by cases z) hp)⟩
    | bool b =>
      cases hd
      refine ⟨.bl b, rfl, .bl b, .ty "tuple", .type "bool", .type "tuple", false, rfl, .ty "tuple", ty, kit_ty (by decide +kernel), false, rfl, ?_⟩
      exact ⟨.bl b, rfl, .bl b, _, rfl, .bl b, rfl, .bl b, rfl, (by show 2 ≤ sizeLine; decide), fun p hp => q p _ (same_upd hp) (leaf p rfl (fun _ z => by cases z) hp)⟩
    | int i =>
      cases hd
      refine ⟨.int i, rfl, .int i, .ty "tuple", .type "int", .type "tuple", false, rfl, .ty "tuple", ty, kit_ty (by decide +kernel), false, rfl, ?_⟩
      exact ⟨.int i, rfl, .int i, _, rfl, .int i, rfl, .int i, rfl, (by show 2 ≤ sizeLine; decide), fun p hp => q p _ (same_upd hp) (leaf p rfl (fun _ z => by cases z) hp)⟩
    | str x =>
      cases hd
      refine ⟨.str x, rfl, .str x, .ty "tuple", .type "str", .type "tuple", false, rfl, .ty "tuple", ty, kit_ty (by decide +kernel), false, rfl, ?_⟩
      exact ⟨.str x, rfl, .str x, _, rfl, .str x, hv.v, .str x, rfl, (by show 2 ≤ sizeLine; decide), fun p hp => q p _ (same_upd hp) (leaf p rfl (fun _ z => by cases z) hp)⟩
    | tuple ds =>
      obtain ⟨m, rfl⟩ := hv.pos
      cases hd with
      | @tup a xs _ hs hd =>
        refine ⟨.ref a, rfl, .ref a, .ty "tuple", .type "tuple", .type "tuple", true, rfl, .ty "tuple", ty, kit_ty (by decide +kernel), true, rfl, ?_⟩
        refine ⟨.ref a, rfl, .ref a, .tuple ds, rfl, .tup hs hd, hv.v, ?_⟩
        refine ⟨.ref a, rfl, a, rfl, ⟨_, hs⟩, fun g hg => lc_tup (K := K) (a := a) (xs := xs) (fun i H' => Same H H' ∧ ∃ ks, H' g = some (.lst ks) ∧ ∀ H4, (∀ b o, b ≠ g → H b = none → H' b = some o → H4 b = some o) → DpAll K H4 ks (keyDs (ds.take i))) ⟨same_upd hg, [], upd_same, fun H4 _ => .nil⟩ (fun i H' _ p => same_tup p.1 hs) ?_ ?_⟩
        · rintro i x H' hx ⟨sm, ks, hG, hk⟩
          obtain ⟨d, hi, hx'⟩ := dpAll_at hd hx
          have hil : i < ds.length := (List.getElem?_eq_some_iff.mp hi).1
          have hkl : ks.length = (ds.take i).length := by
            have := dpAll_len (hk H' fun _ _ _ _ e => e)
            rw [this, keyDs_len]
          refine ⟨rfl, x, rfl, x, d, rfl, dp_mono sm d x hx', hv.at hi, fun p H2 s2 ow => ⟨ks, s2 _ _ hG, ?_, ?_, ks ++ [.ref p], upd_same, fun H4 k4 => ?_⟩⟩
          · rw [hkl, List.length_take]
            have := hv.len
            exact small1000 (by omega)
          · exact fun b o e => by
              rw [upd_ne (ne_of_none e hg)]
              exact s2 b o (sm b o e)
          · rw [take_snoc hi, keyDs_map, List.map_append, ← keyDs_map]
            refine dpAll_snoc (ow H4 fun b o e1 e2 => ?_) (hk H4 fun b o nb e1 e2 => ?_)
            · have nb : b ≠ g := fun z => by rw [z, hG] at e1; cases e1
              refine k4 b o nb ?_ (by rw [upd_ne nb]; exact e2)
              cases e : H b with
              | none => rfl
              | some y => rw [sm b y e] at e1; cases e1
            · exact k4 b o nb e1 (by rw [upd_ne nb]; exact s2 b o e2)
        · rintro H' ⟨sm, ks, hG, hk⟩
          refine .inl ⟨g, ks, rfl, .inl (.inl hG), fun t ht => ?_⟩
          refine ⟨(by show 2 ≤ sizeLine; decide), fun p hp => ?_⟩
          have htp : t ≠ p := fun z => by rw [z, upd_same] at hp; cases hp
          have hp' : H' p = none := by rw [upd_ne htp.symm] at hp; exact hp
          have h0 : ∀ b, H' b = none → H b = none := fun b e => by
            cases z : H b with
            | none => rfl
            | some y => rw [sm b y z] at e; cases e
          refine q p _ (fun b o e => ?_) fun H3 k3 => ?_
          · rw [upd_ne (ne_of_none (sm b o e) hp'), upd_ne (ne_of_none (sm b o e) ht)]
            exact sm b o e
          · refine .tup (.inl (.inl (k3 p _ (h0 p hp') upd_same))) (.cons (.int _) (.cons (.tup (.inl (.inl (k3 t _ (h0 t ht) (by rw [upd_ne htp, upd_same])))) ?_) .nil))
            rw [List.take_of_length_le (by rw [dpAll_len hd]; exact Nat.le_refl _)] at hk
            refine hk H3 fun b o nb e1 e2 => k3 b o e1 ?_
            rw [upd_ne (ne_of_none e2 hp'), upd_ne (ne_of_none e2 ht)]
            exact e2
    | list _ => have := hv.v; simp [isV] at this
    | dict _ => have := hv.v; simp [isV] at this
end
end Ck
namespace Ck
open PySem PySem.Spec PyProof.Rows L2
/-! ### < and > of keys -/
section
variable {X : Cx}
def rLtK (K : PySem.W.Frag) : R2 := fun x y H Q => ∃ a b, Dp K H x (keyD a) ∧ Dp K H y (keyD b) ∧ isV a = true ∧ isV b = true ∧ a.depth ≤ 30 ∧ Q (.bl (ltV a b)) H
def rGtK (K : PySem.W.Frag) : R2 := fun x y H Q => ∃ a b, Dp K H x (keyD a) ∧ Dp K H y (keyD b) ∧ isV a = true ∧ isV b = true ∧ a.depth ≤ 30 ∧ Q (.bl (ltV b a)) H
theorem op_ltK (hu : X.A.units + 64 < cLine) : OpR X (compareOp .Lt) (rLtK X.K) := by
  intro pins s σ H x y v u Q I rx ry h
  obtain ⟨a, b, ha, hb, va, vb, da, q⟩ := h
  obtain ⟨as, ra⟩ := Dp.reads I _ _ _ ha rx
  obtain ⟨bs, rb⟩ := Dp.reads I _ _ _ hb ry
  have dk := key_deep a
  exact all_kl a b X.A s v u as bs va vb ra rb (by omega) X.prog X.w X.xe (EP X pins σ Q) ⟨.bl _, H, I, rfl, q⟩
theorem op_gtK (hu : X.A.units + 64 < cLine) : OpR X (compareOp .Gt) (rGtK X.K) := by
  intro pins s σ H x y v u Q I rx ry h
  obtain ⟨a, b, ha, hb, va, vb, da, q⟩ := h
  obtain ⟨as, ra⟩ := Dp.reads I _ _ _ ha rx
  obtain ⟨bs, rb⟩ := Dp.reads I _ _ _ hb ry
  have dk := key_deep a
  exact all_kg a b X.A s v u as bs va vb ra rb (by omega) X.prog X.w X.xe (EP X pins σ Q) ⟨.bl _, H, I, rfl, q⟩
end
/-! ### an object: a value, or none -/
def Ob (K : PySem.W.Frag) (H : Hp) (n : Nat) (v : V) : Option PyData → Prop
  | some d => Dp K H v d ∧ Vd n d
  | none => Tv K H n v false
theorem Ob.tv {K : PySem.W.Frag} {H : Hp} {n : Nat} {v : V} {o : Option PyData} (h : Ob K H n v o) : Tv K H n v o.isSome := by
  cases o with
  | none => exact h
  | some d => exact dp_tv n d v h.1 h.2
theorem Ob.mono {K : PySem.W.Frag} {H H' : Hp} {n : Nat} {v : V} {o : Option PyData} (h : Ob K H n v o) (s : Same H H') : Ob K H' n v o := by
  cases o with
  | none => exact Tv.mono s h
  | some d => exact ⟨dp_mono s d v h.1, h.2⟩
/-- what the top has written of BadValue and KINDS -/
structure Val (K : PySem.W.Frag) (mg : Str → Option Value) (BV AK : Addr) : Prop where
  b : Blt mg
  bv : mg "BadValue" = some (.ref BV)
  kbv : PySem.W.keepIn K (.ref BV) = true
  ex : PySem.W.excIn K BV [.type "ValueError", .type "Exception", .type "BaseException", .type "object"] "ValueError.__new__" = true
  sub : PySem.W.subIn K (.ref BV) (.type "BaseException") = some true
  ty : PySem.W.typeIn K (.ref BV) = some (.type "type")
  kinds : mg "KINDS" = some (.ref AK)
  at_ : ∀ H, SqT K H AK [.str "none", .str "bool", .str "int", .str "text", .str "tuple"]
section
variable {P : Program} {w : World} {K : PySem.W.Frag} {mg : Str → Option Value} {base : Heap} {BV AK : Addr}
theorem takesX {N : List Str} {qual : Str} {scope : Scope} {f : Addr} {cd : Value} {A : Around} {outer : List Env} {s : Shared} {H : Hp} {E : XK} : Takes (cxOf (L2.CX P w) P w K mg base N qual scope f cd A outer s H E) (fun cls d _ H => E cls d H) := takes_of rfl rfl rfl rfl
theorem passX {N : List Str} {qual : Str} {scope : Scope} {f : Addr} {cd : Value} {A : Around} {outer : List Env} {s : Shared} {H : Hp} {E : XK} : Passes (L2.CX P w) (cxOf (L2.CX P w) P w K mg base N qual scope f cd A outer s H E) E := passes_call takesX fun _ _ _ _ h => h
/-! ### checked_value -/
theorem scChk : FnScope ["thing"] ["thing"] (defScope s_chk) := ⟨rfl, rfl, rfl, by decide +kernel, rfl, by decide +kernel, by decide +kernel⟩
def spChk (K : PySem.W.Frag) (BV : Addr) (n : Nat) : Sp := fun vs H Q E => ∃ v b, vs = [v] ∧ Tv K H n v b ∧ (b = true → ∀ H', Same H H' → Q v H') ∧ (b = false → ∀ H', Same H H' → E (.ref BV) none H')
theorem ok_chk {f fI : Addr} {fd fdI : FuncData} {n : Nat} (F : Fun K "checked_value" "checked_value" s_chk f fd) (T : Val K mg BV AK)
    (FI : Fun K "is_value" "is_value" s_is fI fdI) (bI : Binds K fdI ["thing"] []) (gI : mg "is_value" = some (.ref fI)) : FnOk P w K mg base (L2.CX P w) (n + 2) f fd ["thing"] (spChk K BV n) := by
  have GI : FnOk P w K mg base CX0 (n + 1) fI fdI ["thing"] (spIs K n) := ok_is FI bI gI T.b n
  refine F.okX scChk (fun vs H Q E h => ?_) (fun cdv A outer s H vs Q E hr h => ?_)
  · obtain ⟨v, b, rfl, _⟩ := h
    rfl
  · obtain ⟨v, b, rfl, hv, q1, q2⟩ := h
    refine ⟨_, pss_cons (ps_if (pt_not (pt_val (pe_call GI hr (by rfl) gI FI.kp bI .nil pass0 (pa_cons (pv 0) pa_nil))))
        (pss_one (ps_raise rfl takesX (pmk_own PySem.F.excBase_ValueError T.ex T.bv T.kbv (raises_own T.sub T.ty) (by rfl)))) pss_nil) (pss_one (ps_ret (pv 0))), ?_⟩
    refine ⟨v, rfl, v, b, rfl, hv, fun H' s' => ⟨b, rfl, ?_⟩⟩
    cases b with
    | true => exact ⟨v, rfl, q1 rfl H' s'⟩
    | false => exact q2 rfl H' s'
/-! ### kind_of -/
def kindS : PyData → Str
  | .none => "none"
  | .bool _ => "bool"
  | .int _ => "int"
  | .str _ => "text"
  | _ => "tuple"
theorem scKind : FnScope ["value"] ["value"] (defScope s_kind) := ⟨rfl, rfl, rfl, by decide +kernel, rfl, by decide +kernel, by decide +kernel⟩
def spKind (K : PySem.W.Frag) (BV : Addr) (n : Nat) : Sp := fun vs H Q E => ∃ v o, vs = [v] ∧ Ob K H n v o ∧ (∀ d, o = some d → ∀ H', Same H H' → Q (.str (kindS d)) H') ∧ (o = none → ∀ H', Same H H' → E (.ref BV) none H')
theorem kinds_at {d : PyData} (h : isV d = true) : atI [V.str "none", .str "bool", .str "int", .str "text", .str "tuple"] (rkV d) = some (.str (kindS d)) := by
  cases d <;> first | rfl | (simp [isV] at h)
theorem ok_kind {f fC fR : Addr} {fd fdC fdR : FuncData} {n : Nat} (F : Fun K "kind_of" "kind_of" s_kind f fd) (T : Val K mg BV AK)
    (GC : FnOk P w K mg base (L2.CX P w) (n + 2) fC fdC ["thing"] (spChk K BV n)) (kC : PySem.W.keepIn K (.ref fC) = true) (bC : Binds K fdC ["thing"] []) (gC : mg "checked_value" = some (.ref fC))
    (FR : Fun K "_rank" "_rank" s_rank fR fdR) (bR : Binds K fdR ["value"] []) (gR : mg "_rank" = some (.ref fR)) : FnOk P w K mg base (L2.CX P w) (n + 3) f fd ["value"] (spKind K BV n) := by
  have GR : FnOk P w K mg base CX0 (n + 2) fR fdR ["value"] (spRank K) := (ok_rank FR T.b).mono (by omega)
  refine F.okX scKind (fun vs H Q E h => ?_) (fun cdv A outer s H vs Q E hr h => ?_)
  · obtain ⟨v, o, rfl, _⟩ := h
    rfl
  · obtain ⟨v, o, rfl, hv, q1, q2⟩ := h
    refine ⟨_, pss_one (ps_ret (pe_ix ix_tup (pe_glob (v := .ref AK) (by rfl) T.kinds (by rfl)) (pe_call GR hr (by rfl) gR FR.kp bR .nil pass0 (pa_cons (pe_call (E := E) GC hr (by rfl) gC kC bC .nil passX (pa_cons (pv 0) pa_nil)) pa_nil)) (fun _ _ => rfl))), ?_⟩
    refine ⟨v, rfl, v, o.isSome, rfl, hv.tv, fun hb H' s' => ?_, fun hb H' s' => ?_⟩
    · cases o with
      | none => cases hb
      | some d => exact ⟨v, d, rfl, dp_mono s' d v hv.1, hv.2.v, AK, _, rkV d, _, rfl, rfl, T.at_ H', kinds_at hv.2.v, q1 d rfl H' s'⟩
    · cases o with
      | none => exact q2 rfl H' s'
      | some d => cases hb
/-! ### compare -/
theorem scCmp : FnScope ["one", "other", "first", "second"] ["one", "other"] (defScope s_cmp) := ⟨rfl, rfl, rfl, by decide +kernel, rfl, by decide +kernel, by decide +kernel⟩
def cmpV (a b : PyData) : Int := if ltV a b = true then -1 else if ltV b a = true then 1 else 0
def spCmp (K : PySem.W.Frag) (BV : Addr) (n : Nat) : Sp := fun vs H Q E => ∃ v u o p, vs = [v, u] ∧ Ob K H n v o ∧ Ob K H n u p ∧ (∀ d e, o = some d → p = some e → ∀ H', Same H H' → Q (.int (cmpV d e)) H') ∧ (o = none ∨ p = none → ∀ H', Same H H' → E (.ref BV) none H')
theorem ok_cmp {f fC fK : Addr} {fd fdC fdK : FuncData} {n : Nat} (hn : n ≤ 30) (F : Fun K "compare" "compare" s_cmp f fd) (T : Val K mg BV AK)
    (GC : FnOk P w K mg base (L2.CX P w) (n + 2) fC fdC ["thing"] (spChk K BV n)) (kC : PySem.W.keepIn K (.ref fC) = true) (bC : Binds K fdC ["thing"] []) (gC : mg "checked_value" = some (.ref fC))
    (GK : FnOk P w K mg base CX0 (n + 2) fK fdK ["value"] (spKey K n)) (kK : PySem.W.keepIn K (.ref fK) = true) (bK : Binds K fdK ["value"] []) (gK : mg "order_key" = some (.ref fK)) : FnOk P w K mg base (L2.CX P w) (n + 3) f fd ["one", "other"] (spCmp K BV n) := by
  refine F.okX scCmp (fun vs H Q E h => ?_) (fun cdv A outer s H vs Q E hr h => ?_)
  · obtain ⟨v, u, o, p, rfl, _⟩ := h
    rfl
  · obtain ⟨v, u, o, p, rfl, hv, hw, q1, q2⟩ := h
    refine ⟨_, pss_cons (ps_set (i := 2) scCmp.nd rfl (.inl rfl) (pe_call GK hr (by rfl) gK kK bK .nil pass0 (pa_cons (pe_call (E := E) GC hr (by rfl) gC kC bC .nil passX (pa_cons (pv 0) pa_nil)) pa_nil)))
      (pss_cons (ps_set (i := 3) scCmp.nd rfl (.inl rfl) (pe_call GK hr (by rfl) gK kK bK .nil pass0 (pa_cons (pe_call (E := E) GC hr (by rfl) gC kC bC .nil passX (pa_cons (pv 1) pa_nil)) pa_nil)))
      (pss_cons (ps_if (pt_cmpR (op_ltK hr.units) (pv 2) (pv 3) (nomark _)) (pss_one (ps_ret (pe_un un_neg pe_int))) pss_nil)
      (pss_one (ps_ret (pe_ifExp (pt_cmpR (op_gtK hr.units) (pv 2) (pv 3) (nomark _)) pe_int pe_int))))), ?_⟩
    refine ⟨v, rfl, v, o.isSome, rfl, hv.tv, fun hb H1 s1 => ?_, fun hb H1 s1 => ?_⟩
    · cases o with
      | none => cases hb
      | some d =>
        refine ⟨v, d, rfl, dp_mono s1 d v hv.1, hv.2, fun p1 H2 s2 o2 => ?_⟩
        have hw2 := hw.mono (s1.trans s2)
        refine ⟨u, rfl, u, p.isSome, rfl, hw2.tv, fun hb2 H3 s3 => ?_, fun hb2 H3 s3 => ?_⟩
        · cases p with
          | none => cases hb2
          | some e =>
            refine ⟨u, e, rfl, dp_mono s3 e u hw2.1, hw2.2, fun p2 H4 s4 o4 => ?_⟩
            have k1 : Dp K H4 (.ref p1) (keyD d) := dp_mono (s3.trans s4) _ _ o2.dp
            have k2 : Dp K H4 (.ref p2) (keyD e) := o4.dp
            have hd := hv.2.d
            have he := hw2.2.d
            have qq := q1 d e rfl rfl H4 (((s1.trans s2).trans s3).trans s4)
            unfold cmpV at qq
            refine ⟨.ref p1, rfl, .ref p2, rfl, d, e, k1, k2, hv.2.v, hw2.2.v, by omega, _, rfl, ?_⟩
            cases h1 : ltV d e with
            | true =>
              rw [h1, if_pos rfl] at qq
              exact ⟨1, rfl, qq⟩
            | false =>
              rw [h1, if_neg Bool.false_ne_true] at qq
              refine ⟨.ref p1, rfl, .ref p2, rfl, d, e, k1, k2, hv.2.v, hw2.2.v, by omega, _, rfl, ?_⟩
              cases h2 : ltV e d with
              | true =>
                rw [h2, if_pos rfl] at qq
                exact qq
              | false =>
                rw [h2, if_neg Bool.false_ne_true] at qq
                exact qq
        · cases p with
          | none => exact q2 (.inr rfl) H3 ((s1.trans s2).trans s3)
          | some e => cases hb2
    · cases o with
      | none => exact q2 (.inl rfl) H1 s1
      | some d => cases hb
/-! ### same -/
theorem scSame : FnScope ["one", "other"] ["one", "other"] (defScope s_same) := ⟨rfl, rfl, rfl, by decide +kernel, rfl, by decide +kernel, by decide +kernel⟩
def spSame (K : PySem.W.Frag) (BV : Addr) (n : Nat) : Sp := fun vs H Q E => ∃ v u o p, vs = [v, u] ∧ Ob K H n v o ∧ Ob K H n u p ∧ (∀ d e, o = some d → p = some e → ∀ H', Same H H' → Q (.bl (decide (V.int (cmpV d e) = V.int 0))) H') ∧ (o = none ∨ p = none → ∀ H', Same H H' → E (.ref BV) none H')
theorem ok_same {f fC : Addr} {fd fdC : FuncData} {n : Nat} (F : Fun K "same" "same" s_same f fd)
    (GC : FnOk P w K mg base (L2.CX P w) (n + 3) fC fdC ["one", "other"] (spCmp K BV n)) (kC : PySem.W.keepIn K (.ref fC) = true) (bC : Binds K fdC ["one", "other"] []) (gC : mg "compare" = some (.ref fC)) : FnOk P w K mg base (L2.CX P w) (n + 4) f fd ["one", "other"] (spSame K BV n) := by
  refine F.okX scSame (fun vs H Q E h => ?_) (fun cdv A outer s H vs Q E hr h => ?_)
  · obtain ⟨v, u, o, p, rfl, _⟩ := h
    rfl
  · obtain ⟨v, u, o, p, rfl, hv, hw, q1, q2⟩ := h
    refine ⟨_, pss_one (ps_ret (pe_cmpR op_eq (pe_call (E := E) GC hr (by rfl) gC kC bC .nil passX (pa_cons (pv 0) (pa_cons (pv 1) pa_nil))) pe_int (nomark _))), ?_⟩
    refine ⟨v, rfl, u, rfl, v, u, o, p, rfl, hv, hw, fun d e hd he H' s' => ?_, fun hb H' s' => q2 hb H' s'⟩
    exact ⟨rfl, q1 d e hd he H' s'⟩
end
end Ck
namespace Ck
open PySem PySem.Spec PyProof.Rows L2
abbrev s_lv : Stmt := topS 19
abbrev s_lk : Stmt := topS 20
abbrev s_lr : Stmt := topS 21
abbrev s_ln : Stmt := topS 22
/-! ### tuples stay -/
theorem depthAll_snoc (x : PyData) : ∀ ds : List PyData, PyData.depthAll (ds ++ [x]) = max (PyData.depthAll ds) x.depth
  | [] => by simp [PyData.depthAll]
  | d :: ds => by
    have ih := depthAll_snoc x ds
    show max d.depth (PyData.depthAll (ds ++ [x])) = max (max d.depth (PyData.depthAll ds)) x.depth
    rw [ih]
    omega
theorem isVs_snoc (x : PyData) : ∀ ds : List PyData, isVs (ds ++ [x]) = (isVs ds && isV x)
  | [] => by simp [isVs]
  | d :: ds => by
    have ih := isVs_snoc x ds
    show (isV d && isVs (ds ++ [x])) = (isV d && isVs ds && isV x)
    rw [ih, Bool.and_assoc]
theorem wds_snoc (b : Nat) (x : PyData) : ∀ ds : List PyData, wds b (ds ++ [x]) = (wds b ds && wd b x)
  | [] => by simp [wds]
  | d :: ds => by
    have ih := wds_snoc b x ds
    show (wd b d && wds b (ds ++ [x])) = (wd b d && wds b ds && wd b x)
    rw [ih, Bool.and_assoc]
theorem Vd.tup {k : Nat} {ds : List PyData} (h1 : isVs ds = true) (h2 : wds 100 ds = true) (h3 : PyData.depthAll ds ≤ k) (h4 : ds.length ≤ 100) : Vd (k + 1) (.tuple ds) := by
  refine ⟨by simpa [isV] using h1, ?_, ?_⟩
  · show (decide (ds.length ≤ 100) && wds 100 ds) = true
    rw [decide_eq_true h4, h2]
    rfl
  · show PyData.depthAll ds + 1 ≤ k + 1
    omega
structure TK (H H' : Hp) : Prop where
  t : ∀ b xs, H b = some (.tup xs) → H' b = some (.tup xs)
  f : ∀ b o u, H b = some (.frz o u) → H' b = some (.frz o u)
theorem TK.of {H H' : Hp} (s : Same H H') : TK H H' := ⟨fun b _ e => s b _ e, fun b _ _ e => s b _ e⟩
theorem TK.trans {H H1 H2 : Hp} (a : TK H H1) (b : TK H1 H2) : TK H H2 := ⟨fun c _ e => b.t c _ (a.t c _ e), fun c _ _ e => b.f c _ _ (a.f c _ _ e)⟩
theorem TK.keep {H H' : Hp} {d g : Addr} {n : Nat} (D : Dr H d g n) (k : Keep d g H H') : TK H H' := by
  obtain ⟨c, gs, cs, r, t, h1, h2, _⟩ := D.ex
  exact ⟨fun b xs e => k b _ (ne_of e h1 fun z => by cases z) (ne_of e h2 fun z => by cases z) e, fun b o u e => k b _ (ne_of e h1 fun z => by cases z) (ne_of e h2 fun z => by cases z) e⟩
theorem TK.put {H : Hp} {p : Addr} {xs : List V} {o : HO} (h : H p = some (.lst xs)) : TK H (upd H p o) :=
  ⟨fun b ys e => by rw [upd_ne (ne_of e h fun z => by cases z)]; exact e, fun b o' u e => by rw [upd_ne (ne_of e h fun z => by cases z)]; exact e⟩
mutual
theorem dpv_tk {K : PySem.W.Frag} {H H' : Hp} (s : TK H H') : ∀ (d : PyData) (v : V), isV d = true → Dp K H v d → Dp K H' v d
  | .none, _, _, h => by cases h; exact .non
  | .bool b, _, _, h => by cases h; exact .bl b
  | .int i, _, _, h => by cases h; exact .int i
  | .str x, _, _, h => by cases h; exact .str x
  | .list ds, _, hv, h => by simp [isV] at hv
  | .tuple ds, _, hv, h => by
    cases h with
    | tup a b =>
      refine .tup ?_ (dpvs_tk s ds _ (by simpa [isV] using hv) b)
      rcases a with (a | ⟨o, a⟩) | a
      · exact .inl (.inl (s.t _ _ a))
      · exact .inl (.inr ⟨o, s.f _ _ _ a⟩)
      · exact .inr a
  | .dict _, _, hv, h => by simp [isV] at hv
theorem dpvs_tk {K : PySem.W.Frag} {H H' : Hp} (s : TK H H') : ∀ (ds : List PyData) (vs : List V), isVs ds = true → DpAll K H vs ds → DpAll K H' vs ds
  | [], _, _, h => by cases h; exact .nil
  | d :: ds, _, hv, h => by
    cases h with
    | cons a b => exact .cons (dpv_tk s d _ (isVs_cons hv).1 a) (dpvs_tk s ds _ (isVs_cons hv).2 b)
end
/-! ### plain values -/
def sc : V → Bool
  | .non => true
  | .bl _ => true
  | .int _ => true
  | .str x => PyData.strOk x
  | _ => false
theorem sc_ob {K : PySem.W.Frag} {v : V} (h : sc v = true) : ∃ d, (∀ H, Dp K H v d) ∧ wd 40 d = true ∧ Vd 0 d := by
  cases v with
  | non => exact ⟨.none, fun _ => .non, rfl, rfl, rfl, Nat.le_refl _⟩
  | bl b => exact ⟨.bool b, fun _ => .bl b, rfl, rfl, rfl, Nat.le_refl _⟩
  | int i => exact ⟨.int i, fun _ => .int i, rfl, rfl, rfl, Nat.le_refl _⟩
  | str x => exact ⟨.str x, fun _ => .str x, rfl, h, rfl, Nat.le_refl _⟩
  | _ => cases h
theorem sc_mem {xs : List V} (h : xs.all sc = true) {v : V} (m : v ∈ xs) : sc v = true := List.all_eq_true.mp h v m
section
variable {P : Program} {w : World} {K : PySem.W.Frag} {mg : Str → Option Value} {base : Heap}
/-! ### _law_value -/
theorem scLV : FnScope ["state", "deep", "way", "k"] ["state", "deep"] (defScope s_lv) := ⟨rfl, rfl, rfl, by decide +kernel, rfl, by decide +kernel, by decide +kernel⟩
def need : Nat → Nat
  | 0 => 2
  | k + 1 => 2 + 2 * need k
def spLV (K : PySem.W.Frag) (n : Nat) : Sp := fun vs H Q _ => ∃ (d g : Addr) (m k : Nat), vs = [.ref d, .int k] ∧ Dr H d g (m + need k) ∧ k ≤ n ∧ ∀ v x H', Keep d g H H' → Dr H' d g m → Dp K H' v x → wd 40 x = true → Vd k x → Q v H'
def spLVP (K : PySem.W.Frag) : Nat → Sp
  | 0 => fun _ _ _ _ => False
  | n + 1 => spLV K n
theorem need_two : ∀ k, 2 ≤ need k
  | 0 => Nat.le_refl _
  | k + 1 => by show 2 ≤ 2 + 2 * need k; omega
theorem Dr.off {H : Hp} {d g p : Addr} {n : Nat} (D : Dr H d g n) (h : H p = none) : p ≠ d ∧ p ≠ g := by
  obtain ⟨c, gs, cs, r, t, h1, h2, _⟩ := D.ex
  exact ⟨(ne_of_none h1 h).symm, (ne_of_none h2 h).symm⟩
/-- the draws' defs -/
structure Drs (P : Program) (w : World) (K : PySem.W.Frag) (mg : Str → Option Value) (base : Heap) : Prop where
  beg : ∃ f fd, FnOk P w K mg base CX0 1 f fd ["script"] (spBegun K) ∧ mg "_law_begun" = some (.ref f) ∧ PySem.W.keepIn K (.ref f) = true ∧ Binds K fd ["script"] []
  take : ∃ f fd, FnOk P w K mg base CX0 2 f fd ["state", "span"] spTake ∧ mg "_law_take" = some (.ref f) ∧ PySem.W.keepIn K (.ref f) = true ∧ Binds K fd ["state", "span"] []
  pick : ∃ f fd, FnOk P w K mg base CX0 3 f fd ["state", "some"] (spPick K) ∧ mg "_law_pick" = some (.ref f) ∧ PySem.W.keepIn K (.ref f) = true ∧ Binds K fd ["state", "some"] []
  range : mg "range" = none
theorem ok_lv1 {f : Addr} {fd : FuncData} {n : Nat} (F : Fun K "_law_value" "_law_value" s_lv f fd) (bF : Binds K fd ["state", "deep"] []) (gF : mg "_law_value" = some (.ref f)) (T : Blt mg) (D0 : Drs P w K mg base)
    (G : FnOk P w K mg base CX0 (n + 3) f fd ["state", "deep"] (spLVP K n)) : FnOk P w K mg base CX0 (n + 4) f fd ["state", "deep"] (spLV K n) := by
  obtain ⟨fT, dT, GT, gT, kT, bT⟩ := D0.take
  obtain ⟨fP, dP, GP, gP, kP, bP⟩ := D0.pick
  have GT : FnOk P w K mg base CX0 (n + 3) fT dT ["state", "span"] spTake := GT.mono (by omega)
  have GP : FnOk P w K mg base CX0 (n + 3) fP dP ["state", "some"] (spPick K) := GP.mono (by omega)
  refine F.ok scLV (fun vs H Q E h => ?_) (fun cdv A outer s H vs Q E hr h => ?_)
  · obtain ⟨d, g, m, k, rfl, _⟩ := h
    rfl
  · obtain ⟨d, g, m, k, rfl, D, hk, q⟩ := h
    refine ⟨_, pss_cons (ps_set (i := 2) scLV.nd rfl (.inl rfl) (pe_call GT hr (by rfl) gT kT bT .nil pass0 (pa_cons (pv 0) (pa_cons pe_int pa_nil))))
      (pss_cons (ps_if (pt_cmpR op_lt (pv 2) pe_int (nomark _)) (pss_one (ps_ret (pe_call GP hr (by rfl) gP kP bP .nil pass0 (pa_cons (pv 0) (pa_cons (pe_lst (pa_cons pe_int (pa_cons pe_int (pa_cons pe_int (pa_cons pe_int (pa_cons (pe_un un_neg pe_int) (pa_cons pe_int (pa_cons pe_int (pa_cons (pe_op op_pow pe_int pe_int) pa_nil))))))))) pa_nil))))) pss_nil)
      (pss_cons (ps_if (pt_cmpR op_lt (pv 2) pe_int (nomark _)) (pss_one (ps_ret (pe_call GP hr (by rfl) gP kP bP .nil pass0 (pa_cons (pv 0) (pa_cons (pe_lst (pa_cons pe_str (pa_cons pe_str (pa_cons pe_str (pa_cons pe_str (pa_cons pe_str (pa_cons pe_str (pa_cons pe_str (pa_cons pe_str (pa_cons pe_str (pa_cons pe_str pa_nil))))))))))) pa_nil))))) pss_nil)
      (pss_cons (ps_if (PW.pt (pw_or (pt_cmpR op_lt (pv 2) pe_int (nomark _)) (pw_or1 (pt_cmpR op_eq (pv 1) pe_int (nomark _))))) (pss_one (ps_ret (pe_call GP hr (by rfl) gP kP bP .nil pass0 (pa_cons (pv 0) (pa_cons (pe_lst (pa_cons pe_non (pa_cons pe_bl (pa_cons pe_bl (pa_cons pe_int (pa_cons pe_int (pa_cons pe_str pa_nil))))))) pa_nil))))) pss_nil)
      (pss_one (ps_ret (pe_tupleOf (by rfl) T.tup (pe_lc rfl scLV.nd (pi_range1 (by rfl) D0.range (pa_cons (pe_call GT hr (by rfl) gT kT bT .nil pass0 (pa_cons (pv 0) (pa_cons pe_int pa_nil))) pa_nil)) (blkOk_by (own := [("k", 3)]) (N := ["state", "deep", "way", "k"]) (sc := defScope s_lv) (by decide +kernel))
          (fun _ _ _ _ _ => pg_name (i := 3) scLV.nd rfl (Or.inl rfl)) (fun _ _ _ _ _ => pts_nil)
          (fun _ _ _ _ _ => pe_call G hr (by rfl) gF F.kp bF .nil pass0 (pa_cons (pv 0) (pa_cons (pe_op op_sub (pv 1) pe_int) pa_nil)))))))))), ?_⟩
    have n2 := need_two k
    have pk : ∀ (xs : List V) (H2 : Hp), xs.all sc = true → 0 < xs.length → xs.length < 1000 → Keep d g H H2 → Dr H2 d g (m + 1) → ∀ p, H2 p = none → spPick K [.ref d, .ref p] (upd H2 p (.lst xs)) Q E0 := fun xs H2 h1 h2 h3 k2 D2 p hp => by
      obtain ⟨o1, o2⟩ := D2.off hp
      refine ⟨d, g, p, m, xs, rfl, D2.mono (same_upd hp), o1, o2, upd_same, h2, h3, fun x H3 hx k3 D3 => ?_⟩
      obtain ⟨dt, hd, hw, hv⟩ := sc_ob (K := K) (sc_mem h1 hx)
      exact q x dt H3 ((k2.trans (Keep.of (same_upd hp))).trans k3) D3 (hd H3) hw (hv.up (Nat.zero_le _))
    refine ⟨.ref d, rfl, d, g, m + need k - 1, 8, rfl, D.less (by omega), by decide, by decide, fun z H1 z0 z1 k1 D1 => ?_⟩
    have D1' : Dr H1 d g (m + 1) := D1.less (by omega)
    refine ⟨.int z, rfl, _, _, rfl, rfl, _, rfl, ?_⟩
    by_cases c1 : z < 2
    · rw [decide_eq_true c1]
      refine iteT ?_
      exact ⟨.ref d, rfl, 1, rfl, _, _, rfl, rfl, ⟨by decide, by decide, by decide⟩, by decide, fun p hp => pk _ H1 (by decide +kernel) (by decide) (by decide) k1 D1' p hp⟩
    rw [decide_eq_false c1]
    refine iteF ?_
    refine ⟨.int z, rfl, _, _, rfl, rfl, _, rfl, ?_⟩
    by_cases c2 : z < 4
    · rw [decide_eq_true c2]
      refine iteT ?_
      exact ⟨.ref d, rfl, by decide, fun p hp => pk _ H1 (by decide +kernel) (by decide) (by decide) k1 D1' p hp⟩
    rw [decide_eq_false c2]
    refine iteF ?_
    refine ⟨.int z, rfl, _, _, rfl, rfl, _, rfl, ?_⟩
    by_cases c3 : z < 6
    · rw [decide_eq_true c3]
      exact ⟨.ref d, rfl, by decide, fun p hp => pk _ H1 (by decide +kernel) (by decide) (by decide) k1 D1' p hp⟩
    rw [decide_eq_false c3]
    refine ⟨.int k, rfl, rfl, _, rfl, ?_⟩
    cases k with
    | zero => exact ⟨.ref d, rfl, by decide, fun p hp => pk _ H1 (by decide +kernel) (by decide) (by decide) k1 D1' p hp⟩
    | succ k =>
      have ek : decide (V.int ((k + 1 : Nat) : Int) = V.int 0) = false := decide_eq_false fun z => by have := V.int.inj z; omega
      rw [ek]
      obtain ⟨n', rfl⟩ : ∃ n', n = n' + 1 := ⟨n - 1, by omega⟩
      have nk : need (k + 1) = 2 + 2 * need k := rfl
      refine ⟨.ref d, rfl, d, g, m + 2 * need k, 3, rfl, D1.less (by omega), by decide, by decide, fun z2 H2 z20 z21 k2 D2 => ⟨z2, rfl, by omega, by omega, fun gl hgl => ?_⟩⟩
      have kH : Keep d g H H2 := k1.trans k2
      obtain ⟨g1, g2⟩ := D2.off hgl
      obtain ⟨c, gs, cl, hc⟩ := D2.cell
      have gc : gl ≠ c := (ne_of_none hc hgl).symm
      refine lc_range (lo := 0) (n := z2.toNat) (fun i H' => Keep d g H H' ∧ Cell H' d c ∧ Dr H' d g (m + (2 - i) * need k) ∧ ∃ ks ds, H' gl = some (.lst ks) ∧ DpAll K H' ks ds ∧ isVs ds = true ∧ wds 40 ds = true ∧ wds 100 ds = true ∧ PyData.depthAll ds ≤ k ∧ ds.length = i) ⟨kH.trans (Keep.of (same_upd hgl)), cl.put g1, D2.mono (same_upd hgl), [], [], upd_same, .nil, rfl, rfl, rfl, Nat.zero_le _, rfl⟩ ?_ ?_
      · rintro i H' hi ⟨kp, cl, D', ks, ds, hG, hd, hv, hw4, hw, hp, hl⟩
        have hi2 : i < 2 := by omega
        have en : (2 - i) * need k = (2 - (i + 1)) * need k + need k := by
          rw [← Nat.succ_mul]
          congr 1
          omega
        have hg0 : H gl = none := by
          cases e : H gl with
          | none => rfl
          | some o =>
            have := kH.k gl o g1 g2 e
            rw [this] at hgl
            cases hgl
        refine ⟨rfl, .ref d, rfl, .int ((k + 1 : Nat) : Int), rfl, _, _, rfl, rfl, d, g, m + (2 - (i + 1)) * need k, k, ?_, D'.less (by omega), by omega, fun v x H3 k3 D3 hx wx vx => ⟨ks, k3 _ _ g1 g2 hG, ?_, ?_, (k3.cell cl).put g1, D3.put (k3.cell cl) g1 g2 gc, ks ++ [v], ds ++ [x], upd_same, ?_, ?_, ?_, ?_, ?_, ?_⟩⟩
        · show [V.ref d, V.int (((k + 1 : Nat) : Int) - 1)] = _
          have : ((k + 1 : Nat) : Int) - 1 = (k : Int) := by omega
          rw [this]
        · have := dpAll_len hd
          exact small1000 (by omega)
        · have kk := kp.trans k3
          exact ⟨fun b o h1 h2 e => by
            rw [upd_ne (ne_of_none e hg0)]
            exact kk b o h1 h2 e, fun g' c' r t e => by
            rw [upd_ne g1.symm]
            exact kk.c g' c' r t e⟩
        · exact dpAll_snoc (dpv_tk (TK.put (k3 _ _ g1 g2 hG)) x v vx.v hx) (dpvs_tk ((TK.keep D' k3).trans (TK.put (k3 _ _ g1 g2 hG))) ds ks hv hd)
        · rw [isVs_snoc, hv, vx.v]
          rfl
        · rw [wds_snoc, hw4, wx]
          rfl
        · rw [wds_snoc, hw, vx.w]
          rfl
        · rw [depthAll_snoc]
          have := vx.d
          omega
        · rw [List.length_append, hl]
          rfl
      · rintro H' ⟨kp, cl, D', ks, ds, hG, hd, hv, hw4, hw, hp, hl⟩
        refine .inl ⟨gl, ks, rfl, .inl (.inl hG), fun t ht => q (.ref t) (.tuple ds) _ (kp.trans (Keep.of (same_upd ht))) ((D'.less (by omega)).mono (same_upd ht)) (.tup (.inl (.inl upd_same)) (dpvs_tk (TK.of (same_upd ht)) ds ks hv hd)) (by show (decide (ds.length ≤ 40) && wds 40 ds) = true; rw [hw4, decide_eq_true (by omega)]; rfl) (Vd.tup hv hw hp (by omega))⟩
theorem ok_lv {f : Addr} {fd : FuncData} (F : Fun K "_law_value" "_law_value" s_lv f fd) (bF : Binds K fd ["state", "deep"] []) (gF : mg "_law_value" = some (.ref f)) (T : Blt mg) (D0 : Drs P w K mg base) : ∀ n, FnOk P w K mg base CX0 (n + 4) f fd ["state", "deep"] (spLV K n)
  | 0 => ok_lv1 F bF gF T D0 ⟨fun _ _ _ _ h => h.elim, fun _ _ _ _ _ _ _ _ _ _ _ _ _ h => h.elim⟩
  | n + 1 => ok_lv1 F bF gF T D0 (ok_lv F bF gF T D0 n)
/-! ### _law_kind -/
theorem scLK : FnScope ["matter"] ["matter"] (defScope s_lk) := ⟨rfl, rfl, rfl, by decide +kernel, rfl, by decide +kernel, by decide +kernel⟩
def spLK (K : PySem.W.Frag) : Sp := fun vs H Q _ => ∃ v d, vs = [v] ∧ Dp K H v d ∧ isV d = true ∧ Q (.str (kindS d)) H
theorem ok_lk {f : Addr} {fd : FuncData} (F : Fun K "_law_kind" "_law_kind" s_lk f fd) (T : Blt mg) : FnOk P w K mg base CX0 1 f fd ["matter"] (spLK K) := by
  refine F.ok scLK (fun vs H Q E h => ?_) (fun cdv A outer s H vs Q E hr h => ?_)
  · obtain ⟨v, d, rfl, _⟩ := h
    rfl
  · obtain ⟨v, d, rfl, hd, hv, q⟩ := h
    refine ⟨_, pss_cons (ps_if (pt_cmpR op_isN (pv 0) pe_non (nomark _)) (pss_one (ps_ret pe_str)) pss_nil)
      (pss_cons (ps_if (pt_val (pe_callB call_isi (by rfl) T.isi boot_isinstance (pa_cons (pv 0) (pa_cons (pe_bltn (v := .ty "bool") (by rfl) T.bool boot_bool (by rfl)) pa_nil)))) (pss_one (ps_ret pe_str)) pss_nil)
      (pss_cons (ps_if (pt_val (pe_callB call_isi (by rfl) T.isi boot_isinstance (pa_cons (pv 0) (pa_cons (pe_bltn (v := .ty "int") (by rfl) T.int boot_int (by rfl)) pa_nil)))) (pss_one (ps_ret pe_str)) pss_nil)
      (pss_one (ps_ret (pe_ifExp (pt_val (pe_callB call_isi (by rfl) T.isi boot_isinstance (pa_cons (pv 0) (pa_cons (pe_bltn (v := .ty "str") (by rfl) T.str boot_str (by rfl)) pa_nil)))) pe_str pe_str))))), ?_⟩
    have ty := dp_ty hd
    refine ⟨v, rfl, rfl, _, rfl, ?_⟩
    cases d with
    | none =>
      cases hd
      exact q
    | bool b =>
      cases hd
      refine iteF ?_
      exact ⟨.bl b, rfl, .bl b, .ty "bool", .type "bool", .type "bool", true, rfl, .ty "bool", ty, kit_ty (by decide +kernel), true, rfl, q⟩
    | int i =>
      cases hd
      refine iteF ?_
      refine ⟨.int i, rfl, .int i, .ty "bool", .type "int", .type "bool", false, rfl, .ty "bool", ty, kit_ty (by decide +kernel), false, rfl, ?_⟩
      exact ⟨.int i, rfl, .int i, .ty "int", .type "int", .type "int", true, rfl, .ty "int", ty, kit_ty (by decide +kernel), true, rfl, q⟩
    | str x =>
      cases hd
      refine iteF ?_
      refine ⟨.str x, rfl, .str x, .ty "bool", .type "str", .type "bool", false, rfl, .ty "bool", ty, kit_ty (by decide +kernel), false, rfl, ?_⟩
      refine ⟨.str x, rfl, .str x, .ty "int", .type "str", .type "int", false, rfl, .ty "int", ty, kit_ty (by decide +kernel), false, rfl, ?_⟩
      exact ⟨.str x, rfl, .str x, .ty "str", .type "str", .type "str", true, rfl, .ty "str", ty, kit_ty (by decide +kernel), true, rfl, q⟩
    | tuple ds =>
      cases hd with
      | @tup a xs _ hs hd =>
        refine iteF ?_
        refine ⟨.ref a, rfl, .ref a, .ty "bool", .type "tuple", .type "bool", false, rfl, .ty "bool", ty, kit_ty (by decide +kernel), false, rfl, ?_⟩
        refine ⟨.ref a, rfl, .ref a, .ty "int", .type "tuple", .type "int", false, rfl, .ty "int", ty, kit_ty (by decide +kernel), false, rfl, ?_⟩
        exact ⟨.ref a, rfl, .ref a, .ty "str", .type "tuple", .type "str", false, rfl, .ty "str", ty, kit_ty (by decide +kernel), false, rfl, q⟩
    | list _ => simp [isV] at hv
    | dict _ => simp [isV] at hv
/-! ### _law_rank -/
theorem scLR : FnScope ["matter", "kind", "item"] ["matter"] (defScope s_lr) := ⟨rfl, rfl, rfl, by decide +kernel, rfl, by decide +kernel, by decide +kernel⟩
def spLR (K : PySem.W.Frag) (n : Nat) : Sp := fun vs H Q _ => ∃ v d, vs = [v] ∧ Dp K H v d ∧ Vd n d ∧ ∀ p H', Same H H' → Own K H H' (.ref p) (rnkD d) → Q (.ref p) H'
def spLRP (K : PySem.W.Frag) : Nat → Sp
  | 0 => fun _ _ _ _ => False
  | n + 1 => spLR K n
abbrev kindsL : List V := [.str "none", .str "bool", .str "int", .str "text", .str "tuple"]
theorem kl_at {d : PyData} (h : isV d = true) : ∃ (j : Nat) (z : V), rkV d = (j : Int) ∧ kindsL[j]? = some z ∧ L2.flatV (.str (kindS d)) = true ∧ L2.eqV z (.str (kindS d)) = true ∧ ∀ (m : Nat) (z' : V), m < j → kindsL[m]? = some z' → L2.eqV z' (.str (kindS d)) = false := by
  cases d with
  | none => exact ⟨0, _, rfl, rfl, by decide +kernel, by decide +kernel, fun m z' hm => absurd hm (Nat.not_lt_zero _)⟩
  | bool b => exact ⟨1, _, rfl, rfl, by show L2.flatV (.str "bool") = true; decide +kernel, by show L2.eqV (.str "bool") (.str "bool") = true; decide +kernel, fun m z' hm hz => by
      match m, hm with
      | 0, _ => cases hz; show L2.eqV (.str "none") (.str "bool") = false; decide +kernel⟩
  | int b => exact ⟨2, _, rfl, rfl, by show L2.flatV (.str "int") = true; decide +kernel, by show L2.eqV (.str "int") (.str "int") = true; decide +kernel, fun m z' hm hz => by
      match m, hm with
      | 0, _ => cases hz; show L2.eqV (.str "none") (.str "int") = false; decide +kernel
      | 1, _ => cases hz; show L2.eqV (.str "bool") (.str "int") = false; decide +kernel⟩
  | str b => exact ⟨3, _, rfl, rfl, by show L2.flatV (.str "text") = true; decide +kernel, by show L2.eqV (.str "text") (.str "text") = true; decide +kernel, fun m z' hm hz => by
      match m, hm with
      | 0, _ => cases hz; show L2.eqV (.str "none") (.str "text") = false; decide +kernel
      | 1, _ => cases hz; show L2.eqV (.str "bool") (.str "text") = false; decide +kernel
      | 2, _ => cases hz; show L2.eqV (.str "int") (.str "text") = false; decide +kernel⟩
  | tuple b => exact ⟨4, _, rfl, rfl, by show L2.flatV (.str "tuple") = true; decide +kernel, by show L2.eqV (.str "tuple") (.str "tuple") = true; decide +kernel, fun m z' hm hz => by
      match m, hm with
      | 0, _ => cases hz; show L2.eqV (.str "none") (.str "tuple") = false; decide +kernel
      | 1, _ => cases hz; show L2.eqV (.str "bool") (.str "tuple") = false; decide +kernel
      | 2, _ => cases hz; show L2.eqV (.str "int") (.str "tuple") = false; decide +kernel
      | 3, _ => cases hz; show L2.eqV (.str "text") (.str "tuple") = false; decide +kernel⟩
  | list _ => simp [isV] at h
  | dict _ => simp [isV] at h
theorem ok_lr1 {f fK : Addr} {fd fdK : FuncData} {n : Nat} (F : Fun K "_law_rank" "_law_rank" s_lr f fd) (bF : Binds K fd ["matter"] []) (gF : mg "_law_rank" = some (.ref f)) (T : Blt mg)
    (FK : Fun K "_law_kind" "_law_kind" s_lk fK fdK) (bK : Binds K fdK ["matter"] []) (gK : mg "_law_kind" = some (.ref fK))
    (G : FnOk P w K mg base CX0 (n + 1) f fd ["matter"] (spLRP K n)) : FnOk P w K mg base CX0 (n + 2) f fd ["matter"] (spLR K n) := by
  have GK : FnOk P w K mg base CX0 (n + 1) fK fdK ["matter"] (spLK K) := (ok_lk FK T).mono (by omega)
  refine F.ok scLR (fun vs H Q E h => ?_) (fun cdv A outer s H vs Q E hr h => ?_)
  · obtain ⟨v, d, rfl, _⟩ := h
    rfl
  · obtain ⟨v, d, rfl, hd, hv, q⟩ := h
    refine ⟨_, pss_cons (ps_set (i := 1) scLR.nd rfl (.inl rfl) (pe_bm PySem.F.plainAttrs_list PySem.F.slot_list_index PySem.F.type_list_index mt_index (pe_lst (pa_cons pe_str (pa_cons pe_str (pa_cons pe_str (pa_cons pe_str (pa_cons pe_str pa_nil)))))) (pa_cons (pe_call GK hr (by rfl) gK FK.kp bK .nil pass0 (pa_cons (pv 0) pa_nil)) pa_nil)))
      (pss_cons (ps_if (pt_cmpR op_eq (pv 1) pe_int (nomark _)) (pss_one (ps_ret (pe_lst (pa_cons pe_int (pa_cons
          (pe_lc rfl scLR.nd (pi_tup (pv 0)) (blkOk_by (own := [("item", 2)]) (N := ["matter", "kind", "item"]) (sc := defScope s_lr) (by decide +kernel))
            (fun _ _ _ _ _ => pg_name (i := 2) scLR.nd rfl (Or.inl rfl)) (fun _ _ _ _ _ => pts_nil)
            (fun _ _ _ _ _ => pe_call G hr (by rfl) gF F.kp bF .nil pass0 (pa_cons (pv 2) pa_nil))) pa_nil))))) pss_nil)
      (pss_one (ps_ret (pe_lst (pa_cons (pv 1) (pa_cons (pe_ifExp (pt_cmpR op_isN (pv 0) pe_non (nomark _)) pe_int (pv 0)) pa_nil)))))), ?_⟩
    refine ⟨by decide, fun p0 np => ?_⟩
    have s1 : Same H (upd H p0 (.lst kindsL)) := same_upd np
    have e1 : (upd H p0 (.lst kindsL)) p0 = some (.lst kindsL) := upd_same
    refine ⟨.inl ⟨rfl, kindsL, .of e1⟩, ?_⟩
    obtain ⟨j, z, ej, hz, hf, hzj, hno⟩ := kl_at hv.v
    refine ⟨v, rfl, v, d, rfl, dp_mono s1 d v hd, hv.v, p0, kindsL, .str (kindS d), j, z, rfl, rfl, .inl (.inl e1), hf, by decide +kernel, hz, hzj, hno, ?_⟩
    refine ⟨.int (j : Int), rfl, rfl, _, rfl, ?_⟩
    rw [← ej]
    have hd1 := dp_mono s1 d v hd
    have leaf : ∀ (x : V) (dx : PyData), rnkD d = .list [.int (rkV d), dx] → (∀ H3, Dp K H3 x dx) → ∀ p, (upd H p0 (.lst kindsL)) p = none → Q (.ref p) (upd (upd H p0 (.lst kindsL)) p (.lst [.int (rkV d), x])) := fun x dx ek hx p hp => by
      have hp0 : H p = none := by
        cases e : H p with
        | none => rfl
        | some o => rw [s1 p o e] at hp; cases hp
      refine q p _ (s1.trans (same_upd hp)) fun H3 k3 => ?_
      rw [ek]
      exact .lst (.inl (.inl (k3 p _ hp0 upd_same))) (.cons (.int _) (.cons (hx H3) .nil))
    cases d with
    | none =>
      cases hd
      exact ⟨.int 0, rfl, .non, rfl, rfl, _, rfl, by decide, leaf (.int 0) (.int 0) rfl fun _ => .int 0⟩
    | bool b =>
      cases hd
      exact ⟨.int 1, rfl, .bl b, rfl, rfl, _, rfl, .bl b, rfl, (by show 2 ≤ sizeLine; decide), leaf (.bl b) (.bool b) rfl fun _ => .bl b⟩
    | int i =>
      cases hd
      exact ⟨.int 2, rfl, .int i, rfl, rfl, _, rfl, .int i, rfl, (by show 2 ≤ sizeLine; decide), leaf (.int i) (.int i) rfl fun _ => .int i⟩
    | str x =>
      cases hd
      exact ⟨.int 3, rfl, .str x, rfl, rfl, _, rfl, .str x, rfl, (by show 2 ≤ sizeLine; decide), leaf (.str x) (.str x) rfl fun _ => .str x⟩
    | tuple ds =>
      obtain ⟨m, rfl⟩ := hv.pos
      cases hd with
      | @tup a xs _ hs hd =>
        have hs1 := same_tup s1 hs
        have hdd : DpAll K (upd H p0 (.lst kindsL)) xs ds := dpAll_mono s1 ds xs hd
        refine ⟨.ref a, rfl, a, rfl, ⟨_, hs1⟩, fun g hg => ?_⟩
        have hg0 : H g = none := by
          cases e : H g with
          | none => rfl
          | some o => rw [s1 g o e] at hg; cases hg
        refine lc_tup (K := K) (a := a) (xs := xs) (fun i H' => Same (upd H p0 (.lst kindsL)) H' ∧ ∃ ks, H' g = some (.lst ks) ∧ ∀ H4, (∀ b o, b ≠ g → H b = none → H' b = some o → H4 b = some o) → DpAll K H4 ks (rnkDs (ds.take i))) ⟨same_upd hg, [], upd_same, fun H4 _ => .nil⟩ (fun i H' _ p => same_tup p.1 hs1) ?_ ?_
        · rintro i x H' hx ⟨sm, ks, hG, hk⟩
          obtain ⟨d, hi, hx'⟩ := dpAll_at hdd hx
          have hil : i < ds.length := (List.getElem?_eq_some_iff.mp hi).1
          have hkl : ks.length = (ds.take i).length := by
            have := dpAll_len (hk H' fun _ _ _ _ e => e)
            rw [this, rnkDs_len]
          refine ⟨rfl, x, rfl, x, d, rfl, dp_mono sm d x hx', hv.at hi, fun p H2 s2 ow => ⟨ks, s2 _ _ hG, ?_, ?_, ks ++ [.ref p], upd_same, fun H4 k4 => ?_⟩⟩
          · rw [hkl, List.length_take]
            have := hv.len
            exact small1000 (by omega)
          · exact fun b o e => by
              rw [upd_ne (ne_of_none e hg)]
              exact s2 b o (sm b o e)
          · rw [take_snoc hi, rnkDs_map, List.map_append, ← rnkDs_map]
            refine dpAll_snoc (ow H4 fun b o e1 e2 => ?_) (hk H4 fun b o nb e1 e2 => ?_)
            · have nb : b ≠ g := fun z => by rw [z, hG] at e1; cases e1
              refine k4 b o nb ?_ (by rw [upd_ne nb]; exact e2)
              cases e : H b with
              | none => rfl
              | some y => rw [sm b y (s1 b y e)] at e1; cases e1
            · exact k4 b o nb e1 (by rw [upd_ne nb]; exact s2 b o e2)
        · rintro H' ⟨sm, ks, hG, hk⟩
          refine ⟨(by show 2 ≤ sizeLine; decide), fun p hp => ?_⟩
          have h0 : ∀ b, H' b = none → H b = none := fun b e => by
            cases z : H b with
            | none => rfl
            | some y => rw [sm b y (s1 b y z)] at e; cases e
          have hgp : g ≠ p := ne_of_none hG hp
          refine q p _ (s1.trans (sm.trans (same_upd hp))) fun H3 k3 => ?_
          refine .lst (.inl (.inl (k3 p _ (h0 p hp) upd_same))) (.cons (.int _) (.cons (.lst (.inl (.inl (k3 g _ hg0 (by rw [upd_ne hgp]; exact hG)))) ?_) .nil))
          rw [List.take_of_length_le (by rw [dpAll_len hdd]; exact Nat.le_refl _)] at hk
          refine hk H3 fun b o nb e1 e2 => k3 b o e1 ?_
          rw [upd_ne (ne_of_none e2 hp)]
          exact e2
    | list _ => have := hv.v; simp [isV] at this
    | dict _ => have := hv.v; simp [isV] at this
theorem ok_lr {f fK : Addr} {fd fdK : FuncData} (F : Fun K "_law_rank" "_law_rank" s_lr f fd) (bF : Binds K fd ["matter"] []) (gF : mg "_law_rank" = some (.ref f)) (T : Blt mg)
    (FK : Fun K "_law_kind" "_law_kind" s_lk fK fdK) (bK : Binds K fdK ["matter"] []) (gK : mg "_law_kind" = some (.ref fK)) : ∀ n, FnOk P w K mg base CX0 (n + 2) f fd ["matter"] (spLR K n)
  | 0 => ok_lr1 F bF gF T FK bK gK ⟨fun _ _ _ _ h => h.elim, fun _ _ _ _ _ _ _ _ _ _ _ _ _ h => h.elim⟩
  | n + 1 => ok_lr1 F bF gF T FK bK gK (ok_lr F bF gF T FK bK gK n)
end
end Ck
namespace Ck
open PySem PySem.Spec PyProof.Rows L2
/-! ### tuples of parts -/
theorem sqt_tk {K : PySem.W.Frag} {H H' : Hp} (s : TK H H') {a : Addr} {xs : List V} (hs : SqT K H a xs) : SqT K H' a xs := by
  rcases hs with (h | ⟨o, h⟩) | h
  · exact .inl (.inl (s.t _ _ h))
  · exact .inl (.inr ⟨o, s.f _ _ _ h⟩)
  · exact .inr h
theorem cat_read {K : PySem.W.Frag} {H : Hp} {a b : Addr} {xs ys : List V} {Q : VK} (h1 : SqT K H a xs) (h2 : SqT K H b ys) (hl : xs.length + ys.length ≤ sizeLine) (q : ∀ p H', Same H H' → SqT K H' p (xs ++ ys) → Q (.ref p) H') : rCatA K (.ref a) (.ref b) H Q := by
  refine ⟨a, b, xs, ys, rfl, rfl, h1, h2, hl, fun e => ?_, fun _ e => ?_, fun _ _ p hp => ?_⟩
  · subst e
    exact q b H (Same.refl H) h2
  · subst e
    exact q a H (Same.refl H) (by rw [List.append_nil]; exact h1)
  · exact q p _ (same_upd hp) (.inl (.inl upd_same))
theorem sl_read {K : PySem.W.Frag} {H : Hp} {a : Addr} {xs : List V} {lo hi : Option Int} {Q : VK} (h1 : SqT K H a xs) (q : ∀ p H', Same H H' → SqT K H' p (cutV xs lo hi) → Q (.ref p) H') : rSlA K (.ref a) lo hi H Q := by
  refine ⟨a, xs, rfl, h1, fun e => ?_, fun _ p hp => q p _ (same_upd hp) (.inl (.inl upd_same))⟩
  refine q a H (Same.refl H) ?_
  have : cutV xs lo hi = xs := by
    unfold cutV
    rw [e.1, e.2, List.drop_zero, Nat.sub_zero, List.take_length]
  rw [this]
  exact h1
theorem dpAll_drop {K : PySem.W.Frag} {H : Hp} : ∀ {vs : List V} {ds : List PyData} (n : Nat), DpAll K H vs ds → DpAll K H (vs.drop n) (ds.drop n)
  | _, _, 0, h => h
  | _, _, n + 1, .nil => .nil
  | _, _, n + 1, .cons _ b => dpAll_drop n b
theorem dpAll_take {K : PySem.W.Frag} {H : Hp} : ∀ {vs : List V} {ds : List PyData} (n : Nat), DpAll K H vs ds → DpAll K H (vs.take n) (ds.take n)
  | _, _, 0, _ => .nil
  | _, _, n + 1, .nil => .nil
  | _, _, n + 1, .cons a b => .cons a (dpAll_take n b)
theorem dpAll_app {K : PySem.W.Frag} {H : Hp} {us : List V} {es : List PyData} (h : DpAll K H us es) : ∀ {vs : List V} {ds : List PyData}, DpAll K H vs ds → DpAll K H (vs ++ us) (ds ++ es)
  | _, _, .nil => h
  | _, _, .cons a b => .cons a (dpAll_app h b)
/-- the same cut of the data -/
def cutD (n : Nat) (ds : List PyData) (lo hi : Option Int) : List PyData := (ds.drop (HT.sIx n 0 lo)).take (HT.sIx n n hi - HT.sIx n 0 lo)
theorem dpAll_cut {K : PySem.W.Frag} {H : Hp} {vs : List V} {ds : List PyData} (lo hi : Option Int) (h : DpAll K H vs ds) : DpAll K H (cutV vs lo hi) (cutD vs.length ds lo hi) := dpAll_take _ (dpAll_drop _ h)
theorem cutD_mem {n : Nat} {ds : List PyData} {lo hi : Option Int} {y : PyData} (h : y ∈ cutD n ds lo hi) : y ∈ ds := List.mem_of_mem_drop (List.mem_of_mem_take h)
theorem cutD_len {n : Nat} {ds : List PyData} {lo hi : Option Int} : (cutD n ds lo hi).length ≤ ds.length := by
  unfold cutD
  rw [List.length_take, List.length_drop]
  omega
theorem vds_mem {ds : List PyData} {b : Nat} (h1 : isVs ds = true) (h2 : wds b ds = true) {y : PyData} (h : y ∈ ds) : isV y = true ∧ wd b y = true ∧ y.depth ≤ PyData.depthAll ds := by
  induction ds with
  | nil => cases h
  | cons x xs ih =>
    have h2 : (wd b x && wds b xs) = true := h2
    rw [Bool.and_eq_true] at h2
    have e : PyData.depthAll (x :: xs) = max x.depth (PyData.depthAll xs) := rfl
    rcases List.mem_cons.mp h with rfl | h
    · exact ⟨(isVs_cons h1).1, h2.1, by rw [e]; exact Nat.le_max_left _ _⟩
    · obtain ⟨a, b, c⟩ := ih (isVs_cons h1).2 h2.2 h
      exact ⟨a, b, by rw [e]; exact Nat.le_trans c (Nat.le_max_right _ _)⟩
theorem vds_of {ds : List PyData} {b k : Nat} (h : ∀ y ∈ ds, isV y = true ∧ wd b y = true ∧ y.depth ≤ k) : isVs ds = true ∧ wds b ds = true ∧ PyData.depthAll ds ≤ k := by
  induction ds with
  | nil => exact ⟨rfl, rfl, Nat.zero_le _⟩
  | cons x xs ih =>
    obtain ⟨a1, a2, a3⟩ := ih fun y hy => h y (List.mem_cons_of_mem _ hy)
    obtain ⟨b1, b2, b3⟩ := h x (List.mem_cons_self ..)
    have e : PyData.depthAll (x :: xs) = max x.depth (PyData.depthAll xs) := rfl
    refine ⟨by show (isV x && isVs xs) = true; rw [a1, b1]; rfl, by show (wd b x && wds b xs) = true; rw [a2, b2]; rfl, by omega⟩
mutual
theorem wd_mono {a b : Nat} (h : a ≤ b) : ∀ d : PyData, wd a d = true → wd b d = true
  | .tuple xs, e => by
    have e : (decide (xs.length ≤ a) && wds a xs) = true := e
    rw [Bool.and_eq_true, decide_eq_true_eq] at e
    show (decide (xs.length ≤ b) && wds b xs) = true
    rw [decide_eq_true (Nat.le_trans e.1 h), wds_mono h xs e.2]
    rfl
  | .none, _ => rfl
  | .bool _, _ => rfl
  | .int _, _ => rfl
  | .str _, _ => rfl
  | .list _, _ => rfl
  | .dict _, _ => rfl
theorem wds_mono {a b : Nat} (h : a ≤ b) : ∀ ds : List PyData, wds a ds = true → wds b ds = true
  | [], _ => rfl
  | d :: ds, e => by
    have e : (wd a d && wds a ds) = true := e
    rw [Bool.and_eq_true] at e
    show (wd b d && wds b ds) = true
    rw [wd_mono h d e.1, wds_mono h ds e.2]
    rfl
end
mutual
theorem layV : ∀ d : PyData, isV d = true → d.canLay0 = true
  | .none, _ => rfl
  | .bool _, _ => rfl
  | .int _, _ => rfl
  | .str x, h => h
  | .tuple xs, h => by
    have := layVs xs (by simpa [isV] using h)
    simpa [PyData.canLay0] using this
  | .list _, h => by simp [isV] at h
  | .dict _, h => by simp [isV] at h
theorem layVs : ∀ ds : List PyData, isVs ds = true → PyData.canLayAll0 ds = true
  | [], _ => rfl
  | d :: ds, h => by
    show (d.canLay0 && PyData.canLayAll0 ds) = true
    rw [layV d (isVs_cons h).1, layVs ds (isVs_cons h).2]
    rfl
end
theorem shapedV {d : PyData} (h : isV d = true) (h2 : d.depth ≤ 64) : SeqAt.shaped d = true := by
  unfold SeqAt.shaped
  rw [Bool.and_eq_true_iff]
  exact ⟨layV d h, decide_eq_true h2⟩
theorem s1000 : 1000 ≤ sizeLine := by decide
theorem kfT {x : PyData} (ht : ¬ tyS x = "tuple") : kitB (tyS x) "tuple" = some false := by
  cases x with
  | none => show kitB "NoneType" "tuple" = some false; decide +kernel
  | bool _ => show kitB "bool" "tuple" = some false; decide +kernel
  | int _ => show kitB "int" "tuple" = some false; decide +kernel
  | str _ => show kitB "str" "tuple" = some false; decide +kernel
  | tuple _ => exact absurd rfl ht
  | list _ => show kitB "list" "tuple" = some false; decide +kernel
  | dict _ => show kitB "dict" "tuple" = some false; decide +kernel
section
variable {P : Program} {w : World} {K : PySem.W.Frag} {mg : Str → Option Value} {base : Heap}
/-! ### _law_near -/
theorem scLN : FnScope ["state", "matter", "at", "way"] ["state", "matter"] (defScope s_ln) := ⟨rfl, rfl, rfl, by decide +kernel, rfl, by decide +kernel, by decide +kernel⟩
/-- n: how deep; the state stands for m more draws behind -/
def spLN (K : PySem.W.Frag) (n : Nat) : Sp := fun vs H Q _ => ∃ (d g : Addr) (m : Nat) (v : V) (x : PyData), vs = [.ref d, v] ∧ Dr H d g (m + 2 * n + 9) ∧ Dp K H v x ∧ isV x = true ∧ wd 40 x = true ∧ x.depth ≤ n ∧ ∀ v' x' H', Keep d g H H' → Dr H' d g m → Dp K H' v' x' → Vd (n + 1) x' → Q v' H'
def spLNP (K : PySem.W.Frag) : Nat → Sp
  | 0 => fun _ _ _ _ => False
  | n + 1 => spLN K n
theorem ok_ln1 {f fK fV : Addr} {fd fdK fdV : FuncData} {n : Nat} (hn : n ≤ 30) (F : Fun K "_law_near" "_law_near" s_ln f fd) (bF : Binds K fd ["state", "matter"] []) (gF : mg "_law_near" = some (.ref f)) (T : Blt mg) (D0 : Drs P w K mg base) (ml : mg "len" = none)
    (FK : Fun K "_law_kind" "_law_kind" s_lk fK fdK) (bK : Binds K fdK ["matter"] []) (gK : mg "_law_kind" = some (.ref fK))
    (FV : Fun K "_law_value" "_law_value" s_lv fV fdV) (bV : Binds K fdV ["state", "deep"] []) (gV : mg "_law_value" = some (.ref fV))
    (G : FnOk P w K mg base CX0 (n + 5) f fd ["state", "matter"] (spLNP K n)) : FnOk P w K mg base CX0 (n + 6) f fd ["state", "matter"] (spLN K n) := by
  obtain ⟨fT, dT, GT, gT, kT, bT⟩ := D0.take
  have GT : FnOk P w K mg base CX0 (n + 5) fT dT ["state", "span"] spTake := GT.mono (by omega)
  have GK : FnOk P w K mg base CX0 (n + 5) fK fdK ["matter"] (spLK K) := (ok_lk FK T).mono (by omega)
  have GV : FnOk P w K mg base CX0 (n + 5) fV fdV ["state", "deep"] (spLV K 1) := (ok_lv FV bV gV T D0 1).mono (by omega)
  refine F.ok scLN (fun vs H Q E h => ?_) (fun cdv A outer s H vs Q E hr h => ?_)
  · obtain ⟨d, g, m, v, x, rfl, _⟩ := h
    rfl
  · obtain ⟨d, g, m, v, x, rfl, D, hx, vx, wx, dx, q⟩ := h
    refine ⟨_, Evl.pss_cut (ps_if (PW.pt (pw_and (pt_val (pe_callB call_isi (by rfl) T.isi boot_isinstance (pa_cons (pv 1) (pa_cons (pe_bltn (v := .ty "tuple") (by rfl) T.tup boot_tuple (by rfl)) pa_nil)))) (pw_and (pt_cmpR (op_neD hr.units) (pv 1) (pe_tup pa_nil) (nomark _)) (pw_and1 (pt_cmpR op_gt (pe_call GT hr (by rfl) gT kT bT .nil pass0 (pa_cons (pv 0) (pa_cons pe_int pa_nil))) pe_int (nomark _))))))
        (pss_cons (ps_set (i := 2) scLN.nd rfl (.inl rfl) (pe_call GT hr (by rfl) gT kT bT .nil pass0 (pa_cons (pv 0) (pa_cons (pe_callB call_len_seq (by rfl) ml PySem.boot_len (pa_cons (pv 1) pa_nil)) pa_nil))))
        (pss_one (ps_ret (pe_op op_catA (pe_op op_catA (pe_slice sl_tupA (pv 1) po_none (po_some (pv 2))) (pe_tup (pa_cons (pe_call G hr (by rfl) gF F.kp bF .nil pass0 (pa_cons (pv 0) (pa_cons (pe_ix ix_tup (pv 1) (pv 2) (fun _ _ => rfl)) pa_nil))) pa_nil))) (pe_slice sl_tupA (pv 1) (po_some (pe_op op_add (pv 2) pe_int)) po_none))))) pss_nil)
      (pss_cons (ps_set (i := 3) scLN.nd rfl (.inl rfl) (pe_call GT hr (by rfl) gT kT bT .nil pass0 (pa_cons (pv 0) (pa_cons pe_int pa_nil))))
      (Evl.pss_cut (ps_if (PW.pt (pw_and (pt_cmpR op_eq (pv 3) pe_int (nomark _)) (pw_and1 (pt_val (pe_callB call_isi (by rfl) T.isi boot_isinstance (pa_cons (pv 1) (pa_cons (pe_bltn (v := .ty "tuple") (by rfl) T.tup boot_tuple (by rfl)) pa_nil)))))))
          (pss_one (ps_ret (pe_ifExp (pt_cmpR op_eq (pe_call GT hr (by rfl) gT kT bT .nil pass0 (pa_cons (pv 0) (pa_cons pe_int pa_nil))) pe_int (nomark _)) (pe_slice sl_tupA (pv 1) po_none (po_some (pe_un un_neg pe_int))) (pe_op op_catA (pv 1) (pe_tup (pa_cons pe_non pa_nil)))))) pss_nil)
      (Evl.pss_cut (ps_if (PW.pt (pw_and (pt_cmpR op_eq (pv 3) pe_int (nomark _)) (pw_and1 (pt_cmpR op_in_seq (pe_call GK hr (by rfl) gK FK.kp bK .nil pass0 (pa_cons (pv 1) pa_nil)) (pe_tup (pa_cons pe_str (pa_cons pe_str pa_nil))) (by rfl)))))
          (pss_one (ps_ret (pe_ix ix_list (pe_lst (pa_cons (pe_callTy call_int1 (by rfl) T.int boot_int (pa_cons (pv 1) pa_nil)) (pa_cons (pe_callTy call_bool1 (by rfl) T.bool boot_bool (pa_cons (pv 1) pa_nil)) (pa_cons (pe_op op_add (pe_callTy call_int1 (by rfl) T.int boot_int (pa_cons (pv 1) pa_nil)) pe_int) pa_nil)))) (pe_call GT hr (by rfl) gT kT bT .nil pass0 (pa_cons (pv 0) (pa_cons pe_int pa_nil))) (fun _ _ => rfl)))) pss_nil)
      (pss_one (ps_ret (pe_ifExp (pt_cmpR op_eq (pv 3) pe_int (nomark _)) (pe_call GV hr (by rfl) gV FV.kp bV .nil pass0 (pa_cons (pv 0) (pa_cons pe_int pa_nil))) (pv 1))))))), ?_⟩
    refine ⟨fun σ' H' => σ' = [some (.ref d), some v, none, none] ∧ Keep d g H H' ∧ Dr H' d g (m + 8), ?_, ?_⟩
    · have ty := dp_ty hx
      by_cases ht : tyS x = "tuple"
      · cases x with
        | tuple ds =>
          cases hx with
          | @tup a xs _ hs hd =>
            have hsv : isVs ds = true := by simpa [isV] using vx
            have hw2 : decide (ds.length ≤ 40) = true ∧ wds 40 ds = true := by
              have : (decide (ds.length ≤ 40) && wds 40 ds) = true := wx
              rwa [Bool.and_eq_true] at this
            have hl40 : ds.length ≤ 40 := of_decide_eq_true hw2.1
            have hlen := dpAll_len hd
            have edx : PyData.depthAll ds + 1 ≤ n := dx
            obtain ⟨n', rfl⟩ : ∃ n', n = n' + 1 := ⟨n - 1, by omega⟩
            refine ⟨.ref a, rfl, .ref a, .ty "tuple", .type "tuple", .type "tuple", true, rfl, .ty "tuple", ty, kit_ty (by decide +kernel), true, rfl, ?_⟩
            refine ⟨.ref a, rfl, by decide, fun p0 np => ⟨.tuple ds, .tuple [], dp_mono (same_upd np) _ _ (.tup hs hd), .tup (.inl (.inl upd_same)) .nil, shapedV vx (by omega), by decide, _, rfl, ?_⟩⟩
            have sm0 : Same H (upd H p0 (.tup [])) := same_upd np
            have D0 := D.mono sm0
            have hs0 := same_tup sm0 hs
            have hd0 := dpAll_mono sm0 ds xs hd
            cases ds with
            | nil => exact ⟨rfl, Keep.of sm0, D0.less (by omega)⟩
            | cons d0 dr =>
              have en : PyData.eqv (.tuple (d0 :: dr)) (.tuple []) = false := by simp [PyData.eqv, PyData.eqvAll]
              rw [en]
              refine ⟨.ref d, rfl, d, g, m + 2 * n' + 10, 3, rfl, D0.less (by omega), by decide, by decide, fun z H1 z0 z1 k1 D1 => ?_⟩
              refine ⟨_, _, rfl, rfl, _, rfl, ?_⟩
              have kk1 : Keep d g H H1 := (Keep.of sm0).trans k1
              by_cases cz : (0 : Int) < z
              · have cz' : decide (z > 0) = true := decide_eq_true cz
                rw [cz']
                have hs1 := sqt_tk (TK.keep D0 k1) hs0
                have hd1 := dpvs_tk (TK.keep D0 k1) _ xs hsv hd0
                refine ⟨.ref d, rfl, .ref a, rfl, a, xs, rfl, .inr hs1, d, g, m + 2 * n' + 9, xs.length, rfl, D1.less (by omega), (by rw [hlen, List.length_cons]; omega), by omega, fun z2 H2 z20 z21 k2 D2 => ?_⟩
                have hs2 := sqt_tk (TK.keep D1 k2) hs1
                have hd2 := dpvs_tk (TK.keep D1 k2) _ xs hsv hd1
                refine ⟨.ref a, rfl, .int z2, rfl, z2, rfl, sl_read hs2 fun p1 H3 s3 hp1 => ?_⟩
                have hs3 := same_tup s3 hs2
                have hd3 := dpAll_mono s3 _ xs hd2
                have hz2 : z2.toNat < xs.length := by omega
                obtain ⟨dv, hdv, hxv⟩ := dpAll_at hd3 (List.getElem?_eq_getElem hz2)
                obtain ⟨w1, w2, w3⟩ := vds_mem hsv hw2.2 (List.mem_of_getElem? hdv)
                refine ⟨.ref d, rfl, .ref a, rfl, .int z2, rfl, a, xs, z2, xs[z2.toNat], rfl, rfl, hs3, at_of (j := z2.toNat) (by omega) (List.getElem?_eq_getElem hz2), d, g, m, xs[z2.toNat], dv, rfl, (D2.mono s3).less (by omega), hxv, w1, w2, by omega, fun v' x' H4 k4 D4 hx' vx' => ?_⟩
                have hp4 := sqt_tk (TK.keep (D2.mono s3) k4) hp1
                have hs4 := sqt_tk (TK.keep (D2.mono s3) k4) hs3
                have hd4 := dpvs_tk (TK.keep (D2.mono s3) k4) _ xs hsv hd3
                refine ⟨(by show 1 ≤ sizeLine; decide), fun p2 np2 => ?_⟩
                have s5 : Same H4 (upd H4 p2 (.tup [v'])) := same_upd np2
                have hcl : (cutV xs none (some z2)).length ≤ xs.length := cutV_length ..
                have hcr : (cutV xs (some (z2 + 1)) none).length ≤ xs.length := cutV_length ..
                refine cat_read (same_tup s5 hp4) (.inl (.inl upd_same)) (by have z1000 := s1000; rw [List.length_singleton]; omega) fun p3 H5 s6 hp3 => ?_
                refine ⟨.ref a, rfl, .int z2, rfl, _, _, rfl, rfl, z2 + 1, rfl, ?_⟩
                dsimp only [tNoPart]
                refine sl_read (same_tup (s5.trans s6) hs4) fun p4 H6 s7 hp4' => ?_
                refine cat_read (same_tup s7 hp3) hp4' (by have z1000 := s1000; rw [List.length_append, List.length_singleton]; omega) fun p5 H7 s8 hp5 => ?_
                have s47 : Same H4 H7 := s5.trans (s6.trans (s7.trans s8))
                have hd7 : DpAll K H7 xs (d0 :: dr) := dpAll_mono s47 _ xs hd4
                have hx7 : Dp K H7 v' x' := dp_mono s47 x' v' hx'
                have all := dpAll_app (dpAll_cut (some (z2 + 1)) none hd7) (dpAll_app (.cons hx7 .nil) (dpAll_cut none (some z2) hd7))
                refine q (.ref p5) _ H7 (kk1.trans (k2.trans ((Keep.of s3).trans (k4.trans (Keep.of s47))))) (D4.mono s47) (.tup hp5 all) ?_
                have hcd1 := cutD_len (n := xs.length) (ds := d0 :: dr) (lo := none) (hi := some z2)
                have hcd2 := cutD_len (n := xs.length) (ds := d0 :: dr) (lo := some (z2 + 1)) (hi := none)
                obtain ⟨r1, r2, r3⟩ := vds_of (b := 100) (k := n' + 1) (ds := cutD xs.length (d0 :: dr) none (some z2) ++ [x'] ++ cutD xs.length (d0 :: dr) (some (z2 + 1)) none) (fun y hy => by
                  have old : y ∈ d0 :: dr → isV y = true ∧ wd 100 y = true ∧ y.depth ≤ n' + 1 := fun hm => by
                    obtain ⟨t1, t2, t3⟩ := vds_mem hsv hw2.2 hm
                    exact ⟨t1, wd_mono (by decide) y t2, by omega⟩
                  rcases List.mem_append.mp hy with hy | hy
                  · rcases List.mem_append.mp hy with hy | hy
                    · exact old (cutD_mem hy)
                    · obtain rfl := List.mem_singleton.mp hy
                      exact ⟨vx'.v, vx'.w, vx'.d⟩
                  · exact old (cutD_mem hy))
                exact Vd.tup r1 r2 r3 (by rw [List.length_append, List.length_append, List.length_singleton]; omega)
              · have cz' : decide (z > 0) = false := decide_eq_false cz
                rw [cz']
                exact ⟨rfl, kk1, D1.less (by omega)⟩
        | _ => simp [tyS] at ht
      · have kf : kitB (tyS x) "tuple" = some false := kfT ht
        exact ⟨v, rfl, v, .ty "tuple", .type (tyS x), .type "tuple", false, rfl, .ty "tuple", ty, kit_ty kf, false, rfl, rfl, Keep.refl, D.less (by omega)⟩
    · rintro σ' H1 ⟨rfl, kp, D1⟩
      have x1 := dpv_tk (TK.keep D kp) x v vx hx
      have vd0 : Vd (n + 1) x := ⟨vx, wd_mono (by decide) x wx, by omega⟩
      refine ⟨.ref d, rfl, d, g, m + 7, 4, rfl, D1.less (by omega), by decide, by decide, fun z H2 z0 z1 k2 D2 => ?_⟩
      have kk2 := kp.trans k2
      have x2 := dpv_tk (TK.keep D1 k2) x v vx x1
      have ty := dp_ty x2
      refine ⟨fun σ' H' => σ' = [some (.ref d), some v, none, some (.int z)] ∧ Keep d g H H' ∧ Dr H' d g (m + 7), ?_, ?_⟩
      · refine ⟨.int z, rfl, rfl, _, rfl, ?_⟩
        by_cases c0 : z = 0
        · subst c0
          refine iteT ?_
          by_cases ht : tyS x = "tuple"
          · cases x with
            | tuple ds =>
              cases x2 with
              | @tup a xs _ hs hd =>
                have hsv : isVs ds = true := by simpa [isV] using vx
                have hw2 : decide (ds.length ≤ 40) = true ∧ wds 40 ds = true := by
                  have : (decide (ds.length ≤ 40) && wds 40 ds) = true := wx
                  rwa [Bool.and_eq_true] at this
                have hl40 : ds.length ≤ 40 := of_decide_eq_true hw2.1
                have hlen := dpAll_len hd
                have edx : PyData.depthAll ds + 1 ≤ n := dx
                refine ⟨.ref a, rfl, .ref a, .ty "tuple", .type "tuple", .type "tuple", true, rfl, .ty "tuple", ty, kit_ty (by decide +kernel), true, rfl, ?_⟩
                refine ⟨.ref d, rfl, d, g, m + 6, 2, rfl, D2.less (by omega), by decide, by decide, fun z2 H3 z20 z21 k3 D3 => ?_⟩
                have kk3 := kk2.trans k3
                have hs3 := sqt_tk (TK.keep D2 k3) hs
                have hd3 := dpvs_tk (TK.keep D2 k3) _ xs hsv hd
                have old : ∀ y ∈ ds, isV y = true ∧ wd 100 y = true ∧ y.depth ≤ n := fun y hm => by
                  obtain ⟨t1, t2, t3⟩ := vds_mem hsv hw2.2 hm
                  exact ⟨t1, wd_mono (by decide) y t2, by omega⟩
                refine ⟨rfl, _, rfl, ?_⟩
                by_cases cz : z2 = 0
                · subst cz
                  refine iteT ?_
                  refine ⟨.ref a, rfl, 1, rfl, -1, rfl, ?_⟩
                  refine sl_read hs3 fun p1 H4 s4 hp1 => ?_
                  obtain ⟨r1, r2, r3⟩ := vds_of (b := 100) (k := n) (ds := cutD xs.length ds none (some (-1))) fun y hy => old y (cutD_mem hy)
                  have hc := cutD_len (n := xs.length) (ds := ds) (lo := none) (hi := some (-1))
                  exact q (.ref p1) (.tuple (cutD xs.length ds none (some (-1)))) H4 (kk3.trans (Keep.of s4)) ((D3.less (by omega)).mono s4) (.tup hp1 (dpAll_cut _ _ (dpAll_mono s4 _ xs hd3))) (Vd.tup r1 r2 r3 (by omega))
                · rw [decide_eq_false fun zz => cz (V.int.inj zz)]
                  refine iteF ?_
                  refine ⟨.ref a, rfl, by decide, fun p1 np => ?_⟩
                  have s4 : Same H3 (upd H3 p1 (.tup [.non])) := same_upd np
                  refine cat_read (same_tup s4 hs3) (.inl (.inl upd_same)) (by have z1000 := s1000; rw [List.length_singleton]; omega) fun p2 H5 s5 hp2 => ?_
                  obtain ⟨r1, r2, r3⟩ := vds_of (b := 100) (k := n) (ds := ds ++ [.none]) fun y hy => by
                    rcases List.mem_append.mp hy with hy | hy
                    · exact old y hy
                    · obtain rfl := List.mem_singleton.mp hy
                      exact ⟨rfl, rfl, Nat.zero_le _⟩
                  exact q (.ref p2) (.tuple (ds ++ [.none])) H5 (kk3.trans (Keep.of (s4.trans s5))) ((D3.less (by omega)).mono (s4.trans s5)) (.tup hp2 (dpAll_app (.cons .non .nil) (dpAll_mono (s4.trans s5) _ xs hd3))) (Vd.tup r1 r2 r3 (by rw [List.length_append, List.length_singleton]; omega))
            | _ => simp [tyS] at ht
          · have kf : kitB (tyS x) "tuple" = some false := kfT ht
            exact ⟨v, rfl, v, .ty "tuple", .type (tyS x), .type "tuple", false, rfl, .ty "tuple", ty, kit_ty kf, false, rfl, rfl, kk2, D2.less (by omega)⟩
        · rw [decide_eq_false fun zz => c0 (V.int.inj zz)]
          exact ⟨rfl, kk2, D2.less (by omega)⟩
      · rintro σ' H3 ⟨rfl, kp3, D3⟩
        have x3 := dpv_tk (TK.keep D kp3) x v vx hx
        have pick : ∀ (xs : List V) (H4 : Hp) (p : Addr), xs.all sc = true → xs.length = 3 → Keep d g H H4 → Dr H4 d g (m + 7) → H4 p = none →
            tCall spTake [] E0 (tCons (tVar 0) (tCons (tC (.int 3)) tNil)) [some (.ref d), some v, none, some (.int z)] (upd H4 p (.lst xs)) (fun y H5 => rIxL K (.ref p) y H5 Q) := fun xs H4 p h1 h2 k4 D4 np => by
          obtain ⟨o1, o2⟩ := D4.off np
          refine ⟨.ref d, rfl, d, g, m + 6, 3, rfl, (D4.mono (same_upd np)).less (by omega), by decide, by decide, fun z2 H5 z20 z21 k5 D5 => ?_⟩
          have hz : z2.toNat < xs.length := by omega
          obtain ⟨dt, hd, hw, hv⟩ := sc_ob (K := K) (sc_mem h1 (List.getElem_mem hz))
          exact ⟨p, xs, z2, xs[z2.toNat], rfl, rfl, .of (k5 p _ o1 o2 upd_same), at_of (j := z2.toNat) (by omega) (List.getElem?_eq_getElem hz), q _ dt H5 ((k4.trans (Keep.of (same_upd np))).trans k5) (D5.less (by omega)) (hd H5) (hv.up (Nat.zero_le _))⟩
        refine ⟨fun σ' H' => σ' = [some (.ref d), some v, none, some (.int z)] ∧ Keep d g H H' ∧ Dr H' d g (m + 7), ?_, ?_⟩
        · refine ⟨.int z, rfl, rfl, _, rfl, ?_⟩
          by_cases c1 : z = 1
          · subst c1
            refine iteT ?_
            refine ⟨v, rfl, v, x, rfl, x3, vx, by decide, fun p np => ?_⟩
            have s4 : Same H3 (upd H3 p (.tup [.str "int", .str "bool"])) := same_upd np
            have kk4 := kp3.trans (Keep.of s4)
            have D4 := D3.mono s4
            refine ⟨p, _, rfl, .inr (.inl (.inl upd_same)), (by cases x <;> rfl), by decide, _, rfl, ?_⟩
            cases x with
            | bool b =>
              cases x3
              have e : inV (.str (kindS (.bool b))) [.str "int", .str "bool"] = true := by show inV (.str "bool") [.str "int", .str "bool"] = true; decide +kernel
              show if (if false = true then _ else inV (.str (kindS (.bool b))) [.str "int", .str "bool"]) = true then _ else _
              rw [if_neg Bool.false_ne_true, e]
              refine iteT ?_
              refine ⟨.bl b, rfl, .inr ⟨b, rfl, .bl b, rfl, .inr ⟨b, rfl, .bl b, rfl, .inr ⟨b, rfl, _, _, rfl, rfl, (by show 3 ≤ sizeLine; decide), fun p2 np2 => pick _ _ p2 rfl rfl kk4 D4 np2⟩⟩⟩⟩
            | int i =>
              cases x3
              have e : inV (.str (kindS (.int i))) [.str "int", .str "bool"] = true := by show inV (.str "int") [.str "int", .str "bool"] = true; decide +kernel
              show if (if false = true then _ else inV (.str (kindS (.int i))) [.str "int", .str "bool"]) = true then _ else _
              rw [if_neg Bool.false_ne_true, e]
              refine iteT ?_
              refine ⟨.int i, rfl, .inl ⟨i, rfl, .int i, rfl, .inl ⟨i, rfl, .int i, rfl, .inl ⟨i, rfl, _, _, rfl, rfl, (by show 3 ≤ sizeLine; decide), fun p2 np2 => pick _ _ p2 rfl rfl kk4 D4 np2⟩⟩⟩⟩
            | none => exact ⟨rfl, kk4, D4⟩
            | str _ => exact ⟨rfl, kk4, D4⟩
            | tuple _ => exact ⟨rfl, kk4, D4⟩
            | list _ => simp [isV] at vx
            | dict _ => simp [isV] at vx
          · rw [decide_eq_false fun zz => c1 (V.int.inj zz)]
            exact ⟨rfl, kp3, D3⟩
        · rintro σ' H4 ⟨rfl, kp4, D4⟩
          have x4 := dpv_tk (TK.keep D kp4) x v vx hx
          refine ⟨.int z, rfl, rfl, _, rfl, ?_⟩
          by_cases c2 : z = 2
          · subst c2
            refine iteT ?_
            exact ⟨.ref d, rfl, d, g, m, 1, rfl, D4.less (by show m + 6 ≤ m + 7; omega), by decide, fun v' x' H5 k5 D5 hx' wx' vx' => q v' x' H5 (kp4.trans k5) D5 hx' (vx'.up (by omega))⟩
          · rw [decide_eq_false fun zz => c2 (V.int.inj zz)]
            refine iteF ?_
            exact ⟨v, rfl, q v x H4 kp4 (D4.less (by omega)) x4 vd0⟩
theorem ok_ln {f fK fV : Addr} {fd fdK fdV : FuncData} (F : Fun K "_law_near" "_law_near" s_ln f fd) (bF : Binds K fd ["state", "matter"] []) (gF : mg "_law_near" = some (.ref f)) (T : Blt mg) (D0 : Drs P w K mg base) (ml : mg "len" = none)
    (FK : Fun K "_law_kind" "_law_kind" s_lk fK fdK) (bK : Binds K fdK ["matter"] []) (gK : mg "_law_kind" = some (.ref fK))
    (FV : Fun K "_law_value" "_law_value" s_lv fV fdV) (bV : Binds K fdV ["state", "deep"] []) (gV : mg "_law_value" = some (.ref fV)) : ∀ n, n ≤ 30 → FnOk P w K mg base CX0 (n + 6) f fd ["state", "matter"] (spLN K n)
  | 0, h => ok_ln1 h F bF gF T D0 ml FK bK gK FV bV gV ⟨fun _ _ _ _ h => h.elim, fun _ _ _ _ _ _ _ _ _ _ _ _ _ h => h.elim⟩
  | n + 1, h => ok_ln1 h F bF gF T D0 ml FK bK gK FV bV gV (ok_ln F bF gF T D0 ml FK bK gK FV bV gV n (by omega))
end
end Ck
namespace Ck
open PySem PySem.Spec PyProof.Rows L2
abbrev s_pr : Stmt := topS 24
/-! ### calls by keywords alone -/
def gK {α : Type} : List α → List α → List α
  | [], ws => ws
  | _ :: _, _ => []
theorem Fun.kb {K : PySem.W.Frag} {x qual : Str} {st : Stmt} {f : Addr} {fd : FuncData} {ps : List Str} (F : Fun K x qual st f fd) (h0 : ps ≠ [])
    (h : ∀ (kV doc pm : Value) (an : Option Addr) (cdv ct : Value) (ws : List Value), ws.length = ps.length → bindArgs (PySem.W.fnOf x qual (defArgs st) (defBody st) (defScope st) .none kV doc pm an cdv ct) ⟨[], ps.zip ws⟩ = pure (ps.zip ws)) : KBinds K fd ps ps gK gK := by
  obtain ⟨oc, od, kV, doc, pm, an, cdv, ct, osl, rfl, lk, hcd⟩ := F.ex
  refine ⟨fun s us ws _ hl => ?_, fun {vs us zs ws} r r2 => ?_⟩
  · cases us with
    | nil => exact .of_eq (h kV doc pm an cdv ct ws hl)
    | cons u us =>
      have hl : ([] : List Value).length = ps.length := hl
      exact absurd (List.length_eq_zero_iff.mp hl.symm) h0
  · cases r with
    | nil => exact r2
    | cons _ _ => exact .nil
section
variable {X : Cx} {CX : CXT} {k : Nat} {f : Addr} {fd : FuncData} {ps ks : List Str} {sp : Sp} {E : XK} {x : Str} {p pos : Pos} {kws : List Keyword} {tk : TA} {g : List Value → List Value → List Value} {gV : List V → List V → List V}
theorem pe_callK0 (F : FnOk X.prog X.w X.K X.mg X.base CX k f fd ps sp) (hr : Room k X.A) (hg : Gl X x) (hm : X.mg x = some (.ref f)) (hk : PySem.W.keepIn X.K (.ref f) = true) (hb : KBinds X.K fd ps ks g gV) (hx : Passes CX X E)
    (hkw : PK X kws tk) (hall : (backToKw pos (keywordEach kws X.env)).all (·.1.isSome) = true := by rfl) (hks : (backToKw pos (keywordEach kws X.env)).filterMap (·.1) = ks := by rfl)
    (hdb : (x == ("__debug__" : Str)) = false := by decide) (hpl : ((backTo pos (starEach [] X.env)).any (·.1) || (backToKw pos (keywordEach kws X.env)).any (·.1.isNone)) = false := by rfl) :
    PE X (.Call (.Name x p) [] kws pos) (tCallK sp gV E tNil tk) := by
  refine ⟨fun pins s σ H Q I h => ?_⟩
  refine wpAny_Call_Name_kw (ld_glob I hg hm ?_ hdb)
  refine PySem.W.callWith_KW0 (h₀ := X.base) I.ok.mod.kin hk hall (thn (hkw.run pos pins s σ H _ I h) fun ws s2 ⟨zs, H2, I2, rz, q2⟩ => ⟨I2.kIn, ?_⟩) hpl
  rw [hks]
  exact run_fnk (us := []) (vs := []) F hr hb hx I2 .nil rz q2
end
/-! ### < of ranks -/
mutual
theorem rnk_deep : ∀ d : PyData, (rnkD d).depth ≤ 2 * d.depth + 1
  | .none => by decide
  | .bool _ => by simp [rnkD, PyData.depth, PyData.depthAll]
  | .int _ => by simp [rnkD, PyData.depth, PyData.depthAll]
  | .str _ => by simp [rnkD, PyData.depth, PyData.depthAll]
  | .tuple xs => by
    have := rnks_deep xs
    simp only [rnkD, PyData.depth, PyData.depthAll]
    omega
  | .list _ => by simp [rnkD, PyData.depth]
  | .dict _ => by simp [rnkD, PyData.depth]
theorem rnks_deep : ∀ ds : List PyData, PyData.depthAll (rnkDs ds) ≤ 2 * PyData.depthAll ds + 1
  | [] => by decide
  | d :: ds => by
    have h1 := rnk_deep d
    have h2 := rnks_deep ds
    simp only [rnkDs, PyData.depthAll]
    omega
end
def rLtR (K : PySem.W.Frag) : R2 := fun x y H Q => ∃ a b, Dp K H x (rnkD a) ∧ Dp K H y (rnkD b) ∧ isV a = true ∧ isV b = true ∧ a.depth ≤ 30 ∧ Q (.bl (ltV a b)) H
theorem op_ltR {X : Cx} (hu : X.A.units + 64 < cLine) : OpR X (compareOp .Lt) (rLtR X.K) := by
  intro pins s σ H x y v u Q I rx ry h
  obtain ⟨a, b, ha, hb, va, vb, da, q⟩ := h
  obtain ⟨as, ra⟩ := Dp.reads I _ _ _ ha rx
  obtain ⟨bs, rb⟩ := Dp.reads I _ _ _ hb ry
  have dk := rnk_deep a
  exact all_rl a b X.A s v u as bs va vb ra rb (by omega) X.prog X.w X.xe (EP X pins σ Q) ⟨.bl _, H, I, rfl, q⟩
/-! ### what is due -/
def dueV (x y : PyData) : Int := if eqV x y = true then 0 else 1 - 2 * (if ltV x y = true then 1 else 0)
theorem cmp_due {x y : PyData} (hx : isV x = true) (hy : isV y = true) : cmpV x y = dueV x y ∧ cmpV y x = -dueV x y := by
  unfold cmpV dueV
  cases e : eqV x y with
  | true =>
    have := eqV_eq x y e
    subst this
    rw [ltV_irr x hx]
    exact ⟨rfl, rfl⟩
  | false =>
    have t := ltV_tot x y hx hy e
    cases l : ltV x y with
    | true =>
      rw [l] at t
      have : ltV y x = false := by cases q : ltV y x with | false => rfl | true => rw [q] at t; cases t
      rw [this]
      exact ⟨rfl, rfl⟩
    | false =>
      rw [l] at t
      have : ltV y x = true := by cases q : ltV y x with | true => rfl | false => rw [q] at t; cases t
      rw [this]
      exact ⟨rfl, rfl⟩
theorem due_small (x y : PyData) : -1 ≤ dueV x y ∧ dueV x y ≤ 1 := by
  unfold dueV
  cases eqV x y <;> cases ltV x y <;> decide
theorem rp_ints {K : PySem.W.Frag} {H : Hp} {q : Addr} {i : Int} (e : H q = some (.lst [.int i, .int (-i)])) (h : -1 ≤ i ∧ i ≤ 1) : Rp K H (.ref q) (PyData.list [.int i, .int (-i)]).shown := by
  have hd : Dp K H (.ref q) (.list [.int i, .int (-i)]) := .lst (.inl (.inl e)) (.cons (.int _) (.cons (.int _) .nil))
  have c : i = -1 ∨ i = 0 ∨ i = 1 := by omega
  refine .inr ⟨_, .of hd rfl, ?_, ?_, ?_, rfl⟩
  · rcases c with rfl | rfl | rfl <;> decide +kernel
  · rcases c with rfl | rfl | rfl <;> decide +kernel
  · rcases c with rfl | rfl | rfl <;> decide +kernel
theorem rp_bls {K : PySem.W.Frag} {H : Hp} {q : Addr} {b : Bool} (e : H q = some (.lst [.bl b, .bl b])) : Rp K H (.ref q) (PyData.list [.bool b, .bool b]).shown := by
  have hd : Dp K H (.ref q) (.list [.bool b, .bool b]) := .lst (.inl (.inl e)) (.cons (.bl _) (.cons (.bl _) .nil))
  refine .inr ⟨_, .of hd rfl, ?_, ?_, ?_, rfl⟩
  · cases b <;> decide +kernel
  · cases b <;> decide +kernel
  · cases b <;> decide +kernel
section
variable {P : Program} {w : World} {K : PySem.W.Frag} {mg : Str → Option Value} {base : Heap} {BV AK : Addr}
/-- the program's defs that the law calls -/
structure Prg (P : Program) (w : World) (K : PySem.W.Frag) (mg : Str → Option Value) (base : Heap) (BV : Addr) (n : Nat) : Prop where
  isv : ∃ f fd, FnOk P w K mg base CX0 (n + 1) f fd ["thing"] (spIs K n) ∧ mg "is_value" = some (.ref f) ∧ PySem.W.keepIn K (.ref f) = true ∧ Binds K fd ["thing"] [] ∧ KBinds K fd ["thing"] ["thing"] gK gK
  kind : ∃ f fd, FnOk P w K mg base (L2.CX P w) (n + 3) f fd ["value"] (spKind K BV n) ∧ mg "kind_of" = some (.ref f) ∧ PySem.W.keepIn K (.ref f) = true ∧ Binds K fd ["value"] [] ∧ KBinds K fd ["value"] ["value"] gK gK
  cmp : ∃ f fd, FnOk P w K mg base (L2.CX P w) (n + 3) f fd ["one", "other"] (spCmp K BV n) ∧ mg "compare" = some (.ref f) ∧ PySem.W.keepIn K (.ref f) = true ∧ Binds K fd ["one", "other"] [] ∧ KBinds K fd ["one", "other"] ["one", "other"] gK gK
  same : ∃ f fd, FnOk P w K mg base (L2.CX P w) (n + 4) f fd ["one", "other"] (spSame K BV n) ∧ mg "same" = some (.ref f) ∧ PySem.W.keepIn K (.ref f) = true ∧ Binds K fd ["one", "other"] [] ∧ KBinds K fd ["one", "other"] ["one", "other"] gK gK
/-! ### _law_pair_right -/
theorem scPR : FnScope ["unit", "second_one", "left", "right", "due"] ["unit", "second_one"] (defScope s_pr) := ⟨rfl, rfl, rfl, by decide +kernel, rfl, by decide +kernel, by decide +kernel⟩
def spPR (K : PySem.W.Frag) (n : Nat) : Sp := fun vs H Q _ => ∃ v u x y, vs = [v, u] ∧ Dp K H v x ∧ Dp K H u y ∧ Vd n x ∧ Vd n y ∧ ∀ H', Same H H' → Q (.bl true) H'
theorem ok_pr {f fR : Addr} {fd fdR : FuncData} {n : Nat} (hn : n ≤ 30) (F : Fun K "_law_pair_right" "_law_pair_right" s_pr f fd) (T : Blt mg) (G : Prg P w K mg base BV n) (mr : mg "repr" = none)
    (GR : FnOk P w K mg base CX0 (n + 2) fR fdR ["matter"] (spLR K n)) (kR : PySem.W.keepIn K (.ref fR) = true) (bR : Binds K fdR ["matter"] []) (gR : mg "_law_rank" = some (.ref fR)) : FnG P w K mg base CX0 (n + 5) f fd ["unit", "second_one"] (spPR K n) := by
  obtain ⟨fC, dC, GC, gC, kC, bC, kbC⟩ := G.cmp
  obtain ⟨fS, dS, GS, gS, kS, bS, kbS⟩ := G.same
  have GR := GR.mono (show n + 2 ≤ n + 4 by omega)
  have GC := GC.mono (show n + 3 ≤ n + 4 by omega)
  refine fnG_of F scPR (fun vs H Q E h => ?_) (fun cdv Z outer s H vs Q E hgd hr h => ?_)
  · obtain ⟨v, u, x, y, rfl, _⟩ := h
    rfl
  · obtain ⟨v, u, x, y, rfl, hx, hy, vx, vy, q⟩ := h
    have hu := hr.units
    refine ⟨_, pss_cons (ps_par (i := 2) (j := 3) rfl scPR.nd rfl rfl (by decide) rfl rfl (pa_cons (pe_call GR hr (by rfl) gR kR bR .nil pass0 (pa_cons (pv 0) pa_nil)) (pa_cons (pe_call GR hr (by rfl) gR kR bR .nil pass0 (pa_cons (pv 1) pa_nil)) pa_nil)) (by rfl))
      (Evl.pss_cut (ps_set (i := 4) scPR.nd rfl (.inl rfl) (pe_ifExp (pt_cmpR (op_eqD hr.units) (pv 2) (pv 3) (nomark _)) pe_int (pe_op op_sub pe_int (pe_op op_mul pe_int (pe_callTy call_int1 (by rfl) T.int boot_int (pa_cons (pe_cmpR (op_ltR hr.units) (pv 2) (pv 3) (nomark _)) pa_nil))))))
      (pss_cons (ps_if (pt_cmpR op_ne (pe_callB (call_reprK K rfl hgd (Nat.lt_of_le_of_lt (Nat.add_le_add_left (by decide : 20 ≤ 64) _) hr.units)) (by rfl) mr boot_repr (pa_cons (pe_lst (pa_cons (pe_call GC hr (by rfl) gC kC bC .nil passL (pa_cons (pv 0) (pa_cons (pv 1) pa_nil))) (pa_cons (pe_callK0 GC hr (by rfl) gC kC kbC passL (pk_cons (pv 1) (pk_cons (pv 0) pk_nil))) pa_nil))) pa_nil))
          (pe_callB (call_reprK K rfl hgd (Nat.lt_of_le_of_lt (Nat.add_le_add_left (by decide : 20 ≤ 64) _) hr.units)) (by rfl) mr boot_repr (pa_cons (pe_lst (pa_cons (pv 4) (pa_cons (pe_un un_neg (pv 4)) pa_nil))) pa_nil)) (nomark _)) (pss_one (ps_ret pe_bl)) pss_nil)
      (pss_one (ps_ret (pe_cmpR op_eq (pe_callB (call_reprK K rfl hgd (Nat.lt_of_le_of_lt (Nat.add_le_add_left (by decide : 20 ≤ 64) _) hr.units)) (by rfl) mr boot_repr (pa_cons (pe_lst (pa_cons (pe_call GS hr (by rfl) gS kS bS .nil passL (pa_cons (pv 0) (pa_cons (pv 1) pa_nil))) (pa_cons (pe_callK0 GS hr (by rfl) gS kS kbS passL (pk_cons (pv 0) (pk_cons (pv 1) pk_nil))) pa_nil))) pa_nil))
          (pe_callB (call_reprK K rfl hgd (Nat.lt_of_le_of_lt (Nat.add_le_add_left (by decide : 20 ≤ 64) _) hr.units)) (by rfl) mr boot_repr (pa_cons (pe_lst (pa_cons (pe_cmpR op_eq (pv 4) pe_int (nomark _)) (pa_cons (pe_cmpR op_eq (pv 4) pe_int (nomark _)) pa_nil))) pa_nil)) (nomark _)))))), ?_⟩
    refine ⟨v, rfl, v, x, rfl, hx, vx, fun p1 H1 s1 o1 => ⟨u, rfl, u, y, rfl, dp_mono s1 y u hy, vy, fun p2 H2 s2 o2 => ⟨.ref p1, .ref p2, rfl, ?_⟩⟩⟩
    have k1 : Dp K H2 (.ref p1) (rnkD x) := dp_mono s2 _ _ o1.dp
    have k2 : Dp K H2 (.ref p2) (rnkD y) := o2.dp
    have d1 := rnk_deep x
    have d2 := rnk_deep y
    have dx := vx.d
    have dy := vy.d
    have sh : ∀ {z : PyData}, isV z = true → (rnkD z).depth ≤ 64 → SeqAt.shaped (rnkD z) = true := fun {z} h1 h2 => by
      unfold SeqAt.shaped
      rw [Bool.and_eq_true_iff]
      exact ⟨lay_rnk z h1, decide_eq_true h2⟩
    obtain ⟨c1, c2⟩ := cmp_due vx.v vy.v
    obtain ⟨b1, b2⟩ := due_small x y
    refine ⟨fun σ' H' => σ' = [some v, some u, some (.ref p1), some (.ref p2), some (.int (dueV x y))] ∧ Same H H', ?_, ?_⟩
    · refine ⟨.ref p1, rfl, .ref p2, rfl, rnkD x, rnkD y, k1, k2, sh vx.v (by omega), sh vy.v (by omega), _, rfl, ?_⟩
      rw [eqv_rnk x y vx.v vy.v]
      unfold dueV
      cases e : eqV x y with
      | true => exact ⟨rfl, s1.trans s2⟩
      | false =>
        refine iteF ?_
        refine ⟨.ref p1, rfl, .ref p2, rfl, x, y, k1, k2, vx.v, vy.v, by omega, .inr ⟨ltV x y, rfl, _, _, rfl, rfl, ?_, _, _, rfl, rfl, ?_⟩⟩
        · cases ltV x y <;> first | exact .inl ⟨by decide, by decide⟩ | exact .inr ⟨by decide, by decide⟩ | decide
        · exact ⟨rfl, s1.trans s2⟩
    · rintro σ' H3 ⟨rfl, s3⟩
      have x3 := dp_mono s3 x v hx
      have y3 := dp_mono s3 y u hy
      refine ⟨v, rfl, u, rfl, v, u, some x, some y, rfl, ⟨x3, vx⟩, ⟨y3, vy⟩, fun d e hd he H4 s4 => ?_, fun h => by rcases h with h | h <;> cases h⟩
      obtain rfl := Option.some.inj hd
      obtain rfl := Option.some.inj he
      refine ⟨u, rfl, v, rfl, u, v, some y, some x, rfl, ⟨dp_mono s4 _ _ y3, vy⟩, ⟨dp_mono s4 _ _ x3, vx⟩, fun d e hd he H5 s5 => ?_, fun h => by rcases h with h | h <;> cases h⟩
      obtain rfl := Option.some.inj hd
      obtain rfl := Option.some.inj he
      have rI : ∀ (H : Hp) (q : Addr), H q = some (.lst [.int (dueV x y), .int (-dueV x y)]) → Rp K H (.ref q) (PyData.list [.int (dueV x y), .int (-dueV x y)]).shown := fun H q e => rp_ints e (by omega)
      have n5 : 2 ≤ sizeLine := by decide
      refine ⟨n5, fun q1 nq1 => ⟨.ref q1, _, rfl, rI _ q1 (by rw [c1, c2]; exact upd_same), ?_⟩⟩
      have s6 : Same H (upd H5 q1 (.lst [.int (cmpV x y), .int (cmpV y x)])) := s3.trans (s4.trans (s5.trans (same_upd nq1)))
      refine ⟨.int (dueV x y), rfl, .int (dueV x y), rfl, dueV x y, rfl, n5, fun q2 nq2 => ⟨.ref q2, _, rfl, rI _ q2 upd_same, ?_⟩⟩
      have s7 := s6.trans (same_upd (o := HO.lst [.int (dueV x y), .int (-dueV x y)]) nq2)
      refine ⟨rfl, _, rfl, ?_⟩
      rw [decide_eq_true rfl]
      refine iteF ?_
      refine ⟨v, rfl, u, rfl, v, u, some x, some y, rfl, ⟨dp_mono s7 _ _ hx, vx⟩, ⟨dp_mono s7 _ _ hy, vy⟩, fun d e hd he H8 s8 => ?_, fun h => by rcases h with h | h <;> cases h⟩
      obtain rfl := Option.some.inj hd
      obtain rfl := Option.some.inj he
      refine ⟨v, rfl, u, rfl, v, u, some x, some y, rfl, ⟨dp_mono (s7.trans s8) _ _ hx, vx⟩, ⟨dp_mono (s7.trans s8) _ _ hy, vy⟩, fun d e hd he H9 s9 => ?_, fun h => by rcases h with h | h <;> cases h⟩
      obtain rfl := Option.some.inj hd
      obtain rfl := Option.some.inj he
      have s79 := s7.trans (s8.trans s9)
      refine ⟨n5, fun q3 nq3 => ⟨.ref q3, (PyData.list [.bool (decide (V.int (dueV x y) = V.int 0)), .bool (decide (V.int (dueV x y) = V.int 0))]).shown, rfl, rp_bls (by rw [c1]; exact upd_same), ?_⟩⟩
      refine ⟨.int (dueV x y), rfl, rfl, .int (dueV x y), rfl, rfl, n5, fun q4 nq4 => ⟨.ref q4, _, rfl, rp_bls upd_same, ?_⟩⟩
      refine ⟨rfl, ?_⟩
      rw [decide_eq_true rfl]
      exact q _ (s79.trans ((same_upd nq3).trans (same_upd nq4)))
end
end Ck
namespace Ck
open PySem PySem.Spec PyProof.Rows L2 LamX
abbrev s_ref : Stmt := topS 23
abbrev s_odd : Stmt := topS 25
/-! ### isinstance of a caught exception, with a tuple of classes -/
def rIsET (K : PySem.W.Frag) (D a : Addr) : List V → Hp → VK → Prop := fun xs H Q => ∃ (tp : Addr) (cs : List V) (us : List Value) (b : Bool), xs = [.ref a, .ref tp] ∧ H tp = some (.tup cs) ∧ Paired ClsV cs us ∧ PySem.W.kitAny K (.ref D) us = some b ∧ Q (.bl b) H
theorem call_isET {X : Cx} {a D : Addr} {oe : Obj} {pn : List (Addr × Obj)} (C : ExcC X.K D) (hz : Zc (.ref D) none oe) (hf : ∃ vs, oe.data = .fields vs) : CallR (X.suite a ((a, oe) :: pn)) (.builtin "isinstance") (rIsET X.K D a) := by
  intro pins s σ H xs us Q I r h
  obtain ⟨tp, cs, ws, b, rfl, hT, k, e, q⟩ := h
  obtain ⟨u1, u2, rfl, r1, r2⟩ := vals2 r
  cases (show u1 = Value.ref a from r1)
  cases (show u2 = Value.ref tp from r2)
  obtain ⟨hget, _⟩ := I.pin (a, oe) (List.mem_append.mpr (.inl List.mem_cons_self))
  obtain ⟨vs, hv⟩ := hf
  have J : PySem.W.InstAt s.heap a oe D none := by
    obtain ⟨oc, od, oda, osl⟩ := oe
    obtain ⟨h1, h2⟩ := hz
    dsimp only at h1 h2 hv
    subst h1 h2 hv
    exact ⟨hget, rfl, rfl, trivial⟩
  obtain ⟨_, its, rv, o, h1, h2, n, h3⟩ := (show ObjOk _ _ H s.heap tp (.tup cs) from I.hok tp _ hT)
  have e3 := ClsV.all k rv
  subst e3
  obtain ⟨oc, od, dt, sl⟩ := o
  simp only at h2 h3
  subst h2 h3
  exact PySem.W.kia_tup (PySem.W.handS_kitx_exc C.hg C.hk C.hs C.hd C.ha C.hn C.ht C.hm) I.kIn J h1 e (fun z => nomatch z) fun tk => ⟨.bl b, H, I.kept (t' := tk) fun _ _ z => z, rfl, q⟩
/-- what the top has written of the classes that _law_refused asks for -/
structure Ref (K : PySem.W.Frag) (mg : Str → Option Value) (BV BC BP : Addr) : Prop where
  isi : mg "isinstance" = none
  ve : mg "ValueError" = none
  bv : mg "BadValue" = some (.ref BV)
  bc : mg "BadCall" = some (.ref BC)
  bp : mg "BadPattern" = some (.ref BP)
  xc : ExcC K BV
  no : PySem.W.kitAny K (.ref BV) [.ref BC, .ref BP] = some false
  yes : PySem.W.kitOne K (.ref BV) (.type "ValueError") = some true
  te : PySem.W.exmOne K (.ref BV) (.ref BV) = some true
/-- the def that is told a refusal -/
def TTref (BV : Addr) : (XK → Hp → VK → Prop) → Hp → VK → Prop := fun tl H Q => ∀ Q' : VK, tl (fun cls d H' => cls = .ref BV ∧ d = none ∧ ∀ H2, Same H' H2 → Q (.str "value") H2) H Q'
theorem scRef : FnScope ["work", "e"] ["work"] (defScope s_ref) := ⟨rfl, rfl, rfl, by decide +kernel, rfl, by decide +kernel, by decide +kernel⟩
abbrev refCx (X : Cx) (g : Addr) (cdg : Value) (s : Shared) (H : Hp) : Cx := (cxOf C8.CX0 X.prog X.w X.K X.mg X.base ["work", "e"] "_law_refused" (defScope s_ref) g cdg X.A X.stack s H C8.E0).nox
theorem ref_gives {X : Cx} {BV BC BP : Addr} {q : Str} {g : Addr} {cdg : Value} (T : Ref X.K X.mg BV BC BP) : GivesTo X ["work", "e"] "_law_refused" (defScope s_ref) g cdg (defBody s_ref) "work" q (TTref BV) := by
  intro f c' s H Q tl act hc h
  refine ⟨_, pss_one (ps_try_as (X := (cxOf C8.CX0 X.prog X.w X.K X.mg X.base ["work", "e"] "_law_refused" (defScope s_ref) g cdg X.A X.stack s H C8.E0).nox) (c := .ref BV) (i := 1) (n := "e")
      (tb := fun W D σ H => ∃ Ech : XK, (∀ cls d σ' H', Ech cls d H' → W cls d σ' H') ∧ σ[0]? = some (some (.ref f)) ∧ H c' = some (CodeO c' q) ∧ ∀ Q' : VK, tl Ech H Q')
      (ts := fun a cls d D σ H => cls = .ref BV ∧ d = none ∧ (∃ σ0 : L2.St, σ = σ0.set 1 (some (.ref a))) ∧ ∀ H2, Same H H2 → D.rt (.str "value") H2)
      rfl rfl scRef.nd rfl rfl ⟨by rfl, by decide, .inl T.bv⟩ L2.takes0 (fun W pn xe tk _ => ?_) (fun a oe cls d pn hz hf => ?_)), ?_⟩
  · refine ⟨fun pins s' σ H' D I h' => ?_⟩
    obtain ⟨Ech, hW, h1, h2, h3⟩ := h'
    refine PSs.run (pss_one (ps_ret (pe_lst (pa_cons (act W pn xe Ech _ _ tk hW) pa_nil)))) pins s' σ H' D I ?_
    exact ⟨h1, h2, h3 _⟩
  · refine ⟨fun pins s' σ H' D I h' => ?_⟩
    obtain ⟨rfl, rfl, h1, h2⟩ := h'
    refine PSs.run (pss_one (ps_ret (pe_ifExp (PW.pt (pw_and (pt_not (pt_val (pe_callB (call_isET (X := refCx X g cdg s H) (a := a) (D := BV) (pn := pn) T.xc hz hf) (by rfl) T.isi boot_isinstance (pa_cons (pv 1) (pa_cons (pe_tup (pa_cons (pe_glob (v := .ref BC) (by rfl) T.bc (by rfl)) (pa_cons (pe_glob (v := .ref BP) (by rfl) T.bp (by rfl)) pa_nil))) pa_nil)))))
      (pw_and1 (pt_val (pe_callB (call_isE (X := refCx X g cdg s H) (a := a) (D := BV) (pn := pn) T.xc hz hf) (by rfl) T.isi boot_isinstance (pa_cons (pv 1) (pa_cons (pe_bltn (v := .ty "ValueError") (by rfl) T.ve (show bootBuiltins "ValueError" = some (.type "ValueError") by decide +kernel) (by rfl)) pa_nil))))))) pe_str pe_str))) pins s' σ H' D I ?_
    obtain ⟨σ0, rfl⟩ := h1
    have hl : (σ0.set 1 (some (V.ref a))).length = 2 := I.len
    have h1 : (σ0.set 1 (some (V.ref a)))[1]? = some (some (.ref a)) := by
      rw [List.length_set] at hl
      rw [List.getElem?_set_self (by omega)]
    exact ⟨.ref a, h1, (by show 2 ≤ sizeLine; decide), fun p np => ⟨p, [.ref BC, .ref BP], [.ref BC, .ref BP], false, rfl, upd_same, .cons (.own _) (.cons (.own _) .nil), T.no, false, rfl, .ref a, h1, .ty "ValueError", .type "ValueError", true, rfl, (fun u r => r), T.yes, true, rfl, h2 _ (same_upd np)⟩⟩
  · exact ⟨fun cls d H' => cls = .ref BV ∧ d = none ∧ ∀ H2, Same H' H2 → Q (.str "value") H2, fun cls d σ' H' ⟨e1, e2, e3⟩ => ⟨true, by rw [e1]; exact T.te, fun _ a _ => ⟨e1, e2, ⟨σ', rfl⟩, e3⟩, fun z => by cases z⟩, rfl, hc, h⟩
end Ck
namespace Ck
open PySem PySem.Spec PyProof.Rows L2 LamX
/-! ### all but the tables stays -/
theorem ext_lst {K : PySem.W.Frag} {H H' : Hp} (s : ExtN H H') {a : Addr} {xs : List V} (hs : SqL K H a xs) : SqL K H' a xs := by
  rcases hs with (h | ⟨o, h⟩) | h
  · exact .inl (.inl (s _ _ h fun _ z => (by cases z)))
  · exact .inl (.inr ⟨o, s _ _ h fun _ z => (by cases z)⟩)
  · exact .inr h
theorem TK.ext {H H' : Hp} (s : ExtN H H') : TK H H' := ⟨fun b _ e => s b _ e fun _ z => (by cases z), fun b _ _ e => s b _ e fun _ z => (by cases z)⟩
theorem TvB.ext {K : PySem.W.Frag} {H H' : Hp} (s : ExtN H H') {v : V} {b : Bool} (h : TvB K H v b) : TvB K H' v b := by
  rcases h with h | ⟨⟨a, xs, e, h⟩, hb⟩ | ⟨⟨a, kvs, e, h⟩, hb⟩
  · exact .inl h
  · exact .inr (.inl ⟨⟨a, xs, e, ext_lst s h⟩, hb⟩)
  · exact .inr (.inr ⟨⟨a, kvs, e, s _ _ h fun _ z => (by cases z)⟩, hb⟩)
theorem Tv.ext {K : PySem.W.Frag} {H H' : Hp} (s : ExtN H H') : ∀ {n : Nat} {v : V} {b : Bool}, Tv K H n v b → Tv K H' n v b
  | 0, _, _, h => TvB.ext s h
  | n + 1, _, _, h => by
    rcases h with h | ⟨a, xs, bs, e, h, hl, p, hb⟩
    · exact .inl (h.ext s)
    · exact .inr ⟨a, xs, bs, e, sqt_tk (TK.ext s) h, hl, paired_mono (fun _ _ q => Tv.ext s q) p, hb⟩
theorem Dr.ext {H H' : Hp} {d g : Addr} {n : Nat} (D : Dr H d g n) (s : ExtN H H') : Dr H' d g n := by
  obtain ⟨c, gs, cs, r, t, h1, h2, h3, z⟩ := D.ex
  exact ⟨c, gs, cs, r, t, s _ _ h1 fun _ z => (by cases z), s _ _ h2 fun _ z => (by cases z), s _ _ h3 fun _ z => (by cases z), z⟩
section
variable {X : Cx} {BV BC BP g c P : Addr} {fdg : FuncData} {k : Nat} {params : Arguments} {body : Expr} {scope : Scope} {t : XK → TE} {p lpos pos : Pos}
theorem pe_refused (FR : Fun X.K "_law_refused" "_law_refused" s_ref g fdg) (gR : X.mg "_law_refused" = some (.ref g)) (T : Ref X.K X.mg BV BC BP) (TB : TabB X.base X.mg c P) (hg : Gl X "_law_refused") (hcode : X.env.code = .ref c) (hr : Room (k + 2) X.A)
    (L : LamS X.env.scope scope) (hdef : defaultsOf params X.env = ([], [])) (hbind : ∀ (q : Str) (cl : List (Str × Addr)) (pm cv ctv : Value), bindArgs (PySem.W.kla_fn "<lambda>" q params body scope cl pm cv ctv) ⟨[], []⟩ = pure [])
    (hbody : ∀ (A : Around) (outer : List Env) (s : Shared) (H : Hp) (E : XK) (f c' : Addr), Room k (A.deeper (lamEnv X scope s.heap.objs.size f c')) → PE (lamCx X A outer s H E scope f c') body (t E)) :
    PE X (.Call (.Name "_law_refused" p) [.Lambda params body scope lpos] [] pos) (tLam [(P, X.env.qual ++ "<lambda>")] (TTref BV) t) := by
  obtain ⟨oc, od, kV, doc, pm, an, cdv, ct, osl, rfl, lk, hcd⟩ := FR.ex
  refine pe_lamcall (g := g) (Ng := ["work", "e"]) (a := "work") hg gR FR.kp lk hcd (Binds.all fun us hl => ?_) scRef rfl (.inl (by rfl)) (ref_gives T) TB hcode (List.mem_singleton.mpr rfl) (fun p hp _ => by rw [List.mem_singleton.mp hp]) hr L hdef hbind hbody
  match us, hl with
  | [_], _ => rfl
end
/-! ### a def whose code object is known -/
structure FunC (K : PySem.W.Frag) (x qual : Str) (st : Stmt) (f : Addr) (fd : FuncData) (c : Addr) : Prop where
  ex : ∃ (oc : Value) (od : Option Addr) (kV doc pm : Value) (an : Option Addr) (ct : Value) (osl : Array (Option Value)),
    fd = PySem.W.fnOf x qual (defArgs st) (defBody st) (defScope st) .none kV doc pm an (.ref c) ct ∧ K.lookup f = some ⟨oc, od, .func fd, osl⟩ ∧ PySem.W.codeIn K (.ref c) qual = true
  kp : PySem.W.keepIn K (.ref f) = true
section
variable {P : Program} {w : World} {K : PySem.W.Frag} {mg : Str → Option Value} {base : Heap} {BV BC BP AK c tb : Addr}
theorem scOdd : FnScope ["odd", "matter", "heard"] ["odd", "matter"] (defScope s_odd) := ⟨rfl, rfl, rfl, by decide +kernel, rfl, by decide +kernel, by decide +kernel⟩
abbrev qOdd : Str := (("_law_odd_right" : Str) ++ ".<locals>.") ++ "<lambda>"
def spOdd (K : PySem.W.Frag) (tb : Addr) (n : Nat) : Sp := fun vs H Q _ => ∃ v u x, vs = [v, u] ∧ Tv K H n v false ∧ Dp K H u x ∧ Vd n x ∧ Tabs [(tb, qOdd)] H ∧ ∀ H', ExtN H H' → Tabs [(tb, qOdd)] H' → Q (.bl true) H'
theorem ext_fresh {H H4 : Hp} {p : Addr} {o : HO} (e : ExtN H H4) (h : H4 p = none) : ExtN H (upd H4 p o) ∧ ∀ o', H p = some o' → ∃ ps, o' = .tbl ps := by
  have k : ∀ o', H p = some o' → ∃ ps, o' = .tbl ps := fun o' ho => by
    refine Classical.byContradiction fun hn => ?_
    have := e p o' ho fun ps z => hn ⟨ps, z⟩
    rw [h] at this
    cases this
  refine ⟨fun b o' ho hn => ?_, k⟩
  have hb : b ≠ p := fun z => by
    rw [z] at ho
    obtain ⟨ps, z⟩ := k o' ho
    exact hn ps z
  rw [upd_ne hb]
  exact e b o' ho hn
theorem ext_put {H H4 : Hp} {p : Addr} {o : HO} (e : ExtN H H4) (k : ∀ o', H p = some o' → ∃ ps, o' = .tbl ps) : ExtN H (upd H4 p o) := fun b o' ho hn => by
  have hb : b ≠ p := fun z => by
    rw [z] at ho
    obtain ⟨ps, z⟩ := k o' ho
    exact hn ps z
  rw [upd_ne hb]
  exact e b o' ho hn
theorem tabs_put {T : List (Addr × Str)} {H : Hp} {p : Addr} {xs : List V} {o : HO} (t : Tabs T H) (h : H p = some (.lst xs)) : Tabs T (upd H p o) := fun r hr => by
  obtain ⟨ps, h1, h2, h3⟩ := t r hr
  refine ⟨ps, by rw [upd_ne (ne_of h1 h fun z => by cases z)]; exact h1, h2, fun pos cv hc => ?_⟩
  obtain ⟨c, e1, e2⟩ := h3 pos cv hc
  exact ⟨c, e1, by rw [upd_ne (ne_of e2 h fun z => by have z' : HO.ext _ = HO.lst xs := z; cases z')]; exact e2⟩
abbrev oddCx (P : Program) (w : World) (K : PySem.W.Frag) (mg : Str → Option Value) (base : Heap) (f c : Addr) (A : Around) (outer : List Env) (s : Shared) (H : Hp) (E : XK) : Cx := cxOf CX0 P w K mg base ["odd", "matter", "heard"] "_law_odd_right" (defScope s_odd) f (.ref c) A outer s H E
theorem ok_odd {f g : Addr} {fd fdg : FuncData} {n : Nat} (hn : n ≤ 30) (F : FunC K "_law_odd_right" "_law_odd_right" s_odd f fd c) (T : Ref K mg BV BC BP) (G : Prg P w K mg base BV n) (FR : Fun K "_law_refused" "_law_refused" s_ref g fdg) (gR : mg "_law_refused" = some (.ref g))
    (TB : TabB base mg c tb) : FnOk P w K mg base CX0 (n + 7) f fd ["odd", "matter"] (spOdd K tb n) := by
  obtain ⟨oc, od, kV, doc, pm, an, ct, osl, rfl, lk, hcd⟩ := F.ex
  obtain ⟨fK, dK, GK, gK, kK, bK, _⟩ := G.kind
  obtain ⟨fC, dC, GC, gC, kC, bC, _⟩ := G.cmp
  obtain ⟨fS, dS, GS, gS, kS, bS, _⟩ := G.same
  obtain ⟨fI, dI, GI, gI, kI, bI, _⟩ := G.isv
  have GK := GK.mono (show n + 3 ≤ n + 4 by omega)
  have GC := GC.mono (show n + 3 ≤ n + 4 by omega)
  have GI := GI.mono (show n + 1 ≤ n + 6 by omega)
  refine fn_of lk hcd scOdd (fun vs H Q E h => ?_) fun A outer s H vs Q E hr h => ?_
  · obtain ⟨v, u, x, rfl, _⟩ := h
    rfl
  · obtain ⟨v, u, x, rfl, hv, hu, vu, hT, q⟩ := h
    refine ⟨_, pss_cons (ps_set (i := 2) scOdd.nd rfl (.inl rfl) (pe_lst (pa_cons (pe_refused (X := oddCx P w K mg base f c A outer s H E) (k := n + 4) FR gR T TB (by rfl) rfl hr (lamS_by (by show lamSB (defScope s_odd) _ = true; decide +kernel)) rfl (fun _ _ _ _ _ => rfl)
        (fun A outer s H E f c' hr => pe_call (E := E) GK hr (by rfl) gK kK bK .nil (passes_call (takes_of rfl rfl rfl rfl) fun _ _ _ _ h => h) (pa_cons (pv 0) pa_nil))) pa_nil)))
      (pss_cons (ps_expr (pe_bm PySem.F.plainAttrs_list PySem.F.slot_list_append PySem.F.type_list_append mt_append (pv 2) (pa_cons (pe_refused (X := oddCx P w K mg base f c A outer s H E) (k := n + 4) FR gR T TB (by rfl) rfl hr (lamS_by (by show lamSB (defScope s_odd) _ = true; decide +kernel)) rfl (fun _ _ _ _ _ => rfl)
        (fun A outer s H E f c' hr => pe_call (E := E) GS hr (by rfl) gS kS bS .nil (passes_call (takes_of rfl rfl rfl rfl) fun _ _ _ _ h => h) (pa_cons (pv 0) (pa_cons (pv 1) pa_nil)))) pa_nil)))
      (pss_cons (ps_expr (pe_bm PySem.F.plainAttrs_list PySem.F.slot_list_append PySem.F.type_list_append mt_append (pv 2) (pa_cons (pe_refused (X := oddCx P w K mg base f c A outer s H E) (k := n + 4) FR gR T TB (by rfl) rfl hr (lamS_by (by show lamSB (defScope s_odd) _ = true; decide +kernel)) rfl (fun _ _ _ _ _ => rfl)
        (fun A outer s H E f c' hr => pe_call (E := E) GS hr (by rfl) gS kS bS .nil (passes_call (takes_of rfl rfl rfl rfl) fun _ _ _ _ h => h) (pa_cons (pv 1) (pa_cons (pv 0) pa_nil)))) pa_nil)))
      (pss_cons (ps_expr (pe_bm PySem.F.plainAttrs_list PySem.F.slot_list_append PySem.F.type_list_append mt_append (pv 2) (pa_cons (pe_refused (X := oddCx P w K mg base f c A outer s H E) (k := n + 4) FR gR T TB (by rfl) rfl hr (lamS_by (by show lamSB (defScope s_odd) _ = true; decide +kernel)) rfl (fun _ _ _ _ _ => rfl)
        (fun A outer s H E f c' hr => pe_call (E := E) GC hr (by rfl) gC kC bC .nil (passes_call (takes_of rfl rfl rfl rfl) fun _ _ _ _ h => h) (pa_cons (pv 0) (pa_cons (pv 1) pa_nil)))) pa_nil)))
      (pss_cons (ps_expr (pe_bm PySem.F.plainAttrs_list PySem.F.slot_list_append PySem.F.type_list_append mt_append (pv 2) (pa_cons (pe_refused (X := oddCx P w K mg base f c A outer s H E) (k := n + 4) FR gR T TB (by rfl) rfl hr (lamS_by (by show lamSB (defScope s_odd) _ = true; decide +kernel)) rfl (fun _ _ _ _ _ => rfl)
        (fun A outer s H E f c' hr => pe_call (E := E) GC hr (by rfl) gC kC bC .nil (passes_call (takes_of rfl rfl rfl rfl) fun _ _ _ _ h => h) (pa_cons (pv 1) (pa_cons (pv 0) pa_nil)))) pa_nil)))
      (pss_one (ps_ret (pe_and (pe_cmpR (op_eqD hr.units) (pv 2) (pe_op op_rep (pe_lst (pa_cons pe_str pa_nil)) pe_int) (nomark _)) (pe_one (pe_cmpR op_isBl (pe_call GI hr (by rfl) gI kI bI .nil pass0 (pa_cons (pv 0) pa_nil)) pe_bl (nomark _)))))))))), ?_⟩
    have hU : ∀ {H' : Hp}, ExtN H H' → Dp K H' u x := fun {H'} e => dpv_tk (TK.ext e) x u vu.v hu
    refine ⟨hT, fun Ha ea ta Qa => ⟨v, rfl, v, none, rfl, hv.ext ea, (fun d hd => by cases hd), fun _ Hb sb => ⟨rfl, rfl, fun Hc sc => ⟨(by show 1 ≤ sizeLine; decide), fun p np => ?_⟩⟩⟩⟩
    obtain ⟨e1, kp⟩ := ext_fresh (o := .lst [.str "value"]) ((ea.trans (ExtN.of sb)).trans (ExtN.of sc)) np
    have t1 : Tabs [(tb, qOdd)] (upd Hc p (.lst [.str "value"])) := ((ta.ext sb).ext sc).ext (same_upd np)
    have l1 : (upd Hc p (.lst [.str "value"])) p = some (.lst [.str "value"]) := upd_same
    generalize upd Hc p (.lst [.str "value"]) = H1 at e1 t1 l1
    refine ⟨.ref p, rfl, .inl ⟨rfl, _, .of l1⟩, t1, fun Ha ea ta Qa => ⟨v, rfl, u, rfl, v, u, none, some x, rfl, hv.ext (e1.trans ea), ⟨hU (e1.trans ea), vu⟩, (fun d e hd he => by cases hd), fun _ Hb sb => ⟨rfl, rfl, fun Hc sc => ?_⟩⟩⟩
    have l1' := sc _ _ (sb _ _ (ea _ _ l1 fun _ z => (by cases z)))
    refine ⟨p, _, .str "value", rfl, rfl, l1', (by show 1 < sizeLine; decide), ?_⟩
    have e2 : ExtN H (upd Hc p (.lst ([.str "value"] ++ [.str "value"]))) := ext_put (((e1.trans ea).trans (ExtN.of sb)).trans (ExtN.of sc)) kp
    have t2 : Tabs [(tb, qOdd)] (upd Hc p (.lst ([.str "value"] ++ [.str "value"]))) := tabs_put ((ta.ext sb).ext sc) l1'
    have l2 : (upd Hc p (.lst ([.str "value"] ++ [.str "value"]))) p = some (.lst [.str "value", .str "value"]) := upd_same
    generalize upd Hc p (.lst ([.str "value"] ++ [.str "value"])) = H2 at e2 t2 l2
    refine ⟨.ref p, rfl, .inl ⟨rfl, _, .of l2⟩, t2, fun Ha ea ta Qa => ⟨u, rfl, v, rfl, u, v, some x, none, rfl, ⟨hU (e2.trans ea), vu⟩, hv.ext (e2.trans ea), (fun d e hd he => by cases he), fun _ Hb sb => ⟨rfl, rfl, fun Hc sc => ?_⟩⟩⟩
    have l2' := sc _ _ (sb _ _ (ea _ _ l2 fun _ z => (by cases z)))
    refine ⟨p, _, .str "value", rfl, rfl, l2', (by show 2 < sizeLine; decide), ?_⟩
    have e3 : ExtN H (upd Hc p (.lst ([.str "value", .str "value"] ++ [.str "value"]))) := ext_put (((e2.trans ea).trans (ExtN.of sb)).trans (ExtN.of sc)) kp
    have t3 : Tabs [(tb, qOdd)] (upd Hc p (.lst ([.str "value", .str "value"] ++ [.str "value"]))) := tabs_put ((ta.ext sb).ext sc) l2'
    have l3 : (upd Hc p (.lst ([.str "value", .str "value"] ++ [.str "value"]))) p = some (.lst [.str "value", .str "value", .str "value"]) := upd_same
    generalize upd Hc p (.lst ([.str "value", .str "value"] ++ [.str "value"])) = H3 at e3 t3 l3
    refine ⟨.ref p, rfl, .inl ⟨rfl, _, .of l3⟩, t3, fun Ha ea ta Qa => ⟨v, rfl, u, rfl, v, u, none, some x, rfl, hv.ext (e3.trans ea), ⟨hU (e3.trans ea), vu⟩, (fun d e hd he => by cases hd), fun _ Hb sb => ⟨rfl, rfl, fun Hc sc => ?_⟩⟩⟩
    have l3' := sc _ _ (sb _ _ (ea _ _ l3 fun _ z => (by cases z)))
    refine ⟨p, _, .str "value", rfl, rfl, l3', (by show 3 < sizeLine; decide), ?_⟩
    have e4 : ExtN H (upd Hc p (.lst ([.str "value", .str "value", .str "value"] ++ [.str "value"]))) := ext_put (((e3.trans ea).trans (ExtN.of sb)).trans (ExtN.of sc)) kp
    have t4 : Tabs [(tb, qOdd)] (upd Hc p (.lst ([.str "value", .str "value", .str "value"] ++ [.str "value"]))) := tabs_put ((ta.ext sb).ext sc) l3'
    have l4 : (upd Hc p (.lst ([.str "value", .str "value", .str "value"] ++ [.str "value"]))) p = some (.lst [.str "value", .str "value", .str "value", .str "value"]) := upd_same
    generalize upd Hc p (.lst ([.str "value", .str "value", .str "value"] ++ [.str "value"])) = H4 at e4 t4 l4
    refine ⟨.ref p, rfl, .inl ⟨rfl, _, .of l4⟩, t4, fun Ha ea ta Qa => ⟨u, rfl, v, rfl, u, v, some x, none, rfl, ⟨hU (e4.trans ea), vu⟩, hv.ext (e4.trans ea), (fun d e hd he => by cases he), fun _ Hb sb => ⟨rfl, rfl, fun Hc sc => ?_⟩⟩⟩
    have l4' := sc _ _ (sb _ _ (ea _ _ l4 fun _ z => (by cases z)))
    refine ⟨p, _, .str "value", rfl, rfl, l4', (by show 4 < sizeLine; decide), ?_⟩
    have e5 : ExtN H (upd Hc p (.lst ([.str "value", .str "value", .str "value", .str "value"] ++ [.str "value"]))) := ext_put (((e4.trans ea).trans (ExtN.of sb)).trans (ExtN.of sc)) kp
    have t5 : Tabs [(tb, qOdd)] (upd Hc p (.lst ([.str "value", .str "value", .str "value", .str "value"] ++ [.str "value"]))) := tabs_put ((ta.ext sb).ext sc) l4'
    have l5 : (upd Hc p (.lst ([.str "value", .str "value", .str "value", .str "value"] ++ [.str "value"]))) p = some (.lst [.str "value", .str "value", .str "value", .str "value", .str "value"]) := upd_same
    generalize upd Hc p (.lst ([.str "value", .str "value", .str "value", .str "value"] ++ [.str "value"])) = H5 at e5 t5 l5
    refine ⟨.ref p, rfl, (by show 1 ≤ sizeLine; decide), fun p2 np2 => ⟨p2, 5, [.str "value"], rfl, rfl, upd_same, by decide, by decide, (by show 1 * 5 ≤ sizeLine; decide), fun p3 np3 => ?_⟩⟩
    have s5 : Same H5 (upd (upd H5 p2 (.lst [.str "value"])) p3 (.lst (List.replicate (5 : Int).toNat [V.str "value"]).flatten)) := (same_upd np2).trans (same_upd np3)
    refine ⟨.list [.str "value", .str "value", .str "value", .str "value", .str "value"], .list [.str "value", .str "value", .str "value", .str "value", .str "value"], .lst (.inl (.inl (s5 _ _ l5))) (.cons (.str _) (.cons (.str _) (.cons (.str _) (.cons (.str _) (.cons (.str _) .nil))))), .lst (.inl (.inl upd_same)) (.cons (.str _) (.cons (.str _) (.cons (.str _) (.cons (.str _) (.cons (.str _) .nil))))), by decide +kernel, by decide +kernel, ?_⟩
    have ev : PyData.eqv (.list [.str "value", .str "value", .str "value", .str "value", .str "value"]) (.list [.str "value", .str "value", .str "value", .str "value", .str "value"]) = true := by simp [PyData.eqv, PyData.eqvAll]
    rw [ev]
    refine ⟨true, rfl, ?_⟩
    refine iteT ?_
    refine ⟨v, rfl, v, false, rfl, hv.ext (e5.trans (ExtN.of s5)), fun H6 s6 => ⟨false, false, rfl, rfl, ?_⟩⟩
    exact q H6 ((e5.trans (ExtN.of s5)).trans (ExtN.of s6)) ((t5.ext s5).ext s6)
end
end Ck
namespace Ck
open PySem PySem.Spec PyProof.Rows L2 LamX
abbrev s_law : Stmt := topS 26
theorem asymV {x y : PyData} (hx : isV x = true) (hy : isV y = true) (h : ltV x y = true) : ltV y x = false := by
  cases e : eqV x y with
  | true =>
    have := eqV_eq x y e
    subst this
    exact ltV_irr x hx
  | false =>
    have t := ltV_tot x y hx hy e
    rw [h] at t
    cases q : ltV y x with
    | false => rfl
    | true => rw [q] at t; cases t
theorem cmp_le {x y : PyData} (h : cmpV x y ≤ 0) : ltV x y = true ∨ ltV y x = false := by
  unfold cmpV at h
  cases a : ltV x y with
  | true => exact .inl rfl
  | false =>
    right
    rw [a, if_neg Bool.false_ne_true] at h
    cases b : ltV y x with
    | false => rfl
    | true => rw [b] at h; exact absurd h (by decide)
theorem cmp_trans {x y z : PyData} (hx : isV x = true) (hy : isV y = true) (hz : isV z = true) (h1 : cmpV x y ≤ 0) (h2 : cmpV y z ≤ 0) : ¬ cmpV x z > 0 := fun h => by
  have e : ltV z x = true := by
    unfold cmpV at h
    cases a : ltV x z with
    | true =>
      rw [a, if_pos rfl] at h
      exact absurd h (by decide)
    | false =>
      rw [a, if_neg Bool.false_ne_true] at h
      cases b : ltV z x with
      | true => rfl
      | false =>
        rw [b, if_neg Bool.false_ne_true] at h
        exact absurd h (by decide)
  rcases ltV_neg z y x hz hy hx e with k | k
  · rcases cmp_le h2 with q | q
    · rw [asymV hy hz q] at k; cases k
    · rw [q] at k; cases k
  · rcases cmp_le h1 with q | q
    · rw [asymV hx hy q] at k; cases k
    · rw [q] at k; cases k
theorem tabs_keep {T : List (Addr × Str)} {H H' : Hp} {d g : Addr} {n : Nat} (D : Dr H d g n) (k : Keep d g H H') (t : Tabs T H) : Tabs T H' := fun r hr => by
  obtain ⟨c, gs, cs, r0, t0, h1, h2, _⟩ := D.ex
  obtain ⟨ps, e1, e2, e3⟩ := t r hr
  refine ⟨ps, k _ _ (ne_of e1 h1 fun z => by cases z) (ne_of e1 h2 fun z => by cases z) e1, e2, fun pos cv hc => ?_⟩
  obtain ⟨c', q1, q2⟩ := e3 pos cv hc
  exact ⟨c', q1, k _ _ (ne_of q2 h1 fun z => by have z' : HO.ext _ = HO.dK _ := z; cases z') (ne_of q2 h2 fun z => by have z' : HO.ext _ = HO.lst _ := z; cases z') q2⟩
theorem same_upd2 {H : Hp} {p : Addr} {o o' : HO} (h : H p = none) : Same H (upd (upd H p o) p o') := fun b x e => by
  rw [upd_ne (ne_of_none e h), upd_ne (ne_of_none e h)]
  exact e
section
variable {P : Program} {w : World} {K : PySem.W.Frag} {mg : Str → Option Value} {base : Heap} {BV AK tb : Addr}
def nmL : List Str := ["script", "state", "turn", "first", "lap", "second", "third", "matter", "pair", "odd"]
theorem scLaw : FnScope nmL ["script"] (defScope s_law) := ⟨rfl, rfl, rfl, by decide +kernel, rfl, by decide +kernel, by decide +kernel⟩
def spLaw (K : PySem.W.Frag) (tb : Addr) : Sp := fun vs H Q _ => ∃ (a : Addr) (ns : List Int), vs = [.ref a] ∧ SqL K H a (ns.map V.int) ∧ ns.length ≤ 63 ∧ Tabs [(tb, qOdd)] H ∧ ∀ H', Q (.bl true) H'
/-- the law's own defs -/
structure Lw (P : Program) (w : World) (K : PySem.W.Frag) (mg : Str → Option Value) (base : Heap) (tb : Addr) : Prop where
  val : ∃ f fd, FnOk P w K mg base CX0 7 f fd ["state", "deep"] (spLV K 3) ∧ mg "_law_value" = some (.ref f) ∧ PySem.W.keepIn K (.ref f) = true ∧ Binds K fd ["state", "deep"] []
  kind : ∃ f fd, FnOk P w K mg base CX0 1 f fd ["matter"] (spLK K) ∧ mg "_law_kind" = some (.ref f) ∧ PySem.W.keepIn K (.ref f) = true ∧ Binds K fd ["matter"] []
  near : ∃ f fd, FnOk P w K mg base CX0 15 f fd ["state", "matter"] (spLN K 9) ∧ mg "_law_near" = some (.ref f) ∧ PySem.W.keepIn K (.ref f) = true ∧ Binds K fd ["state", "matter"] []
  pair : ∃ f fd, FnG P w K mg base CX0 17 f fd ["unit", "second_one"] (spPR K 12) ∧ mg "_law_pair_right" = some (.ref f) ∧ PySem.W.keepIn K (.ref f) = true ∧ Binds K fd ["unit", "second_one"] []
  odd : ∃ f fd, FnOk P w K mg base CX0 19 f fd ["odd", "matter"] (spOdd K tb 12) ∧ mg "_law_odd_right" = some (.ref f) ∧ PySem.W.keepIn K (.ref f) = true ∧ Binds K fd ["odd", "matter"] []
theorem ok_law {f : Addr} {fdd : FuncData} (F : Fun K "law" "law" s_law f fdd) (D0 : Drs P w K mg base) (G : Prg P w K mg base BV 12) (L : Lw P w K mg base tb) : FnG P w K mg base CX0 20 f fdd ["script"] (spLaw K tb) := by
  obtain ⟨fB, dB, GB, gB, kB, bB⟩ := D0.beg
  obtain ⟨fP, dP, GP, gP, kP, bP⟩ := D0.pick
  obtain ⟨fV, dV, GV, gV, kV, bV⟩ := L.val
  obtain ⟨fQ, dQ, GQ, gQ, kQ, bQ⟩ := L.kind
  obtain ⟨fN, dN, GN, gN, kN, bN⟩ := L.near
  obtain ⟨fR, dR, GR, gR, kR, bR⟩ := L.pair
  obtain ⟨fO, dO, GO, gO, kO, bO⟩ := L.odd
  obtain ⟨fI, dI, GI, gI, kI, bI, kbI⟩ := G.isv
  obtain ⟨fK, dK, GK, gK, kK, bK, kbK⟩ := G.kind
  obtain ⟨fC, dC, GC, gC, kC, bC, _⟩ := G.cmp
  refine fnG_of F scLaw (fun vs H Q E h => ?_) (fun cdv Z outer s H vs Q E hgd hr h => ?_)
  · obtain ⟨a, ns, rfl, _⟩ := h
    rfl
  · obtain ⟨a, ns, rfl, hS, hlen, hT, q⟩ := h
    refine ⟨_, PSs.nox (pss_cons (ps_set (i := 1) scLaw.nd rfl (.inl rfl) (pe_call GB (hr.mono (by decide)) (by rfl) gB kB bB .nil pass0 (pa_cons (pv 0) pa_nil)))
      (pss_cons (ps_for PassesOwn.never rfl (pi_range1 (by rfl) D0.range (pa_cons pe_int pa_nil)) (pg_name (i := 2) scLaw.nd rfl (.inl rfl))
        (pss_cons (ps_set (i := 3) scLaw.nd rfl (.inl rfl) (pe_call GV (hr.mono (by decide)) (by rfl) gV kV bV .nil pass0 (pa_cons (pv 1) (pa_cons pe_int pa_nil))))
        (pss_cons (ps_for PassesOwn.never rfl (pi_range1 (by rfl) D0.range (pa_cons (pe_call GP (hr.mono (by decide)) (by rfl) gP kP bP .nil pass0 (pa_cons (pv 1) (pa_cons (pe_lst (pa_cons pe_int (pa_cons pe_int (pa_cons pe_int (pa_cons pe_int pa_nil))))) pa_nil))) pa_nil)) (pg_name (i := 4) scLaw.nd rfl (.inl rfl))
          (pss_one (ps_set (i := 3) scLaw.nd rfl (.inl rfl) (pe_tup (pa_cons (pv 3) pa_nil)))))
        (pss_cons (ps_par (i := 5) (j := 6) rfl scLaw.nd rfl rfl (by decide) rfl rfl (pa_cons (pe_call GN (hr.mono (by decide)) (by rfl) gN kN bN .nil pass0 (pa_cons (pv 1) (pa_cons (pv 3) pa_nil))) (pa_cons (pe_call GV (hr.mono (by decide)) (by rfl) gV kV bV .nil pass0 (pa_cons (pv 1) (pa_cons pe_int pa_nil))) pa_nil)) (by rfl))
        (pss_cons (ps_for PassesOwn.never rfl (pi_list (pe_lst (pa_cons (pv 3) (pa_cons (pv 5) (pa_cons (pv 6) pa_nil))))) (pg_name (i := 7) scLaw.nd rfl (.inl rfl))
          (pss_cons (ps_if (PW.pt (pw_or (pt_cmpR op_ne (pe_call GK (hr.mono (by decide)) (by rfl) gK kK bK .nil passL (pa_cons (pv 7) pa_nil)) (pe_call GQ (hr.mono (by decide)) (by rfl) gQ kQ bQ .nil pass0 (pa_cons (pv 7) pa_nil)) (nomark _))
            (pw_or1 (pt_cmpR op_ne (pe_callK0 GK (hr.mono (by decide)) (by rfl) gK kK kbK passL (pk_cons (pv 7) pk_nil)) (pe_call GQ (hr.mono (by decide)) (by rfl) gQ kQ bQ .nil pass0 (pa_cons (pv 7) pa_nil)) (nomark _))))) (pss_one (ps_ret pe_bl)) pss_nil)
          (pss_one (ps_if (PW.pt (pw_or (pt_cmpR op_notBl (pe_call GI (hr.mono (by decide)) (by rfl) gI kI bI .nil pass0 (pa_cons (pv 7) pa_nil)) pe_bl (nomark _))
            (pw_or1 (pt_cmpR op_notBl (pe_callK0 GI (hr.mono (by decide)) (by rfl) gI kI kbI pass0 (pk_cons (pv 7) pk_nil)) pe_bl (nomark _))))) (pss_one (ps_ret pe_bl)) pss_nil))))
        (pss_cons (ps_for PassesOwn.never rfl (pi_list (pe_lst (pa_cons (pe_tup (pa_cons (pv 3) (pa_cons (pv 5) pa_nil))) (pa_cons (pe_tup (pa_cons (pv 5) (pa_cons (pv 6) pa_nil))) (pa_cons (pe_tup (pa_cons (pv 3) (pa_cons (pv 6) pa_nil))) (pa_cons (pe_tup (pa_cons (pv 3) (pa_cons (pv 3) pa_nil))) pa_nil)))))) (pg_name (i := 8) scLaw.nd rfl (.inl rfl))
          (pss_one (ps_if (pt_not (pt_val (pe_callG hgd GR (hr.mono (by decide)) (by rfl) gR kR bR .nil pass0 (pa_cons (pe_ix (ix_tupK K rfl) (pv 8) pe_int (fun _ _ => rfl)) (pa_cons (pe_ix (ix_tupK K rfl) (pv 8) pe_int (fun _ _ => rfl)) pa_nil))))) (pss_one (ps_ret pe_bl)) pss_nil)))
        (Evl.pss_cut (ps_if (PW.pt (pw_and (pt_cmpR op_le (pe_call GC (hr.mono (by decide)) (by rfl) gC kC bC .nil passL (pa_cons (pv 3) (pa_cons (pv 5) pa_nil))) pe_int (nomark _)) (pw_and (pt_cmpR op_le (pe_call GC (hr.mono (by decide)) (by rfl) gC kC bC .nil passL (pa_cons (pv 5) (pa_cons (pv 6) pa_nil))) pe_int (nomark _)) (pw_and1 (pt_cmpR op_gt (pe_call GC (hr.mono (by decide)) (by rfl) gC kC bC .nil passL (pa_cons (pv 3) (pa_cons (pv 6) pa_nil))) pe_int (nomark _)))))) (pss_one (ps_ret pe_bl)) pss_nil)
        (pss_cons (ps_set (i := 9) scLaw.nd rfl (.inl rfl) (pe_call GP (hr.mono (by decide)) (by rfl) gP kP bP .nil pass0 (pa_cons (pv 1) (pa_cons (pe_lst (pa_cons (pe_lst pa_nil) (pa_cons (pe_lst (pa_cons (pv 3) pa_nil)) (pa_cons pe_dnewK (pa_cons (pe_disp (pps_cons pe_str (pv 3) pps_nil) (by rfl) (by rfl) (fun z => by cases z) (by decide)) (pa_cons (pe_tup (pa_cons (pv 3) (pa_cons (pe_lst pa_nil) pa_nil))) (pa_cons (pe_tup (pa_cons (pe_tup pa_nil) (pa_cons (pe_tup (pa_cons pe_dnewK pa_nil)) pa_nil))) (pa_cons (pe_lst (pa_cons (pe_tup pa_nil) pa_nil)) pa_nil)))))))) pa_nil))))
        (pss_one (ps_if (pt_not (pt_val (pe_call GO hr (by rfl) gO kO bO .nil pass0 (pa_cons (pv 9) (pa_cons (pv 3) pa_nil))))) (pss_one (ps_ret pe_bl)) pss_nil))))))))))
      (pss_one (ps_ret pe_bl)))), ?_⟩
    refine ⟨.ref a, rfl, a, ns, rfl, hS, hlen, fun d g H1 nd ng s1 D => ?_⟩
    refine ⟨6, rfl, by decide, by decide, for_range (lo := 0) (n := 6) (fun i σ H => ∃ v2 v3 v4 v5 v6 v7 v8 v9 : Option V, σ = [some (.ref a), some (.ref d), v2, v3, v4, v5, v6, v7, v8, v9] ∧ Dr H d g (1000 - 100 * i) ∧ Tabs [(tb, qOdd)] H)
      ⟨none, none, none, none, none, none, none, none, rfl, D.less (by decide), hT.ext s1⟩ ?_ ?_⟩
    · rintro i σ H2 hi ⟨v2, v3, v4, v5, v6, v7, v8, v9, rfl, D2, T2⟩
      obtain ⟨m, hm⟩ : ∃ m, 1000 - 100 * i = m + 100 := ⟨900 - 100 * i, by omega⟩
      rw [hm] at D2
      -- first = _law_value(state, 3)
      refine ⟨.ref d, rfl, d, g, m + 70, 3, rfl, D2.less (by show m + 70 + 30 ≤ m + 100; omega), by decide, fun f0 x0 H3 k3 D3 hx0 wx0 vx0 => ?_⟩
      have T3 := tabs_keep D2 k3 T2
      -- for lap in range(_law_pick(state, [0, 0, 0, 6]))
      refine ⟨.ref d, rfl, by decide, fun p1 np1 => ⟨d, g, p1, m + 69, [.int 0, .int 0, .int 0, .int 6], rfl, D3.mono (same_upd np1), (D3.off np1).1, (D3.off np1).2, upd_same, by decide, by decide, fun lp H4 hlp k4 D4 => ?_⟩⟩
      have s4 : Same H3 (upd H3 p1 (.lst [.int 0, .int 0, .int 0, .int 6])) := same_upd np1
      have T4 := tabs_keep (D3.mono s4) k4 (T3.ext s4)
      have hx4 := dpv_tk (TK.keep (D3.mono s4) k4) x0 f0 vx0.v (dp_mono s4 x0 f0 hx0)
      obtain ⟨j, rfl, hj⟩ : ∃ j : Nat, lp = .int j ∧ j ≤ 6 := by
        simp only [List.mem_cons, List.not_mem_nil, or_false] at hlp
        rcases hlp with rfl | rfl | rfl | rfl
        · exact ⟨0, rfl, by decide⟩
        · exact ⟨0, rfl, by decide⟩
        · exact ⟨0, rfl, by decide⟩
        · exact ⟨6, rfl, by decide⟩
      refine ⟨(j : Int), rfl, by omega, by omega, for_range (lo := 0) (n := (j : Int).toNat) (fun l σ H => ∃ (w4 : Option V) (f1 : V) (x1 : PyData), σ = [some (.ref a), some (.ref d), some (.int (0 + (i : Int))), some f1, w4, v5, v6, v7, v8, v9] ∧ Dr H d g (m + 69) ∧ Tabs [(tb, qOdd)] H ∧ Dp K H f1 x1 ∧ isV x1 = true ∧ wd 40 x1 = true ∧ x1.depth ≤ 3 + l)
        ⟨v4, f0, x0, rfl, D4, T4, hx4, vx0.v, wx0, vx0.d⟩ ?_ ?_⟩
      · rintro l σ H5 hl ⟨w4, f1, x1, rfl, D5, T5, hx1, vx1, wx1, dx1⟩
        refine ⟨f1, rfl, (by show 1 ≤ sizeLine; decide), fun p np => ⟨_, .ref p, .tuple [x1], rfl, D5.mono (same_upd np), T5.ext (same_upd np), .tup (.inl (.inl upd_same)) (.cons (dp_mono (same_upd np) x1 f1 hx1) .nil), ?_, ?_, ?_⟩⟩
        · show (isV x1 && true) = true
          rw [vx1]
          rfl
        · show (decide (1 ≤ 40) && (wd 40 x1 && true)) = true
          rw [wx1]
          rfl
        · show max x1.depth 0 + 1 ≤ 3 + (l + 1)
          omega
      rintro σ H5 ⟨w4, f1, x1, rfl, D5, T5, hx1, vx1, wx1, dx1⟩
      have dx1 : x1.depth ≤ 9 := by omega
      -- second, third = (_law_near(state, first), _law_value(state, 2))
      refine ⟨.ref d, rfl, f1, rfl, d, g, m + 40, f1, x1, rfl, D5.less (by omega), hx1, vx1, wx1, dx1, fun f2 x2 H6 k6 D6 hx2 vx2 => ?_⟩
      refine ⟨.ref d, rfl, d, g, m + 26, 2, rfl, D6.less (by show m + 26 + 14 ≤ m + 40; omega), by decide, fun f3 x3 H7 k7 D7 hx3 wx3 vx3 => ⟨f2, f3, rfl, ?_⟩⟩
      have T7 := tabs_keep D6 k7 (tabs_keep D5 k6 T5)
      have a1 : Dp K H7 f1 x1 := dpv_tk (TK.keep D6 k7) x1 f1 vx1 (dpv_tk (TK.keep D5 k6) x1 f1 vx1 hx1)
      have a2 : Dp K H7 f2 x2 := dpv_tk (TK.keep D6 k7) x2 f2 vx2.v hx2
      have b1 : Vd 12 x1 := ⟨vx1, wd_mono (by decide) x1 wx1, by omega⟩
      have b2 : Vd 12 x2 := vx2.up (by decide)
      have b3 : Vd 12 x3 := vx3.up (by decide)
      -- for matter in [first, second, third]
      refine ⟨f1, rfl, f2, rfl, f3, rfl, (by show 3 ≤ sizeLine; decide), fun pl npl => ?_⟩
      have s8 : Same H7 (upd H7 pl (.lst [f1, f2, f3])) := same_upd npl
      have all8 : ∀ (e : Nat) (y : V), [f1, f2, f3][e]? = some y → ∃ z, Dp K H7 y z ∧ Vd 12 z := fun e y h => by
        match e with
        | 0 => obtain rfl := Option.some.inj h; exact ⟨x1, a1, b1⟩
        | 1 => obtain rfl := Option.some.inj h; exact ⟨x2, a2, b2⟩
        | 2 => obtain rfl := Option.some.inj h; exact ⟨x3, hx3, b3⟩
        | e + 3 => simp at h
      refine ⟨pl, rfl, ⟨[f1, f2, f3], .of upd_same⟩, for_list (K := K) (a := pl) (xs := [f1, f2, f3]) (fun _ σ H => ∃ w7 : Option V, σ = [some (.ref a), some (.ref d), some (.int (0 + (i : Int))), some f1, w4, some f2, some f3, w7, v8, v9] ∧ Same (upd H7 pl (.lst [f1, f2, f3])) H)
        ⟨v7, rfl, Same.refl _⟩ (fun _ σ H _ h => by obtain ⟨_, _, s9⟩ := h; exact .of (s9 _ _ upd_same)) ?_ ?_⟩
      · rintro e y σ H8 hy ⟨w7, rfl, s9⟩
        obtain ⟨z, hz, vz⟩ := all8 e y hy
        have ob : ∀ {H' : Hp}, Same H8 H' → Ob K H' 12 y (some z) := fun s => ⟨dp_mono ((s8.trans s9).trans s) z y hz, vz⟩
        refine ⟨y, rfl, y, some z, rfl, ob (Same.refl _), fun d' hd H9 s10 => ?_, fun h => by cases h⟩
        obtain rfl := Option.some.inj hd
        refine ⟨y, rfl, y, z, rfl, (ob s10).1, vz.v, rfl, _, rfl, ?_⟩
        rw [decide_eq_true rfl]
        refine iteF ?_
        refine ⟨y, rfl, y, some z, rfl, ob s10, fun d' hd H10 s11 => ?_, fun h => by cases h⟩
        obtain rfl := Option.some.inj hd
        refine ⟨y, rfl, y, z, rfl, (ob (s10.trans s11)).1, vz.v, rfl, _, rfl, ?_⟩
        rw [decide_eq_true rfl]
        refine iteF ?_
        refine ⟨y, rfl, y, true, rfl, (ob (s10.trans s11)).tv, fun H11 s12 => ⟨true, true, rfl, rfl, _, rfl, ?_⟩⟩
        refine iteF ?_
        refine ⟨y, rfl, y, true, rfl, (ob ((s10.trans s11).trans s12)).tv, fun H12 s13 => ⟨true, true, rfl, rfl, _, rfl, ?_⟩⟩
        refine iteF ?_
        exact ⟨_, rfl, s9.trans (((s10.trans s11).trans s12).trans s13)⟩
      rintro σ H8 ⟨w7, rfl, s9⟩
      have s78 : Same H7 H8 := s8.trans s9
      -- for pair in [..]
      refine ⟨f1, rfl, f2, rfl, (by show 2 ≤ sizeLine; decide), fun t1 n1 => ⟨f2, rfl, f3, rfl, (by show 2 ≤ sizeLine; decide), fun t2 n2 => ⟨f1, rfl, f3, rfl, (by show 2 ≤ sizeLine; decide), fun t3 n3 => ⟨f1, rfl, f1, rfl, (by show 2 ≤ sizeLine; decide), fun t4 n4 => ⟨(by show 4 ≤ sizeLine; decide), fun pp npp => ?_⟩⟩⟩⟩⟩
      have u1 := same_upd (o := HO.tup [f1, f2]) n1
      have u2 := same_upd (o := HO.tup [f2, f3]) n2
      have u3 := same_upd (o := HO.tup [f1, f3]) n3
      have u4 := same_upd (o := HO.tup [f1, f1]) n4
      have u5 := same_upd (o := HO.lst [V.ref t1, V.ref t2, V.ref t3, V.ref t4]) npp
      have g1 := u5 _ _ (u4 _ _ (u3 _ _ (u2 _ _ (show (upd H8 t1 (HO.tup [f1, f2])) t1 = _ from upd_same))))
      have g2 := u5 _ _ (u4 _ _ (u3 _ _ (show (upd (upd H8 t1 (HO.tup [f1, f2])) t2 (HO.tup [f2, f3])) t2 = _ from upd_same)))
      have g3 := u5 _ _ (u4 _ _ (show (upd (upd (upd H8 t1 (HO.tup [f1, f2])) t2 (HO.tup [f2, f3])) t3 (HO.tup [f1, f3])) t3 = _ from upd_same))
      have g4 := u5 _ _ (show (upd (upd (upd (upd H8 t1 (HO.tup [f1, f2])) t2 (HO.tup [f2, f3])) t3 (HO.tup [f1, f3])) t4 (HO.tup [f1, f1])) t4 = _ from upd_same)
      have g5 : (upd (upd (upd (upd (upd H8 t1 (HO.tup [f1, f2])) t2 (HO.tup [f2, f3])) t3 (HO.tup [f1, f3])) t4 (HO.tup [f1, f1])) pp (HO.lst [V.ref t1, V.ref t2, V.ref t3, V.ref t4])) pp = some (.lst [V.ref t1, V.ref t2, V.ref t3, V.ref t4]) := upd_same
      have u15 := u1.trans (u2.trans (u3.trans (u4.trans u5)))
      generalize upd (upd (upd (upd (upd H8 t1 (HO.tup [f1, f2])) t2 (HO.tup [f2, f3])) t3 (HO.tup [f1, f3])) t4 (HO.tup [f1, f1])) pp (HO.lst [V.ref t1, V.ref t2, V.ref t3, V.ref t4]) = HP at u15 g1 g2 g3 g4 g5 ⊢
      have s7P : Same H7 HP := s78.trans u15
      have c1 := dp_mono s7P x1 f1 a1
      have c2 := dp_mono s7P x2 f2 a2
      have c3 := dp_mono s7P x3 f3 hx3
      have allP : ∀ (e : Nat) (y : V), [V.ref t1, V.ref t2, V.ref t3, V.ref t4][e]? = some y → ∃ t A B za zb, y = .ref t ∧ HP t = some (.tup [A, B]) ∧ Dp K HP A za ∧ Vd 12 za ∧ Dp K HP B zb ∧ Vd 12 zb := fun e y h => by
        match e with
        | 0 => obtain rfl := Option.some.inj h; exact ⟨t1, _, _, x1, x2, rfl, g1, c1, b1, c2, b2⟩
        | 1 => obtain rfl := Option.some.inj h; exact ⟨t2, _, _, x2, x3, rfl, g2, c2, b2, c3, b3⟩
        | 2 => obtain rfl := Option.some.inj h; exact ⟨t3, _, _, x1, x3, rfl, g3, c1, b1, c3, b3⟩
        | 3 => obtain rfl := Option.some.inj h; exact ⟨t4, _, _, x1, x1, rfl, g4, c1, b1, c1, b1⟩
        | e + 4 => simp at h
      refine ⟨pp, rfl, ⟨_, .of g5⟩, for_list (K := K) (a := pp) (xs := [V.ref t1, V.ref t2, V.ref t3, V.ref t4]) (fun _ σ H => ∃ w8 : Option V, σ = [some (.ref a), some (.ref d), some (.int (0 + (i : Int))), some f1, w4, some f2, some f3, w7, w8, v9] ∧ Same HP H)
        ⟨v8, rfl, Same.refl _⟩ (fun _ σ H _ h => by obtain ⟨_, _, s9⟩ := h; exact .of (s9 _ _ g5)) ?_ ?_⟩
      · rintro e y σ H9 hy ⟨w8, rfl, s10⟩
        obtain ⟨t, A, B, za, zb, rfl, ht, dA, vA, dB, vB⟩ := allP e y hy
        refine ⟨.ref t, rfl, t, [A, B], 0, A, rfl, rfl, .inl (.inl (s10 _ _ ht)), rfl, .ref t, rfl, t, [A, B], 1, B, rfl, rfl, .inl (.inl (s10 _ _ ht)), rfl, A, B, za, zb, rfl, dp_mono s10 _ _ dA, dp_mono s10 _ _ dB, vA, vB, fun H10 s11 => ⟨true, rfl, ?_⟩⟩
        exact ⟨_, rfl, s10.trans s11⟩
      rintro σ H9 ⟨w8, rfl, s10⟩
      have s79 : Same H7 H9 := s7P.trans s10
      have cond : ∀ {H' : Hp}, Same H9 H' → Ob K H' 12 f1 (some x1) ∧ Ob K H' 12 f2 (some x2) ∧ Ob K H' 12 f3 (some x3) := fun s => ⟨⟨dp_mono (s79.trans s) _ _ a1, b1⟩, ⟨dp_mono (s79.trans s) _ _ a2, b2⟩, ⟨dp_mono (s79.trans s) _ _ hx3, b3⟩⟩
      have tr := cmp_trans b1.v b2.v b3.v
      refine ⟨fun σ' H' => σ' = [some (.ref a), some (.ref d), some (.int (0 + (i : Int))), some f1, w4, some f2, some f3, w7, w8, v9] ∧ Same H9 H', ?_, ?_⟩
      · refine ⟨f1, rfl, f2, rfl, f1, f2, some x1, some x2, rfl, (cond (Same.refl _)).1, (cond (Same.refl _)).2.1, fun d' e' hd he H10 s11 => ?_, fun h => by rcases h with h | h <;> cases h⟩
        obtain rfl := Option.some.inj hd
        obtain rfl := Option.some.inj he
        refine ⟨_, _, rfl, rfl, _, rfl, ?_⟩
        by_cases q1 : cmpV x1 x2 ≤ 0
        · rw [decide_eq_true q1]
          refine iteT ?_
          refine ⟨f2, rfl, f3, rfl, f2, f3, some x2, some x3, rfl, (cond s11).2.1, (cond s11).2.2, fun d' e' hd he H11 s12 => ?_, fun h => by rcases h with h | h <;> cases h⟩
          obtain rfl := Option.some.inj hd
          obtain rfl := Option.some.inj he
          refine ⟨_, _, rfl, rfl, _, rfl, ?_⟩
          by_cases q2 : cmpV x2 x3 ≤ 0
          · rw [decide_eq_true q2]
            refine iteT ?_
            refine ⟨f1, rfl, f3, rfl, f1, f3, some x1, some x3, rfl, (cond (s11.trans s12)).1, (cond (s11.trans s12)).2.2, fun d' e' hd he H12 s13 => ?_, fun h => by rcases h with h | h <;> cases h⟩
            obtain rfl := Option.some.inj hd
            obtain rfl := Option.some.inj he
            refine ⟨_, _, rfl, rfl, _, rfl, ?_⟩
            rw [decide_eq_false (tr q1 q2)]
            exact ⟨rfl, (s11.trans s12).trans s13⟩
          · rw [decide_eq_false q2]
            exact ⟨rfl, s11.trans s12⟩
        · rw [decide_eq_false q1]
          exact ⟨rfl, s11⟩
      rintro σ' H10 ⟨rfl, s11⟩
      have s710 : Same H7 H10 := s79.trans s11
      have D10 := D7.mono s710
      have T10 := T7.ext s710
      have e10 := dp_mono s710 x1 f1 a1
      -- odd = _law_pick(state, [..])
      refine ⟨.ref d, rfl, Nat.zero_le _, fun o1 m1 => ⟨f1, rfl, (by show 1 ≤ sizeLine; decide), fun o2 m2 => fun o3 m3 => fun o4 m4 => ⟨f1, rfl, upd_same, [(Sum.inr "a", f1)], rfl, (by show 1 ≤ 15; decide), f1, rfl, Nat.zero_le _, fun o5 m5 => ⟨(by show 2 ≤ sizeLine; decide), fun o6 m6 => ⟨Nat.zero_le _, fun o7 m7 => fun o8 m8 => ⟨(by show 1 ≤ sizeLine; decide), fun o9 m9 => ⟨(by show 2 ≤ sizeLine; decide), fun o10 m10 => ⟨Nat.zero_le _, fun o11 m11 => ⟨(by show 1 ≤ sizeLine; decide), fun o12 m12 => ⟨(by show 7 ≤ sizeLine; decide), fun ol ml => ?_⟩⟩⟩⟩⟩⟩⟩⟩⟩⟩
      have r1 := same_upd (o := HO.lst []) m1
      have y1 := D10.off m1
      have E1 := D10.mono r1
      have r2 := same_upd (o := HO.lst [f1]) m2
      have y2 := E1.off m2
      have E2 := E1.mono r2
      have r3 := same_upd (o := HO.dK []) m3
      have y3 := E2.off m3
      have E3 := E2.mono r3
      have r4 := same_upd2 (o := HO.dK []) (o' := HO.dK (mergeK [] [(Sum.inr ("a" : Str), f1)])) m4
      have y4 := E3.off m4
      have E4 := E3.mono r4
      have r5 := same_upd (o := HO.lst []) m5
      have y5 := E4.off m5
      have E5 := E4.mono r5
      have r6 := same_upd (o := HO.tup [f1, V.ref o5]) m6
      have y6 := E5.off m6
      have E6 := E5.mono r6
      have r7 := same_upd (o := HO.tup []) m7
      have y7 := E6.off m7
      have E7 := E6.mono r7
      have r8 := same_upd (o := HO.dK []) m8
      have y8 := E7.off m8
      have E8 := E7.mono r8
      have r9 := same_upd (o := HO.tup [V.ref o8]) m9
      have y9 := E8.off m9
      have E9 := E8.mono r9
      have r10 := same_upd (o := HO.tup [V.ref o7, V.ref o9]) m10
      have y10 := E9.off m10
      have E10 := E9.mono r10
      have r11 := same_upd (o := HO.tup []) m11
      have y11 := E10.off m11
      have E11 := E10.mono r11
      have r12 := same_upd (o := HO.lst [V.ref o11]) m12
      have y12 := E11.off m12
      have E12 := E11.mono r12
      have rl := same_upd (o := HO.lst [V.ref o1, V.ref o2, V.ref o3, V.ref o4, V.ref o6, V.ref o10, V.ref o12]) ml
      have yl := E12.off ml
      have El := E12.mono rl
      have z1 := (rl _ _ (r12 _ _ (r11 _ _ (r10 _ _ (r9 _ _ (r8 _ _ (r7 _ _ (r6 _ _ (r5 _ _ (r4 _ _ (r3 _ _ (r2 o1 (HO.lst []) upd_same))))))))))))
      have z2 := (rl _ _ (r12 _ _ (r11 _ _ (r10 _ _ (r9 _ _ (r8 _ _ (r7 _ _ (r6 _ _ (r5 _ _ (r4 _ _ (r3 o2 (HO.lst [f1]) upd_same)))))))))))
      have z3 := (rl _ _ (r12 _ _ (r11 _ _ (r10 _ _ (r9 _ _ (r8 _ _ (r7 _ _ (r6 _ _ (r5 _ _ (r4 o3 (HO.dK []) upd_same))))))))))
      have z4 := (rl _ _ (r12 _ _ (r11 _ _ (r10 _ _ (r9 _ _ (r8 _ _ (r7 _ _ (r6 _ _ (r5 o4 (HO.dK (mergeK [] [(Sum.inr ("a" : Str), f1)])) upd_same)))))))))
      have z5 := (rl _ _ (r12 _ _ (r11 _ _ (r10 _ _ (r9 _ _ (r8 _ _ (r7 _ _ (r6 o5 (HO.lst []) upd_same))))))))
      have z6 := (rl _ _ (r12 _ _ (r11 _ _ (r10 _ _ (r9 _ _ (r8 _ _ (r7 o6 (HO.tup [f1, V.ref o5]) upd_same)))))))
      have z7 := (rl _ _ (r12 _ _ (r11 _ _ (r10 _ _ (r9 _ _ (r8 o7 (HO.tup []) upd_same))))))
      have z8 := (rl _ _ (r12 _ _ (r11 _ _ (r10 _ _ (r9 o8 (HO.dK []) upd_same)))))
      have z9 := (rl _ _ (r12 _ _ (r11 _ _ (r10 o9 (HO.tup [V.ref o8]) upd_same))))
      have z10 := (rl _ _ (r12 _ _ (r11 o10 (HO.tup [V.ref o7, V.ref o9]) upd_same)))
      have z11 := (rl _ _ (r12 o11 (HO.tup []) upd_same))
      have z12 := (rl o12 (HO.lst [V.ref o11]) upd_same)
      have rr := ((((((((((((r1.trans r2).trans r3).trans r4).trans r5).trans r6).trans r7).trans r8).trans r9).trans r10).trans r11).trans r12).trans rl)
      refine ⟨d, g, ol, m + 25, _, rfl, El.less (by omega), yl.1, yl.2, upd_same, (by show 0 < 7; decide), (by show 7 < 1000; decide), fun xo H11 hxo kp D11 => ?_⟩
      have q1 := kp _ _ y1.1 y1.2 z1
      have q2 := kp _ _ y2.1 y2.2 z2
      have q3 := kp _ _ y3.1 y3.2 z3
      have q4 := kp _ _ y4.1 y4.2 z4
      have q5 := kp _ _ y5.1 y5.2 z5
      have q6 := kp _ _ y6.1 y6.2 z6
      have q7 := kp _ _ y7.1 y7.2 z7
      have q8 := kp _ _ y8.1 y8.2 z8
      have q9 := kp _ _ y9.1 y9.2 z9
      have q10 := kp _ _ y10.1 y10.2 z10
      have q11 := kp _ _ y11.1 y11.2 z11
      have q12 := kp _ _ y12.1 y12.2 z12
      have T11 := tabs_keep El kp (T10.ext rr)
      have f11 : Dp K H11 f1 x1 := dpv_tk ((TK.of rr).trans (TK.keep El kp)) x1 f1 vx1 e10
      have tv : Tv K H11 12 xo false := by
        simp only [List.mem_cons, List.not_mem_nil, or_false] at hxo
        rcases hxo with rfl | rfl | rfl | rfl | rfl | rfl | rfl
        · exact Tv.base (.inr (.inl ⟨⟨o1, _, rfl, .of q1⟩, rfl⟩)) 12
        · exact Tv.base (.inr (.inl ⟨⟨o2, _, rfl, .of q2⟩, rfl⟩)) 12
        · exact Tv.base (.inr (.inr ⟨⟨o3, _, rfl, q3⟩, rfl⟩)) 12
        · exact Tv.base (.inr (.inr ⟨⟨o4, _, rfl, q4⟩, rfl⟩)) 12
        · exact .inr ⟨o6, [f1, .ref o5], [true, false], rfl, .inl (.inl q6), (by show 2 < 1000; decide), .cons (dp_tv 11 x1 f1 f11 ⟨vx1, b1.w, by omega⟩) (.cons (Tv.base (.inr (.inl ⟨⟨o5, _, rfl, .of q5⟩, rfl⟩)) 11) .nil), rfl⟩
        · exact .inr ⟨o10, [.ref o7, .ref o9], [true, false], rfl, .inl (.inl q10), (by show 2 < 1000; decide), .cons (.inr ⟨o7, [], [], rfl, .inl (.inl q7), (by show 0 < 1000; decide), .nil, rfl⟩) (.cons (.inr ⟨o9, [.ref o8], [false], rfl, .inl (.inl q9), (by show 1 < 1000; decide), .cons (Tv.base (.inr (.inr ⟨⟨o8, _, rfl, q8⟩, rfl⟩)) 10) .nil, rfl⟩) .nil), rfl⟩
        · exact Tv.base (.inr (.inl ⟨⟨o12, _, rfl, .of q12⟩, rfl⟩)) 12
      refine ⟨xo, rfl, f1, rfl, xo, f1, x1, rfl, tv, f11, b1, T11, fun H12 ex tx => ⟨true, rfl, ?_⟩⟩
      exact ⟨_, _, _, _, _, _, _, _, rfl, (D11.ext ex).less (by omega), tx⟩
    · rintro σ H2 ⟨v2, v3, v4, v5, v6, v7, v8, v9, rfl, D2, T2⟩
      exact q _
end
end Ck
namespace Ck
open PySem PySem.Spec PyProof.Rows L2 LamX
/-! ### the law's own call, with one table of code objects, where no repr is under way -/
def entryT (K : PySem.W.Frag) (a tb : Addr) (o : Obj) (xs : List V) : Hp := fun b => if b = tb then some (.tbl #[]) else entryH K a o xs b
theorem entryT_at {K : PySem.W.Frag} {a b tb : Addr} {o : Obj} {xs : List V} {u : HO} (h : entryT K a tb o xs b = some u) : (b = tb ∧ u = .tbl #[]) ∨ (b = a ∧ K.lookup a = none ∧ u = .frz o (.lst xs)) := by
  unfold entryT at h
  split at h
  · rename_i c
    exact .inl ⟨c, (Option.some.inj h).symm⟩
  · exact .inr (entryH_at h)
abbrev tabO : Obj := { cls := .none, data := .fields #[] }
theorem callGT {P : Program} {w : World} {K : PySem.W.Frag} {mg mb : Str → Option Value} {k : Nat} {fa a c tb : Addr} {fd : FuncData} {x : Str} {sp : Sp} {z : Shared} {us : List Value} {ns : List Int}
    (at_ : K.In z.heap) (gl : z.heap.Ns mainGlobals mg) (bl : z.heap.Ns builtinsNs mb) (bb : ∀ x : Str, x ≠ "__name__" → mb x = bootBuiltins x) (lm : z.heap.NoLimit) (gn : z.gens = #[])
    (hT : z.heap.get? tb = some tabO) (nT : K.lookup tb = none) (hC : PySem.W.CodeHd z.heap c tb)
    (hbm : ∃ (bm : Addr) (ob : Obj), mg "__builtins__" = some (.ref bm) ∧ bm ≠ builtinsNs ∧ z.heap.get? bm = some ob ∧ ob.cls = .type "module" ∧ ob.dict = some builtinsNs ∧ ob.data = .plain)
    (ho : z.heap.get? a = some { cls := .type "list", data := .seq us.toArray }) (hi : IntsAre us ns) (hl : ns.length ≤ sizeLine) (hr : Room k callerA)
    (F : ∀ base : Heap, K.In base → base.Ns mainGlobals mg → TabB base mg c tb → FnG P w K mg base CX0 k fa fd [x] sp) (hb : ∀ (s : Shared) (u : Value), BindsTo s fd ⟨[u], []⟩ [(x, u)])
    (hs : ∀ H : Hp, H tb = some (.tbl #[]) → SqL K H a (ns.map V.int) → sp [.ref a] H (fun v _ => v = .bl true) E0) :
    codeAny (model P w) callerA (.call (.ref fa) ⟨[.ref a], []⟩) (fun r z' => r = .ok (.ret (.bool true)) ∧ OldK z.heap z'.heap ∧ z'.os = z.os ∧ AllBare z'.gens) z := by
  have rv := vals_ints hi
  have lenV := hi.length
  generalize hO : ({ cls := .type "list", data := .seq us.toArray } : Obj) = o at ho
  have od : o.data = .seq us.toArray 0 := by rw [← hO]
  have oc : o.cls = .type "list" := by rw [← hO]
  have odc : o.dict = none := by rw [← hO]
  have nat_ : a ≠ tb := fun q => by
    rw [q, hT] at ho
    rw [← Option.some.inj ho] at od
    cases od
  generalize hH : entryT K a tb o (ns.map V.int) = H
  have only : ∀ {b : Addr} {u : HO}, H b = some u → (b = tb ∧ u = .tbl #[]) ∨ (b = a ∧ K.lookup a = none ∧ u = .frz o (.lst (ns.map V.int))) := fun {b u} e => entryT_at (K := K) (by rw [hH]; exact e)
  have hTb : H tb = some (.tbl #[]) := by rw [← hH]; exact if_pos rfl
  have hok : HOk P w H z.heap := fun b u e => by
    rcases only e with ⟨rfl, rfl⟩ | ⟨rfl, _, rfl⟩
    · exact hT
    · exact ⟨ho, by rw [List.length_map]; exact hl, us, _, rv, by rw [← hO] at ho; exact ho⟩
  have hS : SqL K H a (ns.map V.int) := by
    cases e : K.lookup a with
    | none => exact .inl (.inr ⟨o, by rw [← hH]; exact (if_neg nat_).trans (if_pos ⟨rfl, e⟩)⟩)
    | some o' =>
      have q := at_ a o' e
      rw [ho] at q
      cases q
      exact .inr ⟨o, us.toArray, 0, e, oc, odc, od, by rw [List.size_toArray, lenV]; exact hl, by simpa using rv⟩
  have free : ∀ {b : Addr} {y : Obj}, z.heap.get? b = some y → y.data ≠ o.data → y.data ≠ .fields #[] → H b = none := fun {b y} e d1 d2 => by
    cases q : H b with
    | none => rfl
    | some u =>
      rcases only q with ⟨rfl, _⟩ | ⟨rfl, _, _⟩
      · rw [hT] at e
        exact absurd (by rw [← Option.some.inj e]) d2
      · rw [ho] at e
        exact absurd (by rw [← Option.some.inj e]) d1
  have nsT : ∀ {b : Addr} {m : Str → Option Value}, z.heap.Ns b m → (hidT z.heap H).Ns b m := by
    rintro b m ⟨y, es, ep, e, d, r⟩
    exact ⟨y, es, ep, hidT_get e (free e (by rw [d, od]; intro q; cases q) (by rw [d]; intro q; cases q)), d, r⟩
  have inT : K.In (hidT z.heap H) := fun b y e => hidT_get (at_ b y e) (by
    cases q : H b with
    | none => rfl
    | some u =>
      rcases only q with ⟨rfl, _⟩ | ⟨rfl, n, _⟩
      · rw [nT] at e
        cases e
      · rw [n] at e
        cases e)
  have md : Mod K mg (hidT z.heap H) := ⟨inT, nsT gl, ⟨mb, nsT bl, bb⟩, by
    obtain ⟨mc, h1, h2⟩ := lm
    exact ⟨mc, nsT h1, h2⟩⟩
  have TB : TabB (hidT z.heap H) mg c tb := by
    refine ⟨?_, ?_, fun q => ?_⟩
    · obtain ⟨y, vs, file, tf, flags, tg, inF, text, tt, e, r1, r2, r3, r⟩ := hC
      exact ⟨y, vs, file, tf, flags, tg, inF, text, tt, hidT_get e (free e (by rw [r2, od]; intro q; cases q) (by rw [r2]; intro q; cases q; simp at r3)), r1, r2, r3, r⟩
    · obtain ⟨bm, ob, h1, h2, h3, h4, h5, h6⟩ := hbm
      have q1 : bm ≠ mainGlobals := fun q => by
        obtain ⟨y, es, ep, e, d, _⟩ := gl
        rw [q, e] at h3
        rw [← Option.some.inj h3, d] at h6
        cases h6
      have q2 : bm ≠ tb := fun q => by
        rw [q, hT] at h3
        rw [← Option.some.inj h3] at h6
        cases h6
      exact ⟨bm, ob, h1, h2, q1, q2, hidT_get h3 (free h3 (by rw [h6, od]; intro q; cases q) (by rw [h6]; intro q; cases q)), h4, h5, h6⟩
    · obtain ⟨y, es, ep, e, d, _⟩ := gl
      rw [q, hT] at e
      rw [← Option.some.inj e] at d
      cases d
  have e0 : Env0 P w K mg (hidT z.heap H) callerA [] z H := ⟨rfl, md, fun b y e => of_hidT e, Nat.le_of_eq (hidT_size _ _), trivial, fun b m => absurd (show b ∈ ([] : List Addr) from m) (by simp), hok, .of_eq gn⟩
  refine codeAny_mono ((F _ inT (nsT gl) TB).go callerA rfl hr [] z H ⟨[.ref a], []⟩ [.ref a] [.ref a] _ _ e0 (hb z (.ref a)) (.cons rfl .nil) (hs H hTb hS)) fun r z' y => ?_
  cases r with
  | error e => exact y.elim
  | ok fl =>
    cases fl with
    | next => exact y.elim
    | brk => exact y.elim
    | cont => exact y.elim
    | ret u =>
      obtain ⟨v, H', os, bare, un, hok', rv', q⟩ := y
      have q : v = .bl true := q
      subst q
      obtain rfl : u = Value.bool true := rv'
      obtain ⟨more, hm⟩ := un.tbls tb #[] hTb
      have grown : z'.heap.get? tb = some { cls := .none, data := .fields (#[] ++ more) } := hok' tb _ hm
      have kept : ∀ b y, b ≠ tb → z.heap.get? b = some y → z'.heap.get? b = some y := fun b y nb e => by
        cases q : H b with
        | none => exact un.keep b y e q (fun m => absurd (show b ∈ ([] : List Addr) from m) (by simp)) (by simp)
        | some u =>
          rcases only q with ⟨rfl, _⟩ | ⟨rfl, _, rfl⟩
          · exact absurd rfl nb
          · obtain ⟨e2, _⟩ := hok' b _ (un.frzs b o _ q)
            rw [ho] at e
            cases e
            exact e2
      refine ⟨rfl, ⟨fun b y e => ?_, fun b y e => ?_⟩, os, bare⟩
      · by_cases nb : b = tb
        · subst nb
          rw [hT] at e
          cases e
          exact .inr (.inl ⟨(hC.tab hT).isCodeTable, rfl, #[], more, rfl, grown⟩)
        · exact .inl (kept b y nb e)
      · by_cases nb : b = tb
        · subst nb
          exact ⟨_, grown⟩
        · exact ⟨y, kept b y nb e⟩
theorem walkGT {l : PySem.W.OpenLaw} {n k : Nat} {q : Program} {loose : List Str} {XP : (Str → Option Value) → Heap → Prop} {YP : World → Heap → Prop} {d : DefRec} {K : Params → PySem.W.Frag} {x : Str}
    (hn : l.most = some n) (hz : n ≤ sizeLine) (hdf : d.params.defaults = []) (hr : Room k callerA) (hY : ∀ (w : World) (h : Heap), YP w h → (K w.params).In h)
    (F : ∀ (w : World) (mg : Str → Option Value) (fa : Addr) (h : Heap), YP w h → (K w.params).In h → h.Ns mainGlobals mg → mg d.name = some (.ref fa) →
      ∃ (fd : FuncData) (c tb : Addr) (sp : Sp), h.get? tb = some tabO ∧ (K w.params).lookup tb = none ∧ PySem.W.CodeHd h c tb ∧ (∀ (s : Shared) (u : Value), BindsTo s fd ⟨[u], []⟩ [(x, u)]) ∧
        (∀ (H : Hp) (a : Addr) (ns : List Int), ns.length ≤ n → H tb = some (.tbl #[]) → SqL (K w.params) H a (ns.map V.int) → sp [.ref a] H (fun v _ => v = .bl true) E0) ∧
        ∀ base : Heap, (K w.params).In base → base.Ns mainGlobals mg → TabB base mg c tb → FnG l.prog w (K w.params) mg base CX0 k fa fd [x] sp) :
    PySem.W.WalkO q loose XP YP l.row.toRowW d [] (fun f vs => PySem.call f vs) := by
  refine Att.attach_call hn hdf fun w z0 z1 mg mb fa o pm cd doc a us ns G Y ho hd hcd hmg hobj hints hlen hg => ?_
  obtain ⟨fd, c, tb, sp, hT, nT, hC, hb, hs, hF⟩ := F w mg fa _ Y (hY w _ Y) G.T.g hmg
  exact callGT (hY w _ Y) G.T.g G.T.b G.T.builtins G.T.nolimit hg hT nT hC G.T.bmain hobj hints (Nat.le_trans hlen hz) hr hF hb fun H hH hS => hs H a ns hlen hH hS
end Ck
namespace Ck
open PySem PySem.Spec PyProof.Rows L2 LamX
section
variable {P : Program} {w : World} {K : PySem.W.Frag} {mg : Str → Option Value} {base : Heap}
theorem ok_key {f fR : Addr} {fd fdR : FuncData} (F : Fun K "order_key" "order_key" s_key f fd) (bF : Binds K fd ["value"] []) (gF : mg "order_key" = some (.ref f)) (T : Blt mg)
    (FR : Fun K "_rank" "_rank" s_rank fR fdR) (bR : Binds K fdR ["value"] []) (gR : mg "_rank" = some (.ref fR)) : ∀ n, FnOk P w K mg base CX0 (n + 2) f fd ["value"] (spKey K n)
  | 0 => ok_key1 F bF gF T FR bR gR ⟨fun _ _ _ _ h => h.elim, fun _ _ _ _ _ _ _ _ _ _ _ _ _ h => h.elim⟩
  | n + 1 => ok_key1 F bF gF T FR bR gR (ok_key F bF gF T FR bR gR n)
end
/-! ### what is asked of the written part, by computation -/
def okB (K : PySem.W.Frag) (BV BC BP : Addr) : Bool :=
  (PySem.W.findIn K (.ref BV) "__getattribute__" == some (some (.builtin "BaseException.__getattribute__"))) && (PySem.W.findIn K (.ref BV) "__getattr__" == some none) && (PySem.W.subIn K (.ref BV) (.type "BaseException") == some true) && PySem.W.hasDictIn K BV &&
  (PySem.W.findIn K (.ref BV) "__class__" == some (some (.builtin "object.__class__"))) && (PySem.W.specialIn K (.builtin "object.__class__") "__get__" == some (some (.builtin "getset_descriptor.__get__"))) && (PySem.W.takesIn K (.builtin "object.__class__") == some true) && (PySem.W.mroIn K BV (.type "object") == some true) &&
  PySem.W.keepIn K (.ref BV) && PySem.W.excIn K BV [.type "ValueError", .type "Exception", .type "BaseException", .type "object"] "ValueError.__new__" && (PySem.W.typeIn K (.ref BV) == some (.type "type")) &&
  (PySem.W.kitAny K (.ref BV) [.ref BC, .ref BP] == some false) && (PySem.W.kitOne K (.ref BV) (.type "ValueError") == some true) && (PySem.W.exmOne K (.ref BV) (.ref BV) == some true)
structure OkB (K : PySem.W.Frag) (BV BC BP : Addr) : Prop where
  xc : ExcC K BV
  kp : PySem.W.keepIn K (.ref BV) = true
  ex : PySem.W.excIn K BV [.type "ValueError", .type "Exception", .type "BaseException", .type "object"] "ValueError.__new__" = true
  ty : PySem.W.typeIn K (.ref BV) = some (.type "type")
  no : PySem.W.kitAny K (.ref BV) [.ref BC, .ref BP] = some false
  yes : PySem.W.kitOne K (.ref BV) (.type "ValueError") = some true
  te : PySem.W.exmOne K (.ref BV) (.ref BV) = some true
theorem okB_ok {K : PySem.W.Frag} {BV BC BP : Addr} (h : okB K BV BC BP = true) : OkB K BV BC BP := by
  simp only [okB, Bool.and_eq_true, beq_iff_eq] at h
  obtain ⟨⟨⟨⟨⟨⟨⟨⟨⟨⟨⟨⟨⟨h1, h2⟩, h3⟩, h4⟩, h5⟩, h6⟩, h7⟩, h8⟩, h9⟩, h10⟩, h11⟩, h12⟩, h13⟩, h14⟩ := h
  exact ⟨⟨h1, h2, h3, h4, h5, h6, h7, h8⟩, h9, h10, h11, h12, h13, h14⟩
theorem all_mk {P : Program} {w : World} {K : PySem.W.Frag} {mg : Str → Option Value} {h : Heap} {fa : Addr} (X : K.In h) (G : h.Ns mainGlobals mg) (hfa : mg "law" = some (.ref fa))
    {BV BC BP AK c tb f0 f1 f2 f3 f4 f5 f6 f7 f8 f9 f10 f11 f12 f13 f14 f15 f16 f17 f18 : Addr}
    (a0 : PySem.W.nsIn K mainGlobals "BadValue" = some (some (.ref BV)))
    (a1 : PySem.W.nsIn K mainGlobals "BadCall" = some (some (.ref BC)))
    (a2 : PySem.W.nsIn K mainGlobals "BadPattern" = some (some (.ref BP)))
    (a3 : PySem.W.nsIn K mainGlobals "KINDS" = some (some (.ref AK)))
    {kd : Option Addr} {kn : Nat} {ksl : Array (Option Value)} {kt1 kt2 kt3 kt4 kt5 : Tok}
    (kk : K.lookup AK = some ⟨.type "tuple", kd, .seq #[.str "none" kt1, .str "bool" kt2, .str "int" kt3, .str "text" kt4, .str "tuple" kt5] kn, ksl⟩)
    (A0 : PySem.W.nsIn K mainGlobals "is_value" = some (some (.ref f0)))
    {oc0 kV0 dc0 pm0 cd0 ct0 : Value} {oD0 aN0 : Option Addr} {sL0 : Array (Option Value)}
    (L0 : K.lookup f0 = some ⟨oc0, oD0, .func (PySem.W.fnOf "is_value" "is_value" (defArgs s_is) (defBody s_is) (defScope s_is) .none kV0 dc0 pm0 aN0 cd0 ct0), sL0⟩) (Ec0 : PySem.W.codeIn K cd0 "is_value" = true) (K0 : PySem.W.keepIn K (.ref f0) = true)
    (A1 : PySem.W.nsIn K mainGlobals "checked_value" = some (some (.ref f1)))
    {oc1 kV1 dc1 pm1 cd1 ct1 : Value} {oD1 aN1 : Option Addr} {sL1 : Array (Option Value)}
    (L1 : K.lookup f1 = some ⟨oc1, oD1, .func (PySem.W.fnOf "checked_value" "checked_value" (defArgs s_chk) (defBody s_chk) (defScope s_chk) .none kV1 dc1 pm1 aN1 cd1 ct1), sL1⟩) (Ec1 : PySem.W.codeIn K cd1 "checked_value" = true) (K1 : PySem.W.keepIn K (.ref f1) = true)
    (A2 : PySem.W.nsIn K mainGlobals "kind_of" = some (some (.ref f2)))
    {oc2 kV2 dc2 pm2 cd2 ct2 : Value} {oD2 aN2 : Option Addr} {sL2 : Array (Option Value)}
    (L2 : K.lookup f2 = some ⟨oc2, oD2, .func (PySem.W.fnOf "kind_of" "kind_of" (defArgs s_kind) (defBody s_kind) (defScope s_kind) .none kV2 dc2 pm2 aN2 cd2 ct2), sL2⟩) (Ec2 : PySem.W.codeIn K cd2 "kind_of" = true) (K2 : PySem.W.keepIn K (.ref f2) = true)
    (A3 : PySem.W.nsIn K mainGlobals "_rank" = some (some (.ref f3)))
    {oc3 kV3 dc3 pm3 cd3 ct3 : Value} {oD3 aN3 : Option Addr} {sL3 : Array (Option Value)}
    (L3 : K.lookup f3 = some ⟨oc3, oD3, .func (PySem.W.fnOf "_rank" "_rank" (defArgs s_rank) (defBody s_rank) (defScope s_rank) .none kV3 dc3 pm3 aN3 cd3 ct3), sL3⟩) (Ec3 : PySem.W.codeIn K cd3 "_rank" = true) (K3 : PySem.W.keepIn K (.ref f3) = true)
    (A4 : PySem.W.nsIn K mainGlobals "order_key" = some (some (.ref f4)))
    {oc4 kV4 dc4 pm4 cd4 ct4 : Value} {oD4 aN4 : Option Addr} {sL4 : Array (Option Value)}
    (L4 : K.lookup f4 = some ⟨oc4, oD4, .func (PySem.W.fnOf "order_key" "order_key" (defArgs s_key) (defBody s_key) (defScope s_key) .none kV4 dc4 pm4 aN4 cd4 ct4), sL4⟩) (Ec4 : PySem.W.codeIn K cd4 "order_key" = true) (K4 : PySem.W.keepIn K (.ref f4) = true)
    (A5 : PySem.W.nsIn K mainGlobals "same" = some (some (.ref f5)))
    {oc5 kV5 dc5 pm5 cd5 ct5 : Value} {oD5 aN5 : Option Addr} {sL5 : Array (Option Value)}
    (L5 : K.lookup f5 = some ⟨oc5, oD5, .func (PySem.W.fnOf "same" "same" (defArgs s_same) (defBody s_same) (defScope s_same) .none kV5 dc5 pm5 aN5 cd5 ct5), sL5⟩) (Ec5 : PySem.W.codeIn K cd5 "same" = true) (K5 : PySem.W.keepIn K (.ref f5) = true)
    (A6 : PySem.W.nsIn K mainGlobals "compare" = some (some (.ref f6)))
    {oc6 kV6 dc6 pm6 cd6 ct6 : Value} {oD6 aN6 : Option Addr} {sL6 : Array (Option Value)}
    (L6 : K.lookup f6 = some ⟨oc6, oD6, .func (PySem.W.fnOf "compare" "compare" (defArgs s_cmp) (defBody s_cmp) (defScope s_cmp) .none kV6 dc6 pm6 aN6 cd6 ct6), sL6⟩) (Ec6 : PySem.W.codeIn K cd6 "compare" = true) (K6 : PySem.W.keepIn K (.ref f6) = true)
    (A7 : PySem.W.nsIn K mainGlobals "_law_begun" = some (some (.ref f7)))
    {oc7 kV7 dc7 pm7 cd7 ct7 : Value} {oD7 aN7 : Option Addr} {sL7 : Array (Option Value)}
    (L7 : K.lookup f7 = some ⟨oc7, oD7, .func (PySem.W.fnOf "_law_begun" "_law_begun" (defArgs sBegun) (defBody sBegun) (defScope sBegun) .none kV7 dc7 pm7 aN7 cd7 ct7), sL7⟩) (Ec7 : PySem.W.codeIn K cd7 "_law_begun" = true) (K7 : PySem.W.keepIn K (.ref f7) = true)
    (A8 : PySem.W.nsIn K mainGlobals "_law_mixed" = some (some (.ref f8)))
    {oc8 kV8 dc8 pm8 cd8 ct8 : Value} {oD8 aN8 : Option Addr} {sL8 : Array (Option Value)}
    (L8 : K.lookup f8 = some ⟨oc8, oD8, .func (PySem.W.fnOf "_law_mixed" "_law_mixed" (defArgs sMixed) (defBody sMixed) (defScope sMixed) .none kV8 dc8 pm8 aN8 cd8 ct8), sL8⟩) (Ec8 : PySem.W.codeIn K cd8 "_law_mixed" = true) (K8 : PySem.W.keepIn K (.ref f8) = true)
    (A9 : PySem.W.nsIn K mainGlobals "_law_take" = some (some (.ref f9)))
    {oc9 kV9 dc9 pm9 cd9 ct9 : Value} {oD9 aN9 : Option Addr} {sL9 : Array (Option Value)}
    (L9 : K.lookup f9 = some ⟨oc9, oD9, .func (PySem.W.fnOf "_law_take" "_law_take" (defArgs sTake) (defBody sTake) (defScope sTake) .none kV9 dc9 pm9 aN9 cd9 ct9), sL9⟩) (Ec9 : PySem.W.codeIn K cd9 "_law_take" = true) (K9 : PySem.W.keepIn K (.ref f9) = true)
    (A10 : PySem.W.nsIn K mainGlobals "_law_pick" = some (some (.ref f10)))
    {oc10 kV10 dc10 pm10 cd10 ct10 : Value} {oD10 aN10 : Option Addr} {sL10 : Array (Option Value)}
    (L10 : K.lookup f10 = some ⟨oc10, oD10, .func (PySem.W.fnOf "_law_pick" "_law_pick" (defArgs sPick) (defBody sPick) (defScope sPick) .none kV10 dc10 pm10 aN10 cd10 ct10), sL10⟩) (Ec10 : PySem.W.codeIn K cd10 "_law_pick" = true) (K10 : PySem.W.keepIn K (.ref f10) = true)
    (A11 : PySem.W.nsIn K mainGlobals "_law_value" = some (some (.ref f11)))
    {oc11 kV11 dc11 pm11 cd11 ct11 : Value} {oD11 aN11 : Option Addr} {sL11 : Array (Option Value)}
    (L11 : K.lookup f11 = some ⟨oc11, oD11, .func (PySem.W.fnOf "_law_value" "_law_value" (defArgs s_lv) (defBody s_lv) (defScope s_lv) .none kV11 dc11 pm11 aN11 cd11 ct11), sL11⟩) (Ec11 : PySem.W.codeIn K cd11 "_law_value" = true) (K11 : PySem.W.keepIn K (.ref f11) = true)
    (A12 : PySem.W.nsIn K mainGlobals "_law_kind" = some (some (.ref f12)))
    {oc12 kV12 dc12 pm12 cd12 ct12 : Value} {oD12 aN12 : Option Addr} {sL12 : Array (Option Value)}
    (L12 : K.lookup f12 = some ⟨oc12, oD12, .func (PySem.W.fnOf "_law_kind" "_law_kind" (defArgs s_lk) (defBody s_lk) (defScope s_lk) .none kV12 dc12 pm12 aN12 cd12 ct12), sL12⟩) (Ec12 : PySem.W.codeIn K cd12 "_law_kind" = true) (K12 : PySem.W.keepIn K (.ref f12) = true)
    (A13 : PySem.W.nsIn K mainGlobals "_law_rank" = some (some (.ref f13)))
    {oc13 kV13 dc13 pm13 cd13 ct13 : Value} {oD13 aN13 : Option Addr} {sL13 : Array (Option Value)}
    (L13 : K.lookup f13 = some ⟨oc13, oD13, .func (PySem.W.fnOf "_law_rank" "_law_rank" (defArgs s_lr) (defBody s_lr) (defScope s_lr) .none kV13 dc13 pm13 aN13 cd13 ct13), sL13⟩) (Ec13 : PySem.W.codeIn K cd13 "_law_rank" = true) (K13 : PySem.W.keepIn K (.ref f13) = true)
    (A14 : PySem.W.nsIn K mainGlobals "_law_near" = some (some (.ref f14)))
    {oc14 kV14 dc14 pm14 cd14 ct14 : Value} {oD14 aN14 : Option Addr} {sL14 : Array (Option Value)}
    (L14 : K.lookup f14 = some ⟨oc14, oD14, .func (PySem.W.fnOf "_law_near" "_law_near" (defArgs s_ln) (defBody s_ln) (defScope s_ln) .none kV14 dc14 pm14 aN14 cd14 ct14), sL14⟩) (Ec14 : PySem.W.codeIn K cd14 "_law_near" = true) (K14 : PySem.W.keepIn K (.ref f14) = true)
    (A15 : PySem.W.nsIn K mainGlobals "_law_refused" = some (some (.ref f15)))
    {oc15 kV15 dc15 pm15 cd15 ct15 : Value} {oD15 aN15 : Option Addr} {sL15 : Array (Option Value)}
    (L15 : K.lookup f15 = some ⟨oc15, oD15, .func (PySem.W.fnOf "_law_refused" "_law_refused" (defArgs s_ref) (defBody s_ref) (defScope s_ref) .none kV15 dc15 pm15 aN15 cd15 ct15), sL15⟩) (Ec15 : PySem.W.codeIn K cd15 "_law_refused" = true) (K15 : PySem.W.keepIn K (.ref f15) = true)
    (A16 : PySem.W.nsIn K mainGlobals "_law_pair_right" = some (some (.ref f16)))
    {oc16 kV16 dc16 pm16 cd16 ct16 : Value} {oD16 aN16 : Option Addr} {sL16 : Array (Option Value)}
    (L16 : K.lookup f16 = some ⟨oc16, oD16, .func (PySem.W.fnOf "_law_pair_right" "_law_pair_right" (defArgs s_pr) (defBody s_pr) (defScope s_pr) .none kV16 dc16 pm16 aN16 cd16 ct16), sL16⟩) (Ec16 : PySem.W.codeIn K cd16 "_law_pair_right" = true) (K16 : PySem.W.keepIn K (.ref f16) = true)
    (A17 : PySem.W.nsIn K mainGlobals "_law_odd_right" = some (some (.ref f17)))
    {oc17 kV17 dc17 pm17 ct17 : Value} {oD17 aN17 : Option Addr} {sL17 : Array (Option Value)}
    (L17 : K.lookup f17 = some ⟨oc17, oD17, .func (PySem.W.fnOf "_law_odd_right" "_law_odd_right" (defArgs s_odd) (defBody s_odd) (defScope s_odd) .none kV17 dc17 pm17 aN17 (.ref c) ct17), sL17⟩) (Ec17 : PySem.W.codeIn K (.ref c) "_law_odd_right" = true) (K17 : PySem.W.keepIn K (.ref f17) = true)
    (A18 : PySem.W.nsIn K mainGlobals "law" = some (some (.ref f18)))
    {oc18 kV18 dc18 pm18 cd18 ct18 : Value} {oD18 aN18 : Option Addr} {sL18 : Array (Option Value)}
    (L18 : K.lookup f18 = some ⟨oc18, oD18, .func (PySem.W.fnOf "law" "law" (defArgs s_law) (defBody s_law) (defScope s_law) .none kV18 dc18 pm18 aN18 cd18 ct18), sL18⟩) (Ec18 : PySem.W.codeIn K cd18 "law" = true) (K18 : PySem.W.keepIn K (.ref f18) = true)
    (z0 : PySem.W.nsIn K mainGlobals "isinstance" = some none)
    (z1 : PySem.W.nsIn K mainGlobals "tuple" = some none)
    (z2 : PySem.W.nsIn K mainGlobals "all" = some none)
    (z3 : PySem.W.nsIn K mainGlobals "bool" = some none)
    (z4 : PySem.W.nsIn K mainGlobals "int" = some none)
    (z5 : PySem.W.nsIn K mainGlobals "str" = some none)
    (z6 : PySem.W.nsIn K mainGlobals "list" = some none)
    (z7 : PySem.W.nsIn K mainGlobals "len" = some none)
    (z8 : PySem.W.nsIn K mainGlobals "range" = some none)
    (z9 : PySem.W.nsIn K mainGlobals "repr" = some none)
    (z10 : PySem.W.nsIn K mainGlobals "ValueError" = some none)
    (hT : h.get? tb = some tabO) (ntb : K.lookup tb = none) (cdh : PySem.W.codeHdIn K c tb = true) (all : okB K BV BC BP = true) :
    ∃ (fd : FuncData) (c tb : Addr) (sp : Sp), h.get? tb = some tabO ∧ K.lookup tb = none ∧ PySem.W.CodeHd h c tb ∧ (∀ (s : Shared) (u : Value), BindsTo s fd ⟨[u], []⟩ [("script", u)]) ∧
        (∀ (H : Hp) (a : Addr) (ns : List Int), ns.length ≤ 63 → H tb = some (.tbl #[]) → SqL K H a (ns.map V.int) → sp [.ref a] H (fun v _ => v = .bl true) E0) ∧
        ∀ base : Heap, K.In base → base.Ns mainGlobals mg → TabB base mg c tb → FnG P w K mg base CX0 20 fa fd ["script"] sp := by
  have e := hfa.symm.trans (PySem.W.mg_of X G A18)
  cases e
  have O := okB_ok all
  have F0 := fun_mk (st := s_is) L0 Ec0 K0
  have B0 := F0.binds (ps := ["thing"]) fun _ _ _ _ _ _ us hl => match us, hl with | [_], _ => rfl
  have Q0 := Ck.Fun.kb F0 (ps := ["thing"]) (by decide) fun _ _ _ _ _ _ ws hl => match ws, hl with | [_], _ => rfl
  have F1 := fun_mk (st := s_chk) L1 Ec1 K1
  have B1 := F1.binds (ps := ["thing"]) fun _ _ _ _ _ _ us hl => match us, hl with | [_], _ => rfl
  have F2 := fun_mk (st := s_kind) L2 Ec2 K2
  have B2 := F2.binds (ps := ["value"]) fun _ _ _ _ _ _ us hl => match us, hl with | [_], _ => rfl
  have Q2 := Ck.Fun.kb F2 (ps := ["value"]) (by decide) fun _ _ _ _ _ _ ws hl => match ws, hl with | [_], _ => rfl
  have F3 := fun_mk (st := s_rank) L3 Ec3 K3
  have B3 := F3.binds (ps := ["value"]) fun _ _ _ _ _ _ us hl => match us, hl with | [_], _ => rfl
  have F4 := fun_mk (st := s_key) L4 Ec4 K4
  have B4 := F4.binds (ps := ["value"]) fun _ _ _ _ _ _ us hl => match us, hl with | [_], _ => rfl
  have F5 := fun_mk (st := s_same) L5 Ec5 K5
  have B5 := F5.binds (ps := ["one", "other"]) fun _ _ _ _ _ _ us hl => match us, hl with | [_, _], _ => rfl
  have Q5 := Ck.Fun.kb F5 (ps := ["one", "other"]) (by decide) fun _ _ _ _ _ _ ws hl => match ws, hl with | [_, _], _ => rfl
  have F6 := fun_mk (st := s_cmp) L6 Ec6 K6
  have B6 := F6.binds (ps := ["one", "other"]) fun _ _ _ _ _ _ us hl => match us, hl with | [_, _], _ => rfl
  have Q6 := Ck.Fun.kb F6 (ps := ["one", "other"]) (by decide) fun _ _ _ _ _ _ ws hl => match ws, hl with | [_, _], _ => rfl
  have F7 := fun_mk (st := sBegun) L7 Ec7 K7
  have B7 := F7.binds (ps := ["script"]) fun _ _ _ _ _ _ us hl => match us, hl with | [_], _ => rfl
  have F8 := fun_mk (st := sMixed) L8 Ec8 K8
  have B8 := F8.binds (ps := ["state"]) fun _ _ _ _ _ _ us hl => match us, hl with | [_], _ => rfl
  have F9 := fun_mk (st := sTake) L9 Ec9 K9
  have B9 := F9.binds (ps := ["state", "span"]) fun _ _ _ _ _ _ us hl => match us, hl with | [_, _], _ => rfl
  have F10 := fun_mk (st := sPick) L10 Ec10 K10
  have B10 := F10.binds (ps := ["state", "some"]) fun _ _ _ _ _ _ us hl => match us, hl with | [_, _], _ => rfl
  have F11 := fun_mk (st := s_lv) L11 Ec11 K11
  have B11 := F11.binds (ps := ["state", "deep"]) fun _ _ _ _ _ _ us hl => match us, hl with | [_, _], _ => rfl
  have F12 := fun_mk (st := s_lk) L12 Ec12 K12
  have B12 := F12.binds (ps := ["matter"]) fun _ _ _ _ _ _ us hl => match us, hl with | [_], _ => rfl
  have F13 := fun_mk (st := s_lr) L13 Ec13 K13
  have B13 := F13.binds (ps := ["matter"]) fun _ _ _ _ _ _ us hl => match us, hl with | [_], _ => rfl
  have F14 := fun_mk (st := s_ln) L14 Ec14 K14
  have B14 := F14.binds (ps := ["state", "matter"]) fun _ _ _ _ _ _ us hl => match us, hl with | [_, _], _ => rfl
  have F15 := fun_mk (st := s_ref) L15 Ec15 K15
  have B15 := F15.binds (ps := ["work"]) fun _ _ _ _ _ _ us hl => match us, hl with | [_], _ => rfl
  have F16 := fun_mk (st := s_pr) L16 Ec16 K16
  have B16 := F16.binds (ps := ["unit", "second_one"]) fun _ _ _ _ _ _ us hl => match us, hl with | [_, _], _ => rfl
  have F17 : FunC K "_law_odd_right" "_law_odd_right" s_odd f17 _ c := ⟨⟨oc17, oD17, kV17, dc17, pm17, aN17, ct17, sL17, rfl, L17, Ec17⟩, K17⟩
  have B17 : Binds K (PySem.W.fnOf "_law_odd_right" "_law_odd_right" (defArgs s_odd) (defBody s_odd) (defScope s_odd) .none kV17 dc17 pm17 aN17 (.ref c) ct17) ["odd", "matter"] [] := .all fun us hl => match us, hl with | [_, _], _ => rfl
  have F18 := fun_mk (st := s_law) L18 Ec18 K18
  have T : Blt mg := ⟨(PySem.W.mg_none_of X G z0), (PySem.W.mg_none_of X G z1), (PySem.W.mg_none_of X G z2), (PySem.W.mg_none_of X G z3), (PySem.W.mg_none_of X G z4), (PySem.W.mg_none_of X G z5)⟩
  have VT : Val K mg BV AK := ⟨T, PySem.W.mg_of X G a0, O.kp, O.ex, O.xc.hs, O.ty, PySem.W.mg_of X G a3, fun H => .inr ⟨_, _, _, kk, rfl, rfl, (by show 5 ≤ sizeLine; decide), .cons ⟨_, rfl⟩ (.cons ⟨_, rfl⟩ (.cons ⟨_, rfl⟩ (.cons ⟨_, rfl⟩ (.cons ⟨_, rfl⟩ .nil))))⟩⟩
  have RT : Ref K mg BV BC BP := ⟨(PySem.W.mg_none_of X G z0), (PySem.W.mg_none_of X G z10), PySem.W.mg_of X G a0, PySem.W.mg_of X G a1, PySem.W.mg_of X G a2, O.xc, O.no, O.yes, O.te⟩
  refine ⟨PySem.W.fnOf "law" "law" (defArgs s_law) (defBody s_law) (defScope s_law) .none kV18 dc18 pm18 aN18 cd18 ct18, c, tb, spLaw K tb, hT, ntb, PySem.W.codeHd_of_K X cdh, fun s v => .of_eq rfl, fun H a ns hl ht hS => ⟨a, ns, rfl, hS, hl, (fun p hp => by rw [List.mem_singleton.mp hp]; exact TabS.nil ht), fun _ => rfl⟩, fun base _ _ TB => ?_⟩
  have chk := ok_chk (P := P) (w := w) (base := base) (n := 12) F1 VT F0 B0 (PySem.W.mg_of X G A0)
  have key := ok_key (P := P) (w := w) (base := base) F4 B4 (PySem.W.mg_of X G A4) T F3 B3 (PySem.W.mg_of X G A3) 12
  have cmp := ok_cmp (n := 12) (by decide) F6 VT chk K1 B1 (PySem.W.mg_of X G A1) key K4 B4 (PySem.W.mg_of X G A4)
  have PG : Prg P w K mg base BV 12 := ⟨⟨f0, _, ok_is F0 B0 (PySem.W.mg_of X G A0) T 12, (PySem.W.mg_of X G A0), K0, B0, Q0⟩, ⟨f2, _, ok_kind F2 VT chk K1 B1 (PySem.W.mg_of X G A1) F3 B3 (PySem.W.mg_of X G A3), (PySem.W.mg_of X G A2), K2, B2, Q2⟩, ⟨f6, _, cmp, (PySem.W.mg_of X G A6), K6, B6, Q6⟩, ⟨f5, _, ok_same F5 cmp K6 B6 (PySem.W.mg_of X G A6), (PySem.W.mg_of X G A5), K5, B5, Q5⟩⟩
  have take := ok_take (P := P) (w := w) (base := base) (k := 0) F9 F8 B8 (PySem.W.mg_of X G A8) (PySem.W.mg_none_of X G z4)
  have D0 : Drs P w K mg base := ⟨⟨f7, _, ok_begun (k := 0) F7 (PySem.W.mg_none_of X G z6), (PySem.W.mg_of X G A7), K7, B7⟩, ⟨f9, _, take, (PySem.W.mg_of X G A9), K9, B9⟩, ⟨f10, _, ok_pick (k := 0) F10 take K9 B9 (PySem.W.mg_of X G A9) (PySem.W.mg_none_of X G z7), (PySem.W.mg_of X G A10), K10, B10⟩, (PySem.W.mg_none_of X G z8)⟩
  exact ok_law F18 D0 PG ⟨⟨f11, _, ok_lv F11 B11 (PySem.W.mg_of X G A11) T D0 3, (PySem.W.mg_of X G A11), K11, B11⟩, ⟨f12, _, ok_lk F12 T, (PySem.W.mg_of X G A12), K12, B12⟩, ⟨f14, _, ok_ln F14 B14 (PySem.W.mg_of X G A14) T D0 (PySem.W.mg_none_of X G z7) F12 B12 (PySem.W.mg_of X G A12) F11 B11 (PySem.W.mg_of X G A11) 9 (by decide), (PySem.W.mg_of X G A14), K14, B14⟩,
    ⟨f16, _, ok_pr (n := 12) (by decide) F16 T PG (PySem.W.mg_none_of X G z9) (ok_lr F13 B13 (PySem.W.mg_of X G A13) T F12 B12 (PySem.W.mg_of X G A12) 12) K13 B13 (PySem.W.mg_of X G A13), (PySem.W.mg_of X G A16), K16, B16⟩, ⟨f17, _, ok_odd (n := 12) (by decide) F17 RT PG F15 (PySem.W.mg_of X G A15) TB, (PySem.W.mg_of X G A17), K17, B17⟩⟩
end Ck
open PySem PySem.W PyProof.Rows
set_option maxHeartbeats 0 in
theorem PySem.Challenge.cw_calltakers_k01_values_ordered_holds : PySem.Challenge.rw_calltakers_k01_values_ordered.Holds := by
  w_on; o_law; k_head; (case hw => w_witness2)
  k_fill
  refine Ck.walkGT (l := PySem.Challenge.rw_calltakers_k01_values_ordered) (n := 63) (k := 20) (x := "script") rfl (by decide) rfl ⟨rfl, by decide, by decide⟩ (fun w h Y => PySem.W.km_in_of Y) ?F
  case F =>
    intro w mg fa h Y KX G hmg
    refine' Ck.all_mk KX G hmg ?a0 ?a1 ?a2 ?a3 ?kk ?A0 ?L0 ?Ec0 ?K0 ?A1 ?L1 ?Ec1 ?K1 ?A2 ?L2 ?Ec2 ?K2 ?A3 ?L3 ?Ec3 ?K3 ?A4 ?L4 ?Ec4 ?K4 ?A5 ?L5 ?Ec5 ?K5 ?A6 ?L6 ?Ec6 ?K6 ?A7 ?L7 ?Ec7 ?K7 ?A8 ?L8 ?Ec8 ?K8 ?A9 ?L9 ?Ec9 ?K9 ?A10 ?L10 ?Ec10 ?K10 ?A11 ?L11 ?Ec11 ?K11 ?A12 ?L12 ?Ec12 ?K12 ?A13 ?L13 ?Ec13 ?K13 ?A14 ?L14 ?Ec14 ?K14 ?A15 ?L15 ?Ec15 ?K15 ?A16 ?L16 ?Ec16 ?K16 ?A17 ?L17 ?Ec17 ?K17 ?A18 ?L18 ?Ec18 ?K18 ?z0 ?z1 ?z2 ?z3 ?z4 ?z5 ?z6 ?z7 ?z8 ?z9 ?z10 ?hT ?ntb ?cdh ?all
    (case a0 => k_is)
    (case a1 => k_is)
    (case a2 => k_is)
    (case a3 => k_is)
    (case kk => k_is)
    (case A0 => k_is)
    (case L0 => k_is)
    (case Ec0 => k_is)
    (case K0 => k_is)
    (case A1 => k_is)
    (case L1 => k_is)
    (case Ec1 => k_is)
    (case K1 => k_is)
    (case A2 => k_is)
    (case L2 => k_is)
    (case Ec2 => k_is)
    (case K2 => k_is)
    (case A3 => k_is)
    (case L3 => k_is)
    (case Ec3 => k_is)
    (case K3 => k_is)
    (case A4 => k_is)
    (case L4 => k_is)
    (case Ec4 => k_is)
    (case K4 => k_is)
    (case A5 => k_is)
    (case L5 => k_is)
    (case Ec5 => k_is)
    (case K5 => k_is)
    (case A6 => k_is)
    (case L6 => k_is)
    (case Ec6 => k_is)
    (case K6 => k_is)
    (case A7 => k_is)
    (case L7 => k_is)
    (case Ec7 => k_is)
    (case K7 => k_is)
    (case A8 => k_is)
    (case L8 => k_is)
    (case Ec8 => k_is)
    (case K8 => k_is)
    (case A9 => k_is)
    (case L9 => k_is)
    (case Ec9 => k_is)
    (case K9 => k_is)
    (case A10 => k_is)
    (case L10 => k_is)
    (case Ec10 => k_is)
    (case K10 => k_is)
    (case A11 => k_is)
    (case L11 => k_is)
    (case Ec11 => k_is)
    (case K11 => k_is)
    (case A12 => k_is)
    (case L12 => k_is)
    (case Ec12 => k_is)
    (case K12 => k_is)
    (case A13 => k_is)
    (case L13 => k_is)
    (case Ec13 => k_is)
    (case K13 => k_is)
    (case A14 => k_is)
    (case L14 => k_is)
    (case Ec14 => k_is)
    (case K14 => k_is)
    (case A15 => k_is)
    (case L15 => k_is)
    (case Ec15 => k_is)
    (case K15 => k_is)
    (case A16 => k_is)
    (case L16 => k_is)
    (case Ec16 => k_is)
    (case K16 => k_is)
    (case A17 => k_is)
    (case L17 => k_is)
    (case Ec17 => k_is)
    (case K17 => k_is)
    (case A18 => k_is)
    (case L18 => k_is)
    (case Ec18 => k_is)
    (case K18 => k_is)
    (case z0 => k_is)
    (case z1 => k_is)
    (case z2 => k_is)
    (case z3 => k_is)
    (case z4 => k_is)
    (case z5 => k_is)
    (case z6 => k_is)
    (case z7 => k_is)
    (case z8 => k_is)
    (case z9 => k_is)
    (case z10 => k_is)
    (case hT => exact PySem.W.km_tabs_of Y _ (List.mem_singleton.mpr rfl))
    (case ntb => kernel_rfl)
    (case cdh => kernel_rfl)
    (case all => kernel_rfl)
