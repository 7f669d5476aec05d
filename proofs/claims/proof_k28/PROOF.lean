import PyProof.Rows.All
import Wide.All
import OpenK.AllK
import Wide.FinOn
import KE.KStateDown
import HandS.ForMost
import HandS.Defaults
import HandS.IsInst
import HandS.SortOrd
import HandS.TupLe
import HandS.Walk
import HandS.Codes
import KE.SortData
import HandS.Deep
import Lean
import HandS.More
import HandS.WordsExc
import HandS.Head0
import HandS.Head1
import HandS.Head2
import HandS.HeadEnd
import HandS.HeadHook1
import HandS.HeadHook2
import PySem.Challenge.RW_treeshed_k28_cells_that_are_let
set_option Elab.async false
set_option linter.all false
set_option maxRecDepth 100000
set_option maxHeartbeats 4000000
namespace K28
open PySem PySem.Spec PyProof.Rows L2
/-! ### the text -/
def top (i : Nat) : Stmt := PySem.Challenge.pw_treeshed_k28_cells_that_are_let.main.body.getD i (.Pass ⟨0, 0, 0, 0⟩)
abbrev FnP (K : PySem.W.Frag) (x q : Str) (st : Stmt) (f : Addr) (fd : FuncData) : Prop := FunD K x q (defArgs st) (defBody st) (defScope st) [] [] f fd
/-! ### names of the built-ins that the top leaves alone -/
structure Tx (mg : Str → Option Value) : Prop where
  abs : mg "abs" = none
  any : mg "any" = none
  bool : mg "bool" = none
  enumerate : mg "enumerate" = none
  int : mg "int" = none
  isinstance : mg "isinstance" = none
  len : mg "len" = none
  list : mg "list" = none
  min : mg "min" = none
  range : mg "range" = none
  sorted : mg "sorted" = none
  tuple : mg "tuple" = none
/-- a def that stands, with its promise, as its callers use it -/
structure Cl (P : Program) (w : World) (K : PySem.W.Frag) (mg : Str → Option Value) (base : Heap) (k : Nat) (x : Str) (ps : List Str) (sp : Sp) : Prop where
  ex : ∃ (f : Addr) (fd : FuncData), FnOk P w K mg base CX0 k f fd ps sp ∧ mg x = some (.ref f) ∧ PySem.W.keepIn K (.ref f) = true ∧ Binds K fd ps []
section
variable {P : Program} {w : World} {K : PySem.W.Frag} {mg : Str → Option Value} {base : Heap}
theorem cl_of {x q : Str} {st : Stmt} {f : Addr} {fd : FuncData} {k : Nat} {ps : List Str} {sp : Sp} (F : FnP K x q st f fd) (g : mg x = some (.ref f)) (ok : FnOk P w K mg base CX0 k f fd ps sp)
    (h : ∀ (kV doc pm : Value) (an : Option Addr) (cdv ct : Value) (us : List Value), us.length = ps.length → bindArgs (PySem.W.fnOf x q (defArgs st) (defBody st) (defScope st) .none kV doc pm an cdv ct) ⟨us, []⟩ = pure (ps.zip us)) :
    Cl P w K mg base k x ps sp := ⟨f, fd, ok, g, F.kp, F.bindsN h⟩
theorem Cl.mono {x : Str} {j k : Nat} {ps : List Str} {sp : Sp} (c : Cl P w K mg base j x ps sp) (h : j ≤ k) : Cl P w K mg base k x ps sp := by
  obtain ⟨f, fd, ok, g, kp, b⟩ := c.ex
  exact ⟨f, fd, ok.mono h, g, kp, b⟩
end
/-! ### heaps -/
theorem same_new {H : Hp} {p : Addr} {o : HO} (h : H p = none) : Same H (upd H p o) := fun b o' e => by
  rw [upd_ne (ne_of_none e h)]
  exact e
/-- all but p is as it was -/
def But (p : Addr) (H H' : Hp) : Prop := ∀ b o, H b = some o → b ≠ p → H' b = some o
theorem But.refl (p : Addr) (H : Hp) : But p H H := fun _ _ h _ => h
theorem But.trans {p : Addr} {H H1 H2 : Hp} (a : But p H H1) (b : But p H1 H2) : But p H H2 := fun c o h n => b c o (a c o h n) n
theorem Same.but {H H1 : Hp} (a : Same H H1) (p : Addr) : But p H H1 := fun c o h _ => a c o h
theorem but_upd (p : Addr) (H : Hp) (o : HO) : But p H (upd H p o) := fun c o' h n => by
  rw [upd_ne n]
  exact h
/-! ### the pen -/
abbrev kC : Key := Sum.inr ("cells" : Str)
abbrev kB : Key := Sum.inr ("begun" : Str)
abbrev kL : Key := Sum.inr ("left" : Str)
def penL (l : Addr) (b z : Int) : List (Key × V) := [(kC, .ref l), (kB, .int b), (kL, .int z)]
theorem s1 : ¬ (("cells" : Str) = "begun") := by decide +kernel
theorem s2 : ¬ (("cells" : Str) = "left") := by decide +kernel
theorem s3 : ¬ (("begun" : Str) = "left") := by decide +kernel
theorem s4 : ¬ (("left" : Str) = "begun") := by decide +kernel
theorem ne1 : ¬ (kC = kB) := by decide +kernel
theorem ne2 : ¬ (kC = kL) := by decide +kernel
theorem ne3 : ¬ (kB = kL) := by decide +kernel
theorem pen_c (l : Addr) (b z : Int) : valV (penL l b z) kC = some (.ref l) := valV_pos rfl
theorem pen_b (l : Addr) (b z : Int) : valV (penL l b z) kB = some (.int b) := by
  unfold penL
  rw [valV_neg ne1, valV_pos rfl]
theorem pen_l (l : Addr) (b z : Int) : valV (penL l b z) kL = some (.int z) := by
  unfold penL
  rw [valV_neg ne2, valV_neg ne3, valV_pos rfl]
theorem pen_pb (l : Addr) (b z y : Int) : putK (penL l b z) kB (.int y) = penL l y z := by
  simp [penL, putK, s1, s4]
theorem pen_pl (l : Addr) (b z y : Int) : putK (penL l b z) kL (.int y) = penL l b y := by
  simp [penL, putK, s2, s3]
structure Pen (H : Hp) (p l : Addr) (ns : List Int) (b z : Int) : Prop where
  d : H p = some (.dK (penL l b z))
  l : H l = some (.lst (ns.map V.int))
  b0 : 0 ≤ b
  z0 : 0 ≤ z
  n : ns.length ≤ 63
theorem Pen.ne {H : Hp} {p l : Addr} {ns : List Int} {b z : Int} (h : Pen H p l ns b z) : p ≠ l := ne_of h.d h.l (by intro e; cases e)
theorem Pen.same {H H' : Hp} {p l : Addr} {ns : List Int} {b z : Int} (h : Pen H p l ns b z) (s : Same H H') : Pen H' p l ns b z := ⟨s _ _ h.d, s _ _ h.l, h.b0, h.z0, h.n⟩
theorem Pen.put {H : Hp} {p l : Addr} {ns : List Int} {b z b' z' : Int} (h : Pen H p l ns b z) (hb : 0 ≤ b') (hz : 0 ≤ z') : Pen (upd H p (.dK (penL l b' z'))) p l ns b' z' :=
  ⟨upd_same, by rw [upd_ne h.ne.symm]; exact h.l, hb, hz, h.n⟩
theorem Pen.gc {H : Hp} {p l : Addr} {ns : List Int} {b z : Int} (h : Pen H p l ns b z) : DGet H p (.str "cells") (some (.ref l)) := by
  have e := DGet.k (k := kC) h.d
  rw [pen_c] at e
  exact e
theorem Pen.gb {H : Hp} {p l : Addr} {ns : List Int} {b z : Int} (h : Pen H p l ns b z) : DGet H p (.str "begun") (some (.int b)) := by
  have e := DGet.k (k := kB) h.d
  rw [pen_b] at e
  exact e
theorem Pen.gl {H : Hp} {p l : Addr} {ns : List Int} {b z : Int} (h : Pen H p l ns b z) : DGet H p (.str "left") (some (.int z)) := by
  have e := DGet.k (k := kL) h.d
  rw [pen_l] at e
  exact e
theorem Pen.pb {H : Hp} {p l : Addr} {ns : List Int} {b z : Int} (h : Pen H p l ns b z) (y : Int) : DPut H p (.str "begun") (.int y) (upd H p (.dK (penL l y z))) := by
  have e := DPut.k (k := kB) (v := .int y) h.d (by show 3 < sizeLine; decide)
  rw [pen_pb] at e
  exact e
theorem Pen.pl {H : Hp} {p l : Addr} {ns : List Int} {b z : Int} (h : Pen H p l ns b z) (y : Int) : DPut H p (.str "left") (.int y) (upd H p (.dK (penL l b y))) := by
  have e := DPut.k (k := kL) (v := .int y) h.d (by show 3 < sizeLine; decide)
  rw [pen_pl] at e
  exact e
theorem at_mod (ns : List Int) {b : Int} (hb : 0 ≤ b) (h : 0 < ns.length) : ∃ t, atI (ns.map V.int) (b % ((ns.map V.int).length : Int)) = some (V.int t) := by
  rw [List.length_map]
  have h1 : 0 ≤ b % (ns.length : Int) := Int.emod_nonneg _ (by omega)
  have h2 : b % (ns.length : Int) < ns.length := Int.emod_lt_of_pos _ (by omega)
  obtain ⟨j, hj⟩ := Int.eq_ofNat_of_zero_le h1
  rw [hj]
  have hl : j < ns.length := by omega
  exact ⟨ns[j], atI_nat (by rw [List.getElem?_map, List.getElem?_eq_getElem hl]; rfl)⟩
/-! ### promises of the law's draws -/
def spPenOf (K : PySem.W.Frag) : Sp := fun vs H Q _ => ∃ (a : Addr) (ns : List Int), vs = [.ref a] ∧ SqL K H a (ns.map V.int) ∧ ns.length ≤ 63 ∧ ∀ (p l : Addr) (H' : Hp), Same H H' → Pen H' p l ns 0 0 → Q (.ref p) H'
def spDraw : Sp := fun vs H Q _ => ∃ (p l : Addr) (ns : List Int) (b z m : Int), vs = [.ref p, .int m] ∧ 1 ≤ m ∧ m < 1000000 ∧ Pen H p l ns b z ∧ b < 1000000 ∧
  ∀ (d b' z' : Int) (H' : Hp), 0 ≤ d → d < m → b' ≤ b + 1 → Pen H' p l ns b' z' → But p H H' → Q (.int d) H'
def spPick : Sp := fun vs H Q _ => ∃ (p l : Addr) (ns : List Int) (b z : Int) (a : Addr) (xs : List V), vs = [.ref p, .ref a] ∧ Pen H p l ns b z ∧ b < 1000000 ∧ H a = some (.lst xs) ∧ xs ≠ [] ∧ xs.length ≤ 1000 ∧ a ≠ p ∧
  ∀ (x : V) (b' z' : Int) (H' : Hp), x ∈ xs → b' ≤ b + 1 → Pen H' p l ns b' z' → But p H H' → Q x H'
section
variable {P : Program} {w : World} {K : PySem.W.Frag} {mg : Str → Option Value} {base : Heap}
abbrev sPenOf : Stmt := top 14
abbrev sDraw : Stmt := top 15
abbrev sPick : Stmt := top 16
theorem scPenOf : FnScope ["_law_script"] ["_law_script"] (defScope sPenOf) := ⟨rfl, rfl, rfl, by decide +kernel, rfl, by decide +kernel, by decide +kernel⟩
theorem scDraw : FnScope ["_law_pen", "_law_many", "_law_digit", "_law_place", "_law_size", "_law_told", "_law_blend"] ["_law_pen", "_law_many"] (defScope sDraw) := ⟨rfl, rfl, rfl, by decide +kernel, rfl, by decide +kernel, by decide +kernel⟩
theorem scPick : FnScope ["_law_pen", "_law_menu"] ["_law_pen", "_law_menu"] (defScope sPick) := ⟨rfl, rfl, rfl, by decide +kernel, rfl, by decide +kernel, by decide +kernel⟩
theorem ok_penOf {f : Addr} {fd : FuncData} (F : FnP K "_law_pen_of" "_law_pen_of" sPenOf f fd) (T : Tx mg) : FnOk P w K mg base CX0 1 f fd ["_law_script"] (spPenOf K) := by
  refine F.ok scPenOf (fun vs H Q E h => ?_) (fun cdv A outer s H vs Q E hr h => ?_)
  · obtain ⟨a, ns, rfl, _⟩ := h
    rfl
  · obtain ⟨a, ns, rfl, hS, hl, k⟩ := h
    refine ⟨_, PSs.nox (pss_one (ps_ret (pe_disp
      (pps_cons pe_str (pe_callTy call_list_of (by rfl) T.list (by decide +kernel) (pa_cons (pe_slice sl_list (pv 0) po_none (po_some pe_int)) pa_nil))
        (pps_cons pe_str pe_int (pps_cons pe_str pe_int pps_nil))) (by rfl) (by rfl) (fun z => by cases z) (by decide)))), ?_⟩
    intro p hp
    have s0 : Same H (upd H p (.dK [])) := same_new hp
    -- the slice, then the list
    refine ⟨_, rfl, _, rfl, a, _, rfl, s0.seq hS, fun q hq => ?_⟩
    have np : p ≠ q := ne_of_none upd_same hq
    have hcut : cutV (ns.map V.int) none (some 63) = ns.map V.int := by
      show ((ns.map V.int).drop (HT.sIx (ns.map V.int).length 0 none)).take (HT.sIx (ns.map V.int).length (ns.map V.int).length (some ((63 : Nat) : Int)) - HT.sIx (ns.map V.int).length 0 none) = _
      rw [HT.sIx_none, HT.sIx_nat, List.drop_zero, List.take_of_length_le]
      rw [List.length_map]
      omega
    refine ⟨q, _, rfl, Or.inl (SqL.of upd_same), fun r hr' => ?_⟩
    have nq : p ≠ r := ne_of_none (by rw [upd_ne np]; exact upd_same) hr'
    refine ⟨by rw [upd_ne nq, upd_ne np]; exact upd_same, penL r 0 0, rfl, (by show 3 ≤ 15; decide), ?_⟩
    rw [hcut]
    have s1 : Same H (upd (upd (upd H p (.dK [])) q (.lst (ns.map V.int))) r (.lst (ns.map V.int))) := (s0.trans (same_new hq)).trans (same_new (by rw [← hcut]; exact hr'))
    refine k p r _ (fun b o e => ?_) ⟨upd_same, by rw [upd_ne nq.symm]; exact upd_same, by decide, by decide, hl⟩
    rw [upd_ne (ne_of_none e hp)]
    exact s1 b o e
theorem ok_draw {f : Addr} {fd : FuncData} (F : FnP K "_law_draw" "_law_draw" sDraw f fd) (T : Tx mg) : FnOk P w K mg base CX0 1 f fd ["_law_pen", "_law_many"] spDraw := by
  refine F.ok scDraw (fun vs H Q E h => ?_) (fun cdv A outer s H vs Q E hr h => ?_)
  · obtain ⟨p, l, ns, b, z, m, rfl, _⟩ := h
    rfl
  · obtain ⟨p, l, ns, b, z, m, rfl, m1, m2, hp, hb, k⟩ := h
    have hu := hu_of hr
    refine ⟨_, PSs.nox (pss_cons (ps_if (pt_cmpR op_gt (pe_dget hu (pv 0) pe_str (fun _ _ => rfl)) pe_int (nomark _))
        (pss_cons (ps_set (i := 2) scDraw.nd rfl (Or.inl rfl) (pe_op op_mod (pe_callTy call_int1 (by rfl) T.int (by decide +kernel) (pa_cons (pe_dget hu (pv 0) pe_str (fun _ _ => rfl)) pa_nil)) (pv 1)))
        (pss_cons (ps_dput hu (pv 0) pe_str (pe_op op_fdiv (pe_dget hu (pv 0) pe_str (fun _ _ => rfl)) (pv 1)) rfl)
        (pss_one (ps_ret (pv 2))))) pss_nil)
      (pss_cons (ps_par (i := 3) (j := 4) (by rfl) scDraw.nd rfl rfl (by decide) rfl rfl (pa_cons (pe_dget hu (pv 0) pe_str (fun _ _ => rfl)) (pa_cons (pe_callB call_len_seq (by rfl) T.len PySem.boot_len (pa_cons (pe_dget hu (pv 0) pe_str (fun _ _ => rfl)) pa_nil)) pa_nil)) (by rfl))
      (pss_cons (ps_dput hu (pv 0) pe_str (pe_op op_add (pv 3) pe_int) rfl)
      (C8.pss_cut (ps_set (i := 5) scDraw.nd rfl (Or.inl rfl) (pe_ifExp (pt_cmpR op_gt (pv 4) pe_int (nomark _))
        (pe_ix ix_list (pe_dget hu (pv 0) pe_str (fun _ _ => rfl)) (pe_op op_mod (pe_callTy call_int1 (by rfl) T.int (by decide +kernel) (pa_cons (pv 3) pa_nil)) (pv 4)) (fun _ _ => rfl))
        (pe_op op_add (pe_op op_mul pe_int (pv 3)) pe_int)))
      (C8.pss_cut (ps_if (PW.pt (pw_and (pt_cmpR op_lt (pv 3) (pv 4) (nomark _)) (pw_and1 (pt_cmpR op_ge (pe_callB call_abs (by rfl) T.abs (by decide +kernel) (pa_cons (pv 5) pa_nil)) (pe_op op_pow pe_int pe_int) (nomark _)))))
        (pss_cons (ps_dput hu (pv 0) pe_str (pe_op op_fdiv (pe_op op_sub (pe_callB call_abs (by rfl) T.abs (by decide +kernel) (pa_cons (pv 5) pa_nil)) (pe_op op_pow pe_int pe_int)) (pv 1)) rfl)
        (pss_one (ps_ret (pe_op op_mod (pe_callTy call_int1 (by rfl) T.int (by decide +kernel) (pa_cons (pe_op op_sub (pe_callB call_abs (by rfl) T.abs (by decide +kernel) (pa_cons (pv 5) pa_nil)) (pe_op op_pow pe_int pe_int)) pa_nil)) (pv 1))))) pss_nil)
      (pss_cons (ps_set (i := 6) scDraw.nd rfl (Or.inl rfl) (pe_op op_mod (pe_callTy call_int1 (by rfl) T.int (by decide +kernel) (pa_cons
          (pe_op op_add (pe_op op_add (pe_op op_mul (pe_op op_mod (pe_callTy call_int1 (by rfl) T.int (by decide +kernel) (pa_cons (pv 5) pa_nil)) pe_int) pe_int) (pe_op op_mul (pe_op op_mul pe_int (pv 3)) (pv 3))) pe_int) pa_nil)) pe_int))
      (pss_cons (ps_set (i := 6) scDraw.nd rfl (Or.inl rfl) (pe_op op_mod (pe_callTy call_int1 (by rfl) T.int (by decide +kernel) (pa_cons
          (pe_op op_add (pe_op op_add (pe_op op_add (pe_op op_mul (pv 6) (pv 6)) (pe_op op_mul pe_int (pv 6))) (pe_op op_mul pe_int (pv 3))) pe_int) pa_nil)) pe_int))
      (pss_one (ps_ret (pe_op op_mod (pe_callTy call_int1 (by rfl) T.int (by decide +kernel) (pa_cons
          (pe_op op_fdiv (pe_op op_mod (pe_callTy call_int1 (by rfl) T.int (by decide +kernel) (pa_cons (pe_op op_mul (pv 6) (pe_op op_add (pv 6) pe_int)) pa_nil)) pe_int) pe_int) pa_nil)) (pv 1))))))))))), ?_⟩
    refine ⟨_, rfl, p, _, rfl, hp.gl, _, _, rfl, rfl, _, rfl, ?_⟩
    refine ite2 (fun c => ?_) (fun c => ?_)
    · -- digits are left
      refine ⟨_, rfl, p, _, rfl, hp.gl, Or.inl ⟨_, rfl, ?_⟩⟩
      refine ⟨_, rfl, _, _, rfl, rfl, (by omega), ?_⟩
      refine ⟨_, rfl, p, _, rfl, hp.gl, _, rfl, _, _, rfl, rfl, ⟨by omega, by omega⟩, _, rfl, p, _, rfl, hp.pl _, ?_⟩
      refine ⟨_, rfl, ?_⟩
      have z1 : 0 < z := of_decide_eq_true c
      exact k _ b (z / m) _ (Int.emod_nonneg _ (by omega)) (Int.emod_lt_of_pos _ (by omega)) (by omega) (hp.put hp.b0 (Int.ediv_nonneg (by omega) (by omega))) (but_upd _ _ _)
    · -- a cell
      have hb0 := hp.b0
      refine ⟨_, rfl, p, _, rfl, hp.gb, _, rfl, p, _, rfl, hp.gc, l, _, rfl, Or.inl (SqL.of hp.l), ?_⟩
      refine ⟨_, _, rfl, ?_⟩
      refine ⟨_, rfl, _, _, rfl, rfl, _, rfl, p, _, rfl, hp.pb _, ?_⟩
      have P2 : Pen (upd H p (.dK (penL l (b + 1) z))) p l ns (b + 1) z := hp.put (by omega) hp.z0
      have B2 : But p H (upd H p (.dK (penL l (b + 1) z))) := but_upd _ _ _
      generalize upd H p (.dK (penL l (b + 1) z)) = H2 at P2 B2 ⊢
      refine ⟨fun σ H' => H2 = H' ∧ ∃ t : Int, σ = [some (.ref p), some (.int m), none, some (.int b), some (.int (ns.map V.int).length), some (.int t), none], ?_, ?_⟩
      · refine ⟨_, rfl, _, _, rfl, rfl, _, rfl, ?_⟩
        refine ite2 (fun c2 => ?_) (fun c2 => ?_)
        · have c3 := of_decide_eq_true c2
          obtain ⟨t, ht⟩ := at_mod ns hb0 (by simpa using c3)
          refine ⟨_, rfl, p, _, rfl, P2.gc, _, rfl, Or.inl ⟨_, rfl, ?_⟩⟩
          refine ⟨_, rfl, _, _, rfl, rfl, c3, l, _, _, _, rfl, rfl, SqL.of P2.l, ht, ?_⟩
          exact ⟨rfl, t, rfl⟩
        · refine ⟨_, rfl, _, _, rfl, rfl, Or.inl ⟨by decide, by decide⟩, _, _, rfl, rfl, ?_⟩
          exact ⟨rfl, _, rfl⟩
      · rintro σ' H' ⟨rfl, t, rfl⟩
        refine ⟨fun σ H' => H2 = H' ∧ σ = [some (.ref p), some (.int m), none, some (.int b), some (.int (ns.map V.int).length), some (.int t), none], ?_, ?_⟩
        · refine ⟨_, rfl, _, rfl, _, _, rfl, rfl, _, rfl, ?_⟩
          refine ite2 (fun c2 => ?_) (fun c2 => ?_)
          · refine ⟨_, rfl, _, rfl, _, _, rfl, rfl, ⟨by decide, by decide, by decide⟩, _, _, rfl, rfl, _, rfl, ?_⟩
            refine ite2 (fun c3 => ?_) (fun c3 => ?_)
            · have c4 := of_decide_eq_true c3
              refine ⟨_, rfl, _, rfl, _, _, rfl, rfl, ⟨by decide, by decide, by decide⟩, _, _, rfl, rfl, _, rfl, _, _, rfl, rfl, ⟨by omega, by omega⟩, _, rfl, p, _, rfl, P2.pl _, ?_⟩
              refine ⟨_, rfl, _, rfl, _, _, rfl, rfl, ⟨by decide, by decide, by decide⟩, _, _, rfl, rfl, Or.inl ⟨_, rfl, ?_⟩⟩
              refine ⟨_, rfl, _, _, rfl, rfl, (by omega), ?_⟩
              exact k _ (b + 1) _ _ (Int.emod_nonneg _ (by omega)) (Int.emod_lt_of_pos _ (by omega)) (by omega) (P2.put P2.b0 (Int.ediv_nonneg (Int.sub_nonneg.mpr c4) (by omega))) (B2.trans (but_upd _ _ _))
            · exact ⟨rfl, rfl⟩
          · exact ⟨rfl, rfl⟩
        · rintro σ' H' ⟨rfl, rfl⟩
          refine ⟨_, rfl, Or.inl ⟨_, rfl, ?_⟩⟩
          refine ⟨_, _, rfl, rfl, (by show (0 : Int) < _; decide), _, _, rfl, rfl, Or.inl ⟨by omega, by omega⟩, ?_⟩
          refine ⟨_, rfl, _, _, rfl, rfl, Or.inl ⟨by decide, by decide⟩, _, rfl, _, _, rfl, rfl, Or.inl ⟨by omega, by omega⟩, _, _, rfl, rfl, _, _, rfl, rfl, Or.inl ⟨_, rfl, ?_⟩⟩
          refine ⟨_, _, rfl, rfl, (by show (0 : Int) < _; decide), ?_⟩
          refine ⟨_, rfl, _, rfl, _, _, rfl, rfl, Or.inl ⟨by omega, by omega⟩, _, rfl, _, _, rfl, rfl, Or.inl ⟨by decide, by decide⟩, _, _, rfl, rfl, _, rfl, _, _, rfl, rfl, Or.inl ⟨by decide, by decide⟩, _, _, rfl, rfl, _, _, rfl, rfl, Or.inl ⟨_, rfl, ?_⟩⟩
          refine ⟨_, _, rfl, rfl, (by show (0 : Int) < _; decide), ?_⟩
          refine ⟨_, rfl, _, rfl, _, _, rfl, rfl, _, _, rfl, rfl, Or.inl ⟨by omega, by omega⟩, Or.inl ⟨_, rfl, ?_⟩⟩
          refine ⟨_, _, rfl, rfl, (by show (0 : Int) < _; decide), _, _, rfl, rfl, ⟨by decide, by decide⟩, Or.inl ⟨_, rfl, ?_⟩⟩
          refine ⟨_, rfl, _, _, rfl, rfl, (by omega), ?_⟩
          exact k _ (b + 1) _ _ (Int.emod_nonneg _ (by omega)) (Int.emod_lt_of_pos _ (by omega)) (by omega) P2 B2
theorem ok_pick {f : Addr} {fd : FuncData} (F : FnP K "_law_pick" "_law_pick" sPick f fd) (T : Tx mg) (cD : Cl P w K mg base 1 "_law_draw" ["_law_pen", "_law_many"] spDraw) : FnOk P w K mg base CX0 2 f fd ["_law_pen", "_law_menu"] spPick := by
  obtain ⟨fD, fdD, GD, mD, kD, bD⟩ := cD.ex
  refine F.ok scPick (fun vs H Q E h => ?_) (fun cdv A outer s H vs Q E hr h => ?_)
  · obtain ⟨p, l, ns, b, z, a, xs, rfl, _⟩ := h
    rfl
  · obtain ⟨p, l, ns, b, z, a, xs, rfl, hp, hb, ha, hx, hl, hn, k⟩ := h
    refine ⟨_, PSs.nox (pss_one (ps_ret (pe_ix ix_list (pv 1) (pe_call GD hr (by rfl) mD kD bD .nil pass0 (pa_cons (pv 0) (pa_cons (pe_callB call_len_seq (by rfl) T.len PySem.boot_len (pa_cons (pv 1) pa_nil)) pa_nil))) (fun _ _ => rfl)))), ?_⟩
    have h1 : 1 ≤ xs.length := List.length_pos_iff.mpr hx
    refine ⟨_, rfl, _, rfl, _, rfl, a, xs, rfl, Or.inl (SqL.of ha), p, l, ns, b, z, _, rfl, (by omega), (by omega), hp, hb, fun d b' z' H' d0 d1 hb' hp' hB => ?_⟩
    obtain ⟨j, rfl⟩ := Int.eq_ofNat_of_zero_le d0
    have hj : j < xs.length := by omega
    refine ⟨a, xs, _, _, rfl, rfl, SqL.of (hB _ _ ha hn), atI_nat (List.getElem?_eq_getElem hj), ?_⟩
    exact k _ _ _ _ (List.getElem_mem hj) hb' hp' hB
end
end K28

set_option Elab.async false
set_option linter.all false
set_option maxRecDepth 100000
set_option maxHeartbeats 4000000
/-! ### rules of my own over the layer: x in t of data, sorted of data of any form -/
namespace Own
open PySem PySem.Spec PyProof.Rows L2
section
variable {X : Cx}
/-- x in c, x not in c: c a list or a tuple of data, x a datum; neg: not in -/
def rInA (K : PySem.W.Frag) (neg : Bool) : R2 := fun x y H Q => ∃ d ds, Dp K H x d ∧ (Dp K H y (.list ds) ∨ Dp K H y (.tuple ds)) ∧ PyData.canLay0 d = true ∧ PyData.canLayAll0 ds = true ∧ d.depth ≤ 60 ∧
  Q (.bl (if neg = true then !ds.any fun z => PyData.eqv z d else ds.any fun z => PyData.eqv z d)) H
theorem room_in {A : Around} {ds : List PyData} {d : PyData} (hd : d.depth ≤ 60) (hu : A.units + 64 < cLine) : A.units + 1 + min (PyData.depthAll ds) d.depth < cLine := by
  have h := Nat.min_le_right (PyData.depthAll ds) d.depth
  omega
theorem op_inA (hu : X.A.units + 64 < cLine) : OpR X (compareOp .In) (rInA X.K false) := by
  intro pins s σ H x y v u Q I rx ry h
  obtain ⟨d, ds, hd, he, sd, se, hl, q⟩ := h
  obtain ⟨as, r1⟩ := Dp.reads I d x v hd rx
  rcases he with he | he
  · obtain ⟨bs, r2⟩ := Dp.reads I (.list ds) y u he ry
    exact SeqAt.in_list_reads r2 r1 se sd (room_in hl hu) ⟨.bl _, H, I, rfl, q⟩
  · obtain ⟨bs, r2⟩ := Dp.reads I (.tuple ds) y u he ry
    exact SeqAt.in_tuple_reads r2 r1 se sd (room_in hl hu) ⟨.bl _, H, I, rfl, q⟩
theorem op_notInA (hu : X.A.units + 64 < cLine) : OpR X (compareOp .NotIn) (rInA X.K true) := by
  intro pins s σ H x y v u Q I rx ry h
  obtain ⟨d, ds, hd, he, sd, se, hl, q⟩ := h
  obtain ⟨as, r1⟩ := Dp.reads I d x v hd rx
  rcases he with he | he
  · obtain ⟨bs, r2⟩ := Dp.reads I (.list ds) y u he ry
    exact SeqAt.notIn_list_reads r2 r1 se sd (room_in hl hu) ⟨.bl _, H, I, rfl, q⟩
  · obtain ⟨bs, r2⟩ := Dp.reads I (.tuple ds) y u he ry
    exact SeqAt.notIn_tuple_reads r2 r1 se sd (room_in hl hu) ⟨.bl _, H, I, rfl, q⟩
/-! sorted -/
theorem each_of_vals : ∀ {bs : List (V × PyData)} {us : List Value}, Vals (bs.map (·.1)) us → PySem.W.EachIs (fun u b => RelV b.1 u) us bs
  | [], [], _ => .nil
  | b :: bs, u :: us, .cons r t => .cons r (each_of_vals t)
theorem vals_of_each : ∀ {bs : List (V × PyData)} {us : List Value}, PySem.W.EachIs (fun u b => RelV b.1 u) us bs → Vals (bs.map (·.1)) us
  | [], [], _ => .nil
  | b :: bs, u :: us, .cons r t => .cons r (vals_of_each t)
theorem each_reads {pins : List (Addr × Obj)} {σ : L2.St} {H : Hp} {s : Shared} (I : Inv X pins σ H s) : ∀ {bs : List (V × PyData)} {us : List Value}, (∀ b ∈ bs, Dp X.K H b.1 b.2) → PySem.W.EachIs (fun u b => RelV b.1 u) us bs →
    PySem.W.EachIs (fun u b => ∃ as, Reads s.heap u b.2 as) us bs
  | [], [], _, _ => .nil
  | b :: bs, u :: us, h, .cons r t => .cons (Dp.reads I b.2 b.1 u (h b (List.mem_cons_self ..)) r) (each_reads I (fun c hc => h c (List.mem_cons_of_mem _ hc)) t)
/-- sorted(xs) of data of one form -/
def rSortD (K : PySem.W.Frag) : List V → Hp → VK → Prop := fun vs H Q => ∃ (a : Addr) (bs : List (V × PyData)), vs = [V.ref a] ∧ SqL K H a (bs.map (·.1)) ∧ (∀ b ∈ bs, Dp K H b.1 b.2) ∧ PySem.W.AllAlike (bs.map (·.2)) ∧ PySem.W.Sortable (bs.map (·.2)) ∧ (∀ b ∈ bs, b.2.depth ≤ 60) ∧
  ∀ p, H p = none → Q (.ref p) (upd H p (.lst ((bs.mergeSort (PySem.W.dataLe false (·.2))).map (·.1))))
theorem cr_sortD (hu : X.A.units + 64 < cLine) : CallR X (.builtin "sorted") (rSortD X.K) := by
  intro pins s σ H vs us Q I r h
  obtain ⟨a, bs, rfl, hs, hd, hal, hk, hde, q⟩ := h
  obtain ⟨its, rv, hl, hz⟩ := I.list hs
  rw [Vals.ref1 r]
  have hl1 := rv.length
  rw [List.length_map] at hl1
  have e1 := each_of_vals rv
  have hzb : bs.length ≤ sizeLine := by rw [List.length_map] at hz; exact hz
  refine PySem.W.sorted_data (enc := fun b : V × PyData => b.2) hl.isList e1 (each_reads I hd e1) hal hk hzb (fun b hb => ?_) fun out h1 h2 => ?_
  · have := hde b hb
    omega
  · obtain ⟨ep, he'⟩ := PyProof.Rows.sortedAll_at s.heap its out.toArray
    have hlen : ((bs.mergeSort (PySem.W.dataLe false (·.2))).map (·.1)).length ≤ sizeLine := by rw [List.length_map, List.length_mergeSort]; exact hzb
    exact ⟨.ref _, upd H (s.heap.objs.size + 1) (.lst _), I.laid (t' := s.toks) (fun _ _ => PyProof.Rows.sortedAll_old) (Nat.le_succ _) ⟨hlen, out, ep, vals_of_each h2, he'⟩, rfl, q _ (I.hok.fresh (Nat.le_succ _))⟩
end
end Own

set_option Elab.async false
set_option linter.all false
set_option maxRecDepth 100000
set_option maxHeartbeats 4000000
namespace K28
open PySem PySem.Spec PyProof.Rows L2 Own
/-! ### kinds: what they are, as data -/
abbrev Kd := Bool × Bool × Int
def kdV (k : Kd) : List V := [.bl k.1, .bl k.2.1, .int k.2.2]
def kdD (k : Kd) : PyData := .tuple [.bool k.1, .bool k.2.1, .int k.2.2]
abbrev rf (q : Addr × Kd) : V := .ref q.1
theorem kd_dp {K : PySem.W.Frag} {H : Hp} {t : Addr} {k : Kd} (h : H t = some (.tup (kdV k))) : Dp K H (.ref t) (kdD k) := .tup (SqT.of h) (.cons (.bl _) (.cons (.bl _) (.cons (.int _) .nil)))
theorem kd_eqv (a b : Kd) : PyData.eqv (kdD a) (kdD b) = decide (a = b) := by
  obtain ⟨a1, a2, a3⟩ := a
  obtain ⟨b1, b2, b3⟩ := b
  rw [Bool.eq_iff_iff]
  simp [kdD, PyData.eqv, PyData.eqvAll]
theorem kd_lay (k : Kd) : PyData.canLay0 (kdD k) = true := rfl
theorem kd_depth (k : Kd) : (kdD k).depth ≤ 60 := by
  have e : (kdD k).depth = 1 := rfl
  omega
theorem kds_lay : ∀ l : List Kd, PyData.canLayAll0 (l.map kdD) = true
  | [] => rfl
  | k :: l => by
    show (PyData.canLay0 (kdD k) && PyData.canLayAll0 (l.map kdD)) = true
    rw [kd_lay, kds_lay l]
    rfl
theorem kds_any (l : List Kd) (k : Kd) : ((l.map kdD).any fun z => PyData.eqv z (kdD k)) = decide (k ∈ l) := by
  rw [List.any_map]
  induction l with
  | nil => rfl
  | cons a l ih =>
    rw [List.any_cons, ih]
    show (PyData.eqv (kdD a) (kdD k) || _) = _
    rw [kd_eqv]
    simp only [List.mem_cons, Bool.decide_or, eq_comm]
/-- kinds stand at their places -/
structure KsAt (H : Hp) (ks : List (Addr × Kd)) : Prop where
  at_ : ∀ q ∈ ks, H q.1 = some (.tup (kdV q.2))
  ok : ∀ q ∈ ks, 0 ≤ q.2.2.2 ∧ q.2.2.2 ≤ 2
theorem KsAt.same {H H' : Hp} {ks : List (Addr × Kd)} (h : KsAt H ks) (s : Same H H') : KsAt H' ks := ⟨fun q m => s _ _ (h.at_ q m), h.ok⟩
theorem KsAt.but {H H' : Hp} {p : Addr} {ks : List (Addr × Kd)} (h : KsAt H ks) (s : But p H H') (o : List (Key × V)) (hp : H p = some (.dK o)) : KsAt H' ks :=
  ⟨fun q m => s _ _ (h.at_ q m) (ne_of (h.at_ q m) hp (by intro e; cases e)), h.ok⟩
theorem KsAt.perm {H : Hp} {ks ls : List (Addr × Kd)} (h : KsAt H ks) (p : ls.Perm ks) : KsAt H ls := ⟨fun q m => h.at_ q (p.mem_iff.mp m), fun q m => h.ok q (p.mem_iff.mp m)⟩
theorem KsAt.take {H : Hp} {ks : List (Addr × Kd)} (h : KsAt H ks) (i : Nat) : KsAt H (ks.take i) := ⟨fun q m => h.at_ q (List.mem_of_mem_take m), fun q m => h.ok q (List.mem_of_mem_take m)⟩
theorem ks_all {K : PySem.W.Frag} {H : Hp} : ∀ {ks : List (Addr × Kd)}, (∀ q ∈ ks, H q.1 = some (.tup (kdV q.2))) → DpAll K H (ks.map rf) ((ks.map (·.2)).map kdD)
  | [], _ => .nil
  | q :: ks, h => .cons (kd_dp (h q (List.mem_cons_self ..))) (ks_all fun r m => h r (List.mem_cons_of_mem _ m))
/-! ### promises -/
def spIsInt : Sp := fun vs H Q _ => ∃ i : Int, vs = [.int i] ∧ Q (.bl true) H
def spIsKind : Sp := fun vs H Q _ => ∃ (t : Addr) (k : Kd), vs = [.ref t] ∧ H t = some (.tup (kdV k)) ∧ 0 ≤ k.2.2 ∧ k.2.2 ≤ 2 ∧ ∀ H', Same H H' → Q (.bl true) H'
def spChecked : Sp := fun vs H Q _ => ∃ (v : V) (a : Addr) (ks : List (Addr × Kd)), vs = [v, .ref a] ∧ H a = some (.lst (ks.map rf)) ∧ KsAt H ks ∧ (ks.map (·.2)).Nodup ∧ ks.length ≤ 60 ∧
  ∀ (H' : Hp) (p : Addr) (ls : List (Addr × Kd)), Same H H' → H p = none → ls.Perm ks → H' p = some (.tup (ls.map rf)) → Q (.ref p) H'
section
variable {P : Program} {w : World} {K : PySem.W.Frag} {mg : Str → Option Value} {base : Heap}
abbrev sIsInt : Stmt := top 6
abbrev sIsKind : Stmt := top 11
abbrev sChecked : Stmt := top 12
theorem scIsInt : FnScope ["value"] ["value"] (defScope sIsInt) := ⟨rfl, rfl, rfl, by decide +kernel, rfl, by decide +kernel, by decide +kernel⟩
theorem scIsKind : FnScope ["value", "kept", "flag", "children"] ["value"] (defScope sIsKind) := ⟨rfl, rfl, rfl, by decide +kernel, rfl, by decide +kernel, by decide +kernel⟩
theorem scChecked : FnScope ["side", "kinds", "found", "number", "kind"] ["side", "kinds"] (defScope sChecked) := ⟨rfl, rfl, rfl, by decide +kernel, rfl, by decide +kernel, by decide +kernel⟩
theorem ok_isInt {f : Addr} {fd : FuncData} (F : FnP K "is_integer" "is_integer" sIsInt f fd) (T : Tx mg) : FnOk P w K mg base CX0 1 f fd ["value"] spIsInt := by
  refine F.ok scIsInt (fun vs H Q E h => ?_) (fun cdv A outer s H vs Q E hr h => ?_)
  · obtain ⟨i, rfl, _⟩ := h
    rfl
  · obtain ⟨i, rfl, k⟩ := h
    refine ⟨_, PSs.nox (pss_one (ps_ret (pe_and (pe_callB call_isi (by rfl) T.isinstance (by decide +kernel) (pa_cons (pv 0) (pa_cons (pe_bltn (v := .ty "int") (by rfl) T.int (by decide +kernel) rfl) pa_nil)))
      (pe_one (pe_not (pe_callB call_isi (by rfl) T.isinstance (by decide +kernel) (pa_cons (pv 0) (pa_cons (pe_bltn (v := .ty "bool") (by rfl) T.bool (by decide +kernel) rfl) pa_nil)))))))), ?_⟩
    refine ⟨_, rfl, _, _, _, _, _, rfl, ClsV.ty _, TyX.base (.int i), kit_ty (by decide +kernel), true, rfl, iteT ?_⟩
    refine ⟨_, rfl, _, _, _, _, _, rfl, ClsV.ty _, TyX.base (.int i), kit_ty (by decide +kernel), false, rfl, ?_⟩
    exact k
theorem ok_isKind {f : Addr} {fd : FuncData} (F : FnP K "is_kind" "is_kind" sIsKind f fd) (T : Tx mg) (cI : Cl P w K mg base 1 "is_integer" ["value"] spIsInt) : FnOk P w K mg base CX0 2 f fd ["value"] spIsKind := by
  obtain ⟨fI, fdI, GI, mI, kI, bI⟩ := cI.ex
  refine F.ok scIsKind (fun vs H Q E h => ?_) (fun cdv A outer s H vs Q E hr h => ?_)
  · obtain ⟨t, k, rfl, _⟩ := h
    rfl
  · obtain ⟨t, kd, rfl, ht, k0, k2, k⟩ := h
    refine ⟨_, PSs.nox (pss_cons (ps_if (PW.pt (pw_or (pt_not (pt_val (pe_callB call_isiT (by rfl) T.isinstance (by decide +kernel) (pa_cons (pv 0) (pa_cons (pe_tup (pa_cons (pe_bltn (v := .ty "tuple") (by rfl) T.tuple (by decide +kernel) rfl) (pa_cons (pe_bltn (v := .ty "list") (by rfl) T.list (by decide +kernel) rfl) pa_nil))) pa_nil)))))
        (pw_or1 (pt_cmpR op_ne (pe_callB call_len_seq (by rfl) T.len PySem.boot_len (pa_cons (pv 0) pa_nil)) pe_int (nomark _))))) (pss_one (ps_ret pe_bl)) pss_nil)
      (pss_cons (ps_asg (pv 0) (pg_tup (by rfl) (pgs_cons (pg_name (i := 1) scIsKind.nd rfl (Or.inl rfl)) (pgs_cons (pg_name (i := 2) scIsKind.nd rfl (Or.inl rfl)) (pgs_cons (pg_name (i := 3) scIsKind.nd rfl (Or.inl rfl)) pgs_nil)))))
      (pss_one (ps_ret (pe_and (pe_callB call_isi (by rfl) T.isinstance (by decide +kernel) (pa_cons (pv 1) (pa_cons (pe_bltn (v := .ty "bool") (by rfl) T.bool (by decide +kernel) rfl) pa_nil)))
        (pe_and (pe_callB call_isi (by rfl) T.isinstance (by decide +kernel) (pa_cons (pv 2) (pa_cons (pe_bltn (v := .ty "bool") (by rfl) T.bool (by decide +kernel) rfl) pa_nil)))
        (pe_and (pe_call GI hr (by rfl) mI kI bI .nil pass0 (pa_cons (pv 3) pa_nil))
        (pe_one (pe_chain op_le op_le pe_int (pv 3) pe_int))))))))), ?_⟩
    refine ⟨_, rfl, (by show 2 ≤ sizeLine; decide), fun p hp => ?_⟩
    have np : t ≠ p := ne_of_none ht hp
    have s1 : Same H (upd H p (.tup [.ty "tuple", .ty "list"])) := same_new hp
    have h1 := s1 _ _ ht
    refine ⟨_, p, _, _, _, true, rfl, upd_same, .cons (ClsV.ty _) (.cons (ClsV.ty _) .nil), TyX.base (.tup h1), rfl, true, rfl, ?_⟩
    refine iteF ?_
    refine ⟨_, rfl, t, _, rfl, Or.inr (SqT.of h1), rfl, false, rfl, iteF ?_⟩
    refine ⟨_, rfl, t, _, rfl, SqT.of h1, rfl, _, _, rfl, _, _, rfl, _, _, rfl, rfl, ?_⟩
    refine ⟨_, rfl, _, _, _, _, _, rfl, ClsV.ty _, TyX.base (.bl _), kit_ty (by decide +kernel), true, rfl, iteT ?_⟩
    refine ⟨_, rfl, _, _, _, _, _, rfl, ClsV.ty _, TyX.base (.bl _), kit_ty (by decide +kernel), true, rfl, iteT ?_⟩
    refine ⟨_, rfl, kd.2.2, rfl, true, rfl, iteT ?_⟩
    refine ⟨_, rfl, _, _, rfl, rfl, true, ?_, iteT ⟨_, _, rfl, rfl, ?_⟩⟩
    · show V.bl (decide (0 ≤ kd.2.2)) = V.bl true
      rw [decide_eq_true k0]
    · show Q (V.bl (decide (kd.2.2 ≤ 2))) _
      rw [decide_eq_true k2]
      exact k _ s1
theorem ok_checked {f : Addr} {fd : FuncData} (F : FnP K "checked_kinds" "checked_kinds" sChecked f fd) (T : Tx mg) (cK : Cl P w K mg base 2 "is_kind" ["value"] spIsKind) : FnOk P w K mg base CX0 3 f fd ["side", "kinds"] spChecked := by
  obtain ⟨fI, fdI, GI, mI, kI, bI⟩ := cK.ex
  refine F.ok scChecked (fun vs H Q E h => ?_) (fun cdv A outer s H vs Q E hr h => ?_)
  · obtain ⟨v, a, ks, rfl, _⟩ := h
    rfl
  · obtain ⟨v, a, ks, rfl, ha, hk, hn, hl, k⟩ := h
    have hu := hr.units
    refine ⟨_, PSs.nox (pss_cons (ps_set (i := 2) scChecked.nd rfl (Or.inl rfl) (pe_lst pa_nil))
      (pss_cons (ps_for PassesOwn.never rfl (pi_enum (by rfl) T.enumerate (pa_cons (pv 1) pa_nil)) (pg_tup rfl (pgs_cons (pg_name (i := 3) scChecked.nd rfl (Or.inl rfl)) (pgs_cons (pg_name (i := 4) scChecked.nd rfl (Or.inl rfl)) pgs_nil)))
        (pss_cons (ps_if (PW.pt (pw_or (pt_not (pt_val (pe_call GI hr (by rfl) mI kI bI .nil pass0 (pa_cons (pv 4) pa_nil))))
            (pw_or1 (pt_cmpR (op_inA hu) (pe_callTy call_tupleT (by rfl) T.tuple (by decide +kernel) (pa_cons (pv 4) pa_nil)) (pv 2) (by rfl))))) (pss_one ps_never) pss_nil)
        (pss_one (ps_expr (pe_bm PySem.F.plainAttrs_list PySem.F.slot_list_append PySem.F.type_list_append mt_append (pv 2) (pa_cons (pe_callTy call_tupleT (by rfl) T.tuple (by decide +kernel) (pa_cons (pv 4) pa_nil)) pa_nil))))))
      (pss_one (ps_ret (pe_callTy call_tuple_of (by rfl) T.tuple (by decide +kernel) (pa_cons (pe_callB (cr_sortD hu) (by rfl) T.sorted (by decide +kernel) (pa_cons (pv 2) pa_nil)) pa_nil)))))), ?_⟩
    refine ⟨(by decide), fun d hd => ?_⟩
    have nd : a ≠ d := ne_of_none ha hd
    refine ⟨_, rfl, a, _, rfl, SqL.of (by rw [upd_ne nd]; exact ha), ?_⟩
    refine for_it (walk_enum (K := K) (a := a) (xs := ks.map rf)) (fun i σ H' => Same H H' ∧ H' d = some (.lst ((ks.take i).map rf)) ∧ ∃ v3 v4, σ = [some v, some (.ref a), some (.ref d), v3, v4])
      ⟨same_new hd, upd_same, none, none, rfl⟩ (fun i σ H' _ h => SqL.of (h.1 _ _ ha)) ?_ ?_
    · rintro i x σ H1 H2 hi ⟨s1, h1, v3, v4, rfl⟩ ⟨W, n, y, rfl, hW, rfl, en, ey⟩
      rw [List.length_map] at hi
      have ey' : (ks.map rf)[i]? = some y := ey
      rw [List.getElem?_map, List.getElem?_eq_getElem hi] at ey'
      obtain rfl : V.ref (ks[i].1) = y := Option.some.inj ey'
      have hm := List.getElem_mem hi
      have n2 : d ≠ W := ne_of_none h1 hW
      have s2 : Same H (upd H1 W (.tup [n, .ref ks[i].1])) := s1.trans (same_new hW)
      have h2 : (upd H1 W (.tup [n, .ref ks[i].1])) d = some (.lst ((ks.take i).map rf)) := by rw [upd_ne n2]; exact h1
      refine ⟨W, _, rfl, SqT.of upd_same, rfl, _, _, rfl, _, _, rfl, rfl, ?_⟩
      generalize upd H1 W (.tup [n, .ref ks[i].1]) = H2 at s2 h2 ⊢
      have ht := s2 _ _ (hk.at_ _ hm)
      have hr2 := hk.ok _ hm
      refine ⟨_, rfl, _, _, rfl, ht, hr2.1, hr2.2, fun H3 s3 => ⟨true, rfl, ?_⟩⟩
      refine iteF ?_
      have s4 := s2.trans s3
      have h3 := s3 _ _ h2
      have hno : decide (ks[i].2 ∈ (ks.take i).map (·.2)) = false := by
        refine decide_eq_false fun hmem => ?_
        rw [List.map_take] at hmem
        obtain ⟨j, hj, e⟩ := List.mem_iff_getElem.mp hmem
        rw [List.length_take, List.length_map] at hj
        have e2 : (ks.map (·.2))[j]'(by rw [List.length_map]; omega) = (ks.map (·.2))[i]'(by rw [List.length_map]; omega) := by
          rw [List.getElem_take] at e
          rw [e, List.getElem_map]
        have := (List.getElem_inj hn).mp e2
        omega
      refine ⟨_, rfl, _, _, rfl, SqT.of (s3 _ _ ht), _, rfl, kdD ks[i].2, ((ks.take i).map (·.2)).map kdD, kd_dp (s3 _ _ ht), Or.inl (.lst (SqL.of h3) (ks_all ((hk.same s4).take i).at_)), kd_lay _, kds_lay _, kd_depth _, ?_⟩
      refine ⟨false, ?_, iteF ?_⟩
      · show V.bl (((List.map kdD (List.map (fun x => x.2) (ks.take i))).any fun z => PyData.eqv z (kdD ks[i].2))) = V.bl false
        rw [kds_any, hno]
      refine ⟨_, rfl, Or.inl ⟨rfl, _, SqL.of h3⟩, _, rfl, _, _, rfl, SqT.of (s3 _ _ ht), d, _, _, rfl, rfl, h3, ?_, ?_⟩
      · exact small1000 (by rw [List.length_map, List.length_take]; omega)
      · refine ⟨fun b o e => ?_, ?_, _, _, rfl⟩
        · rw [upd_ne (ne_of_none e hd)]
          exact s4 b o e
        · rw [upd_same, List.take_succ, List.getElem?_eq_getElem hi, List.map_append]
          rfl
    · rintro σ H1 ⟨s1, h1, v3, v4, rfl⟩
      rw [List.length_map, List.take_length] at h1
      have hk1 := hk.same s1
      refine ⟨_, rfl, d, ks.map fun q => (V.ref q.1, kdD q.2), rfl, ?_, ?_, ?_, ?_, ?_, fun p hp => ?_⟩
      · rw [List.map_map]
        exact SqL.of h1
      · intro b hb
        obtain ⟨q, hq, rfl⟩ := List.mem_map.mp hb
        exact kd_dp (hk1.at_ q hq)
      · rw [List.map_map]
        exact PySem.W.AllAlike.of (enc := fun q : Addr × Kd => kdD q.2) fun _ _ => rfl
      · rw [List.map_map]
        exact PySem.W.Sortable.tuples (enc := fun q : Addr × Kd => kdD q.2) fun _ => ⟨_, _, rfl⟩
      · intro b hb
        obtain ⟨q, hq, rfl⟩ := List.mem_map.mp hb
        exact kd_depth q.2
      · have e := PySem.W.sort_maps (r := fun a b : Addr × Kd => PySem.W.dataLe false (·.2) ((fun q : Addr × Kd => (V.ref q.1, kdD q.2)) a) ((fun q : Addr × Kd => (V.ref q.1, kdD q.2)) b)) (s := PySem.W.dataLe false (·.2)) (fun q : Addr × Kd => (V.ref q.1, kdD q.2)) (l := ks) fun _ _ _ _ => rfl
        refine ⟨p, _, rfl, Or.inl ⟨SqL.of upd_same, fun r hr' => ?_⟩⟩
        refine k _ r (ks.mergeSort fun a b : Addr × Kd => PySem.W.dataLe false (·.2) ((fun q : Addr × Kd => (V.ref q.1, kdD q.2)) a) ((fun q : Addr × Kd => (V.ref q.1, kdD q.2)) b)) (s1.trans ((same_new hp).trans (same_new hr'))) ((s1.trans (same_new hp)).free hr') (List.mergeSort_perm _ _) ?_
        rw [upd_same, ← e, List.map_map]
        rfl
end
/-! ### the rule -/
theorem kRO : ¬ (("root" : Str) = "others") := by decide +kernel
def flds (a b : Addr) : List (Str × V) := putF "others" (.ref b) (putF "root" (.ref a) [])
theorem flds_root (a b : Addr) : (flds a b).lookup ("root" : Str) = some (.ref a) := by
  unfold flds
  rw [lookup_putF, if_neg kRO, lookup_putF, if_pos rfl]
theorem flds_others (a b : Addr) : (flds a b).lookup ("others" : Str) = some (.ref b) := by
  unfold flds
  rw [lookup_putF, if_pos rfl]
structure RuleAt (C : Addr) (H : Hp) (x : Addr) (rs os : List (Addr × Kd)) : Prop where
  ex : ∃ dx a b, H x = some (.ins C dx (flds a b)) ∧ H a = some (.tup (rs.map rf)) ∧ H b = some (.tup (os.map rf))
  kr : KsAt H rs
  ko : KsAt H os
theorem RuleAt.same {C : Addr} {H H' : Hp} {x : Addr} {rs os : List (Addr × Kd)} (h : RuleAt C H x rs os) (s : Same H H') : RuleAt C H' x rs os := by
  obtain ⟨⟨dx, a, b, h1, h2, h3⟩, h4, h5⟩ := h
  exact ⟨⟨dx, a, b, s _ _ h1, s _ _ h2, s _ _ h3⟩, h4.same s, h5.same s⟩
/-- a list of kinds, unlike ones, at a place -/
structure KlAt (H : Hp) (a : Addr) (ks : List (Addr × Kd)) : Prop where
  l : H a = some (.lst (ks.map rf))
  k : KsAt H ks
  nd : (ks.map (·.2)).Nodup
  few : ks.length ≤ 60
theorem KlAt.same {H H' : Hp} {a : Addr} {ks : List (Addr × Kd)} (h : KlAt H a ks) (s : Same H H') : KlAt H' a ks := ⟨s _ _ h.l, h.k.same s, h.nd, h.few⟩
def spInit (C : Addr) : Sp := fun vs H Q _ => ∃ (p dx a b : Addr) (rs os : List (Addr × Kd)), vs = [.ref p, .ref a, .ref b] ∧ H p = some (.ins C dx []) ∧ KlAt H a rs ∧ KlAt H b os ∧
  ∀ (H' : Hp) (rs' os' : List (Addr × Kd)), But p H H' → rs'.Perm rs → os'.Perm os → RuleAt C H' p rs' os' → Q .non H'
def spMade (C : Addr) : Sp := fun vs H Q _ => ∃ (t a b : Addr) (rs os : List (Addr × Kd)), vs = [.ref t] ∧ H t = some (.tup [.ref a, .ref b]) ∧ KlAt H a rs ∧ KlAt H b os ∧
  ∀ (H' : Hp) (x : Addr) (rs' os' : List (Addr × Kd)), Same H H' → rs'.Perm rs → os'.Perm os → RuleAt C H' x rs' os' → Q (.ref x) H'
structure TxR (K : PySem.W.Frag) (mg : Str → Option Value) (C fI : Addr) : Prop where
  cl : Cls K C
  nR : NoAttr K C "root"
  nO : NoAttr K C "others"
  mgC : mg "Rule" = some (.ref C)
  mk_ : Mk K C fI
section
variable {P : Program} {w : World} {K : PySem.W.Frag} {mg : Str → Option Value} {base : Heap}
abbrev sInit : Stmt := inClass (top 10) 0
abbrev sMade : Stmt := top 17
theorem scInit : FnScope ["self", "root", "others"] ["self", "root", "others"] (defScope sInit) := ⟨rfl, rfl, rfl, by decide +kernel, rfl, by decide +kernel, by decide +kernel⟩
theorem scMade : FnScope ["_law_rule"] ["_law_rule"] (defScope sMade) := ⟨rfl, rfl, rfl, by decide +kernel, rfl, by decide +kernel, by decide +kernel⟩
theorem ok_init {f C fI : Addr} {fd : FuncData} (F : FnP K "__init__" "Rule.__init__" sInit f fd) (R : TxR K mg C fI) (cK : Cl P w K mg base 3 "checked_kinds" ["side", "kinds"] spChecked) : FnOk P w K mg base CX0 4 f fd ["self", "root", "others"] (spInit C) := by
  obtain ⟨fK, fdK, GK, mK, kK, bK⟩ := cK.ex
  refine F.ok scInit (fun vs H Q E h => ?_) (fun cdv A outer s H vs Q E hr h => ?_)
  · obtain ⟨p, dx, a, b, rs, os, rfl, _⟩ := h
    rfl
  · obtain ⟨p, dx, a, b, rs, os, rfl, hp, hA, hB, k⟩ := h
    refine ⟨_, PSs.nox (pss_cons (ps_fld (pv 0) (pe_call GK hr (by rfl) mK kK bK .nil pass0 (pa_cons pe_str (pa_cons (pv 1) pa_nil))) rfl)
      (pss_one (ps_fld (pv 0) (pe_call GK hr (by rfl) mK kK bK .nil pass0 (pa_cons pe_str (pa_cons (pv 2) pa_nil))) rfl))), ?_⟩
    refine ⟨_, rfl, _, a, rs, rfl, hA.l, hA.k, hA.nd, hA.few, fun H1 q ls s1 hq pl h1 => ?_⟩
    have npq : p ≠ q := ne_of_none hp hq
    refine ⟨_, rfl, p, C, dx, _, rfl, s1 _ _ hp, R.cl, R.nR, (by show 0 < 1000; decide), ?_⟩
    have nbp : b ≠ p := ne_of hB.l hp (by intro e; cases e)
    have b2 : But p H (upd H1 p (.ins C dx (putF "root" (.ref q) []))) := (Same.but s1 p).trans (but_upd _ _ _)
    have e2 : (upd H1 p (.ins C dx (putF "root" (.ref q) []))) p = some (.ins C dx (putF "root" (.ref q) [])) := upd_same
    have e3 : (upd H1 p (.ins C dx (putF "root" (.ref q) []))) q = some (.tup (ls.map rf)) := by rw [upd_ne npq.symm]; exact h1
    generalize upd H1 p (.ins C dx (putF "root" (.ref q) [])) = H2 at b2 e2 e3 ⊢
    have hk : ∀ {ks : List (Addr × Kd)}, KsAt H ks → KsAt H2 ks := fun h => ⟨fun z m => b2 _ _ (h.at_ z m) (ne_of (h.at_ z m) hp (by intro e; cases e)), h.ok⟩
    refine ⟨_, rfl, _, b, os, rfl, b2 _ _ hB.l nbp, hk hB.k, hB.nd, hB.few, fun H3 r ms s3 hr3 pm h3 => ?_⟩
    have npr : p ≠ r := ne_of_none e2 hr3
    refine ⟨_, rfl, p, C, dx, _, rfl, s3 _ _ e2, R.cl, R.nO, (by show 1 < 1000; decide), ?_⟩
    have b4 : But p H (upd H3 p (.ins C dx (flds q r))) := (b2.trans (Same.but s3 p)).trans (but_upd _ _ _)
    refine k _ ls ms b4 pl pm ⟨⟨dx, q, r, upd_same, ?_, ?_⟩, ?_, ?_⟩
    · rw [upd_ne npq.symm]
      exact s3 _ _ e3
    · rw [upd_ne npr.symm]
      exact h3
    · exact ⟨fun z m => b4 _ _ ((hA.k.perm pl).at_ z m) (ne_of ((hA.k.perm pl).at_ z m) hp (by intro e; cases e)), (hA.k.perm pl).ok⟩
    · exact ⟨fun z m => b4 _ _ ((hB.k.perm pm).at_ z m) (ne_of ((hB.k.perm pm).at_ z m) hp (by intro e; cases e)), (hB.k.perm pm).ok⟩
theorem ok_made {f C fI : Addr} {fd fdI : FuncData} (F : FnP K "_law_rule_made" "_law_rule_made" sMade f fd) (T : Tx mg) (R : TxR K mg C fI) (GI : FnOk P w K mg base CX0 4 fI fdI ["self", "root", "others"] (spInit C)) (bI : Binds K fdI ["self", "root", "others"] []) :
    FnOk P w K mg base CX0 6 f fd ["_law_rule"] (spMade C) := by
  refine F.ok scMade (fun vs H Q E h => ?_) (fun cdv A outer s H vs Q E hr h => ?_)
  · obtain ⟨t, a, b, rs, os, rfl, _⟩ := h
    rfl
  · obtain ⟨t, a, b, rs, os, rfl, ht, hA, hB, k⟩ := h
    refine ⟨_, PSs.nox (pss_one (ps_ret (pe_make R.mk_ GI hr (by rfl) R.mgC bI .nil pass0 (pa_cons (pe_callTy call_list_of (by rfl) T.list (by decide +kernel) (pa_cons (pe_ix ix_tup (pv 0) pe_int (fun _ _ => rfl)) pa_nil))
      (pa_cons (pe_callTy call_list_of (by rfl) T.list (by decide +kernel) (pa_cons (pe_ix ix_tup (pv 0) pe_int (fun _ _ => rfl)) pa_nil)) pa_nil))))), ?_⟩
    refine ⟨_, rfl, t, _, _, _, rfl, rfl, SqT.of ht, (by rfl), a, _, rfl, Or.inl (SqL.of hA.l), fun l1 hl1 => ?_⟩
    have s1 := same_new (o := .lst (rs.map rf)) hl1
    refine ⟨_, rfl, t, _, _, _, rfl, rfl, SqT.of (s1 _ _ ht), (by rfl), b, _, rfl, Or.inl (SqL.of (s1 _ _ hB.l)), fun l2 hl2 => ?_⟩
    have s2 := s1.trans (same_new (o := .lst (os.map rf)) hl2)
    have h1 : (upd (upd H l1 (.lst (rs.map rf))) l2 (.lst (os.map rf))) l1 = some (.lst (rs.map rf)) := by rw [upd_ne (ne_of_none upd_same hl2)]; exact upd_same
    have h2 : (upd (upd H l1 (.lst (rs.map rf))) l2 (.lst (os.map rf))) l2 = some (.lst (os.map rf)) := upd_same
    generalize upd (upd H l1 (.lst (rs.map rf))) l2 (.lst (os.map rf)) = H2 at s2 h1 h2 ⊢
    refine fun x dx nx ndx ne => ?_
    have s3 : Same H2 (upd (upd H2 dx (.own x)) x (.ins C dx [])) := (same_new ndx).trans (same_new (by rw [upd_ne ne.symm]; exact nx))
    refine ⟨x, dx, l1, l2, rs, os, rfl, upd_same, ⟨s3 _ _ h1, (hA.k.same s2).same s3, hA.nd, hA.few⟩, ⟨s3 _ _ h2, (hB.k.same s2).same s3, hB.nd, hB.few⟩, fun H4 rs' os' b4 p1 p2 hR => ⟨rfl, ?_⟩⟩
    refine k H4 x rs' os' (fun c o e => b4 c o (s3 c o (s2 c o e)) (ne_of_none (s2 c o e) nx)) p1 p2 hR
end
end K28

set_option Elab.async false
set_option linter.all false
set_option maxRecDepth 100000
set_option maxHeartbeats 4000000
namespace K28
open PySem PySem.Spec PyProof.Rows L2 Own
/-! ### which cells are let -/
def two (x : Int) : Int := if x < 2 then x else 2
def letM (rs os : List Kd) (cell : Option (V × Bool × Int)) (th : Int) (root : Bool) : Bool := match cell with
  | none => !root && decide (th = 0)
  | some (v, f, r) => decide ((!decide (v = .non), f, two (r + th)) ∈ (if root = true then rs else os)) && (decide (r = 0) || os.any fun k => decide (k.2.2 = 0))
theorem letM_perm {rs rs' os os' : List Kd} (hr : rs'.Perm rs) (ho : os'.Perm os) (c : Option (V × Bool × Int)) (th : Int) (root : Bool) : letM rs' os' c th root = letM rs os c th root := by
  cases c with
  | none => rfl
  | some z =>
    obtain ⟨v, f, r⟩ := z
    have e1 : ∀ k : Kd, decide (k ∈ (if root = true then rs' else os')) = decide (k ∈ (if root = true then rs else os)) := fun k => by
      cases root
      · exact decide_eq_decide.mpr ho.mem_iff
      · exact decide_eq_decide.mpr hr.mem_iff
    have e2 : (os'.any fun k => decide (k.2.2 = 0)) = os.any fun k => decide (k.2.2 = 0) := ho.any_eq
    show (decide _ && (_ || _)) = _
    rw [e1, e2]
    rfl
def CellAt (H : Hp) (x : V) (c : Option (V × Bool × Int)) : Prop := (c = none ∧ x = .non) ∨ ∃ t v f r, c = some (v, f, r) ∧ x = .ref t ∧ H t = some (.tup [v, .bl f, .int r])
theorem CellAt.same {H H' : Hp} {x : V} {c : Option (V × Bool × Int)} (h : CellAt H x c) (s : Same H H') : CellAt H' x c := by
  rcases h with h | ⟨t, v, f, r, e1, e2, e3⟩
  · exact .inl h
  · exact .inr ⟨t, v, f, r, e1, e2, s _ _ e3⟩
def spLet (C : Addr) : Sp := fun vs H Q _ => ∃ (x : Addr) (cv : V) (th : Int) (root : Bool) (rs os : List (Addr × Kd)) (c : Option (V × Bool × Int)), vs = [.ref x, cv, .int th, .bl root] ∧ RuleAt C H x rs os ∧ CellAt H cv c ∧ os.length ≤ 60 ∧
  ∀ H', Same H H' → Q (.bl (letM (rs.map (·.2)) (os.map (·.2)) c th root)) H'
def spLet2 : Sp := fun vs H Q _ => ∃ (t a b : Addr) (cv : V) (th : Int) (root : Bool) (rs os : List (Addr × Kd)) (c : Option (V × Bool × Int)), vs = [.ref t, cv, .int th, .bl root] ∧ H t = some (.tup [.ref a, .ref b]) ∧ KlAt H a rs ∧ KlAt H b os ∧ CellAt H cv c ∧
  ∀ H', Same H H' → Q (.bl (letM (rs.map (·.2)) (os.map (·.2)) c th root)) H'
def spTruth : Sp := fun vs H Q _ => ∃ a b : Bool, vs = [.bl a, .bl b] ∧ Q (.bl (decide (a = b))) H
section
variable {P : Program} {w : World} {K : PySem.W.Frag} {mg : Str → Option Value} {base : Heap}
abbrev sLet : Stmt := top 8
abbrev sLet2 : Stmt := top 18
abbrev sTruth : Stmt := top 20
abbrev nLet : List Str := ["rule", "cell", "there", "root", "value", "flag", "rest", "kept", "flagged", "children"]
abbrev nLet2 : List Str := ["_law_rule", "_law_cell", "_law_there", "_law_root", "_law_kind", "_law_leaf", "_law_one"]
theorem scLet : FnScope nLet ["rule", "cell", "there", "root"] (defScope sLet) := ⟨rfl, rfl, rfl, by decide +kernel, rfl, by decide +kernel, by decide +kernel⟩
theorem scLet2 : FnScope nLet2 ["_law_rule", "_law_cell", "_law_there", "_law_root"] (defScope sLet2) := ⟨rfl, rfl, rfl, by decide +kernel, rfl, by decide +kernel, by decide +kernel⟩
theorem scTruth : FnScope ["_law_found", "_law_due"] ["_law_found", "_law_due"] (defScope sTruth) := ⟨rfl, rfl, rfl, by decide +kernel, rfl, by decide +kernel, by decide +kernel⟩
theorem ok_truth {f : Addr} {fd : FuncData} (F : FnP K "_law_truth" "_law_truth" sTruth f fd) (T : Tx mg) : FnOk P w K mg base CX0 1 f fd ["_law_found", "_law_due"] spTruth := by
  refine F.ok scTruth (fun vs H Q E h => ?_) (fun cdv A outer s H vs Q E hr h => ?_)
  · obtain ⟨a, b, rfl, _⟩ := h
    rfl
  · obtain ⟨a, b, rfl, k⟩ := h
    refine ⟨_, PSs.nox (pss_one (ps_ret (pe_ifExp (pt_val (pv 1)) (pe_cmpR op_is_bl (pv 0) pe_bl (nomark _)) (pe_cmpR op_is_bl (pv 0) pe_bl (nomark _))))), ?_⟩
    refine ⟨_, rfl, b, rfl, ?_⟩
    cases b
    · refine iteF ?_
      exact ⟨_, rfl, a, false, rfl, rfl, k⟩
    · refine iteT ?_
      exact ⟨_, rfl, a, true, rfl, rfl, k⟩
theorem ok_let {f C fI : Addr} {fd : FuncData} (F : FnP K "is_let" "is_let" sLet f fd) (T : Tx mg) (R : TxR K mg C fI) : FnOk P w K mg base CX0 1 f fd ["rule", "cell", "there", "root"] (spLet C) := by
  refine F.ok scLet (fun vs H Q E h => ?_) (fun cdv A outer s H vs Q E hr h => ?_)
  · obtain ⟨x, cv, th, root, rs, os, c, rfl, _⟩ := h
    rfl
  · obtain ⟨x, cv, th, root, rs, os, c, rfl, hR, hc, hl, k⟩ := h
    have hu := hr.units
    refine ⟨_, PSs.nox (pss_cons (ps_if (pt_cmp (pc_isN (pv 1))) (pss_one (ps_ret (pe_and (pe_not (pv 3)) (pe_one (pe_cmpR op_eq (pv 2) pe_int (nomark _)))))) pss_nil)
      (pss_cons (ps_asg (pv 1) (pg_tup (by rfl) (pgs_cons (pg_name (i := 4) scLet.nd rfl (Or.inl rfl)) (pgs_cons (pg_name (i := 5) scLet.nd rfl (Or.inl rfl)) (pgs_cons (pg_name (i := 6) scLet.nd rfl (Or.inl rfl)) pgs_nil)))))
      (C8.pss_cut (ps_if (pt_cmpR (op_notInA hu) (pe_tup (pa_cons (pe_cmp (pc_notN (pv 4)) rfl) (pa_cons (pv 5) (pa_cons (pe_callB (call_min2 (by rfl)) (by rfl) T.min (by decide +kernel) (pa_cons pe_int (pa_cons (pe_op op_add (pv 6) (pv 2)) pa_nil))) pa_nil))))
          (pe_ifExp (pt_val (pv 3)) (pe_fld (pv 0) rfl) (pe_fld (pv 0) rfl)) (by rfl)) (pss_one (ps_ret pe_bl)) pss_nil)
      (pss_one (ps_ret (pe_or (pe_cmpR op_eq (pv 6) pe_int (nomark _)) (pe_one (pe_callB (cr_any (by rfl)) (by rfl) T.any (by decide +kernel) (pa_cons
        (pe_lc (own := [("kept", 7), ("flagged", 8), ("children", 9)]) (g := gTup K 3 (gCons (gName 7) (gCons (gName 8) (gCons (gName 9) gNil)))) (tt := tYes) (by rfl) scLet.nd (pi_tup (pe_fld (pv 0) rfl)) (blkOk_by (own := [("kept", 7), ("flagged", 8), ("children", 9)]) (N := nLet) (sc := defScope sLet) (by decide +kernel))
          (fun _ _ _ _ _ => pg_tup (by rfl) (pgs_cons (pg_name (i := 7) scLet.nd rfl (Or.inl rfl)) (pgs_cons (pg_name (i := 8) scLet.nd rfl (Or.inl rfl)) (pgs_cons (pg_name (i := 9) scLet.nd rfl (Or.inl rfl)) pgs_nil)))) (fun _ _ _ _ _ => pts_nil)
          (fun _ _ _ _ _ => pe_cmpR op_eq (pv 9) pe_int (nomark _))) pa_nil))))))))), ?_⟩
    rcases hc with ⟨rfl, rfl⟩ | ⟨t, v, fl, r, rfl, rfl, ht⟩
    · refine ⟨_, rfl, true, rfl, iteT ?_⟩
      refine ⟨_, rfl, root, rfl, _, rfl, ?_⟩
      cases root
      · refine iteT ⟨_, rfl, rfl, ?_⟩
        have e := k H (Same.refl H)
        have e2 : decide (V.int th = V.int 0) = decide (th = 0) := decide_eq_decide.mpr ⟨fun z => V.int.inj z, fun z => congrArg V.int z⟩
        show Q (V.bl (decide (V.int th = V.int 0))) H
        rw [e2]
        exact e
      · exact iteF (k H (Same.refl H))
    · refine ⟨_, rfl, false, rfl, iteF ?_⟩
      obtain ⟨⟨dx, a, b, hx, ha, hb⟩, kr, ko⟩ := id hR
      refine ⟨_, rfl, t, _, rfl, SqT.of ht, rfl, _, _, rfl, _, _, rfl, _, _, rfl, rfl, ?_⟩
      refine ⟨fun σ' H' => (σ' = [some (.ref x), some (.ref t), some (.int th), some (.bl root), some v, some (.bl fl), some (.int r), none, none, none] ∧ Same H H') ∧ decide ((!decide (v = .non), fl, two (r + th)) ∈ (if root = true then rs.map (·.2) else os.map (·.2))) = true, ?_, ?_⟩
      · refine ⟨_, rfl, _, rfl, _, rfl, _, rfl, _, _, rfl, rfl, _, _, rfl, (by show 3 ≤ sizeLine; decide), fun T' hT => ?_⟩
        have s1 : Same H (upd H T' (.tup [.bl (!decide (v = .non)), .bl fl, .int (if r + th < 2 then r + th else 2)])) := same_new hT
        have h1 : (upd H T' (.tup [.bl (!decide (v = .non)), .bl fl, .int (if r + th < 2 then r + th else 2)])) T' = some (.tup (kdV (!decide (v = .non), fl, two (r + th)))) := upd_same
        generalize upd H T' (.tup [.bl (!decide (v = .non)), .bl fl, .int (if r + th < 2 then r + th else 2)]) = H1 at s1 h1 ⊢
        refine ⟨_, rfl, root, rfl, ?_⟩
        cases root
        · refine iteF ?_
          refine ⟨_, rfl, x, C, dx, _, _, rfl, s1 _ _ hx, R.cl, R.nO, flds_others _ _, ?_⟩
          refine ⟨_, _, kd_dp h1, Or.inr (.tup (SqT.of (s1 _ _ hb)) (ks_all (ko.same s1).at_)), kd_lay _, kds_lay _, kd_depth _, _, rfl, ?_⟩
          rw [if_pos rfl, kds_any]
          cases e : decide ((!decide (v = .non), fl, two (r + th)) ∈ os.map (·.2)) with
          | true => exact iteF ⟨⟨rfl, s1⟩, e⟩
          | false =>
            refine iteT ?_
            have e3 := k H1 s1
            have e4 : letM (rs.map (·.2)) (os.map (·.2)) (some (v, fl, r)) th false = false := by
              show (decide _ && _) = false
              rw [if_neg (by decide), e]
              rfl
            rw [e4] at e3
            exact e3
        · refine iteT ?_
          refine ⟨_, rfl, x, C, dx, _, _, rfl, s1 _ _ hx, R.cl, R.nR, flds_root _ _, ?_⟩
          refine ⟨_, _, kd_dp h1, Or.inr (.tup (SqT.of (s1 _ _ ha)) (ks_all (kr.same s1).at_)), kd_lay _, kds_lay _, kd_depth _, _, rfl, ?_⟩
          rw [if_pos rfl, kds_any]
          cases e : decide ((!decide (v = .non), fl, two (r + th)) ∈ rs.map (·.2)) with
          | true => exact iteF ⟨⟨rfl, s1⟩, rfl⟩
          | false =>
            refine iteT ?_
            have e3 := k H1 s1
            have e4 : letM (rs.map (·.2)) (os.map (·.2)) (some (v, fl, r)) th true = false := by
              show (decide _ && _) = false
              rw [if_pos rfl, e]
              rfl
            rw [e4] at e3
            exact e3
      · rintro σ' H1 ⟨⟨rfl, s1⟩, e⟩
        have e4 : letM (rs.map (·.2)) (os.map (·.2)) (some (v, fl, r)) th root = (decide (r = 0) || (os.map (·.2)).any fun k => decide (k.2.2 = 0)) := by
          show (decide _ && _) = _
          rw [e]
          rfl
        rw [e4] at k
        refine ⟨_, rfl, rfl, _, rfl, ?_⟩
        have e2 : decide (V.int r = V.int 0) = decide (r = 0) := decide_eq_decide.mpr ⟨fun z => V.int.inj z, fun z => congrArg V.int z⟩
        refine ite2 (fun c => ?_) (fun c => ?_)
        · have e5 := k H1 s1
          rw [← e2, c] at e5
          exact e5
        · refine ⟨_, rfl, x, C, dx, _, _, rfl, s1 _ _ hx, R.cl, R.nO, flds_others _ _, b, rfl, ⟨_, SqT.of (s1 _ _ hb)⟩, fun D hD => ?_⟩
          refine lc_tup (K := K) (a := b) (xs := os.map rf) (fun i H' => Same H H' ∧ H' D = some (.lst ((os.take i).map fun q => V.bl (decide (V.int q.2.2.2 = V.int 0))))) ⟨s1.trans (same_new hD), upd_same⟩ (fun i H' _ h => SqT.of (h.1 _ _ hb)) ?_ ?_
          · rintro i y H' hi ⟨s2, h2⟩
            have hil : i < os.length := by
              have := (List.getElem?_eq_some_iff.mp hi).1
              rwa [List.length_map] at this
            rw [List.getElem?_map, List.getElem?_eq_getElem hil] at hi
            obtain rfl : V.ref (os[i].1) = y := Option.some.inj hi
            have hm := List.getElem_mem hil
            refine ⟨_, _, rfl, SqT.of ((ko.same s2).at_ _ hm), rfl, _, _, rfl, _, _, rfl, _, _, rfl, rfl, rfl, ?_⟩
            refine ⟨_, rfl, rfl, _, h2, small1000 (by rw [List.length_map, List.length_take]; omega), ?_, ?_⟩
            · exact fun c o z => by
                rw [upd_ne (ne_of_none z ((s1.free (l := D)) hD))]
                exact s2 c o z
            · rw [upd_same, List.take_succ, List.getElem?_eq_getElem hil, List.map_append]
              rfl
          · rintro H' ⟨s2, h2⟩
            rw [List.length_map, List.take_length] at h2
            refine ⟨D, os.map fun q => decide (V.int q.2.2.2 = V.int 0), rfl, ?_, ?_⟩
            · rw [List.map_map]
              exact SqL.of h2
            · have e5 := k H' s2
              have e6 : decide (r = 0) = false := by rw [← e2]; exact Bool.eq_false_iff.mpr c
              have e7 : ((os.map fun q => decide (V.int q.2.2.2 = V.int 0)).any id) = (os.map (·.2)).any fun k => decide (k.2.2 = 0) := by
                rw [List.any_map, List.any_map]
                congr 1
                funext q
                exact decide_eq_decide.mpr ⟨fun z => V.int.inj z, fun z => congrArg V.int z⟩
              rw [e6, Bool.false_or] at e5
              rw [e7]
              exact e5
end
end K28

set_option Elab.async false
set_option linter.all false
set_option maxRecDepth 100000
set_option maxHeartbeats 4000000
namespace K28
open PySem PySem.Spec PyProof.Rows L2 Own
theorem dec_int (r z : Int) : decide (V.int r = V.int z) = decide (r = z) := decide_eq_decide.mpr ⟨fun e => V.int.inj e, fun e => congrArg V.int e⟩
section
variable {P : Program} {w : World} {K : PySem.W.Frag} {mg : Str → Option Value} {base : Heap}
theorem ok_let2 {f : Addr} {fd : FuncData} (F : FnP K "_law_let" "_law_let" sLet2 f fd) (T : Tx mg) : FnOk P w K mg base CX0 1 f fd ["_law_rule", "_law_cell", "_law_there", "_law_root"] spLet2 := by
  refine F.ok scLet2 (fun vs H Q E h => ?_) (fun cdv A outer s H vs Q E hr h => ?_)
  · obtain ⟨t, a, b, cv, th, root, rs, os, c, rfl, _⟩ := h
    rfl
  · obtain ⟨t0, a, b, cv, th, root, rs, os, c, rfl, ht0, hA, hB, hc, k⟩ := h
    have hu := hr.units
    refine ⟨_, PSs.nox (pss_cons (ps_if (pt_cmp (pc_isN (pv 1))) (pss_one (ps_ret (pe_and (pe_cmpR op_eq (pv 2) pe_int (nomark _)) (pe_one (pe_not (pv 3)))))) pss_nil)
      (pss_cons (ps_set (i := 4) scLet2.nd rfl (Or.inl rfl) (pe_tup (pa_cons (pe_cmp (pc_notN (pe_ix ix_tup (pv 1) pe_int (fun _ _ => rfl))) rfl) (pa_cons (pe_ix ix_tup (pv 1) pe_int (fun _ _ => rfl)) (pa_cons (pe_callB (call_min2 (by rfl)) (by rfl) T.min (by decide +kernel) (pa_cons pe_int (pa_cons (pe_op op_add (pe_ix ix_tup (pv 1) pe_int (fun _ _ => rfl)) (pv 2)) pa_nil))) pa_nil)))))
      (C8.pss_cut (ps_set (i := 5) scLet2.nd rfl (Or.inl rfl) (pe_or (pe_cmpR op_eq (pe_ix ix_tup (pv 1) pe_int (fun _ _ => rfl)) pe_int (nomark _)) (pe_one (pe_callB (cr_any (by rfl)) (by rfl) T.any (by decide +kernel) (pa_cons
        (pe_lc (own := [("_law_one", 6)]) (g := gName 6) (tt := tYes) (by rfl) scLet2.nd (pi_list (pe_ix ix_tup (pv 0) pe_int (fun _ _ => rfl))) (blkOk_by (own := [("_law_one", 6)]) (N := nLet2) (sc := defScope sLet2) (by decide +kernel))
          (fun _ _ _ _ _ => pg_name (i := 6) scLet2.nd rfl (Or.inl rfl)) (fun _ _ _ _ _ => pts_nil)
          (fun _ _ _ _ _ => pe_cmpR op_eq (pe_ix (r := rIxT K) ix_tup (pv 6) pe_int (fun _ _ => rfl)) pe_int (nomark _))) pa_nil)))))
      (pss_one (ps_ret (pe_and (pv 5) (pe_one (pe_cmpR (op_inA hu) (pv 4) (pe_ix ix_tup (pv 0) (pe_callTy call_int1 (by rfl) T.int (by decide +kernel) (pa_cons (pe_not (pv 3)) pa_nil)) (fun _ _ => rfl)) (by rfl))))))))), ?_⟩
    rcases hc with ⟨rfl, rfl⟩ | ⟨t, v, fl, r, rfl, rfl, ht⟩
    · refine ⟨_, rfl, true, rfl, iteT ?_⟩
      refine ⟨_, rfl, rfl, _, rfl, ?_⟩
      have e := k H (Same.refl H)
      rw [dec_int]
      cases e1 : decide (th = 0) with
      | true =>
        refine iteT ⟨_, rfl, root, rfl, ?_⟩
        have e2 : letM (rs.map (·.2)) (os.map (·.2)) none th root = !root := by
          show (!root && decide (th = 0)) = _
          rw [e1, Bool.and_true]
        rw [e2] at e
        exact e
      | false =>
        refine iteF ?_
        have e2 : letM (rs.map (·.2)) (os.map (·.2)) none th root = false := by
          show (!root && decide (th = 0)) = _
          rw [e1, Bool.and_false]
        rw [e2] at e
        exact e
    · refine ⟨_, rfl, false, rfl, iteF ?_⟩
      refine ⟨_, rfl, t, _, _, _, rfl, rfl, SqT.of ht, (by rfl), _, rfl, t, _, _, _, rfl, rfl, SqT.of ht, (by rfl), _, rfl, t, _, _, _, rfl, rfl, SqT.of ht, (by rfl), _, rfl, _, _, rfl, rfl, _, _, rfl, (by show 3 ≤ sizeLine; decide), fun T' hT => ?_⟩
      have s1 : Same H (upd H T' (.tup [.bl (!decide (v = .non)), .bl fl, .int (if r + th < 2 then r + th else 2)])) := same_new hT
      have h1 : (upd H T' (.tup [.bl (!decide (v = .non)), .bl fl, .int (if r + th < 2 then r + th else 2)])) T' = some (.tup (kdV (!decide (v = .non), fl, two (r + th)))) := upd_same
      generalize upd H T' (.tup [.bl (!decide (v = .non)), .bl fl, .int (if r + th < 2 then r + th else 2)]) = H1 at s1 h1 ⊢
      have ht2 := s1 _ _ ht
      refine ⟨fun σ' H' => σ' = [some (.ref t0), some (.ref t), some (.int th), some (.bl root), some (.ref T'), some (.bl (decide (r = 0) || (os.map (·.2)).any fun k => decide (k.2.2 = 0))), none] ∧ Same H1 H', ?_, ?_⟩
      · refine ⟨_, rfl, t, _, _, _, rfl, rfl, SqT.of ht2, (by rfl), rfl, _, rfl, ?_⟩
        rw [dec_int]
        cases e : decide (r = 0) with
        | true => exact iteT ⟨rfl, Same.refl _⟩
        | false =>
          refine iteF ?_
          rw [Bool.false_or]
          refine ⟨_, rfl, _, _, _, _, rfl, rfl, SqT.of (s1 _ _ ht0), (by rfl), b, rfl, ⟨_, SqL.of (s1 _ _ hB.l)⟩, fun D hD => ?_⟩
          refine lc_list (K := K) (a := b) (xs := os.map rf) (fun i H' => Same H1 H' ∧ H' D = some (.lst ((os.take i).map fun q => V.bl (decide (V.int q.2.2.2 = V.int 0))))) ⟨same_new hD, upd_same⟩ (fun i H' _ h => SqL.of (h.1 _ _ (s1 _ _ hB.l))) ?_ ?_
          · rintro i y H' hi ⟨s2, h2⟩
            have hil : i < os.length := by
              have := (List.getElem?_eq_some_iff.mp hi).1
              rwa [List.length_map] at this
            rw [List.getElem?_map, List.getElem?_eq_getElem hil] at hi
            obtain rfl : V.ref (os[i].1) = y := Option.some.inj hi
            have hm := List.getElem_mem hil
            have hfew := hB.few
            refine ⟨rfl, ?_⟩
            refine ⟨_, rfl, _, _, _, _, rfl, rfl, SqT.of (((hB.k.same s1).same s2).at_ _ hm), (by rfl), rfl, _, h2, small1000 (by rw [List.length_map, List.length_take]; omega), ?_, ?_⟩
            · exact fun c o z => by
                rw [upd_ne (ne_of_none z hD)]
                exact s2 c o z
            · rw [upd_same, List.take_succ, List.getElem?_eq_getElem hil, List.map_append]
              rfl
          · rintro H' ⟨s2, h2⟩
            rw [List.length_map, List.take_length] at h2
            refine ⟨D, os.map fun q => decide (V.int q.2.2.2 = V.int 0), rfl, ?_, ?_, s2⟩
            · rw [List.map_map]
              exact SqL.of h2
            · have e7 : ((os.map fun q => decide (V.int q.2.2.2 = V.int 0)).any id) = (os.map (·.2)).any fun k => decide (k.2.2 = 0) := by
                rw [List.any_map, List.any_map]
                congr 1
                funext q
                exact dec_int _ _
              rw [e7]
              rfl
      · rintro σ' H2 ⟨rfl, s2⟩
        have s3 := s1.trans s2
        have e5 := k H2 s3
        refine ⟨_, rfl, _, rfl, ?_⟩
        have e8 : letM (rs.map (·.2)) (os.map (·.2)) (some (v, fl, r)) th root = ((decide (r = 0) || (os.map (·.2)).any fun k => decide (k.2.2 = 0)) && decide ((!decide (v = .non), fl, two (r + th)) ∈ (if root = true then rs.map (·.2) else os.map (·.2)))) := Bool.and_comm _ _
        rw [e8] at e5
        generalize (decide (r = 0) || (os.map (·.2)).any fun k => decide (k.2.2 = 0)) = leaf at e5 ⊢
        cases leaf
        · exact iteF e5
        · refine iteT ?_
          rw [Bool.true_and] at e5
          refine ⟨_, rfl, _, rfl, _, rfl, root, rfl, Or.inr ⟨_, rfl, ?_⟩⟩
          cases root
          · refine ⟨_, _, _, _, rfl, rfl, SqT.of (s3 _ _ ht0), (by rfl), _, _, kd_dp (s2 _ _ h1), Or.inl (.lst (SqL.of (s3 _ _ hB.l)) (ks_all (hB.k.same s3).at_)), kd_lay _, kds_lay _, kd_depth _, ?_⟩
            rw [if_neg (by decide), kds_any]
            exact e5
          · refine ⟨_, _, _, _, rfl, rfl, SqT.of (s3 _ _ ht0), (by rfl), _, _, kd_dp (s2 _ _ h1), Or.inl (.lst (SqL.of (s3 _ _ hA.l)) (ks_all (hA.k.same s3).at_)), kd_lay _, kds_lay _, kd_depth _, ?_⟩
            rw [if_neg (by decide), kds_any]
            exact e5
end
end K28

set_option Elab.async false
set_option linter.all false
set_option maxRecDepth 100000
set_option maxHeartbeats 4000000
namespace K28
open PySem PySem.Spec PyProof.Rows L2 Own
def CellIs (H : Hp) (x : V) : Prop := ∃ c, CellAt H x c
theorem CellIs.same {H H' : Hp} {x : V} (h : CellIs H x) (s : Same H H') : CellIs H' x := by
  obtain ⟨c, h⟩ := h
  exact ⟨c, h.same s⟩
def spCells : Sp := fun vs H Q _ => ∃ (a : Addr) (i : Int), vs = [.ref a] ∧ H a = some (.lst [.int i]) ∧ ∀ (H' : Hp) (q : Addr) (xs : List V), Same H H' → H' q = some (.lst xs) → (∀ x ∈ xs, CellIs H' x) → Q (.ref q) H'
def spSide : Sp := fun vs H Q _ => ∃ (p l : Addr) (ns : List Int) (b z : Int), vs = [.ref p] ∧ Pen H p l ns b z ∧ b < 999900 ∧
  ∀ (b' z' : Int) (H' : Hp) (a : Addr) (ks : List (Addr × Kd)), b' ≤ b + 20 → Pen H' p l ns b' z' → But p H H' → KlAt H' a ks → Q (.ref a) H'
section
variable {P : Program} {w : World} {K : PySem.W.Frag} {mg : Str → Option Value} {base : Heap}
abbrev sCells : Stmt := top 19
abbrev sSide : Stmt := top 21
abbrev nCells : List Str := ["_law_values", "_law_found", "_law_value", "_law_k"]
abbrev nSide : List Str := ["_law_pen", "_law_every", "_law_most", "_law_found", "_law_cut", "_law_at", "_law_kind"]
theorem scCells : FnScope nCells ["_law_values"] (defScope sCells) := ⟨rfl, rfl, rfl, by decide +kernel, rfl, by decide +kernel, by decide +kernel⟩
theorem scSide : FnScope nSide ["_law_pen"] (defScope sSide) := ⟨rfl, rfl, rfl, by decide +kernel, rfl, by decide +kernel, by decide +kernel⟩
theorem ok_cells {f : Addr} {fd : FuncData} (F : FnP K "_law_cells" "_law_cells" sCells f fd) (T : Tx mg) : FnOk P w K mg base CX0 1 f fd ["_law_values"] spCells := by
  refine F.ok scCells (fun vs H Q E h => ?_) (fun cdv A outer s H vs Q E hr h => ?_)
  · obtain ⟨a, i, rfl, _⟩ := h
    rfl
  · obtain ⟨a, i0, rfl, ha, k⟩ := h
    refine ⟨_, PSs.nox (pss_cons (ps_set (i := 1) scCells.nd rfl (Or.inl rfl) (pe_lst (pa_cons pe_non pa_nil)))
      (pss_cons (ps_for PassesOwn.never rfl (pi_list (pe_op op_cat (pe_lst (pa_cons pe_non pa_nil)) (pe_callTy call_list_of (by rfl) T.list (by decide +kernel) (pa_cons (pv 0) pa_nil)))) (pg_name (i := 2) scCells.nd rfl (Or.inr rfl))
        (pss_one (ps_expr (pe_bm PySem.F.plainAttrs_list PySem.F.slot_list_extend PySem.F.type_list_extend mt_extend (pv 1) (pa_cons
          (pe_lc (own := [("_law_k", 3)]) (g := gName 3) (tt := tYes) (by rfl) scCells.nd (pi_range1 (by rfl) T.range (pa_cons pe_int pa_nil)) (blkOk_by (own := [("_law_k", 3)]) (N := nCells) (sc := defScope sCells) (by decide +kernel))
            (fun _ _ _ _ _ => pg_name (i := 3) scCells.nd rfl (Or.inl rfl)) (fun _ _ _ _ _ => pts_nil)
            (fun _ _ _ _ _ => pe_tup (pa_cons (pv 2) (pa_cons (pe_cmpR op_eq (pe_op op_mod (pe_callTy call_int1 (by rfl) T.int (by decide +kernel) (pa_cons (pv 3) pa_nil)) pe_int) pe_int (nomark _))
              (pa_cons (pe_op op_fdiv (pe_callTy call_int1 (by rfl) T.int (by decide +kernel) (pa_cons (pv 3) pa_nil)) pe_int) pa_nil))))) pa_nil)))))
      (pss_one (ps_ret (pv 1))))), ?_⟩
    refine ⟨(by show 1 ≤ sizeLine; decide), fun d hd => ?_⟩
    have s0 : Same H (upd H d (.lst [.non])) := same_new hd
    have h0 : (upd H d (.lst [.non])) d = some (.lst [.non]) := upd_same
    generalize upd H d (.lst [.non]) = H0 at s0 h0 ⊢
    -- [None] + list(values)
    refine ⟨(by show 1 ≤ sizeLine; decide), fun l1 hl1 => ?_⟩
    have s1 : Same H0 (upd H0 l1 (.lst [.non])) := same_new hl1
    have h1 : (upd H0 l1 (.lst [.non])) l1 = some (.lst [.non]) := upd_same
    generalize upd H0 l1 (.lst [.non]) = H1 at s1 h1 ⊢
    refine ⟨_, rfl, a, _, rfl, Or.inl (SqL.of (s1 _ _ (s0 _ _ ha))), fun l2 hl2 => ?_⟩
    have s2 : Same H1 (upd H1 l2 (.lst [.int i0])) := same_new hl2
    have h2 : (upd H1 l2 (.lst [.int i0])) l2 = some (.lst [.int i0]) := upd_same
    generalize upd H1 l2 (.lst [.int i0]) = H2 at s2 h2 ⊢
    refine ⟨l1, l2, _, _, rfl, rfl, s2 _ _ h1, h2, (by show 2 ≤ sizeLine; decide), fun e he => ?_⟩
    have s3 : Same H2 (upd H2 e (.lst ([.non] ++ [.int i0]))) := same_new he
    have h3 : (upd H2 e (.lst ([.non] ++ [.int i0]))) e = some (.lst [.non, .int i0]) := upd_same
    generalize upd H2 e (.lst ([.non] ++ [.int i0])) = H3 at s3 h3 ⊢
    have s13 := s1.trans (s2.trans s3)
    have ned : e ≠ d := (ne_of_none (s2 _ _ (s1 _ _ h0)) he).symm
    refine ⟨e, rfl, ⟨_, SqL.of h3⟩, ?_⟩
    refine for_list (K := K) (a := e) (xs := [.non, .int i0]) (fun i σ H' => (∃ xs, H' d = some (.lst xs) ∧ xs.length ≤ 1 + 6 * i ∧ ∀ x ∈ xs, CellIs H' x) ∧ H' e = some (.lst [.non, .int i0]) ∧ Same H H' ∧ ∃ v2, σ = [some (.ref a), some (.ref d), v2, none])
      ⟨⟨_, s13 _ _ h0, Nat.le_refl _, fun x hx => by
        rw [List.mem_singleton.mp hx]
        exact ⟨none, .inl ⟨rfl, rfl⟩⟩⟩, h3, s0.trans s13, none, rfl⟩ (fun i σ H' _ h => SqL.of h.2.1) ?_ ?_
    · rintro i y σ H' hi ⟨⟨xs, g1, g2, g3⟩, g4, g5, v2, rfl⟩
      have hi2 : i < 2 := (List.getElem?_eq_some_iff.mp hi).1
      refine ⟨_, rfl, Or.inl ⟨rfl, _, SqL.of g1⟩, ?_⟩
      refine ⟨6, rfl, (by decide), (by decide), fun D hD => ?_⟩
      have nD : d ≠ D := ne_of_none g1 hD
      have nE : e ≠ D := ne_of_none g4 hD
      refine lc_range (lo := 0) (n := 6) (fun j H'' => (∃ ys, H'' D = some (.lst ys) ∧ ys.length ≤ j ∧ ∀ x ∈ ys, CellIs H'' x) ∧ Same H' H'') ⟨⟨[], upd_same, Nat.le_refl _, fun x hx => by cases hx⟩, same_new hD⟩ ?_ ?_
      · rintro j H'' hj ⟨⟨ys, q1, q2, q3⟩, q4⟩
        refine ⟨rfl, ?_⟩
        refine ⟨_, rfl, _, rfl, Or.inl ⟨_, rfl, _, _, rfl, rfl, (by show (0 : Int) < 2; decide), rfl, _, rfl, Or.inl ⟨_, rfl, _, _, rfl, rfl, ⟨by decide, by decide⟩, ?_⟩⟩⟩
        refine ⟨(by show 3 ≤ sizeLine; decide), fun t ht => ?_⟩
        have nt : D ≠ t := ne_of_none q1 ht
        have s4 := same_new (o := .tup [y, .bl (decide (V.int ((0 + (j : Int)) % 2) = V.int 1)), .int ((0 + (j : Int)) / 2)]) ht
        refine ⟨_, s4 _ _ q1, small1000 (by omega), ⟨_, upd_same, ?_, ?_⟩, ?_⟩
        · rw [List.length_append]
          exact Nat.add_le_add_right q2 1
        · intro x hx
          have s5 : ∀ b o, H'' b = some o → b ≠ D → (upd (upd H'' t (.tup [y, .bl (decide (V.int ((0 + (j : Int)) % 2) = V.int 1)), .int ((0 + (j : Int)) / 2)])) D (.lst (ys ++ [V.ref t]))) b = some o := fun b o z n => by
            rw [upd_ne n]
            exact s4 b o z
          rcases List.mem_append.mp hx with hx | hx
          · obtain ⟨c, hc⟩ := q3 x hx
            refine ⟨c, ?_⟩
            rcases hc with hc | ⟨t', v, f, r, e1, e2, e3⟩
            · exact .inl hc
            · exact .inr ⟨t', v, f, r, e1, e2, s5 _ _ e3 (ne_of e3 q1 (by intro z; cases z))⟩
          · rw [List.mem_singleton.mp hx]
            exact ⟨_, .inr ⟨t, y, _, _, rfl, rfl, by rw [upd_ne nt.symm]; exact upd_same⟩⟩
        · exact fun b o z => by
            rw [upd_ne (ne_of_none z hD)]
            exact s4 b o (q4 b o z)
      · rintro H'' ⟨⟨ys, q1, q2, q3⟩, q4⟩
        refine ⟨d, D, _, _, rfl, rfl, q4 _ _ g1, q1, (Nat.le_trans (Nat.add_le_add g2 q2) (by have : sizeLine = 16777216 := sizeLine_eq; omega)), ?_⟩
        refine ⟨⟨_, upd_same, ?_, ?_⟩, ?_, ?_, _, rfl⟩
        · rw [List.length_append]
          omega
        · intro x hx
          have hall : CellIs H'' x := by
            rcases List.mem_append.mp hx with hx | hx
            · exact (g3 x hx).same q4
            · exact q3 x hx
          obtain ⟨c, hc⟩ := hall
          refine ⟨c, ?_⟩
          rcases hc with hc | ⟨t', v, f, r, e1, e2, e3⟩
          · exact .inl hc
          · exact .inr ⟨t', v, f, r, e1, e2, by rw [upd_ne (ne_of e3 (q4 _ _ g1) (by intro z; cases z))]; exact e3⟩
        · rw [upd_ne ned]
          exact q4 _ _ g4
        · exact fun b o z => by
            rw [upd_ne (ne_of_none z hd)]
            exact q4 b o (g5 b o z)
    · rintro σ H' ⟨⟨xs, g1, g2, g3⟩, g4, g5, v2, rfl⟩
      exact ⟨_, rfl, k H' d xs g5 g1 g3⟩
end
end K28

set_option Elab.async false
set_option linter.all false
set_option maxRecDepth 100000
set_option maxHeartbeats 4000000
namespace K28
open PySem PySem.Spec PyProof.Rows L2 Own
def kdAt (i : Nat) : Kd := (decide ((5 : Int) < 0 + (i : Int)), decide (V.int ((0 + (i : Int)) / 3 % 2) = V.int 1), (0 + (i : Int)) % 3)
theorem kd12_nodup : ((List.range 12).map kdAt).Nodup := by decide +kernel
theorem KsAt.sub {H : Hp} {ks ls : List (Addr × Kd)} (h : KsAt H ks) (s : ls.Sublist ks) : KsAt H ls := ⟨fun q m => h.at_ q (s.subset m), fun q m => h.ok q (s.subset m)⟩
theorem ks_nil (H : Hp) : KsAt H [] := ⟨fun q hq => (by cases hq), fun q hq => (by cases hq)⟩
theorem take_next {α : Type} {l : List α} {i : Nat} (h : i < l.length) : l.take (i + 1) = l.take i ++ [l[i]] := by
  rw [List.take_succ, List.getElem?_eq_getElem h]
  rfl
theorem cut_lo {xs : List V} {c : Nat} (h : c ≤ xs.length) : cutV xs (some (c : Int)) none = xs.drop c := by
  show (xs.drop (HT.sIx xs.length 0 (some (c : Int)))).take (HT.sIx xs.length xs.length none - HT.sIx xs.length 0 (some (c : Int))) = _
  rw [HT.sIx_none, HT.sIx_nat, Nat.min_eq_left h, List.take_of_length_le]
  rw [List.length_drop]
  exact Nat.le_refl _
theorem cut_hi {xs : List V} {c : Nat} (h : c ≤ xs.length) : cutV xs none (some (c : Int)) = xs.take c := by
  show (xs.drop (HT.sIx xs.length 0 none)).take (HT.sIx xs.length xs.length (some (c : Int)) - HT.sIx xs.length 0 none) = _
  rw [HT.sIx_none, HT.sIx_nat, Nat.min_eq_left h, List.drop_zero]
  rfl
section
variable {P : Program} {w : World} {K : PySem.W.Frag} {mg : Str → Option Value} {base : Heap}
theorem ok_side {f : Addr} {fd : FuncData} (F : FnP K "_law_side" "_law_side" sSide f fd) (T : Tx mg) (cD : Cl P w K mg base 1 "_law_draw" ["_law_pen", "_law_many"] spDraw) (cP : Cl P w K mg base 2 "_law_pick" ["_law_pen", "_law_menu"] spPick) :
    FnOk P w K mg base CX0 3 f fd ["_law_pen"] spSide := by
  obtain ⟨fD, fdD, GD, mD, kD, bD⟩ := cD.ex
  obtain ⟨fP, fdP, GP, mP, kP, bP⟩ := cP.ex
  refine F.ok scSide (fun vs H Q E h => ?_) (fun cdv A outer s H vs Q E hr h => ?_)
  · obtain ⟨p, l, ns, b, z, rfl, _⟩ := h
    rfl
  · obtain ⟨p, l, ns, b, z, rfl, hp, hb, k⟩ := h
    have hr1 : Room 1 _ := hr.mono (by decide)
    refine ⟨_, PSs.nox (pss_cons (ps_asg (pe_tup (pa_cons
        (pe_lc (own := [("_law_at", 5)]) (g := gName 5) (tt := tYes) (by rfl) scSide.nd (pi_range1 (by rfl) T.range (pa_cons pe_int pa_nil)) (blkOk_by (own := [("_law_at", 5)]) (N := nSide) (sc := defScope sSide) (by decide +kernel))
          (fun _ _ _ _ _ => pg_name (i := 5) scSide.nd rfl (Or.inl rfl)) (fun _ _ _ _ _ => pts_nil)
          (fun _ _ _ _ _ => pe_tup (pa_cons (pe_cmpR op_gt (pv 5) pe_int (nomark _)) (pa_cons (pe_cmpR op_eq (pe_op op_mod (pe_op op_fdiv (pe_callTy call_int1 (by rfl) T.int (by decide +kernel) (pa_cons (pv 5) pa_nil)) pe_int) pe_int) pe_int (nomark _))
            (pa_cons (pe_op op_mod (pe_callTy call_int1 (by rfl) T.int (by decide +kernel) (pa_cons (pv 5) pa_nil)) pe_int) pa_nil)))))
        (pa_cons (pe_call GP hr (by rfl) mP kP bP .nil pass0 (pa_cons (pv 0) (pa_cons (pe_lst (pa_cons pe_int (pa_cons pe_int (pa_cons pe_int (pa_cons pe_int pa_nil))))) pa_nil))) pa_nil)))
        (pg_tup (by rfl) (pgs_cons (pg_name (i := 1) scSide.nd rfl (Or.inl rfl)) (pgs_cons (pg_name (i := 2) scSide.nd rfl (Or.inr rfl)) pgs_nil))))
      (pss_cons (ps_setLc (i := 3) (own := [("_law_kind", 6)]) (g := gName 6) (by rfl) scSide.nd rfl rfl (sw_true rfl rfl rfl (by decide +kernel)) (pi_list (pv 1)) (blkOk_by (own := [("_law_kind", 6)]) (N := nSide) (sc := defScope sSide) (by decide +kernel))
          (fun _ _ _ _ _ => pg_name (i := 6) scSide.nd rfl (Or.inl rfl)) (fun _ _ _ _ _ => pts_one (pt_cmpR op_lt (pe_call GD hr1 (by rfl) mD kD bD .nil pass0 (pa_cons (pv 0) (pa_cons pe_int pa_nil))) (pv 2) (nomark _)))
          (fun _ _ _ _ _ => pv 6))
      (pss_cons (ps_set (i := 4) scSide.nd rfl (Or.inl rfl) (pe_call GD hr1 (by rfl) mD kD bD .nil pass0 (pa_cons (pv 0) (pa_cons (pe_op op_add (pe_callB call_len_seq (by rfl) T.len PySem.boot_len (pa_cons (pv 3) pa_nil)) pe_int) pa_nil))))
      (pss_cons (ps_set (i := 3) scSide.nd rfl (Or.inl rfl) (pe_op op_cat (pe_slice sl_list (pv 3) (po_some (pv 4)) po_none) (pe_slice sl_list (pv 3) po_none (po_some (pv 4)))))
      (pss_one (ps_ret (pe_ifExp (pt_cmpR op_eq (pe_call GD hr1 (by rfl) mD kD bD .nil pass0 (pa_cons (pv 0) (pa_cons pe_int pa_nil))) pe_int (nomark _))
        (pe_lc (own := [("_law_kind", 6)]) (g := gName 6) (by rfl) scSide.nd (pi_list (pv 3)) (blkOk_by (own := [("_law_kind", 6)]) (N := nSide) (sc := defScope sSide) (by decide +kernel))
          (fun _ _ _ _ _ => pg_name (i := 6) scSide.nd rfl (Or.inl rfl)) (fun _ _ _ _ _ => pts_one (pt_cmpR op_gt (pe_ix (r := rIxT K) ix_tup (pv 6) pe_int (fun _ _ => rfl)) pe_int (nomark _)))
          (fun _ _ _ _ _ => pv 6)) (pv 3)))))))), ?_⟩
    refine ⟨12, rfl, (by decide), (by decide), fun D hD => ?_⟩
    refine lc_range (lo := 0) (n := 12) (fun j H' => (∃ es : List (Addr × Kd), H' D = some (.lst (es.map rf)) ∧ es.map (·.2) = (List.range j).map kdAt ∧ KsAt H' es) ∧ Same H H') ⟨⟨[], upd_same, rfl, ks_nil _⟩, same_new hD⟩ ?_ ?_
    · rintro j H' hj ⟨⟨es, g1, g2, g3⟩, g4⟩
      have hlen : es.length = j := by
        have e := congrArg List.length g2
        rw [List.length_map, List.length_map, List.length_range] at e
        exact e
      refine ⟨rfl, ?_⟩
      refine ⟨_, rfl, _, _, rfl, rfl, _, rfl, Or.inl ⟨_, rfl, _, _, rfl, rfl, ⟨by decide, by decide⟩, _, _, rfl, rfl, (by show (0 : Int) < 2; decide), rfl, _, rfl, Or.inl ⟨_, rfl, _, _, rfl, rfl, (by show (0 : Int) < 3; decide), ?_⟩⟩⟩
      refine ⟨(by show 3 ≤ sizeLine; decide), fun t ht => ?_⟩
      have nt : D ≠ t := ne_of_none g1 ht
      have s4 : Same H' (upd H' t (.tup (kdV (kdAt j)))) := same_new ht
      have h4 : (upd H' t (.tup (kdV (kdAt j)))) t = some (.tup (kdV (kdAt j))) := upd_same
      refine ⟨_, s4 _ _ g1, small1000 (by rw [List.length_map]; omega), ⟨es ++ [(t, kdAt j)], ?_, ?_, ⟨?_, ?_⟩⟩, ?_⟩
      · rw [upd_same, List.map_append]
        rfl
      · rw [List.map_append, g2, List.range_succ, List.map_append]
        rfl
      · intro q hq
        rcases List.mem_append.mp hq with hq | hq
        · rw [upd_ne (ne_of (s4 _ _ (g3.at_ q hq)) (s4 _ _ g1) (by intro z; cases z))]
          exact s4 _ _ (g3.at_ q hq)
        · rw [List.mem_singleton.mp hq, upd_ne nt.symm]
          exact h4
      · intro q hq
        rcases List.mem_append.mp hq with hq | hq
        · exact g3.ok q hq
        · rw [List.mem_singleton.mp hq]
          show 0 ≤ (0 + (j : Int)) % 3 ∧ (0 + (j : Int)) % 3 ≤ 2
          omega
      · exact fun b o z => by
          rw [upd_ne (ne_of_none z hD)]
          exact s4 b o (g4 b o z)
    · rintro H1 ⟨⟨es, g1, g2, g3⟩, g4⟩
      have hlen : es.length = 12 := by
        have e := congrArg List.length g2
        rw [List.length_map, List.length_map, List.length_range] at e
        exact e
      have hnd : (es.map (·.2)).Nodup := by rw [g2]; exact kd12_nodup
      refine ⟨_, rfl, (by show 4 ≤ sizeLine; decide), fun m hm => ?_⟩
      have s5 : Same H1 (upd H1 m (.lst [.int 1, .int 4, .int 9, .int 12])) := same_new hm
      have h5 : (upd H1 m (.lst [.int 1, .int 4, .int 9, .int 12])) m = some (.lst [.int 1, .int 4, .int 9, .int 12]) := upd_same
      generalize upd H1 m (.lst [.int 1, .int 4, .int 9, .int 12]) = H2 at s5 h5 ⊢
      have p2 := (hp.same g4).same s5
      refine ⟨p, l, ns, b, z, m, _, rfl, p2, (by omega), h5, (by simp), (by show 4 ≤ 1000; decide), ne_of h5 p2.d (by intro e; cases e), fun x b3 z3 H3 hx hb3 p3 but3 => ?_⟩
      obtain ⟨c, rfl⟩ : ∃ c, x = V.int c := by
        simp only [List.mem_cons, List.not_mem_nil, or_false] at hx
        rcases hx with rfl | rfl | rfl | rfl <;> exact ⟨_, rfl⟩
      have k3 : KsAt H3 es := (g3.same s5).but but3 _ p2.d
      have h3 : H3 D = some (.lst (es.map rf)) := but3 _ _ (s5 _ _ g1) (ne_of (s5 _ _ g1) p2.d (by intro e; cases e))
      have but4 : But p H H3 := (Same.but (g4.trans s5) p).trans but3
      refine ⟨(by show 2 ≤ sizeLine; decide), fun t ht => ?_⟩
      have s6 : Same H3 (upd H3 t (.tup [.ref D, .int c])) := same_new ht
      have h6 : (upd H3 t (.tup [.ref D, .int c])) t = some (.tup [.ref D, .int c]) := upd_same
      generalize upd H3 t (.tup [.ref D, .int c]) = H4 at s6 h6 ⊢
      refine ⟨t, _, rfl, SqT.of h6, rfl, _, _, rfl, _, _, rfl, rfl, ?_⟩
      have p4 := p3.same s6
      have k4 := k3.same s6
      have h4 := s6 _ _ h3
      have but5 : But p H H4 := but4.trans (Same.but s6 p)
      refine ⟨_, rfl, D, rfl, ⟨_, SqL.of h4⟩, fun D2 hD2 => ?_⟩
      have nD2 : p ≠ D2 := ne_of_none p4.d hD2
      refine lc_list (K := K) (a := D) (xs := es.map rf) (fun i H' => ∃ (fs : List (Addr × Kd)) (b' z' : Int), fs.Sublist (es.take i) ∧ H' D2 = some (.lst (fs.map rf)) ∧ Pen H' p l ns b' z' ∧ b' ≤ b3 + i ∧ But p H4 H')
        ⟨[], b3, z3, List.nil_sublist _, upd_same, p4.same (same_new hD2), by omega, Same.but (same_new hD2) p⟩ (fun i H' _ h => ?_) ?_ ?_
      · obtain ⟨fs, b', z', _, _, _, _, hB⟩ := h
        exact SqL.of (hB _ _ h4 (ne_of h4 p4.d (by intro e; cases e)))
      · rintro i y H' hi ⟨fs, b', z', q1, q2, q3, q4, q5⟩
        have hil : i < es.length := by
          have := (List.getElem?_eq_some_iff.mp hi).1
          rwa [List.length_map] at this
        rw [List.getElem?_map, List.getElem?_eq_getElem hil] at hi
        obtain rfl : V.ref (es[i].1) = y := Option.some.inj hi
        refine ⟨rfl, ?_⟩
        refine ⟨_, rfl, p, l, ns, b', z', 12, rfl, (by decide), (by decide), q3, (by omega), fun d b7 z7 H7 d0 d1 hb7 p7 but7 => ?_⟩
        have q2' := but7 _ _ q2 nD2.symm
        have hfl : fs.length ≤ 12 := by
          have := q1.length_le
          rw [List.length_take] at this
          omega
        refine ⟨_, rfl, _, _, rfl, rfl, _, rfl, ?_⟩
        refine ite2 (fun _ => ?_) (fun _ => ?_)
        · refine ⟨_, rfl, _, q2', small1000 (by rw [List.length_map]; omega), fs ++ [es[i]], b7, z7, ?_, ?_, ⟨?_, ?_, p7.b0, p7.z0, p7.n⟩, (by omega), ?_⟩
          · rw [take_next hil]
            exact q1.append (List.Sublist.refl _)
          · rw [upd_same, List.map_append]
            rfl
          · rw [upd_ne nD2]
            exact p7.d
          · rw [upd_ne (fun e => (ne_of_none p4.l hD2) e)]
            exact p7.l
          · exact fun a o e n => by
              rw [upd_ne (ne_of_none e hD2)]
              exact but7 a o (q5 a o e n) n
        · refine ⟨fs, b7, z7, ?_, q2', p7, (by omega), q5.trans but7⟩
          rw [take_next hil]
          exact q1.trans (List.sublist_append_left _ _)
      · rintro H5 ⟨fs, b5, z5, q1, q2, q3, q4, q5⟩
        rw [List.length_map, List.take_length] at q1
        rw [List.length_map, hlen] at q4
        have k5 : KsAt H5 fs := (k4.but q5 _ p4.d).sub q1
        have n5 : (fs.map (·.2)).Nodup := hnd.sublist (q1.map _)
        have l5 : fs.length ≤ 12 := by
          have := q1.length_le
          omega
        refine ⟨_, rfl, _, rfl, D2, _, rfl, Or.inl (SqL.of q2), _, _, rfl, rfl, ?_⟩
        refine ⟨p, l, ns, b5, z5, _, rfl, (by rw [List.length_map]; omega), (by rw [List.length_map]; omega), q3, (by omega), fun d b6 z6 H6 d0 d1 hb6 p6 but6 => ?_⟩
        obtain ⟨cN, rfl⟩ := Int.eq_ofNat_of_zero_le d0
        have hcN : cN ≤ (fs.map rf).length := by omega
        have q2' := but6 _ _ q2 nD2.symm
        have k6 : KsAt H6 fs := k5.but but6 _ q3.d
        refine ⟨_, rfl, _, rfl, _, rfl, D2, _, rfl, SqL.of q2', fun r1 hr1 => ?_⟩
        have t1 : Same H6 (upd H6 r1 (.lst (cutV (fs.map rf) (some (cN : Int)) none))) := same_new hr1
        have u1 : (upd H6 r1 (.lst (cutV (fs.map rf) (some (cN : Int)) none))) r1 = some (.lst ((fs.drop cN).map rf)) := by rw [upd_same, cut_lo hcN, List.map_drop]
        generalize upd H6 r1 (.lst (cutV (fs.map rf) (some (cN : Int)) none)) = H7 at t1 u1 ⊢
        refine ⟨_, rfl, _, rfl, _, rfl, D2, _, rfl, SqL.of (t1 _ _ q2'), fun r2 hr2 => ?_⟩
        have t2 : Same H7 (upd H7 r2 (.lst (cutV (fs.map rf) none (some (cN : Int))))) := same_new hr2
        have u2 : (upd H7 r2 (.lst (cutV (fs.map rf) none (some (cN : Int))))) r2 = some (.lst ((fs.take cN).map rf)) := by rw [upd_same, cut_hi hcN, List.map_take]
        generalize upd H7 r2 (.lst (cutV (fs.map rf) none (some (cN : Int)))) = H8 at t2 u2 ⊢
        refine ⟨r1, r2, _, _, rfl, rfl, t2 _ _ u1, u2, ?_, fun r3 hr3 => ?_⟩
        · rw [List.length_map, List.length_map, List.length_drop, List.length_take, sizeLine_eq]
          omega
        have t3 : Same H8 (upd H8 r3 (.lst ((fs.drop cN).map rf ++ (fs.take cN).map rf))) := same_new hr3
        have u3 : (upd H8 r3 (.lst ((fs.drop cN).map rf ++ (fs.take cN).map rf))) r3 = some (.lst ((fs.drop cN ++ fs.take cN).map rf)) := by rw [upd_same, List.map_append]
        generalize upd H8 r3 (.lst ((fs.drop cN).map rf ++ (fs.take cN).map rf)) = H9 at t3 u3 ⊢
        have t13 := t1.trans (t2.trans t3)
        have pm : (fs.drop cN ++ fs.take cN).Perm fs := List.perm_append_comm.trans (by rw [List.take_append_drop])
        generalize fs.drop cN ++ fs.take cN = rot at pm u3
        have k9 : KsAt H9 rot := (k6.same t13).perm pm
        have n9 : (rot.map (·.2)).Nodup := (pm.map _).nodup_iff.mpr n5
        have l9 : rot.length ≤ 12 := by rw [pm.length_eq]; exact l5
        have p9 := p6.same t13
        have but9 : But p H H9 := (but5.trans (q5.trans but6)).trans (Same.but t13 p)
        refine ⟨_, rfl, p, l, ns, b6, z6, 4, rfl, (by decide), (by decide), p9, (by omega), fun d2 b10 z10 H10 e0 e1 hb10 p10 but10 => ?_⟩
        have u10 := but10 _ _ u3 (ne_of u3 p9.d (by intro e; cases e))
        have k10 : KsAt H10 rot := k9.but but10 _ p9.d
        have but11 := but9.trans but10
        refine ⟨rfl, _, rfl, ?_⟩
        refine ite2 (fun _ => ?_) (fun _ => ?_)
        · refine ⟨_, rfl, r3, rfl, ⟨_, SqL.of u10⟩, fun D3 hD3 => ?_⟩
          refine lc_list (K := K) (a := r3) (xs := rot.map rf) (fun i H' => ∃ gs : List (Addr × Kd), gs.Sublist (rot.take i) ∧ H' D3 = some (.lst (gs.map rf)) ∧ Same H10 H')
            ⟨[], List.nil_sublist _, upd_same, same_new hD3⟩ (fun i H' _ h => ?_) ?_ ?_
          · obtain ⟨gs, _, _, hS⟩ := h
            exact SqL.of (hS _ _ u10)
          · rintro i y H' hi ⟨gs, w1, w2, w3⟩
            have hil : i < rot.length := by
              have := (List.getElem?_eq_some_iff.mp hi).1
              rwa [List.length_map] at this
            rw [List.getElem?_map, List.getElem?_eq_getElem hil] at hi
            obtain rfl : V.ref (rot[i].1) = y := Option.some.inj hi
            have hm := List.getElem_mem hil
            have hgl : gs.length ≤ 12 := by
              have := w1.length_le
              rw [List.length_take] at this
              omega
            refine ⟨rfl, ?_⟩
            refine ⟨_, rfl, _, _, _, _, rfl, rfl, SqT.of ((k10.same w3).at_ _ hm), (by rfl), _, _, rfl, rfl, _, rfl, ?_⟩
            refine ite2 (fun _ => ?_) (fun _ => ?_)
            · refine ⟨_, rfl, _, w2, small1000 (by rw [List.length_map]; omega), gs ++ [rot[i]], ?_, ?_, ?_⟩
              · rw [take_next hil]
                exact w1.append (List.Sublist.refl _)
              · rw [upd_same, List.map_append]
                rfl
              · exact fun a o e => by
                  rw [upd_ne (ne_of_none e hD3)]
                  exact w3 a o e
            · refine ⟨gs, ?_, w2, w3⟩
              rw [take_next hil]
              exact w1.trans (List.sublist_append_left _ _)
          · rintro H12 ⟨gs, w1, w2, w3⟩
            rw [List.length_map, List.take_length] at w1
            refine k b10 z10 H12 D3 gs (by omega) (p10.same w3) (but11.trans (Same.but w3 p)) ⟨w2, (k10.same w3).sub w1, n9.sublist (w1.map _), ?_⟩
            have := w1.length_le
            omega
        · exact ⟨_, rfl, k b10 z10 H10 r3 rot (by omega) p10 but11 ⟨u10, k10, n9, by omega⟩⟩
end
end K28

set_option Elab.async false
set_option linter.all false
set_option maxRecDepth 100000
set_option maxHeartbeats 4000000
namespace K28
open PySem PySem.Spec PyProof.Rows L2 Own
def spLaw (K : PySem.W.Frag) : Sp := fun vs H Q _ => ∃ (a : Addr) (ns : List Int), vs = [.ref a] ∧ SqL K H a (ns.map V.int) ∧ ns.length ≤ 63 ∧ ∀ H', Q (.bl true) H'
section
variable {P : Program} {w : World} {K : PySem.W.Frag} {mg : Str → Option Value} {base : Heap}
abbrev sLaw : Stmt := top 22
abbrev nLaw : List Str := ["_law_script", "_law_pen", "_law_turn", "_law_rule", "_law_made", "_law_cell", "_law_there", "_law_root"]
theorem scLaw : FnScope nLaw ["_law_script"] (defScope sLaw) := ⟨rfl, rfl, rfl, by decide +kernel, rfl, by decide +kernel, by decide +kernel⟩
theorem ok_law {f C : Addr} {fd : FuncData} (F : FnP K "law" "law" sLaw f fd) (T : Tx mg)
    (cO : Cl P w K mg base 1 "_law_pen_of" ["_law_script"] (spPenOf K)) (cD : Cl P w K mg base 1 "_law_draw" ["_law_pen", "_law_many"] spDraw) (cS : Cl P w K mg base 3 "_law_side" ["_law_pen"] spSide)
    (cM : Cl P w K mg base 6 "_law_rule_made" ["_law_rule"] (spMade C)) (cC : Cl P w K mg base 1 "_law_cells" ["_law_values"] spCells) (cL : Cl P w K mg base 1 "is_let" ["rule", "cell", "there", "root"] (spLet C))
    (cL2 : Cl P w K mg base 1 "_law_let" ["_law_rule", "_law_cell", "_law_there", "_law_root"] spLet2) (cT : Cl P w K mg base 1 "_law_truth" ["_law_found", "_law_due"] spTruth) : FnOk P w K mg base CX0 8 f fd ["_law_script"] (spLaw K) := by
  obtain ⟨fO, fdO, GO, mO, kO, bO⟩ := cO.ex
  obtain ⟨fD, fdD, GD, mD, kD, bD⟩ := cD.ex
  obtain ⟨fS, fdS, GS, mS, kS, bS⟩ := cS.ex
  obtain ⟨fM, fdM, GM, mM, kM, bM⟩ := cM.ex
  obtain ⟨fC, fdC, GC, mC, kC', bC⟩ := cC.ex
  obtain ⟨fL, fdL, GL, mL, kL', bL⟩ := cL.ex
  obtain ⟨fN, fdN, GN, mN, kN, bN⟩ := cL2.ex
  obtain ⟨fT, fdT, GT, mT, kT, bT⟩ := cT.ex
  refine F.ok scLaw (fun vs H Q E h => ?_) (fun cdv A outer s H vs Q E hr h => ?_)
  · obtain ⟨a, ns, rfl, _⟩ := h
    rfl
  · obtain ⟨a, ns, rfl, hS, hl, k⟩ := h
    have hr1 : Room 1 _ := hr.mono (by decide)
    have hr3 : Room 3 _ := hr.mono (by decide)
    have hr6 : Room 6 _ := hr.mono (by decide)
    refine ⟨_, PSs.nox (pss_cons (ps_set (i := 1) scLaw.nd rfl (Or.inl rfl) (pe_call GO hr1 (by rfl) mO kO bO .nil pass0 (pa_cons (pv 0) pa_nil)))
      (pss_cons (ps_for PassesOwn.never rfl (pi_range1 (by rfl) T.range (pa_cons pe_int pa_nil)) (pg_name (i := 2) scLaw.nd rfl (Or.inl rfl))
        (pss_cons (ps_set (i := 3) scLaw.nd rfl (Or.inl rfl) (pe_tup (pa_cons (pe_call GS hr3 (by rfl) mS kS bS .nil pass0 (pa_cons (pv 1) pa_nil)) (pa_cons (pe_call GS hr3 (by rfl) mS kS bS .nil pass0 (pa_cons (pv 1) pa_nil)) pa_nil))))
        (pss_cons (ps_set (i := 4) scLaw.nd rfl (Or.inl rfl) (pe_call GM hr6 (by rfl) mM kM bM .nil pass0 (pa_cons (pv 3) pa_nil)))
        (pss_one (ps_for PassesOwn.never rfl (pi_list (pe_call GC hr1 (by rfl) mC kC' bC .nil pass0 (pa_cons (pe_lst (pa_cons (pe_op op_add pe_int (pe_call GD hr1 (by rfl) mD kD bD .nil pass0 (pa_cons (pv 1) (pa_cons pe_int pa_nil)))) pa_nil)) pa_nil))) (pg_name (i := 5) scLaw.nd rfl (Or.inl rfl))
          (pss_one (ps_for PassesOwn.never rfl (pi_range1 (by rfl) T.range (pa_cons pe_int pa_nil)) (pg_name (i := 6) scLaw.nd rfl (Or.inl rfl))
            (pss_one (ps_for PassesOwn.never rfl (pi_list (pe_lst (pa_cons pe_bl (pa_cons pe_bl pa_nil)))) (pg_name (i := 7) scLaw.nd rfl (Or.inl rfl))
              (pss_one (ps_if (pt_not (pt_val (pe_call GT hr1 (by rfl) mT kT bT .nil pass0 (pa_cons (pe_call GL hr1 (by rfl) mL kL' bL .nil pass0 (pa_cons (pv 4) (pa_cons (pv 5) (pa_cons (pv 6) (pa_cons (pv 7) pa_nil)))))
                (pa_cons (pe_call GN hr1 (by rfl) mN kN bN .nil pass0 (pa_cons (pv 3) (pa_cons (pv 5) (pa_cons (pv 6) (pa_cons (pv 7) pa_nil))))) pa_nil))))) (pss_one (ps_ret pe_bl)) pss_nil)))))))))))
      (pss_one (ps_ret pe_bl)))), ?_⟩
    refine ⟨_, rfl, a, ns, rfl, hS, hl, fun p l H1 s1 p1 => ?_⟩
    refine ⟨2, rfl, (by decide), (by decide), ?_⟩
    refine for_range (lo := 0) (n := 2) (fun i σ H' => (∃ b z, Pen H' p l ns b z ∧ b ≤ 100 * i) ∧ ∃ v2 v3 v4 v5 v6 v7, σ = [some (.ref a), some (.ref p), v2, v3, v4, v5, v6, v7]) ⟨⟨0, 0, p1, by omega⟩, _, _, _, _, _, _, rfl⟩ ?_ ?_
    · rintro i σ H2 hi ⟨⟨b, z, p2, hb⟩, v2, v3, v4, v5, v6, v7, rfl⟩
      -- the rule's two sides
      refine ⟨_, rfl, p, l, ns, b, z, rfl, p2, (by omega), fun b3 z3 H3 a1 ks1 hb3 p3 but3 K1 => ?_⟩
      refine ⟨_, rfl, p, l, ns, b3, z3, rfl, p3, (by omega), fun b4 z4 H4 a2 ks2 hb4 p4 but4 K2 => ?_⟩
      have K1' : KlAt H4 a1 ks1 := ⟨but4 _ _ K1.l (ne_of K1.l p3.d (by intro e; cases e)), K1.k.but but4 _ p3.d, K1.nd, K1.few⟩
      refine ⟨(by show 2 ≤ sizeLine; decide), fun t ht => ?_⟩
      have s5 : Same H4 (upd H4 t (.tup [.ref a1, .ref a2])) := same_new ht
      have h5 : (upd H4 t (.tup [.ref a1, .ref a2])) t = some (.tup [.ref a1, .ref a2]) := upd_same
      generalize upd H4 t (.tup [.ref a1, .ref a2]) = H5 at s5 h5 ⊢
      refine ⟨_, rfl, t, a1, a2, ks1, ks2, rfl, h5, K1'.same s5, K2.same s5, fun H6 x rs os s6 pr po hR => ?_⟩
      have p6 := (p4.same s5).same s6
      have s56 := s5.trans s6
      -- the cells
      refine ⟨_, rfl, p, l, ns, b4, z4, 9, rfl, (by decide), (by decide), p6, (by omega), fun d b7 z7 H7 d0 d1 hb7 p7 but7 => ?_⟩
      refine ⟨_, _, rfl, rfl, (by show 1 ≤ sizeLine; decide), fun m hm => ?_⟩
      have s8 : Same H7 (upd H7 m (.lst [.int (1 + d)])) := same_new hm
      have h8 : (upd H7 m (.lst [.int (1 + d)])) m = some (.lst [.int (1 + d)]) := upd_same
      generalize upd H7 m (.lst [.int (1 + d)]) = H8 at s8 h8 ⊢
      refine ⟨m, _, rfl, h8, fun H9 q xs s9 h9 hx => ?_⟩
      have s79 := s8.trans s9
      have p9 := p7.same s79
      have keep : ∀ b o, H6 b = some o → b ≠ p → H9 b = some o := fun b o e n => s79 b o (but7 b o e n)
      have t9 : H9 t = some (.tup [.ref a1, .ref a2]) := keep _ _ (s6 _ _ h5) (ne_of (s6 _ _ h5) p6.d (by intro e; cases e))
      have kk : ∀ {ks : List (Addr × Kd)}, KsAt H6 ks → KsAt H9 ks := fun h => (h.but but7 _ p6.d).same s79
      have K19 : KlAt H9 a1 ks1 := ⟨keep _ _ (s56 _ _ K1'.l) (ne_of (s56 _ _ K1'.l) p6.d (by intro e; cases e)), kk (K1'.k.same s56), K1.nd, K1.few⟩
      have K29 : KlAt H9 a2 ks2 := ⟨keep _ _ (s56 _ _ K2.l) (ne_of (s56 _ _ K2.l) p6.d (by intro e; cases e)), kk (K2.k.same s56), K2.nd, K2.few⟩
      have R9 : RuleAt C H9 x rs os := by
        obtain ⟨⟨dx, ra, rb, w1, w2, w3⟩, w4, w5⟩ := hR
        exact ⟨⟨dx, ra, rb, keep _ _ w1 (ne_of w1 p6.d (by intro e; cases e)), keep _ _ w2 (ne_of w2 p6.d (by intro e; cases e)), keep _ _ w3 (ne_of w3 p6.d (by intro e; cases e))⟩, kk w4, kk w5⟩
      have osl : os.length ≤ 60 := by rw [po.length_eq]; exact K2.few
      refine ⟨q, rfl, ⟨_, SqL.of h9⟩, ?_⟩
      refine for_list (K := K) (a := q) (xs := xs) (fun j σ H' => Same H9 H' ∧ ∃ w2 w5 w6 w7, σ = [some (.ref a), some (.ref p), w2, some (.ref t), some (.ref x), w5, w6, w7]) ⟨Same.refl _, _, _, _, _, rfl⟩ (fun j σ H' _ h => SqL.of (h.1 _ _ h9)) ?_ ?_
      · rintro j y σ H10 hj ⟨s10, w2, w5, w6, w7, rfl⟩
        obtain ⟨c, hc⟩ := hx y (List.mem_of_getElem? hj)
        refine ⟨3, rfl, (by decide), (by decide), ?_⟩
        refine for_range (lo := 0) (n := 3) (fun j2 σ H' => Same H9 H' ∧ ∃ w2 w6 w7, σ = [some (.ref a), some (.ref p), w2, some (.ref t), some (.ref x), some y, w6, w7]) ⟨s10, _, _, _, rfl⟩ ?_ ?_
        · rintro j2 σ H11 hj2 ⟨s11, w2, w6, w7, rfl⟩
          refine ⟨(by show 2 ≤ sizeLine; decide), fun e he => ?_⟩
          have s12 : Same H11 (upd H11 e (.lst [.bl false, .bl true])) := same_new he
          have h12 : (upd H11 e (.lst [.bl false, .bl true])) e = some (.lst [.bl false, .bl true]) := upd_same
          generalize upd H11 e (.lst [.bl false, .bl true]) = H12 at s12 h12 ⊢
          refine ⟨e, rfl, ⟨_, SqL.of h12⟩, ?_⟩
          refine for_list (K := K) (a := e) (xs := [.bl false, .bl true]) (fun j3 σ H' => Same H12 H' ∧ ∃ w2 w7, σ = [some (.ref a), some (.ref p), w2, some (.ref t), some (.ref x), some y, some (.int (0 + (j2 : Int))), w7]) ⟨Same.refl _, _, _, rfl⟩ (fun j3 σ H' _ h => SqL.of (h.1 _ _ h12)) ?_ ?_
          · rintro j3 r σ H13 hj3 ⟨s13, w2, w7, rfl⟩
            obtain ⟨root, rfl⟩ : ∃ root, r = V.bl root := by
              have hm := List.mem_of_getElem? hj3
              simp only [List.mem_cons, List.not_mem_nil, or_false] at hm
              rcases hm with rfl | rfl <;> exact ⟨_, rfl⟩
            have s913 := s11.trans (s12.trans s13)
            refine ⟨_, rfl, _, rfl, _, rfl, _, rfl, x, y, _, root, rs, os, c, rfl, R9.same s913, hc.same s913, osl, fun H14 s14 => ?_⟩
            have s914 := s913.trans s14
            refine ⟨_, rfl, _, rfl, _, rfl, _, rfl, t, a1, a2, y, _, root, ks1, ks2, c, rfl, s914 _ _ t9, K19.same s914, K29.same s914, hc.same s914, fun H15 s15 => ?_⟩
            refine ⟨_, _, rfl, true, ?_, ?_⟩
            · rw [letM_perm (pr.map _) (po.map _)]
              exact congrArg V.bl (decide_eq_true rfl)
            · exact iteF ⟨s13.trans (s14.trans s15), _, _, rfl⟩
          · rintro σ H13 ⟨s13, w2, w7, rfl⟩
            exact ⟨s11.trans (s12.trans s13), _, _, _, rfl⟩
        · rintro σ H11 ⟨s11, w2, w6, w7, rfl⟩
          exact ⟨s11, _, _, _, _, rfl⟩
      · rintro σ H10 ⟨s10, w2, w5, w6, w7, rfl⟩
        exact ⟨⟨b7, z7, p9.same s10, by omega⟩, _, _, _, _, _, _, rfl⟩
    · rintro σ H2 _
      exact k H2
end
end K28

set_option Elab.async false
set_option linter.all false
set_option maxRecDepth 100000
set_option maxHeartbeats 0
namespace K28
open PySem PySem.Spec PyProof.Rows L2 Own
def dd (x : Str) (i : Nat) : He.DefD := ⟨(x, none), x, x, defArgs (top i), defBody (top i), defScope (top i), [], []⟩
def dInit : He.DefD := ⟨("Rule", some "__init__"), "__init__", "Rule.__init__", defArgs sInit, defBody sInit, defScope sInit, [], []⟩
def fn : List He.DefD := [dd "is_integer" 6, dd "is_let" 8, dInit, dd "is_kind" 11, dd "checked_kinds" 12, dd "_law_pen_of" 14, dd "_law_draw" 15, dd "_law_pick" 16, dd "_law_rule_made" 17, dd "_law_let" 18, dd "_law_cells" 19, dd "_law_truth" 20, dd "_law_side" 21, dd "law" 22]
def fa : List He.Fa := [.glo "is_integer", .glo "is_let", .glo "Rule", .glo "is_kind", .glo "checked_kinds", .glo "_law_pen_of", .glo "_law_draw", .glo "_law_pick", .glo "_law_rule_made", .glo "_law_let", .glo "_law_cells", .glo "_law_truth", .glo "_law_side", .glo "law",
  .free "abs", .free "any", .free "bool", .free "enumerate", .free "int", .free "isinstance", .free "len", .free "list", .free "min", .free "range", .free "sorted", .free "tuple",
  .cls "Rule", .noat "Rule" "root", .noat "Rule" "others", .mkr "Rule"]
def loose : List Str := ["_wall", "copied", "ShedError", "BadKind", "is_integer", "is_let", "Rule", "is_kind", "checked_kinds", "_law_pen_of", "_law_draw", "_law_pick", "_law_rule_made", "_law_let", "_law_cells", "_law_truth", "_law_side"]
abbrev R : PySem.W.OpenRow := PySem.W.OpenLaw.row PySem.Challenge.rw_treeshed_k28_cells_that_are_let
abbrev hk : PySem.W.Hook := He.hookD 6 fa fn
def ob (s : PySem.W.SharedT) : He.AlD := He.obsDG 6 fa fn (HandSHeadRun.getT s)
theorem ob_eq (s : PySem.W.SharedT) : ob s = hk.obs s.abs := He.obsDG_eq (HandSHeadRun.getT_eq s)
theorem run (w : World) : HandSHeadRun.RunEq R (PySem.W.view R.prog [22]) hk ob 20000 loose w := by
  intro os
  kernel_rfl
end K28

set_option Elab.async false
set_option linter.all false
set_option maxRecDepth 100000
set_option maxHeartbeats 0
namespace K28
open PySem PySem.Spec PyProof.Rows L2 Own
theorem facts {P : Program} {w : World} {K : PySem.W.Frag} {h : Heap} {mg : Str → Option Value} {f : Addr} (X : K.In h) (G : h.Ns mainGlobals mg) (hfa : mg ("law" : Str) = some (.ref f)) (c : He.SaysD fa fn K) :
    ∃ fd : FuncData, (∀ (s : Shared) (v : Value), BindsTo s fd ⟨[v], []⟩ [("_law_script", v)]) ∧ ∀ base : Heap, K.In base → base.Ns mainGlobals mg → FnOk P w K mg base CX0 8 f fd ["_law_script"] (spLaw K) := by
  obtain ⟨fd0, F0⟩ : ∃ fd, FnP K "is_integer" "is_integer" sIsInt (He.ga K "is_integer") fd := c.def_ 0 (d := dd "is_integer" 6) rfl
  obtain ⟨fd1, F1⟩ : ∃ fd, FnP K "is_let" "is_let" sLet (He.ga K "is_let") fd := c.def_ 1 (d := dd "is_let" 8) rfl
  obtain ⟨fd2, F2⟩ : ∃ fd, FnP K "__init__" "Rule.__init__" sInit (He.ma K (He.ga K "Rule") "__init__") fd := c.def_ 2 (d := dInit) rfl
  obtain ⟨fd3, F3⟩ : ∃ fd, FnP K "is_kind" "is_kind" sIsKind (He.ga K "is_kind") fd := c.def_ 3 (d := dd "is_kind" 11) rfl
  obtain ⟨fd4, F4⟩ : ∃ fd, FnP K "checked_kinds" "checked_kinds" sChecked (He.ga K "checked_kinds") fd := c.def_ 4 (d := dd "checked_kinds" 12) rfl
  obtain ⟨fd5, F5⟩ : ∃ fd, FnP K "_law_pen_of" "_law_pen_of" sPenOf (He.ga K "_law_pen_of") fd := c.def_ 5 (d := dd "_law_pen_of" 14) rfl
  obtain ⟨fd6, F6⟩ : ∃ fd, FnP K "_law_draw" "_law_draw" sDraw (He.ga K "_law_draw") fd := c.def_ 6 (d := dd "_law_draw" 15) rfl
  obtain ⟨fd7, F7⟩ : ∃ fd, FnP K "_law_pick" "_law_pick" sPick (He.ga K "_law_pick") fd := c.def_ 7 (d := dd "_law_pick" 16) rfl
  obtain ⟨fd8, F8⟩ : ∃ fd, FnP K "_law_rule_made" "_law_rule_made" sMade (He.ga K "_law_rule_made") fd := c.def_ 8 (d := dd "_law_rule_made" 17) rfl
  obtain ⟨fd9, F9⟩ : ∃ fd, FnP K "_law_let" "_law_let" sLet2 (He.ga K "_law_let") fd := c.def_ 9 (d := dd "_law_let" 18) rfl
  obtain ⟨fd10, F10⟩ : ∃ fd, FnP K "_law_cells" "_law_cells" sCells (He.ga K "_law_cells") fd := c.def_ 10 (d := dd "_law_cells" 19) rfl
  obtain ⟨fd11, F11⟩ : ∃ fd, FnP K "_law_truth" "_law_truth" sTruth (He.ga K "_law_truth") fd := c.def_ 11 (d := dd "_law_truth" 20) rfl
  obtain ⟨fd12, F12⟩ : ∃ fd, FnP K "_law_side" "_law_side" sSide (He.ga K "_law_side") fd := c.def_ 12 (d := dd "_law_side" 21) rfl
  obtain ⟨fd13, F13⟩ : ∃ fd, FnP K "law" "law" sLaw (He.ga K "law") fd := c.def_ 13 (d := dd "law" 22) rfl
  have g0 := He.glo_ok X G (c.fact 0 (f := .glo "is_integer") rfl)
  have g1 := He.glo_ok X G (c.fact 1 (f := .glo "is_let") rfl)
  have g2 := He.glo_ok X G (c.fact 2 (f := .glo "Rule") rfl)
  have g3 := He.glo_ok X G (c.fact 3 (f := .glo "is_kind") rfl)
  have g4 := He.glo_ok X G (c.fact 4 (f := .glo "checked_kinds") rfl)
  have g5 := He.glo_ok X G (c.fact 5 (f := .glo "_law_pen_of") rfl)
  have g6 := He.glo_ok X G (c.fact 6 (f := .glo "_law_draw") rfl)
  have g7 := He.glo_ok X G (c.fact 7 (f := .glo "_law_pick") rfl)
  have g8 := He.glo_ok X G (c.fact 8 (f := .glo "_law_rule_made") rfl)
  have g9 := He.glo_ok X G (c.fact 9 (f := .glo "_law_let") rfl)
  have g10 := He.glo_ok X G (c.fact 10 (f := .glo "_law_cells") rfl)
  have g11 := He.glo_ok X G (c.fact 11 (f := .glo "_law_truth") rfl)
  have g12 := He.glo_ok X G (c.fact 12 (f := .glo "_law_side") rfl)
  have T : Tx mg := ⟨He.free_ok X G (c.fact 14 (f := .free "abs") rfl), He.free_ok X G (c.fact 15 (f := .free "any") rfl), He.free_ok X G (c.fact 16 (f := .free "bool") rfl), He.free_ok X G (c.fact 17 (f := .free "enumerate") rfl),
    He.free_ok X G (c.fact 18 (f := .free "int") rfl), He.free_ok X G (c.fact 19 (f := .free "isinstance") rfl), He.free_ok X G (c.fact 20 (f := .free "len") rfl), He.free_ok X G (c.fact 21 (f := .free "list") rfl),
    He.free_ok X G (c.fact 22 (f := .free "min") rfl), He.free_ok X G (c.fact 23 (f := .free "range") rfl), He.free_ok X G (c.fact 24 (f := .free "sorted") rfl), He.free_ok X G (c.fact 25 (f := .free "tuple") rfl)⟩
  have R : TxR K mg (He.ga K "Rule") (He.ma K (He.ga K "Rule") "__init__") := ⟨He.cls_ok (c.fact 26 (f := .cls "Rule") rfl), He.noat_ok (c.fact 27 (f := .noat "Rule" "root") rfl), He.noat_ok (c.fact 28 (f := .noat "Rule" "others") rfl), g2, He.mkr_ok (c.fact 29 (f := .mkr "Rule") rfl)⟩
  have e := hfa.symm.trans (He.glo_ok X G (c.fact 13 (f := .glo "law") rfl))
  cases e
  have b := FunD.bindsA (ps := ["_law_script"]) F13 fun _ _ _ _ _ _ us hl => match us, hl with | [_], _ => rfl
  refine ⟨fd13, fun s v => b s [v] rfl, fun base _ _ => ?_⟩
  have c0 : Cl P w K mg base 1 "is_integer" ["value"] spIsInt := cl_of F0 g0 (ok_isInt F0 T) fun _ _ _ _ _ _ us hl => match us, hl with | [_], _ => rfl
  have c3 : Cl P w K mg base 2 "is_kind" ["value"] spIsKind := cl_of F3 g3 (ok_isKind F3 T c0) fun _ _ _ _ _ _ us hl => match us, hl with | [_], _ => rfl
  have c4 : Cl P w K mg base 3 "checked_kinds" ["side", "kinds"] spChecked := cl_of F4 g4 (ok_checked F4 T c3) fun _ _ _ _ _ _ us hl => match us, hl with | [_, _], _ => rfl
  have o2 : FnOk P w K mg base CX0 4 (He.ma K (He.ga K "Rule") "__init__") fd2 ["self", "root", "others"] (spInit (He.ga K "Rule")) := ok_init F2 R c4
  have b2 : Binds K fd2 ["self", "root", "others"] [] := FunD.bindsN F2 fun _ _ _ _ _ _ us hl => match us, hl with | [_, _, _], _ => rfl
  have c5 : Cl P w K mg base 1 "_law_pen_of" ["_law_script"] (spPenOf K) := cl_of F5 g5 (ok_penOf F5 T) fun _ _ _ _ _ _ us hl => match us, hl with | [_], _ => rfl
  have c6 : Cl P w K mg base 1 "_law_draw" ["_law_pen", "_law_many"] spDraw := cl_of F6 g6 (ok_draw F6 T) fun _ _ _ _ _ _ us hl => match us, hl with | [_, _], _ => rfl
  have c7 : Cl P w K mg base 2 "_law_pick" ["_law_pen", "_law_menu"] spPick := cl_of F7 g7 (ok_pick F7 T c6) fun _ _ _ _ _ _ us hl => match us, hl with | [_, _], _ => rfl
  have c8 : Cl P w K mg base 6 "_law_rule_made" ["_law_rule"] (spMade (He.ga K "Rule")) := cl_of F8 g8 (ok_made F8 T R o2 b2) fun _ _ _ _ _ _ us hl => match us, hl with | [_], _ => rfl
  have c1 : Cl P w K mg base 1 "is_let" ["rule", "cell", "there", "root"] (spLet (He.ga K "Rule")) := cl_of F1 g1 (ok_let F1 T R) fun _ _ _ _ _ _ us hl => match us, hl with | [_, _, _, _], _ => rfl
  have c9 : Cl P w K mg base 1 "_law_let" ["_law_rule", "_law_cell", "_law_there", "_law_root"] spLet2 := cl_of F9 g9 (ok_let2 F9 T) fun _ _ _ _ _ _ us hl => match us, hl with | [_, _, _, _], _ => rfl
  have c10 : Cl P w K mg base 1 "_law_cells" ["_law_values"] spCells := cl_of F10 g10 (ok_cells F10 T) fun _ _ _ _ _ _ us hl => match us, hl with | [_], _ => rfl
  have c11 : Cl P w K mg base 1 "_law_truth" ["_law_found", "_law_due"] spTruth := cl_of F11 g11 (ok_truth F11 T) fun _ _ _ _ _ _ us hl => match us, hl with | [_, _], _ => rfl
  have c12 : Cl P w K mg base 3 "_law_side" ["_law_pen"] spSide := cl_of F12 g12 (ok_side F12 T c6 c7) fun _ _ _ _ _ _ us hl => match us, hl with | [_], _ => rfl
  exact ok_law F13 T c5 c6 c12 c8 c10 c1 c9 c11
end K28
open PySem PySem.W PySem.Calls PyProof.Rows
theorem PySem.Challenge.cw_treeshed_k28_cells_that_are_let_holds : PySem.Challenge.rw_treeshed_k28_cells_that_are_let.Holds := by
  w_on; o_law
  refine HandSHeadRun.head_any (r := OpenLaw.row PySem.Challenge.rw_treeshed_k28_cells_that_are_let) (q := view (OpenLaw.row PySem.Challenge.rw_treeshed_k28_cells_that_are_let).prog [22]) (H := K28.hk) (ob := K28.ob) (M := 20000) (loose := K28.loose) (d := HandSHeadRun.topDef (OpenLaw.row PySem.Challenge.rw_treeshed_k28_cells_that_are_let).prog 22) (kwd := []) K28.ob_eq
    (by kernel_rfl) (fun s => by kernel_rfl) K28.run (by kernel_rfl) (by kernel_rfl) (by kernel_rfl) (by rfl) (by first | assumption | decide +kernel) (by decide +kernel) ⟨rfl, rfl, rfl, rfl, rfl, by decide +kernel⟩ ?hw ?hc
  case hw => w_witness2
  case hc =>
    refine L2.walk_ofE (l := PySem.Challenge.rw_treeshed_k28_cells_that_are_let) (n := 63) (k := 8) (x := "_law_script") (CX := L2.CX0) rfl (by decide) (by kernel_rfl) ⟨rfl, by decide, by decide⟩ ?F (fun _ _ _ _ z => z)
    intro w mg fa h Y G hmg0
    obtain ⟨K, KX, c⟩ := Y
    have hmg : mg ("law" : PySem.Str) = some (.ref fa) := by
      have e : (HandSHeadRun.topDef (OpenLaw.row PySem.Challenge.rw_treeshed_k28_cells_that_are_let).prog 22).name = ("law" : PySem.Str) := by kernel_rfl
      rw [← e]
      exact hmg0
    obtain ⟨fd, hb, hF⟩ := K28.facts (P := (PySem.Challenge.rw_treeshed_k28_cells_that_are_let).prog) (w := w) KX G hmg c
    exact ⟨K, fd, K28.spLaw K, KX, hb, fun H a ns hl _ hS => ⟨a, ns, rfl, hS, hl, fun _ => rfl⟩, hF⟩
#print axioms PySem.Challenge.cw_treeshed_k28_cells_that_are_let_holds
