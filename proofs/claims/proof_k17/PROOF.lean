import PyProof.Rows.All
import Wide.All
import OpenK.AllK
import Wide.FinOn
import KE.KStateDown
import HandS.ForMost
import HandS.Defaults
import HandS.IsInst
import HandS.SortOrd
import HandS.TupLe
import HandS.Walk
import HandS.Codes
import HandS.TupAny
import HandS.Style
import PyProof.MaxThree
import KE.KRevIter
import KE.KDictList
import HandS.Rev
import KE.SortData
import HandS.Deep
import HandS.More
import HandS.Small
import HandS.SortRule
import HandS.NamedTupSort
import HandS.DictTup
import Lean
import HandS.WordsExc
import HandS.Head0
import HandS.Head1
import HandS.Head2
import HandS.HeadHook1
import HandS.HeadHook2
import HandS.HeadHook3
import HandS.HeadHook4
import HandS.HeadEnd
import Wide.Once
import PySem.Challenge.RW_treeshed_k17_rows_and_stories
set_option Elab.async false
set_option linter.all false
set_option maxRecDepth 100000
set_option maxHeartbeats 4000000
namespace K17
open PySem PySem.Spec PyProof.Rows L2
/-! ### the text -/
def top (i : Nat) : Stmt := PySem.Challenge.pw_treeshed_k17_rows_and_stories.main.body.getD i (.Pass ⟨0, 0, 0, 0⟩)
abbrev FnP (K : PySem.W.Frag) (x q : Str) (st : Stmt) (f : Addr) (fd : FuncData) : Prop := FunD K x q (defArgs st) (defBody st) (defScope st) [] [] f fd
/-! ### names of the built-ins that the top leaves alone -/
structure Tx (mg : Str → Option Value) : Prop where
  abs : mg "abs" = none
  all : mg "all" = none
  bool : mg "bool" = none
  dict : mg "dict" = none
  enumerate : mg "enumerate" = none
  int : mg "int" = none
  isinstance : mg "isinstance" = none
  len : mg "len" = none
  list : mg "list" = none
  min : mg "min" = none
  range : mg "range" = none
  reversed : mg "reversed" = none
  sorted : mg "sorted" = none
  str : mg "str" = none
  tuple : mg "tuple" = none
/-- a def that stands, with its promise, as its callers use it -/
structure Cl (P : Program) (w : World) (K : PySem.W.Frag) (mg : Str → Option Value) (base : Heap) (k : Nat) (x : Str) (ps : List Str) (sp : Sp) : Prop where
  ex : ∃ (f : Addr) (fd : FuncData), FnOk P w K mg base CX0 k f fd ps sp ∧ mg x = some (.ref f) ∧ PySem.W.keepIn K (.ref f) = true ∧ Binds K fd ps []
section
variable {P : Program} {w : World} {K : PySem.W.Frag} {mg : Str → Option Value} {base : Heap}
theorem cl_of {x q : Str} {st : Stmt} {f : Addr} {fd : FuncData} {k : Nat} {ps : List Str} {sp : Sp} (F : FnP K x q st f fd) (g : mg x = some (.ref f)) (ok : FnOk P w K mg base CX0 k f fd ps sp)
    (h : ∀ (kV doc pm : Value) (an : Option Addr) (cdv ct : Value) (us : List Value), us.length = ps.length → bindArgs (PySem.W.fnOf x q (defArgs st) (defBody st) (defScope st) .none kV doc pm an cdv ct) ⟨us, []⟩ = pure (ps.zip us)) :
    Cl P w K mg base k x ps sp := ⟨f, fd, ok, g, F.kp, F.bindsN h⟩
theorem Cl.mono {x : Str} {j k : Nat} {ps : List Str} {sp : Sp} (c : Cl P w K mg base j x ps sp) (h : j ≤ k) : Cl P w K mg base k x ps sp := by
  obtain ⟨f, fd, ok, g, kp, b⟩ := c.ex
  exact ⟨f, fd, ok.mono h, g, kp, b⟩
end
/-! ### heaps -/
theorem same_new {H : Hp} {p : Addr} {o : HO} (h : H p = none) : Same H (upd H p o) := fun b o' e => by
  rw [upd_ne (ne_of_none e h)]
  exact e
/-- all but p is as it was -/
def But (p : Addr) (H H' : Hp) : Prop := ∀ b o, H b = some o → b ≠ p → H' b = some o
theorem But.refl (p : Addr) (H : Hp) : But p H H := fun _ _ h _ => h
theorem But.trans {p : Addr} {H H1 H2 : Hp} (a : But p H H1) (b : But p H1 H2) : But p H H2 := fun c o h n => b c o (a c o h n) n
theorem Same.but {H H1 : Hp} (a : Same H H1) (p : Addr) : But p H H1 := fun c o h _ => a c o h
theorem but_upd (p : Addr) (H : Hp) (o : HO) : But p H (upd H p o) := fun c o' h n => by
  rw [upd_ne n]
  exact h
/-! ### the pen -/
abbrev kC : Key := Sum.inr ("cells" : Str)
abbrev kB : Key := Sum.inr ("begun" : Str)
abbrev kL : Key := Sum.inr ("left" : Str)
def penL (l : Addr) (b z : Int) : List (Key × V) := [(kC, .ref l), (kB, .int b), (kL, .int z)]
theorem s1 : ¬ (("cells" : Str) = "begun") := by decide +kernel
theorem s2 : ¬ (("cells" : Str) = "left") := by decide +kernel
theorem s3 : ¬ (("begun" : Str) = "left") := by decide +kernel
theorem s4 : ¬ (("left" : Str) = "begun") := by decide +kernel
theorem ne1 : ¬ (kC = kB) := by decide +kernel
theorem ne2 : ¬ (kC = kL) := by decide +kernel
theorem ne3 : ¬ (kB = kL) := by decide +kernel
theorem pen_c (l : Addr) (b z : Int) : valV (penL l b z) kC = some (.ref l) := valV_pos rfl
theorem pen_b (l : Addr) (b z : Int) : valV (penL l b z) kB = some (.int b) := by
  unfold penL
  rw [valV_neg ne1, valV_pos rfl]
theorem pen_l (l : Addr) (b z : Int) : valV (penL l b z) kL = some (.int z) := by
  unfold penL
  rw [valV_neg ne2, valV_neg ne3, valV_pos rfl]
theorem pen_pb (l : Addr) (b z y : Int) : putK (penL l b z) kB (.int y) = penL l y z := by
  simp [penL, putK, s1, s4]
theorem pen_pl (l : Addr) (b z y : Int) : putK (penL l b z) kL (.int y) = penL l b y := by
  simp [penL, putK, s2, s3]
structure Pen (H : Hp) (p l : Addr) (ns : List Int) (b z : Int) : Prop where
  d : H p = some (.dK (penL l b z))
  l : H l = some (.lst (ns.map V.int))
  b0 : 0 ≤ b
  z0 : 0 ≤ z
  n : ns.length ≤ 63
theorem Pen.ne {H : Hp} {p l : Addr} {ns : List Int} {b z : Int} (h : Pen H p l ns b z) : p ≠ l := ne_of h.d h.l (by intro e; cases e)
theorem Pen.same {H H' : Hp} {p l : Addr} {ns : List Int} {b z : Int} (h : Pen H p l ns b z) (s : Same H H') : Pen H' p l ns b z := ⟨s _ _ h.d, s _ _ h.l, h.b0, h.z0, h.n⟩
theorem Pen.put {H : Hp} {p l : Addr} {ns : List Int} {b z b' z' : Int} (h : Pen H p l ns b z) (hb : 0 ≤ b') (hz : 0 ≤ z') : Pen (upd H p (.dK (penL l b' z'))) p l ns b' z' :=
  ⟨upd_same, by rw [upd_ne h.ne.symm]; exact h.l, hb, hz, h.n⟩
theorem Pen.gc {H : Hp} {p l : Addr} {ns : List Int} {b z : Int} (h : Pen H p l ns b z) : DGet H p (.str "cells") (some (.ref l)) := by
  have e := DGet.k (k := kC) h.d
  rw [pen_c] at e
  exact e
theorem Pen.gb {H : Hp} {p l : Addr} {ns : List Int} {b z : Int} (h : Pen H p l ns b z) : DGet H p (.str "begun") (some (.int b)) := by
  have e := DGet.k (k := kB) h.d
  rw [pen_b] at e
  exact e
theorem Pen.gl {H : Hp} {p l : Addr} {ns : List Int} {b z : Int} (h : Pen H p l ns b z) : DGet H p (.str "left") (some (.int z)) := by
  have e := DGet.k (k := kL) h.d
  rw [pen_l] at e
  exact e
theorem Pen.pb {H : Hp} {p l : Addr} {ns : List Int} {b z : Int} (h : Pen H p l ns b z) (y : Int) : DPut H p (.str "begun") (.int y) (upd H p (.dK (penL l y z))) := by
  have e := DPut.k (k := kB) (v := .int y) h.d (by show 3 < sizeLine; decide)
  rw [pen_pb] at e
  exact e
theorem Pen.pl {H : Hp} {p l : Addr} {ns : List Int} {b z : Int} (h : Pen H p l ns b z) (y : Int) : DPut H p (.str "left") (.int y) (upd H p (.dK (penL l b y))) := by
  have e := DPut.k (k := kL) (v := .int y) h.d (by show 3 < sizeLine; decide)
  rw [pen_pl] at e
  exact e
theorem at_mod (ns : List Int) {b : Int} (hb : 0 ≤ b) (h : 0 < ns.length) : ∃ t, atI (ns.map V.int) (b % ((ns.map V.int).length : Int)) = some (V.int t) := by
  rw [List.length_map]
  have h1 : 0 ≤ b % (ns.length : Int) := Int.emod_nonneg _ (by omega)
  have h2 : b % (ns.length : Int) < ns.length := Int.emod_lt_of_pos _ (by omega)
  obtain ⟨j, hj⟩ := Int.eq_ofNat_of_zero_le h1
  rw [hj]
  have hl : j < ns.length := by omega
  exact ⟨ns[j], atI_nat (by rw [List.getElem?_map, List.getElem?_eq_getElem hl]; rfl)⟩
/-! ### promises of the law's draws -/
def spPenOf (K : PySem.W.Frag) : Sp := fun vs H Q _ => ∃ (a : Addr) (ns : List Int), vs = [.ref a] ∧ SqL K H a (ns.map V.int) ∧ ns.length ≤ 63 ∧ ∀ (p l : Addr) (H' : Hp), Same H H' → Pen H' p l ns 0 0 → Q (.ref p) H'
def spDraw : Sp := fun vs H Q _ => ∃ (p l : Addr) (ns : List Int) (b z m : Int), vs = [.ref p, .int m] ∧ 1 ≤ m ∧ m < 1000000 ∧ Pen H p l ns b z ∧ b < 1000000 ∧
  ∀ (d b' z' : Int) (H' : Hp), 0 ≤ d → d < m → b' ≤ b + 1 → Pen H' p l ns b' z' → But p H H' → Q (.int d) H'
def spPick : Sp := fun vs H Q _ => ∃ (p l : Addr) (ns : List Int) (b z : Int) (a : Addr) (xs : List V), vs = [.ref p, .ref a] ∧ Pen H p l ns b z ∧ b < 1000000 ∧ H a = some (.lst xs) ∧ xs ≠ [] ∧ xs.length ≤ 1000 ∧ a ≠ p ∧
  ∀ (x : V) (b' z' : Int) (H' : Hp), x ∈ xs → b' ≤ b + 1 → Pen H' p l ns b' z' → But p H H' → Q x H'
section
variable {P : Program} {w : World} {K : PySem.W.Frag} {mg : Str → Option Value} {base : Heap}
abbrev sPenOf : Stmt := top 67
abbrev sDraw : Stmt := top 68
abbrev sPick : Stmt := top 69
theorem scPenOf : FnScope ["_law_script"] ["_law_script"] (defScope sPenOf) := ⟨rfl, rfl, rfl, by decide +kernel, rfl, by decide +kernel, by decide +kernel⟩
theorem scDraw : FnScope ["_law_pen", "_law_many", "_law_digit", "_law_place", "_law_size", "_law_told", "_law_blend"] ["_law_pen", "_law_many"] (defScope sDraw) := ⟨rfl, rfl, rfl, by decide +kernel, rfl, by decide +kernel, by decide +kernel⟩
theorem scPick : FnScope ["_law_pen", "_law_menu"] ["_law_pen", "_law_menu"] (defScope sPick) := ⟨rfl, rfl, rfl, by decide +kernel, rfl, by decide +kernel, by decide +kernel⟩
theorem ok_penOf {f : Addr} {fd : FuncData} (F : FnP K "_law_pen_of" "_law_pen_of" sPenOf f fd) (T : Tx mg) : FnOk P w K mg base CX0 1 f fd ["_law_script"] (spPenOf K) := by
  refine F.ok scPenOf (fun vs H Q E h => ?_) (fun cdv A outer s H vs Q E hr h => ?_)
  · obtain ⟨a, ns, rfl, _⟩ := h
    rfl
  · obtain ⟨a, ns, rfl, hS, hl, k⟩ := h
    refine ⟨_, PSs.nox (pss_one (ps_ret (pe_disp
      (pps_cons pe_str (pe_callTy call_list_of (by rfl) T.list (by decide +kernel) (pa_cons (pe_slice sl_list (pv 0) po_none (po_some pe_int)) pa_nil))
        (pps_cons pe_str pe_int (pps_cons pe_str pe_int pps_nil))) (by rfl) (by rfl) (fun z => by cases z) (by decide)))), ?_⟩
    intro p hp
    have s0 : Same H (upd H p (.dK [])) := same_new hp
    -- the slice, then the list
    refine ⟨_, rfl, _, rfl, a, _, rfl, s0.seq hS, fun q hq => ?_⟩
    have np : p ≠ q := ne_of_none upd_same hq
    have hcut : cutV (ns.map V.int) none (some 63) = ns.map V.int := by
      show ((ns.map V.int).drop (HT.sIx (ns.map V.int).length 0 none)).take (HT.sIx (ns.map V.int).length (ns.map V.int).length (some ((63 : Nat) : Int)) - HT.sIx (ns.map V.int).length 0 none) = _
      rw [HT.sIx_none, HT.sIx_nat, List.drop_zero, List.take_of_length_le]
      rw [List.length_map]
      omega
    refine ⟨q, _, rfl, Or.inl (SqL.of upd_same), fun r hr' => ?_⟩
    have nq : p ≠ r := ne_of_none (by rw [upd_ne np]; exact upd_same) hr'
    refine ⟨by rw [upd_ne nq, upd_ne np]; exact upd_same, penL r 0 0, rfl, (by show 3 ≤ 15; decide), ?_⟩
    rw [hcut]
    have s1 : Same H (upd (upd (upd H p (.dK [])) q (.lst (ns.map V.int))) r (.lst (ns.map V.int))) := (s0.trans (same_new hq)).trans (same_new (by rw [← hcut]; exact hr'))
    refine k p r _ (fun b o e => ?_) ⟨upd_same, by rw [upd_ne nq.symm]; exact upd_same, by decide, by decide, hl⟩
    rw [upd_ne (ne_of_none e hp)]
    exact s1 b o e
theorem ok_draw {f : Addr} {fd : FuncData} (F : FnP K "_law_draw" "_law_draw" sDraw f fd) (T : Tx mg) : FnOk P w K mg base CX0 1 f fd ["_law_pen", "_law_many"] spDraw := by
  refine F.ok scDraw (fun vs H Q E h => ?_) (fun cdv A outer s H vs Q E hr h => ?_)
  · obtain ⟨p, l, ns, b, z, m, rfl, _⟩ := h
    rfl
  · obtain ⟨p, l, ns, b, z, m, rfl, m1, m2, hp, hb, k⟩ := h
    have hu := hu_of hr
    refine ⟨_, PSs.nox (pss_cons (ps_if (pt_cmpR op_gt (pe_dget hu (pv 0) pe_str (fun _ _ => rfl)) pe_int (nomark _))
        (pss_cons (ps_set (i := 2) scDraw.nd rfl (Or.inl rfl) (pe_op op_mod (pe_callTy call_int1 (by rfl) T.int (by decide +kernel) (pa_cons (pe_dget hu (pv 0) pe_str (fun _ _ => rfl)) pa_nil)) (pv 1)))
        (pss_cons (ps_dput hu (pv 0) pe_str (pe_op op_fdiv (pe_dget hu (pv 0) pe_str (fun _ _ => rfl)) (pv 1)) rfl)
        (pss_one (ps_ret (pv 2))))) pss_nil)
      (pss_cons (ps_par (i := 3) (j := 4) (by rfl) scDraw.nd rfl rfl (by decide) rfl rfl (pa_cons (pe_dget hu (pv 0) pe_str (fun _ _ => rfl)) (pa_cons (pe_callB call_len_seq (by rfl) T.len PySem.boot_len (pa_cons (pe_dget hu (pv 0) pe_str (fun _ _ => rfl)) pa_nil)) pa_nil)) (by rfl))
      (pss_cons (ps_dput hu (pv 0) pe_str (pe_op op_add (pv 3) pe_int) rfl)
      (C8.pss_cut (ps_set (i := 5) scDraw.nd rfl (Or.inl rfl) (pe_ifExp (pt_cmpR op_gt (pv 4) pe_int (nomark _))
        (pe_ix ix_list (pe_dget hu (pv 0) pe_str (fun _ _ => rfl)) (pe_op op_mod (pe_callTy call_int1 (by rfl) T.int (by decide +kernel) (pa_cons (pv 3) pa_nil)) (pv 4)) (fun _ _ => rfl))
        (pe_op op_add (pe_op op_mul pe_int (pv 3)) pe_int)))
      (C8.pss_cut (ps_if (PW.pt (pw_and (pt_cmpR op_lt (pv 3) (pv 4) (nomark _)) (pw_and1 (pt_cmpR op_ge (pe_callB call_abs (by rfl) T.abs (by decide +kernel) (pa_cons (pv 5) pa_nil)) (pe_op op_pow pe_int pe_int) (nomark _)))))
        (pss_cons (ps_dput hu (pv 0) pe_str (pe_op op_fdiv (pe_op op_sub (pe_callB call_abs (by rfl) T.abs (by decide +kernel) (pa_cons (pv 5) pa_nil)) (pe_op op_pow pe_int pe_int)) (pv 1)) rfl)
        (pss_one (ps_ret (pe_op op_mod (pe_callTy call_int1 (by rfl) T.int (by decide +kernel) (pa_cons (pe_op op_sub (pe_callB call_abs (by rfl) T.abs (by decide +kernel) (pa_cons (pv 5) pa_nil)) (pe_op op_pow pe_int pe_int)) pa_nil)) (pv 1))))) pss_nil)
      (pss_cons (ps_set (i := 6) scDraw.nd rfl (Or.inl rfl) (pe_op op_mod (pe_callTy call_int1 (by rfl) T.int (by decide +kernel) (pa_cons
          (pe_op op_add (pe_op op_add (pe_op op_mul (pe_op op_mod (pe_callTy call_int1 (by rfl) T.int (by decide +kernel) (pa_cons (pv 5) pa_nil)) pe_int) pe_int) (pe_op op_mul (pe_op op_mul pe_int (pv 3)) (pv 3))) pe_int) pa_nil)) pe_int))
      (pss_cons (ps_set (i := 6) scDraw.nd rfl (Or.inl rfl) (pe_op op_mod (pe_callTy call_int1 (by rfl) T.int (by decide +kernel) (pa_cons
          (pe_op op_add (pe_op op_add (pe_op op_add (pe_op op_mul (pv 6) (pv 6)) (pe_op op_mul pe_int (pv 6))) (pe_op op_mul pe_int (pv 3))) pe_int) pa_nil)) pe_int))
      (pss_one (ps_ret (pe_op op_mod (pe_callTy call_int1 (by rfl) T.int (by decide +kernel) (pa_cons
          (pe_op op_fdiv (pe_op op_mod (pe_callTy call_int1 (by rfl) T.int (by decide +kernel) (pa_cons (pe_op op_mul (pv 6) (pe_op op_add (pv 6) pe_int)) pa_nil)) pe_int) pe_int) pa_nil)) (pv 1))))))))))), ?_⟩
    refine ⟨_, rfl, p, _, rfl, hp.gl, _, _, rfl, rfl, _, rfl, ?_⟩
    refine ite2 (fun c => ?_) (fun c => ?_)
    · -- digits are left
      refine ⟨_, rfl, p, _, rfl, hp.gl, Or.inl ⟨_, rfl, ?_⟩⟩
      refine ⟨_, rfl, _, _, rfl, rfl, (by omega), ?_⟩
      refine ⟨_, rfl, p, _, rfl, hp.gl, _, rfl, _, _, rfl, rfl, ⟨by omega, by omega⟩, _, rfl, p, _, rfl, hp.pl _, ?_⟩
      refine ⟨_, rfl, ?_⟩
      have z1 : 0 < z := of_decide_eq_true c
      exact k _ b (z / m) _ (Int.emod_nonneg _ (by omega)) (Int.emod_lt_of_pos _ (by omega)) (by omega) (hp.put hp.b0 (Int.ediv_nonneg (by omega) (by omega))) (but_upd _ _ _)
    · -- a cell
      have hb0 := hp.b0
      refine ⟨_, rfl, p, _, rfl, hp.gb, _, rfl, p, _, rfl, hp.gc, l, _, rfl, Or.inl (SqL.of hp.l), ?_⟩
      refine ⟨_, _, rfl, ?_⟩
      refine ⟨_, rfl, _, _, rfl, rfl, _, rfl, p, _, rfl, hp.pb _, ?_⟩
      have P2 : Pen (upd H p (.dK (penL l (b + 1) z))) p l ns (b + 1) z := hp.put (by omega) hp.z0
      have B2 : But p H (upd H p (.dK (penL l (b + 1) z))) := but_upd _ _ _
      generalize upd H p (.dK (penL l (b + 1) z)) = H2 at P2 B2 ⊢
      refine ⟨fun σ H' => H2 = H' ∧ ∃ t : Int, σ = [some (.ref p), some (.int m), none, some (.int b), some (.int (ns.map V.int).length), some (.int t), none], ?_, ?_⟩
      · refine ⟨_, rfl, _, _, rfl, rfl, _, rfl, ?_⟩
        refine ite2 (fun c2 => ?_) (fun c2 => ?_)
        · have c3 := of_decide_eq_true c2
          obtain ⟨t, ht⟩ := at_mod ns hb0 (by simpa using c3)
          refine ⟨_, rfl, p, _, rfl, P2.gc, _, rfl, Or.inl ⟨_, rfl, ?_⟩⟩
          refine ⟨_, rfl, _, _, rfl, rfl, c3, l, _, _, _, rfl, rfl, SqL.of P2.l, ht, ?_⟩
          exact ⟨rfl, t, rfl⟩
        · refine ⟨_, rfl, _, _, rfl, rfl, Or.inl ⟨by decide, by decide⟩, _, _, rfl, rfl, ?_⟩
          exact ⟨rfl, _, rfl⟩
      · rintro σ' H' ⟨rfl, t, rfl⟩
        refine ⟨fun σ H' => H2 = H' ∧ σ = [some (.ref p), some (.int m), none, some (.int b), some (.int (ns.map V.int).length), some (.int t), none], ?_, ?_⟩
        · refine ⟨_, rfl, _, rfl, _, _, rfl, rfl, _, rfl, ?_⟩
          refine ite2 (fun c2 => ?_) (fun c2 => ?_)
          · refine ⟨_, rfl, _, rfl, _, _, rfl, rfl, ⟨by decide, by decide, by decide⟩, _, _, rfl, rfl, _, rfl, ?_⟩
            refine ite2 (fun c3 => ?_) (fun c3 => ?_)
            · have c4 := of_decide_eq_true c3
              refine ⟨_, rfl, _, rfl, _, _, rfl, rfl, ⟨by decide, by decide, by decide⟩, _, _, rfl, rfl, _, rfl, _, _, rfl, rfl, ⟨by omega, by omega⟩, _, rfl, p, _, rfl, P2.pl _, ?_⟩
              refine ⟨_, rfl, _, rfl, _, _, rfl, rfl, ⟨by decide, by decide, by decide⟩, _, _, rfl, rfl, Or.inl ⟨_, rfl, ?_⟩⟩
              refine ⟨_, rfl, _, _, rfl, rfl, (by omega), ?_⟩
              exact k _ (b + 1) _ _ (Int.emod_nonneg _ (by omega)) (Int.emod_lt_of_pos _ (by omega)) (by omega) (P2.put P2.b0 (Int.ediv_nonneg (Int.sub_nonneg.mpr c4) (by omega))) (B2.trans (but_upd _ _ _))
            · exact ⟨rfl, rfl⟩
          · exact ⟨rfl, rfl⟩
        · rintro σ' H' ⟨rfl, rfl⟩
          refine ⟨_, rfl, Or.inl ⟨_, rfl, ?_⟩⟩
          refine ⟨_, _, rfl, rfl, (by show (0 : Int) < _; decide), _, _, rfl, rfl, Or.inl ⟨by omega, by omega⟩, ?_⟩
          refine ⟨_, rfl, _, _, rfl, rfl, Or.inl ⟨by decide, by decide⟩, _, rfl, _, _, rfl, rfl, Or.inl ⟨by omega, by omega⟩, _, _, rfl, rfl, _, _, rfl, rfl, Or.inl ⟨_, rfl, ?_⟩⟩
          refine ⟨_, _, rfl, rfl, (by show (0 : Int) < _; decide), ?_⟩
          refine ⟨_, rfl, _, rfl, _, _, rfl, rfl, Or.inl ⟨by omega, by omega⟩, _, rfl, _, _, rfl, rfl, Or.inl ⟨by decide, by decide⟩, _, _, rfl, rfl, _, rfl, _, _, rfl, rfl, Or.inl ⟨by decide, by decide⟩, _, _, rfl, rfl, _, _, rfl, rfl, Or.inl ⟨_, rfl, ?_⟩⟩
          refine ⟨_, _, rfl, rfl, (by show (0 : Int) < _; decide), ?_⟩
          refine ⟨_, rfl, _, rfl, _, _, rfl, rfl, _, _, rfl, rfl, Or.inl ⟨by omega, by omega⟩, Or.inl ⟨_, rfl, ?_⟩⟩
          refine ⟨_, _, rfl, rfl, (by show (0 : Int) < _; decide), _, _, rfl, rfl, ⟨by decide, by decide⟩, Or.inl ⟨_, rfl, ?_⟩⟩
          refine ⟨_, rfl, _, _, rfl, rfl, (by omega), ?_⟩
          exact k _ (b + 1) _ _ (Int.emod_nonneg _ (by omega)) (Int.emod_lt_of_pos _ (by omega)) (by omega) P2 B2
theorem ok_pick {f : Addr} {fd : FuncData} (F : FnP K "_law_pick" "_law_pick" sPick f fd) (T : Tx mg) (cD : Cl P w K mg base 1 "_law_draw" ["_law_pen", "_law_many"] spDraw) : FnOk P w K mg base CX0 2 f fd ["_law_pen", "_law_menu"] spPick := by
  obtain ⟨fD, fdD, GD, mD, kD, bD⟩ := cD.ex
  refine F.ok scPick (fun vs H Q E h => ?_) (fun cdv A outer s H vs Q E hr h => ?_)
  · obtain ⟨p, l, ns, b, z, a, xs, rfl, _⟩ := h
    rfl
  · obtain ⟨p, l, ns, b, z, a, xs, rfl, hp, hb, ha, hx, hl, hn, k⟩ := h
    refine ⟨_, PSs.nox (pss_one (ps_ret (pe_ix ix_list (pv 1) (pe_call GD hr (by rfl) mD kD bD .nil pass0 (pa_cons (pv 0) (pa_cons (pe_callB call_len_seq (by rfl) T.len PySem.boot_len (pa_cons (pv 1) pa_nil)) pa_nil))) (fun _ _ => rfl)))), ?_⟩
    have h1 : 1 ≤ xs.length := List.length_pos_iff.mpr hx
    refine ⟨_, rfl, _, rfl, _, rfl, a, xs, rfl, Or.inl (SqL.of ha), p, l, ns, b, z, _, rfl, (by omega), (by omega), hp, hb, fun d b' z' H' d0 d1 hb' hp' hB => ?_⟩
    obtain ⟨j, rfl⟩ := Int.eq_ofNat_of_zero_le d0
    have hj : j < xs.length := by omega
    refine ⟨a, xs, _, _, rfl, rfl, SqL.of (hB _ _ ha hn), atI_nat (List.getElem?_eq_getElem hj), ?_⟩
    exact k _ _ _ _ (List.getElem_mem hj) hb' hp' hB
end
end K17

set_option Elab.async false
set_option linter.all false
set_option maxRecDepth 100000
set_option maxHeartbeats 4000000
/-! ### rules of my own over the layer: x in t of data, sorted of data of any form -/
namespace Own
open PySem PySem.Spec PyProof.Rows L2
section
variable {X : Cx}
/-- x in c, x not in c: c a list or a tuple of data, x a datum; neg: not in -/
def rInA (K : PySem.W.Frag) (neg : Bool) : R2 := fun x y H Q => ∃ d ds, Dp K H x d ∧ (Dp K H y (.list ds) ∨ Dp K H y (.tuple ds)) ∧ PyData.canLay0 d = true ∧ PyData.canLayAll0 ds = true ∧ d.depth ≤ 60 ∧
  Q (.bl (if neg = true then !ds.any fun z => PyData.eqv z d else ds.any fun z => PyData.eqv z d)) H
theorem room_in {A : Around} {ds : List PyData} {d : PyData} (hd : d.depth ≤ 60) (hu : A.units + 64 < cLine) : A.units + 1 + min (PyData.depthAll ds) d.depth < cLine := by
  have h := Nat.min_le_right (PyData.depthAll ds) d.depth
  omega
theorem op_inA (hu : X.A.units + 64 < cLine) : OpR X (compareOp .In) (rInA X.K false) := by
  intro pins s σ H x y v u Q I rx ry h
  obtain ⟨d, ds, hd, he, sd, se, hl, q⟩ := h
  obtain ⟨as, r1⟩ := Dp.reads I d x v hd rx
  rcases he with he | he
  · obtain ⟨bs, r2⟩ := Dp.reads I (.list ds) y u he ry
    exact SeqAt.in_list_reads r2 r1 se sd (room_in hl hu) ⟨.bl _, H, I, rfl, q⟩
  · obtain ⟨bs, r2⟩ := Dp.reads I (.tuple ds) y u he ry
    exact SeqAt.in_tuple_reads r2 r1 se sd (room_in hl hu) ⟨.bl _, H, I, rfl, q⟩
theorem op_notInA (hu : X.A.units + 64 < cLine) : OpR X (compareOp .NotIn) (rInA X.K true) := by
  intro pins s σ H x y v u Q I rx ry h
  obtain ⟨d, ds, hd, he, sd, se, hl, q⟩ := h
  obtain ⟨as, r1⟩ := Dp.reads I d x v hd rx
  rcases he with he | he
  · obtain ⟨bs, r2⟩ := Dp.reads I (.list ds) y u he ry
    exact SeqAt.notIn_list_reads r2 r1 se sd (room_in hl hu) ⟨.bl _, H, I, rfl, q⟩
  · obtain ⟨bs, r2⟩ := Dp.reads I (.tuple ds) y u he ry
    exact SeqAt.notIn_tuple_reads r2 r1 se sd (room_in hl hu) ⟨.bl _, H, I, rfl, q⟩
/-! sorted -/
theorem each_of_vals : ∀ {bs : List (V × PyData)} {us : List Value}, Vals (bs.map (·.1)) us → PySem.W.EachIs (fun u b => RelV b.1 u) us bs
  | [], [], _ => .nil
  | b :: bs, u :: us, .cons r t => .cons r (each_of_vals t)
theorem vals_of_each : ∀ {bs : List (V × PyData)} {us : List Value}, PySem.W.EachIs (fun u b => RelV b.1 u) us bs → Vals (bs.map (·.1)) us
  | [], [], _ => .nil
  | b :: bs, u :: us, .cons r t => .cons r (vals_of_each t)
theorem each_reads {pins : List (Addr × Obj)} {σ : L2.St} {H : Hp} {s : Shared} (I : Inv X pins σ H s) : ∀ {bs : List (V × PyData)} {us : List Value}, (∀ b ∈ bs, Dp X.K H b.1 b.2) → PySem.W.EachIs (fun u b => RelV b.1 u) us bs →
    PySem.W.EachIs (fun u b => ∃ as, Reads s.heap u b.2 as) us bs
  | [], [], _, _ => .nil
  | b :: bs, u :: us, h, .cons r t => .cons (Dp.reads I b.2 b.1 u (h b (List.mem_cons_self ..)) r) (each_reads I (fun c hc => h c (List.mem_cons_of_mem _ hc)) t)
/-- sorted(xs) of data of one form -/
def rSortD (K : PySem.W.Frag) : List V → Hp → VK → Prop := fun vs H Q => ∃ (a : Addr) (bs : List (V × PyData)), vs = [V.ref a] ∧ SqL K H a (bs.map (·.1)) ∧ (∀ b ∈ bs, Dp K H b.1 b.2) ∧ PySem.W.AllAlike (bs.map (·.2)) ∧ PySem.W.Sortable (bs.map (·.2)) ∧ (∀ b ∈ bs, b.2.depth ≤ 60) ∧
  ∀ p, H p = none → Q (.ref p) (upd H p (.lst ((bs.mergeSort (PySem.W.dataLe false (·.2))).map (·.1))))
theorem cr_sortD (hu : X.A.units + 64 < cLine) : CallR X (.builtin "sorted") (rSortD X.K) := by
  intro pins s σ H vs us Q I r h
  obtain ⟨a, bs, rfl, hs, hd, hal, hk, hde, q⟩ := h
  obtain ⟨its, rv, hl, hz⟩ := I.list hs
  rw [Vals.ref1 r]
  have hl1 := rv.length
  rw [List.length_map] at hl1
  have e1 := each_of_vals rv
  have hzb : bs.length ≤ sizeLine := by rw [List.length_map] at hz; exact hz
  refine PySem.W.sorted_data (enc := fun b : V × PyData => b.2) hl.isList e1 (each_reads I hd e1) hal hk hzb (fun b hb => ?_) fun out h1 h2 => ?_
  · have := hde b hb
    omega
  · obtain ⟨ep, he'⟩ := PyProof.Rows.sortedAll_at s.heap its out.toArray
    have hlen : ((bs.mergeSort (PySem.W.dataLe false (·.2))).map (·.1)).length ≤ sizeLine := by rw [List.length_map, List.length_mergeSort]; exact hzb
    exact ⟨.ref _, upd H (s.heap.objs.size + 1) (.lst _), I.laid (t' := s.toks) (fun _ _ => PyProof.Rows.sortedAll_old) (Nat.le_succ _) ⟨hlen, out, ep, vals_of_each h2, he'⟩, rfl, q _ (I.hok.fresh (Nat.le_succ _))⟩
end
end Own

set_option Elab.async false
set_option linter.all false
set_option maxRecDepth 100000
set_option maxHeartbeats 4000000
/-! ### list(reversed(l)), l a list -/
namespace OwnR
open PySem PySem.Spec PyProof.Rows
theorem noLen : typeLookup (.type "list_reverseiterator") "__len__" = pure none := by rw [typeLookup_type, builtinLookup_eq_fast]; kernel_rfl
theorem itsHint : typeLookup (.type "list_reverseiterator") "__length_hint__" = pure (some (.builtin "list_reverseiterator.__length_hint__")) := by rw [typeLookup_type, builtinLookup_eq_fast]; kernel_rfl
section
variable {prog : Program} {w : World} {A : Around} {E : Value → Shared → Prop} {s : Shared} {r l : Addr} {items : Array Value}
theorem hintOf {G : Bool → Shared → Prop} (isR : s.TypeIs (.ref r) "list_reverseiterator") (g : G false s) : wpAny (model prog w) A (Builtin.List.listLengthHint (.ref r)) G E s := by
  unfold Builtin.List.listLengthHint
  refine wpAny_bind (wpAny_specialOf isR noLen ?_)
  show wpAny _ _ (specialOf (Value.ref r) (Str.ofString "__length_hint__") >>= _) _ _ _
  refine wpAny_bind (wpAny_specialOf isR itsHint ?_)
  generalize hq : ("list_reverseiterator.__length_hint__" : String) = q0
  wp_delta
  rw [show splitId q0 = some ("list_reverseiterator", "__length_hint__") from by subst hq; decide +kernel]
  subst hq
  refine wpAny_bind (wpAny_isInstance (T := "list_reverseiterator") (b := true) isR (by rw [isSubtype_type]; kernel_rfl) ?_)
  refine wpAny_ite_split (fun z => absurd z (by decide)) (fun _ => ?_)
  refine wpAny_ite_split (fun _ => ?_) (fun z => absurd (by decide +kernel) z)
  refine wpAny_ite_split (fun z => absurd z (by decide +kernel)) (fun _ => ?_)
  exact wpAny_pure g
/-- what list.__init__ does with such an iterator: S, new and empty, gets the items from behind -/
theorem fillOf {R : Result → Shared → Prop} (noH : A.handled = none) (isR : s.heap.IsRevIter r l ((items.size : Int) - 1)) (isL : s.heap.IsList l items) (lr : l ≠ r) (S : Addr) (Sr : S ≠ r) (Sl : S ≠ l) (few : items.size ≤ sizeLine)
    (isS : s.heap.get? S = some { cls := .type "list", data := .seq #[] })
    (fin : ∀ h2 t2 got c2, (∀ b o, b ≠ S → b ≠ r → s.heap.get? b = some o → h2.get? b = some o) → h2.get? S = some { cls := .type "list", dict := none, data := .seq got c2, slots := #[] } → ItemsOf (fun i v => items[items.size - 1 - i]? = some v) got items.size →
      R (.ok (.ret .none)) { s with heap := h2, toks := t2 }) :
    wpAny (model prog w) A.in1 (Builtin.«list.__init__» ⟨[.ref S, .ref r], []⟩)
      (fun f s2 => match f with | .done g => R (.ok g) s2 | .again c => c.quiet = true ∧ codeAny (model prog w) A c R s2) (fun e s2 => R (.error e) s2) s := by
  show wpAny _ A.in1 (do let old ← Builtin.List.listItems (.ref S); Builtin.List.listUpdate (.ref S) (fun _ => #[]); letGo old.toList.reverse; Builtin.List.listExtendWith (.ref S) (.ref r) .none) _ _ s
  refine wpAny_bind ?_
  unfold Builtin.List.listItems
  refine wpAny_bind (wpAny_seqItems isS rfl (wpAny_pure ?_))
  show wpAny _ A.in1 (updateSeq S (fun _ => #[]) >>= fun _ => letGo (#[] : Array Value).toList.reverse >>= fun _ => Builtin.List.listExtendWith (.ref S) (.ref r) .none) _ _ s
  refine wpAny_bind (wpAny_updateSeq isS rfl ?_)
  have isS1 := Heap.get?_update_self (Obj.mapSeq (fun _ => (#[] : Array Value))) isS rfl
  have kept : ∀ b o, b ≠ S → s.heap.get? b = some o → (s.heap.update S (Obj.mapSeq (fun _ => (#[] : Array Value)))).get? b = some o := fun b o n e => (Heap.get?_update_other _ _ (Ne.symm n)).trans e
  have isR1 : (s.heap.update S (Obj.mapSeq (fun _ => (#[] : Array Value)))).IsRevIter r l ((items.size : Int) - 1) := isR.at fun o e => kept r o Sr.symm e
  have isL1 : (s.heap.update S (Obj.mapSeq (fun _ => (#[] : Array Value)))).IsList l items := isL.at fun o e => kept l o Sl.symm e
  generalize s.heap.update S (Obj.mapSeq (fun _ => (#[] : Array Value))) = g at isS1 kept isR1 isL1 ⊢
  refine wpAny_bind (wpAny_letGo ?_)
  have ty : ∀ tk, ({ s with heap := g, toks := tk } : Shared).TypeIs (.ref r) "list_reverseiterator" := fun _ => isR1.typeIs
  unfold Builtin.List.listExtendWith
  refine wpAny_bind (wpAny_typeOf (isR1.typeIs) ?_)
  have q1 : Builtin.List.listSameRef (.ref S) (.ref r) = false := by simp [Builtin.List.listSameRef, Sr]
  have q2 : (Value.type "list_reverseiterator" == Value.type "list") = false := by decide
  have q3 : (Value.type "list_reverseiterator" == Value.type "tuple") = false := by decide
  simp only [q1, q2, q3, Bool.or_false, Bool.false_eq_true, if_false]
  refine wpAny_bind (wpAny_pyIter_revIter isR1 ?_)
  refine wpAny_bind (wpAny_holding (hintOf isR1.typeIs ?_))
  have W := Walks.listRev (prog := prog) (w := w) (A := A.in1) noH r l lr items
  have Snot : S ∉ [r, l] := by
    simp only [List.mem_cons, List.not_mem_nil, or_false, not_or]
    exact ⟨Sr, Sl⟩
  have st0 : 0 ≤ items.size ∧ g.IsRevIter r l ((items.size : Int) - 1 - ((0 : Nat) : Int)) ∧ g.IsList l items := ⟨Nat.zero_le _, by simpa using isR1, isL1⟩
  have loop : ∀ (h : Heap) (c1 tk : Nat), (0 ≤ items.size ∧ h.IsRevIter r l ((items.size : Int) - 1 - ((0 : Nat) : Int)) ∧ h.IsList l items) → (∀ b o, b ≠ S → g.get? b = some o → h.get? b = some o) →
      h.get? S = some { cls := .type "list", data := .seq #[] c1 } → codeAny (model prog w) A (.builtin "list.extend.loop" ⟨[.ref S, .ref r, .none], []⟩) R { s with heap := h, toks := tk } := by
    intro h c1 tk hst hk hS
    refine codeAny_extend_loopS W.toS few S Snot .none items.size 0 _ #[] c1 rfl (Nat.zero_le _) hst hS (ItemsOf.nil _) fun s2 got c2 mv hS2 hg => ?_
    rw [Moved.eq_with mv]
    refine fin s2.heap s2.toks got c2 (fun b o n1 n2 e => mv.heap b o (fun hm => ?_) (hk b o n1 (kept b o n1 e))) hS2 hg
    rcases List.mem_cons.mp hm with e' | hm
    · exact n1 e'
    · exact n2 (List.mem_singleton.mp hm)
  refine wpAny_ite_split (fun _ => ?_) (fun _ => wpAny_pure ⟨plainId_quiet PySem.F.plain_extend_loop _, loop g _ _ st0 (fun b o _ e => e) isS1⟩)
  refine wpAny_bind (wpAny_rule ?_)
  refine wpAny_bind ?_
  show wpAny _ A.in1 (updateSeq S (·.push .none) >>= fun _ => updateSeq S (·.pop)) _ _ _
  refine wpAny_bind (wpAny_updateSeq isS1 rfl ?_)
  have isS2 := Heap.get?_update_self (Obj.mapSeq (·.push Value.none)) isS1 rfl
  refine wpAny_updateSeq (hz := by seq_fits) isS2 rfl ?_
  have isS3 := Heap.get?_update_self (Obj.mapSeq (·.pop)) isS2 rfl
  have ot : ∀ b o, b ≠ S → g.get? b = some o → ((g.update S (Obj.mapSeq (·.push Value.none))).update S (Obj.mapSeq (·.pop))).get? b = some o := fun b o n e => (Heap.get?_update_other _ _ (Ne.symm n)).trans ((Heap.get?_update_other _ _ (Ne.symm n)).trans e)
  exact wpAny_pure ⟨plainId_quiet PySem.F.plain_extend_loop _, loop _ _ _ ⟨st0.1, st0.2.1.at fun o e => ot r o Sr.symm e, st0.2.2.at fun o e => ot l o Sl.symm e⟩ ot isS3⟩
theorem listOfRev {Q : Value → Shared → Prop} (noH : A.handled = none) (isR : s.heap.IsRevIter r l ((items.size : Int) - 1)) (isL : s.heap.IsList l items) (lr : l ≠ r) (few : items.size ≤ sizeLine)
    (fin : ∀ h2 t2 got c2, (∀ b o, b ≠ r → s.heap.get? b = some o → h2.get? b = some o) → h2.get? s.heap.objs.size = some { cls := .type "list", dict := none, data := .seq got c2, slots := #[] } → ItemsOf (fun i v => items[items.size - 1 - i]? = some v) got items.size →
      Q (.ref s.heap.objs.size) { s with heap := h2, toks := t2 }) : wpAny (model prog w) A (call (.type "list") [.ref r]) Q E s := by
  obtain ⟨oR, hR, _⟩ := id isR
  obtain ⟨oL, hL, _⟩ := id isL
  refine callType_codes (Q₁ := fun obj s₁ => obj = .ref s.heap.objs.size ∧ s₁ = { s with heap := s.heap.push { cls := .type "list", data := .seq #[] } }) PySem.F.called_list (PySem.F.typeCall_list_1 _) PySem.F.entry_list_init (code_list_new _ ⟨rfl, rfl⟩) fun obj s1 e1 => ?_
  obtain ⟨rfl, rfl⟩ := e1
  have isS : (s.heap.push { cls := .type "list", data := .seq #[] }).get? s.heap.objs.size = some { cls := .type "list", data := .seq #[] } := Heap.get?_push_size _ rfl
  refine ⟨⟨_, isS, rfl⟩, PySem.F.args_list_init_2 _ _, fillOf (A := A.in1) noH (isR.at fun o e => Heap.get?_push_of_some _ e) (isL.at fun o e => Heap.get?_push_of_some _ e) lr _ (Nat.ne_of_gt (Heap.lt_size hR)) (Nat.ne_of_gt (Heap.lt_size hL)) few isS fun h2 t2 got c2 k hS hg => ?_⟩
  exact ⟨rfl, fin h2 t2 got c2 (fun b o n e => k b o (Nat.ne_of_lt (Heap.lt_size e)) n (Heap.get?_push_of_some _ e)) hS hg⟩
end
end OwnR
namespace L2
open PySem PySem.Spec PyProof.Rows
/-- list(reversed(e)) -/
def tListRev (K : PySem.W.Frag) (te : TE) : TE := fun σ H Q => te σ H fun v H1 => ∃ (a : Addr) (xs : List V), v = .ref a ∧ SqL K H1 a xs ∧ ∀ p, H1 p = none → Q (.ref p) (upd H1 p (.lst xs.reverse))
section
variable {X : Cx}
theorem pe_listRev {e : Expr} {te : TE} {p p2 pos pos2 : Pos} (hc : X.calm = true) (hg : Gl X "list") (hm : X.mg "list" = none) (hg2 : Gl X "reversed") (hm2 : X.mg "reversed" = none) (he : PE X e te)
    (hs : starEach [e] X.env = (false, eval e X.env) :: starEach [] X.env := by rfl)
    (hs2 : starEach [.Call (.Name "reversed" p2) [e] [] pos2] X.env = (false, eval (.Call (.Name "reversed" p2) [e] [] pos2) X.env) :: starEach [] X.env := by rfl) :
    PE X (.Call (.Name "list" p) [.Call (.Name "reversed" p2) [e] [] pos2] [] pos) (tListRev X.K te) := by
  refine ⟨fun pins s σ H Q I h => ?_⟩
  refine Call_ (ld_blt I hg hm PyProof.Rows.boot_list (PyProof.Rows.callWith_type1 (args_cons (Call_ (ld_blt I hg2 hm2 PyProof.Rows.boot_reversed (PyProof.Rows.callWith_type1 (args_cons (thn (he.run pins s σ H _ I h) fun u s1 ⟨v, H1, I1, r1, q1⟩ => args_nil ?_) hs) hs rfl))) hs2) hs2 rfl))
  obtain ⟨a, xs, ev, hq, q⟩ := q1
  subst ev
  obtain rfl : u = Value.ref a := r1
  obtain ⟨its, rv, pl, hz⟩ := I1.list hq
  refine call_reversed_list pl.isList (args_nil ?_)
  obtain ⟨ol, hol, _⟩ := id pl.isList
  have few : its.toArray.size ≤ sizeLine := by rw [List.size_toArray, ← rv.length]; exact hz
  refine OwnR.listOfRev (s := { s1 with heap := s1.heap.push (revObj a ((its.toArray.size : Int) - 1)) }) (I1.ok.hd hc) ⟨_, Heap.get?_push_size _ rfl, rfl, rfl⟩ (pl.isList.push _) (Nat.ne_of_lt (Heap.lt_size hol)) few fun h2 t2 got c2 k hS hg3 => ?_
  have k1 : ∀ b o, s1.heap.get? b = some o → h2.get? b = some o := fun b o z => k b o (Nat.ne_of_lt (Heap.lt_size z)) (Heap.get?_push_of_some _ z)
  have hsz : (s1.heap.push (revObj a ((its.toArray.size : Int) - 1))).objs.size = s1.heap.objs.size + 1 := by simp [Heap.push]
  have hd : s1.heap.objs.size ≤ (s1.heap.push (revObj a ((its.toArray.size : Int) - 1))).objs.size := by rw [hsz]; exact Nat.le_succ _
  refine ⟨.ref _, upd H1 _ (.lst xs.reverse), I1.laid (t' := t2) k1 hd (show ObjOk X.prog X.w _ _ _ (.lst xs.reverse) from ⟨by rw [List.length_reverse]; exact hz, got.toList, c2, RT.vals_rev rv hg3, by rw [Array.toArray_toList]; exact hS⟩), rfl, q _ (I1.hok.fresh hd)⟩
end
end L2

namespace Own
open PySem PySem.Spec PyProof.Rows L2
/-- min(a, b, c) of ints -/
theorem cr_min3 {X : Cx} (hc : X.calm = true) : CallR X (.builtin "min") (fun xs H Q => ∃ i j k : Int, xs = [.int i, .int j, .int k] ∧ ∀ m : Int, (m ≤ i ∧ m ≤ j ∧ m ≤ k ∧ (m = i ∨ m = j ∨ m = k)) → Q (.int m) H) := by
  intro pins s σ H xs us Q I r h
  obtain ⟨i, j, k, rfl, q⟩ := h
  match us, r with
  | [u1, u2, u3], .cons r1 (.cons r2 (.cons r3 .nil)) =>
    obtain ⟨t1, rfl⟩ := r1
    obtain ⟨t2, rfl⟩ := r2
    obtain ⟨t3, rfl⟩ := r3
    refine min_three_ints (I.ok.hd hc) fun h' tk kp => ?_
    by_cases c1 : j < i
    · rw [if_pos c1]
      by_cases c2 : k < j
      · rw [if_pos c2]
        exact ⟨.int k, H, I.kept kp, ⟨_, rfl⟩, q k (by omega)⟩
      · rw [if_neg c2]
        exact ⟨.int j, H, I.kept kp, ⟨_, rfl⟩, q j (by omega)⟩
    · rw [if_neg c1]
      by_cases c2 : k < i
      · rw [if_pos c2]
        exact ⟨.int k, H, I.kept kp, ⟨_, rfl⟩, q k (by omega)⟩
      · rw [if_neg c2]
        exact ⟨.int i, H, I.kept kp, ⟨_, rfl⟩, q i (by omega)⟩
end Own

set_option Elab.async false
set_option linter.all false
set_option maxRecDepth 100000
set_option maxHeartbeats 4000000
namespace K17
open PySem PySem.Spec PyProof.Rows L2 Own
theorem cut_lo {xs : List V} {c : Nat} (h : c ≤ xs.length) : cutV xs (some (c : Int)) none = xs.drop c := by
  show (xs.drop (HT.sIx xs.length 0 (some (c : Int)))).take (HT.sIx xs.length xs.length none - HT.sIx xs.length 0 (some (c : Int))) = _
  rw [HT.sIx_none, HT.sIx_nat, Nat.min_eq_left h, List.take_of_length_le]
  rw [List.length_drop]
  exact Nat.le_refl _
theorem cut1 (x : V) (xs : List V) : cutV (x :: xs) (some 1) none = xs := by
  have e := cut_lo (xs := x :: xs) (c := 1) (by rw [List.length_cons]; omega)
  exact e
theorem dec_int (r z : Int) : decide (V.int r = V.int z) = decide (r = z) := decide_eq_decide.mpr ⟨fun e => V.int.inj e, fun e => congrArg V.int e⟩
theorem take_next {α : Type} {l : List α} {i : Nat} (h : i < l.length) : l.take (i + 1) = l.take i ++ [l[i]] := by
  rw [List.take_succ, List.getElem?_eq_getElem h]
  rfl
end K17
namespace L2
open PySem PySem.Spec PyProof.Rows K17
/-! ### data as they stand -/
theorem seqT_same {K : PySem.W.Frag} {H H' : Hp} {a : Addr} {xs : List V} (e : Same H H') (h : SqT K H a xs) : SqT K H' a xs := by
  rcases h with (h | ⟨ob, h⟩) | h
  · exact .inl (.inl (e _ _ h))
  · exact .inl (.inr ⟨ob, e _ _ h⟩)
  · exact .inr h
mutual
theorem Dp.same {K : PySem.W.Frag} {H H' : Hp} (s : Same H H') : ∀ {d : PyData} {v : V}, Dp K H v d → Dp K H' v d
  | _, _, .non => .non
  | _, _, .bl b => .bl b
  | _, _, .int b => .int b
  | _, _, .str b => .str b
  | _, _, .lst h a => .lst (s.seq h) (DpAll.same s a)
  | _, _, .tup h a => .tup (seqT_same s h) (DpAll.same s a)
theorem DpAll.same {K : PySem.W.Frag} {H H' : Hp} (s : Same H H') : ∀ {ds : List PyData} {vs : List V}, DpAll K H vs ds → DpAll K H' vs ds
  | _, _, .nil => .nil
  | _, _, .cons h a => .cons (Dp.same s h) (DpAll.same s a)
end
def rowsD : PyData → Option (List PyData)
  | .list ds => some ds
  | .tuple ds => some ds
  | _ => none
def isIntD : PyData → Bool
  | .int _ => true
  | _ => false
def isStrD : PyData → Bool
  | .str _ => true
  | _ => false
def isBoolD : PyData → Bool
  | .bool _ => true
  | _ => false
def tyN : PyData → String
  | .none => "NoneType"
  | .bool _ => "bool"
  | .int _ => "int"
  | .str _ => "str"
  | .list _ => "list"
  | .tuple _ => "tuple"
  | .dict _ => "dict"
theorem ty_sqL {K : PySem.W.Frag} {H : Hp} {a : Addr} {xs : List V} (h : SqL K H a xs) : TyX K H (.ref a) (.type "list") := by
  rcases h with (h | ⟨ob, h⟩) | ⟨o, its, n, h1, h2, _⟩
  · exact .base (.lst h)
  · exact .base (.frz h)
  · exact .kList h1 h2
theorem ty_sqT {K : PySem.W.Frag} {H : Hp} {a : Addr} {xs : List V} (h : SqT K H a xs) : TyX K H (.ref a) (.type "tuple") := by
  rcases h with (h | ⟨ob, h⟩) | ⟨o, its, n, h1, h2, _⟩
  · exact .base (.tup h)
  · exact .fTuple h
  · exact .kTuple h1 h2
theorem Dp.ty {K : PySem.W.Frag} {H : Hp} {v : V} {d : PyData} (h : Dp K H v d) : TyX K H v (.type (tyN d)) := by
  cases h with
  | non => exact .base .non
  | bl b => exact .base (.bl b)
  | int b => exact .base (.int b)
  | str b => exact .base (.str b)
  | lst h a => exact ty_sqL h
  | tup h a => exact ty_sqT h
theorem Dp.kit_int {K : PySem.W.Frag} {H : Hp} {v : V} {d : PyData} (h : Dp K H v d) : PySem.W.kitOne K (.type (tyN d)) (.type "int") = some (isIntD d || isBoolD d) := by
  cases h <;> dsimp only [tyN, isIntD, isBoolD, isStrD] <;> exact kit_ty (by decide +kernel)
theorem Dp.kit_bool {K : PySem.W.Frag} {H : Hp} {v : V} {d : PyData} (h : Dp K H v d) : PySem.W.kitOne K (.type (tyN d)) (.type "bool") = some (isBoolD d) := by
  cases h <;> dsimp only [tyN, isIntD, isBoolD, isStrD] <;> exact kit_ty (by decide +kernel)
theorem Dp.kit_str {K : PySem.W.Frag} {H : Hp} {v : V} {d : PyData} (h : Dp K H v d) : PySem.W.kitOne K (.type (tyN d)) (.type "str") = some (isStrD d) := by
  cases h <;> dsimp only [tyN, isIntD, isBoolD, isStrD] <;> exact kit_ty (by decide +kernel)
def kit2 (n a b : String) : Option Bool := match kitB n a with | some true => some true | some false => (match kitB n b with | some true => some true | some false => some false | none => none) | none => none
theorem kit_2 {K : PySem.W.Frag} {n a b : String} {r : Bool} (h : kit2 n a b = some r) : PySem.W.kitAny K (.type n) [.type a, .type b] = some r := by
  unfold kit2 at h
  cases ha : kitB n a with
  | none => rw [ha] at h; cases h
  | some x =>
    rw [ha] at h
    refine kitAny_cons (kit_ty ha) (fun e => ?_) (fun e => ?_)
    · subst e
      cases hb : kitB n b with
      | none => rw [hb] at h; cases h
      | some y =>
        rw [hb] at h
        refine kitAny_cons (kit_ty hb) (fun e => ?_) (fun e => ?_)
        · subst e
          rw [← Option.some.inj h]
          exact kitAny_nil
        · subst e
          exact (Option.some.inj h).symm
    · subst e
      exact (Option.some.inj h).symm
theorem Dp.kit_row {K : PySem.W.Frag} {H : Hp} {v : V} {d : PyData} (h : Dp K H v d) : PySem.W.kitAny K (.type (tyN d)) [.type "list", .type "tuple"] = some (rowsD d).isSome := by
  cases h <;> dsimp only [tyN, rowsD, Option.isSome] <;> exact kit_2 (by decide +kernel)
theorem Dp.rows {K : PySem.W.Frag} {H : Hp} {v : V} {d : PyData} {ds : List PyData} (h : Dp K H v d) (e : rowsD d = some ds) : ∃ a xs, v = .ref a ∧ (SqL K H a xs ∨ SqT K H a xs) ∧ DpAll K H xs ds := by
  cases h with
  | lst h a => cases e; exact ⟨_, _, rfl, .inl h, a⟩
  | tup h a => cases e; exact ⟨_, _, rfl, .inr h, a⟩
  | _ => cases e
theorem DpAll.len {K : PySem.W.Frag} {H : Hp} : ∀ {ds : List PyData} {vs : List V}, DpAll K H vs ds → vs.length = ds.length
  | _, _, .nil => rfl
  | _, _, .cons h a => congrArg Nat.succ (DpAll.len a)
end L2
namespace K17
open PySem PySem.Spec PyProof.Rows L2 Own
theorem in_strs (l : List Str) (h : Str) : inV (.str h) (l.map V.str) = decide (h ∈ l) := by
  unfold inV
  rw [List.any_map]
  induction l with
  | nil => rfl
  | cons a l ih =>
    rw [List.any_cons, ih]
    have e : (eqV (V.str a) (V.str h)) = decide (h = a) := by
      show (a == h) = _
      rw [Bool.eq_iff_iff, beq_iff_eq, decide_eq_true_eq]
      exact eq_comm
    show (eqV (V.str a) (V.str h) || _) = _
    rw [e]
    simp only [List.mem_cons, Bool.decide_or]
theorem flat_strs : ∀ l : List Str, (l.map V.str).all flatV = true
  | [] => rfl
  | a :: l => by
    rw [List.map_cons, List.all_cons, flat_strs l]
    rfl
/-! ### what the written part says -/
def pT : List Str := ["mark", "own", "flag", "root", "ends", "next", "true"]
def plainL (n : Str) : List Str := if n = "down" then ["mark", "unmark", "make", "keep", "stop"] else if n = "turn" then ["mark", "unmark", "cut", "keep"] else ["mark", "unmark", "cut", "stop"]
def retL : List Str := ["yes", "no", "value", "node", "p"]
structure Ty (K : PySem.W.Frag) (w : World) (mg : Str → Option Value) : Prop where
  deep : ∃ t, mg "DEEPEST_TEST" = some (.int 6 t)
  most : ∃ t, mg "MOST_STATEMENTS" = some (.int 40 t)
  great : ∃ t, mg "GREATEST_VALUE" = some (.int 9 t)
  calls : ∃ t, mg "MOST_CALLS" = some (.int 4 t)
  nums : ∃ t, mg "MOST_NUMBERS" = some (.int 4 t)
  rets : ∃ a, mg "RETURNS" = some (.ref a) ∧ ∀ H, SqT K H a (retL.map V.str)
  tests : ∃ a, mg "PLAIN_TESTS" = some (.ref a) ∧ ∀ H, SqT K H a (pT.map V.str)
  plains : ∃ D, mg "PLAIN_STATEMENTS" = some (.ref D) ∧ ∀ n : Str, (n = "down" ∨ n = "turn" ∨ n = "up") → ∃ a, KDct K w D n (.ref a) ∧ ∀ H, SqT K H a ((plainL n).map V.str)
end K17

set_option Elab.async false
set_option linter.all false
set_option maxRecDepth 100000
set_option maxHeartbeats 400000
namespace L2
open PySem PySem.Spec PyProof.Rows
/-- one way or the other -/
theorem pe_way {X : Cx} {e : Expr} {t1 t2 : TE} (h1 : PE X e t1) (h2 : PE X e t2) : PE X e (fun σ H Q => t1 σ H Q ∨ t2 σ H Q) :=
  ⟨fun pins s σ H Q I h => h.elim (h1.run pins s σ H Q I) (h2.run pins s σ H Q I)⟩
theorem DpAll.get {K : PySem.W.Frag} {H : Hp} : ∀ {ds : List PyData} {vs : List V} (_ : DpAll K H vs ds) {i : Nat} {x : V}, vs[i]? = some x → ∃ d, ds[i]? = some d ∧ Dp K H x d
  | _, _, .nil, i, x, e => by cases e
  | _, _, .cons h a, 0, x, e => by cases e; exact ⟨_, rfl, h⟩
  | _, _, .cons h a, i + 1, x, e => by
    obtain ⟨d, e1, e2⟩ := DpAll.get a (i := i) (x := x) e
    exact ⟨d, e1, e2⟩
theorem DpAll.one {K : PySem.W.Frag} {H : Hp} {ds : List PyData} {vs : List V} (h : DpAll K H vs ds) (e : vs.length = 1) : ∃ y d, vs = [y] ∧ ds = [d] ∧ Dp K H y d := by
  cases h with
  | nil => cases e
  | cons h0 ht =>
    cases ht with
    | nil => exact ⟨_, _, rfl, rfl, h0⟩
    | cons _ _ => rw [List.length_cons, List.length_cons] at e; omega
theorem DpAll.three {K : PySem.W.Frag} {H : Hp} {ds : List PyData} {vs : List V} (h : DpAll K H vs ds) (e : vs.length = 3) : ∃ x y z a b c, vs = [x, y, z] ∧ ds = [a, b, c] ∧ Dp K H x a ∧ Dp K H y b ∧ Dp K H z c := by
  cases h with
  | nil => cases e
  | cons h0 ht =>
    cases ht with
    | nil => cases e
    | cons h1 ht =>
      cases ht with
      | nil => cases e
      | cons h2 ht =>
        cases ht with
        | nil => exact ⟨_, _, _, _, _, _, rfl, rfl, h0, h1, h2⟩
        | cons _ _ => rw [List.length_cons, List.length_cons, List.length_cons, List.length_cons] at e; omega
theorem Dp.str_of {K : PySem.W.Frag} {H : Hp} {v : V} {d : PyData} (h : Dp K H v d) (e : isStrD d = true) : ∃ z, v = .str z ∧ d = .str z := by
  cases h with
  | str z => exact ⟨z, rfl, rfl⟩
  | _ => cases e
theorem Dp.int_of {K : PySem.W.Frag} {H : Hp} {v : V} {d : PyData} (h : Dp K H v d) (e : isIntD d = true) : ∃ z, v = .int z ∧ d = .int z := by
  cases h with
  | int z => exact ⟨z, rfl, rfl⟩
  | _ => cases e
end L2
namespace K17
open PySem PySem.Spec PyProof.Rows L2 Own
def headD (d : PyData) : Option (Str × List PyData) := match rowsD d with
  | some (.str h :: r) => some (h, r)
  | _ => none
def numD : List PyData → Bool
  | [.int z] => decide (0 ≤ z) && decide (z ≤ 2)
  | _ => false
theorem numD_len {r : List PyData} (h : ¬ r.length = 1) : numD r = false := by
  match r, h with
  | [], _ => rfl
  | [_], h => exact absurd rfl h
  | d :: _ :: _, _ => cases d <;> rfl
theorem num_one {d : PyData} (h : isIntD d = false) : numD [d] = false := by
  cases d with
  | int z => cases h
  | _ => rfl
def testD : Nat → PyData → Bool
  | 0, _ => false
  | n + 1, d => match headD d with
    | none => false
    | some (h, r) => if h ∈ (["not", "and", "or"] : List Str) then decide (r.length = if h = "not" then 1 else 2) && r.all (testD n) else if h = "others" then numD r else decide (h ∈ pT) && decide (r.length = 0)
def spRow (K : PySem.W.Frag) : Sp := fun vs H Q _ => ∃ v d, vs = [v] ∧ Dp K H v d ∧ ∀ H', Same H H' → Q (.bl (rowsD d).isSome) H'
def spHead (K : PySem.W.Frag) : Sp := fun vs H Q _ => ∃ v d, vs = [v] ∧ Dp K H v d ∧ ∀ H', Same H H' → Q (.bl (headD d).isSome) H'
def spInt (K : PySem.W.Frag) : Sp := fun vs H Q _ => ∃ v d, vs = [v] ∧ Dp K H v d ∧ Q (.bl (isIntD d)) H
def spTest (K : PySem.W.Frag) (n : Nat) : Sp := fun vs H Q _ => ∃ (v : V) (d : PyData) (l : Int), vs = [v, .int l] ∧ l + n = 7 ∧ Dp K H v d ∧ ∀ H', Same H H' → Q (.bl (testD n d)) H'
theorem _root_.L2.Same.fresh_upd {H H' : Hp} {D : Addr} {o : HO} (s : Same H H') (hD : H D = none) : Same H (upd H' D o) := fun b o' e => by
  rw [upd_ne (ne_of_none e hD)]
  exact s b o' e
theorem sq_same {K : PySem.W.Frag} {H H' : Hp} {a : Addr} {xs : List V} (s : Same H H') (h : SqL K H a xs ∨ SqT K H a xs) : SqL K H' a xs ∨ SqT K H' a xs := h.imp s.seq (seqT_same s)
theorem head_at {K : PySem.W.Frag} {H : Hp} {v : V} {d : PyData} {h : Str} {r : List PyData} (hd : Dp K H v d) (e : headD d = some (h, r)) : ∃ a y ys, v = .ref a ∧ (SqL K H a (y :: ys) ∨ SqT K H a (y :: ys)) ∧ y = .str h ∧ DpAll K H ys r := by
  unfold headD at e
  cases er : rowsD d with
  | none => rw [er] at e; cases e
  | some ds =>
    rw [er] at e
    obtain ⟨a, xs, rfl, hq, ha⟩ := hd.rows er
    cases ha with
    | nil => cases e
    | cons h0 ht =>
      cases h0 with
      | str x =>
        cases e
        exact ⟨a, _, _, rfl, hq, rfl, ht⟩
      | _ => cases e
theorem rIx_at {K : PySem.W.Frag} {H : Hp} {a : Addr} {xs : List V} {i : Int} {v : V} {Q : VK} (hq : SqL K H a xs ∨ SqT K H a xs) (e : atI xs i = some v) (q : Q v H) : rIx K (.ref a) (.int i) H Q :=
  hq.elim (fun h => .inl ⟨a, xs, i, v, rfl, rfl, h, e, q⟩) (fun h => .inr (.inl ⟨a, xs, i, v, rfl, rfl, h, e, q⟩))
theorem rSl_at {K : PySem.W.Frag} {H : Hp} {a : Addr} {y : V} {ys : List V} {Q : VK} (hq : SqL K H a (y :: ys) ∨ SqT K H a (y :: ys)) (q : ∀ p H', Same H H' → (SqL K H' p ys ∨ SqT K H' p ys) → Q (.ref p) H') :
    rSlL K (.ref a) (some 1) none H Q ∨ rSlT K (.ref a) (some 1) none H Q := by
  rcases hq with h | h
  · refine .inl ⟨a, _, rfl, h, fun p hp => q p _ (same_new hp) (.inl ?_)⟩
    rw [cut1]
    exact SqL.of upd_same
  · refine .inr ⟨a, _, rfl, h, fun z => ?_, fun p hp => q p _ (same_new hp) (.inr ?_)⟩
    · have e : HT.sIx (y :: ys).length 0 (some 1) = 1 := by
        have e2 := HT.sIx_nat (y :: ys).length 0 1
        rw [List.length_cons] at e2 ⊢
        exact e2.trans (by omega)
      omega
    · rw [cut1]
      exact SqT.of upd_same
section
variable {P : Program} {w : World} {K : PySem.W.Frag} {mg : Str → Option Value} {base : Heap}
abbrev sInt : Stmt := top 17
abbrev sRow : Stmt := top 26
abbrev sHead : Stmt := top 27
abbrev sTest : Stmt := top 28
abbrev nTest : List Str := ["value", "level", "head", "rest", "many", "part"]
theorem scInt : FnScope ["value"] ["value"] (defScope sInt) := ⟨rfl, rfl, rfl, by decide +kernel, rfl, by decide +kernel, by decide +kernel⟩
theorem scRow : FnScope ["value"] ["value"] (defScope sRow) := ⟨rfl, rfl, rfl, by decide +kernel, rfl, by decide +kernel, by decide +kernel⟩
theorem scHead : FnScope ["value"] ["value"] (defScope sHead) := ⟨rfl, rfl, rfl, by decide +kernel, rfl, by decide +kernel, by decide +kernel⟩
theorem scTest : FnScope nTest ["value", "level"] (defScope sTest) := ⟨rfl, rfl, rfl, by decide +kernel, rfl, by decide +kernel, by decide +kernel⟩
theorem ok_int {f : Addr} {fd : FuncData} (F : FnP K "is_integer" "is_integer" sInt f fd) (T : Tx mg) : FnOk P w K mg base CX0 1 f fd ["value"] (spInt K) := by
  refine F.ok scInt (fun vs H Q E h => ?_) (fun cdv A outer s H vs Q E hr h => ?_)
  · obtain ⟨v, d, rfl, _⟩ := h
    rfl
  · obtain ⟨v, d, rfl, hd, k⟩ := h
    refine ⟨_, PSs.nox (pss_one (ps_ret (pe_and (pe_callB call_isi (by rfl) T.isinstance (by decide +kernel) (pa_cons (pv 0) (pa_cons (pe_bltn (v := .ty "int") (by rfl) T.int (by decide +kernel) rfl) pa_nil)))
      (pe_one (pe_not (pe_callB call_isi (by rfl) T.isinstance (by decide +kernel) (pa_cons (pv 0) (pa_cons (pe_bltn (v := .ty "bool") (by rfl) T.bool (by decide +kernel) rfl) pa_nil)))))))), ?_⟩
    refine ⟨_, rfl, _, _, _, _, _, rfl, ClsV.ty _, hd.ty, hd.kit_int, _, rfl, ite2 (fun c => ?_) (fun c => ?_)⟩
    · refine ⟨_, rfl, _, _, _, _, _, rfl, ClsV.ty _, hd.ty, hd.kit_bool, _, rfl, ?_⟩
      rw [show (!isBoolD d) = isIntD d from ?_]
      · exact k
      · cases d <;> simp_all [isIntD, isBoolD]
    · rw [show isIntD d = false from ?_] at k
      · exact k
      · cases d <;> simp_all [isIntD, isBoolD]
theorem ok_row {f : Addr} {fd : FuncData} (F : FnP K "is_row" "is_row" sRow f fd) (T : Tx mg) : FnOk P w K mg base CX0 1 f fd ["value"] (spRow K) := by
  refine F.ok scRow (fun vs H Q E h => ?_) (fun cdv A outer s H vs Q E hr h => ?_)
  · obtain ⟨v, d, rfl, _⟩ := h
    rfl
  · obtain ⟨v, d, rfl, hd, k⟩ := h
    refine ⟨_, PSs.nox (pss_one (ps_ret (pe_callB call_isiT (by rfl) T.isinstance (by decide +kernel) (pa_cons (pv 0) (pa_cons (pe_tup (pa_cons (pe_bltn (v := .ty "list") (by rfl) T.list (by decide +kernel) rfl) (pa_cons (pe_bltn (v := .ty "tuple") (by rfl) T.tuple (by decide +kernel) rfl) pa_nil))) pa_nil))))), ?_⟩
    refine ⟨_, rfl, (by show 2 ≤ sizeLine; decide), fun p hp => ?_⟩
    have s1 : Same H (upd H p (.tup [.ty "list", .ty "tuple"])) := same_new hp
    exact ⟨_, p, _, _, _, _, rfl, upd_same, .cons (ClsV.ty _) (.cons (ClsV.ty _) .nil), (Dp.same s1 hd).ty, hd.kit_row, k _ s1⟩
theorem ok_head {f : Addr} {fd : FuncData} (F : FnP K "has_head" "has_head" sHead f fd) (T : Tx mg) (cR : Cl P w K mg base 1 "is_row" ["value"] (spRow K)) : FnOk P w K mg base CX0 2 f fd ["value"] (spHead K) := by
  obtain ⟨fR, fdR, GR, mR, kR, bR⟩ := cR.ex
  refine F.ok scHead (fun vs H Q E h => ?_) (fun cdv A outer s H vs Q E hr h => ?_)
  · obtain ⟨v, d, rfl, _⟩ := h
    rfl
  · obtain ⟨v, d, rfl, hd, k⟩ := h
    refine ⟨_, PSs.nox (pss_one (ps_ret (pe_and (pe_call GR hr (by rfl) mR kR bR .nil pass0 (pa_cons (pv 0) pa_nil))
      (pe_and (pe_cmpR op_gt (pe_callB call_len_seq (by rfl) T.len PySem.boot_len (pa_cons (pv 0) pa_nil)) pe_int (nomark _))
      (pe_one (pe_callB call_isi (by rfl) T.isinstance (by decide +kernel) (pa_cons (pe_ix ix_seq (pv 0) pe_int (fun _ _ => rfl)) (pa_cons (pe_bltn (v := .ty "str") (by rfl) T.str (by decide +kernel) rfl) pa_nil)))))))), ?_⟩
    refine ⟨_, rfl, v, d, rfl, hd, fun H1 s1 => ⟨_, rfl, ?_⟩⟩
    have hd1 := Dp.same s1 hd
    cases er : rowsD d with
    | none =>
      have e2 : headD d = none := by unfold headD; rw [er]
      rw [e2] at k
      exact iteF (k _ s1)
    | some ds =>
      obtain ⟨a, xs, rfl, hq, ha⟩ := hd1.rows er
      refine iteT ⟨_, rfl, a, xs, rfl, hq, _, _, rfl, rfl, _, rfl, ?_⟩
      cases ha with
      | nil =>
        have e2 : headD d = none := by unfold headD; rw [er]
        rw [e2] at k
        exact iteF (k _ s1)
      | @cons y ys d0 ds0 h0 ht =>
        have e2 : (headD d).isSome = isStrD d0 := by unfold headD; rw [er]; cases d0 <;> rfl
        rw [e2] at k
        refine ite2 (fun _ => ?_) (fun c => absurd (decide_eq_true (by rw [List.length_cons]; omega)) c)
        refine ⟨_, rfl, ?_⟩
        have hix : atI (y :: ys) 0 = some y := atI_nat (xs := y :: ys) (j := 0) rfl
        rcases hq with hq | hq
        · exact Or.inl ⟨a, _, _, _, rfl, rfl, hq, hix, _, _, _, _, _, rfl, ClsV.ty _, h0.ty, h0.kit_str, k _ s1⟩
        · exact Or.inr (Or.inl ⟨a, _, _, _, rfl, rfl, hq, hix, _, _, _, _, _, rfl, ClsV.ty _, h0.ty, h0.kit_str, k _ s1⟩)
theorem ok_test (T : Tx mg) (Y : Ty K w mg) (cI : Cl P w K mg base 1 "is_integer" ["value"] (spInt K)) (cH : Cl P w K mg base 2 "has_head" ["value"] (spHead K)) {f : Addr} {fd : FuncData} (F : ∃ dvs, FunD K "is_test" "is_test" (defArgs sTest) (defBody sTest) (defScope sTest) dvs [] f fd) (mT : mg "is_test" = some (.ref f)) (kT : PySem.W.keepIn K (.ref f) = true) (bT : Binds K fd ["value", "level"] []) :
    ∀ n, FnOk P w K mg base CX0 (3 + n) f fd ["value", "level"] (spTest K n) := by
  obtain ⟨fI, fdI, GI, mI, kI, bI⟩ := cI.ex
  obtain ⟨fH, fdH, GH, mH, kH, bH⟩ := cH.ex
  obtain ⟨dvs, F⟩ := F
  obtain ⟨t6, mD⟩ := Y.deep
  obtain ⟨aP, mP, hP⟩ := Y.tests
  have key : ∀ n, (∀ m, m + 1 = n → FnOk P w K mg base CX0 (3 + m) f fd ["value", "level"] (spTest K m)) → FnOk P w K mg base CX0 (2 + n + 1) f fd ["value", "level"] (spTest K n) := by
    intro n ih
    refine F.ok scTest (fun vs H Q E h => ?_) (fun cdv A outer s H vs Q E hr h => ?_)
    · obtain ⟨v, d, l, rfl, _⟩ := h
      rfl
    · obtain ⟨v, d, l, rfl, hl, hd, k⟩ := h
      have hr2 : Room 2 _ := hr.mono (by omega)
      have hr1 : Room 1 _ := hr.mono (by omega)
      by_cases hn : n = 0
      · subst hn
        refine ⟨_, PSs.nox (pss_cons (ps_if (PW.pt (pw_or (pt_cmpR op_gt (pv 1) (pe_glob (v := .int 6) (by rfl) mD ⟨t6, rfl⟩) (nomark _)) (pw_or1 (pt_not (pt_val (pe_call GH hr2 (by rfl) mH kH bH .nil pass0 (pa_cons (pv 0) pa_nil))))))) (pss_one (ps_ret pe_bl)) pss_nil) (pss_cons ps_never (pss_cons ps_never (pss_cons ps_never (pss_one ps_never))))), ?_⟩
        obtain rfl : l = 7 := by omega
        exact ⟨_, rfl, _, _, rfl, rfl, _, rfl, ite2 (fun _ => iteT (k H (Same.refl H))) (fun c => absurd (by decide) c)⟩
      · obtain ⟨m, rfl⟩ : ∃ m, n = m + 1 := ⟨n - 1, by omega⟩
        have GT := ih m rfl
        have hrT : Room (3 + m) _ := hr.mono (by omega)
        refine ⟨_, PSs.nox (pss_cons (ps_if (PW.pt (pw_or (pt_cmpR op_gt (pv 1) (pe_glob (v := .int 6) (by rfl) mD ⟨t6, rfl⟩) (nomark _)) (pw_or1 (pt_not (pt_val (pe_call GH hr2 (by rfl) mH kH bH .nil pass0 (pa_cons (pv 0) pa_nil))))))) (pss_one (ps_ret pe_bl)) pss_nil)
          (pss_cons (ps_par (i := 2) (j := 3) (by rfl) scTest.nd rfl rfl (by decide) rfl rfl (pa_cons (pe_ix ix_seq (pv 0) pe_int (fun _ _ => rfl)) (pa_cons (pe_slice (sl_list.or sl_tup) (pv 0) (po_some pe_int) po_none) pa_nil)) (by rfl))
          (pss_cons (ps_if (pt_cmpR op_in_seq (pv 2) (pe_tup (pa_cons pe_str (pa_cons pe_str (pa_cons pe_str pa_nil)))) (by rfl))
            (C8.pss_cut (ps_set (i := 4) scTest.nd rfl (Or.inl rfl) (pe_ifExp (pt_cmpR op_eq (pv 2) pe_str (nomark _)) pe_int pe_int))
            (pss_one (ps_ret (pe_and (pe_cmpR op_eq (pe_callB call_len_seq (by rfl) T.len PySem.boot_len (pa_cons (pv 3) pa_nil)) (pv 4) (nomark _)) (pe_one (pe_callB (cr_all rfl) (by rfl) T.all (by decide +kernel) (pa_cons
              (pe_way (pe_lc (own := [("part", 5)]) (g := gName 5) (tt := tYes) (by rfl) scTest.nd (pi_list (pv 3)) (blkOk_by (own := [("part", 5)]) (N := nTest) (sc := defScope sTest) (by decide +kernel)) (fun _ _ _ _ _ => pg_name (i := 5) scTest.nd rfl (Or.inl rfl)) (fun _ _ _ _ _ => pts_nil)
                  (fun _ _ _ _ _ => pe_call GT hrT (by rfl) mT kT bT .nil pass0 (pa_cons (pv 5) (pa_cons (pe_op op_add (pv 1) pe_int) pa_nil))))
                (pe_lc (own := [("part", 5)]) (g := gName 5) (tt := tYes) (by rfl) scTest.nd (pi_tup (pv 3)) (blkOk_by (own := [("part", 5)]) (N := nTest) (sc := defScope sTest) (by decide +kernel)) (fun _ _ _ _ _ => pg_name (i := 5) scTest.nd rfl (Or.inl rfl)) (fun _ _ _ _ _ => pts_nil)
                  (fun _ _ _ _ _ => pe_call GT hrT (by rfl) mT kT bT .nil pass0 (pa_cons (pv 5) (pa_cons (pe_op op_add (pv 1) pe_int) pa_nil))))) pa_nil)))))))
            pss_nil)
          (pss_cons (ps_if (pt_cmpR op_eq (pv 2) pe_str (nomark _))
            (pss_one (ps_ret (pe_and (pe_cmpR op_eq (pe_callB call_len_seq (by rfl) T.len PySem.boot_len (pa_cons (pv 3) pa_nil)) pe_int (nomark _)) (pe_and (pe_call GI hr1 (by rfl) mI kI bI .nil pass0 (pa_cons (pe_ix ix_seq (pv 3) pe_int (fun _ _ => rfl)) pa_nil)) (pe_one (pe_chain op_le op_le pe_int (pe_ix ix_seq (pv 3) pe_int (fun _ _ => rfl)) pe_int)))))) pss_nil)
          (pss_one (ps_ret (pe_and (pe_cmpR op_in_seq (pv 2) (pe_glob (v := .ref aP) (by rfl) mP rfl) (by rfl)) (pe_one (pe_cmpR op_eq (pe_callB call_len_seq (by rfl) T.len PySem.boot_len (pa_cons (pv 3) pa_nil)) pe_int (nomark _)))))))))), ?_⟩
        refine ⟨_, rfl, _, _, rfl, rfl, _, rfl, ite2 (fun c => absurd (of_decide_eq_true c) (by omega)) (fun _ => ?_)⟩
        refine ⟨_, rfl, v, d, rfl, hd, fun H1 s1 => ⟨_, rfl, ?_⟩⟩
        cases eh : headD d with
        | none =>
          have e : testD (m + 1) d = false := by simp only [testD, eh]
          rw [e] at k
          exact iteT (k H1 s1)
        | some hr0 =>
          obtain ⟨h, r⟩ := hr0
          refine iteF ?_
          obtain ⟨a, y, ys, hd', er⟩ : ∃ a y ys, v = .ref a ∧ (SqL K H1 a (y :: ys) ∨ SqT K H1 a (y :: ys)) ∧ y = .str h ∧ DpAll K H1 ys r := head_at (Dp.same s1 hd) eh
          obtain ⟨rfl, hq, rfl, ht⟩ := (⟨hd', er⟩ : v = .ref a ∧ _)
          have e : testD (m + 1) d = if h ∈ (["not", "and", "or"] : List Str) then decide (r.length = if h = "not" then 1 else 2) && r.all (testD m) else if h = "others" then numD r else decide (h ∈ pT) && decide (r.length = 0) := by
            simp only [testD, eh]
          rw [e] at k
          refine ⟨_, rfl, rIx_at hq (atI_nat (xs := V.str h :: ys) (j := 0) rfl) ⟨_, rfl, 1, rfl, rSl_at hq fun q H2 s2 hq2 => ?_⟩⟩
          have ht2 := DpAll.same s2 ht
          have s12 := s1.trans s2
          refine ⟨_, _, rfl, ?_⟩
          refine ⟨_, rfl, (by show 3 ≤ sizeLine; decide), fun p hp => ?_⟩
          have s3 : Same H2 (upd H2 p (.tup [.str "not", .str "and", .str "or"])) := same_new hp
          refine ⟨p, (["not", "and", "or"] : List Str).map V.str, rfl, Or.inr (SqT.of upd_same), rfl, flat_strs _, _, rfl, ite2 (fun c => ?_) (fun c => ?_)⟩
          · have c2 : h ∈ (["not", "and", "or"] : List Str) := of_decide_eq_true ((in_strs _ h).symm.trans c)
            rw [if_pos c2] at k
            have s13 := s12.trans s3
            have ht3 := DpAll.same s3 ht2
            have hq3 := sq_same s3 hq2
            generalize upd H2 p (.tup [.str "not", .str "and", .str "or"]) = H3 at s3 s13 ht3 hq3 ⊢
            refine ⟨fun σ H' => H3 = H' ∧ σ = [some (.ref a), some (.int l), some (.str h), some (.ref q), some (.int (if h = "not" then 1 else 2)), none], ?_, ?_⟩
            · refine ⟨_, rfl, rfl, _, rfl, ite2 (fun c3 => ?_) (fun c3 => ?_)⟩
              · rw [if_pos (V.str.inj (of_decide_eq_true c3))]
                exact ⟨rfl, rfl⟩
              · rw [if_neg fun z => c3 (decide_eq_true (congrArg V.str z))]
                exact ⟨rfl, rfl⟩
            · rintro σ' H' ⟨rfl, rfl⟩
              refine ⟨_, rfl, q, ys, rfl, hq3, _, rfl, rfl, _, rfl, ite2 (fun c3 => ?_) (fun c3 => ?_)⟩
              · have c4 := V.int.inj (of_decide_eq_true c3)
                have c5 : r.length = if h = "not" then 1 else 2 := by
                  rw [← ht3.len]
                  split at c4 <;> rename_i c6
                  · rw [if_pos c6]; omega
                  · rw [if_neg c6]; omega
                have c7 : r.length ≤ 2 := by rw [c5]; split <;> omega
                rw [decide_eq_true c5, Bool.true_and] at k
                rcases hq3 with hq | hq
                · refine Or.inl ⟨_, rfl, q, rfl, ⟨ys, hq⟩, fun D hD => ?_⟩
                  refine lc_list (K := K) (a := q) (xs := ys) (fun j H' => H' D = some (.lst (((r.take j).map (testD m)).map V.bl)) ∧ Same H3 H') ⟨upd_same, same_new hD⟩ (fun i H' _ g => Same.seq g.2 hq) ?_ ?_
                  · rintro i x H' ex ⟨g1, g2⟩
                    obtain ⟨di, edi, hdi⟩ := ht3.get ex
                    refine ⟨rfl, ?_⟩
                    refine ⟨_, rfl, _, rfl, _, _, rfl, rfl, x, di, l + 1, rfl, by omega, Dp.same g2 hdi, fun H4 s4 => ?_⟩
                    have g3 := s4 _ _ g1
                    refine ⟨_, g3, small1000 (by rw [List.length_map, List.length_map, List.length_take]; omega), ?_, ?_⟩
                    · rw [upd_same, List.take_succ, edi, List.map_append, List.map_append]
                      rfl
                    · exact (g2.trans s4).fresh_upd hD
                  · rintro H' ⟨g1, g2⟩
                    rw [ht3.len, List.take_length] at g1
                    refine ⟨D, _, rfl, SqL.of g1, ?_⟩
                    rw [List.all_map]
                    exact k _ (s13.trans g2)
                · refine Or.inr ⟨_, rfl, q, rfl, ⟨ys, hq⟩, fun D hD => ?_⟩
                  refine lc_tup (K := K) (a := q) (xs := ys) (fun j H' => H' D = some (.lst (((r.take j).map (testD m)).map V.bl)) ∧ Same H3 H') ⟨upd_same, same_new hD⟩ (fun i H' _ g => seqT_same g.2 hq) ?_ ?_
                  · rintro i x H' ex ⟨g1, g2⟩
                    obtain ⟨di, edi, hdi⟩ := ht3.get ex
                    refine ⟨rfl, ?_⟩
                    refine ⟨_, rfl, _, rfl, _, _, rfl, rfl, x, di, l + 1, rfl, by omega, Dp.same g2 hdi, fun H4 s4 => ?_⟩
                    have g3 := s4 _ _ g1
                    refine ⟨_, g3, small1000 (by rw [List.length_map, List.length_map, List.length_take]; omega), ?_, ?_⟩
                    · rw [upd_same, List.take_succ, edi, List.map_append, List.map_append]
                      rfl
                    · exact (g2.trans s4).fresh_upd hD
                  · rintro H' ⟨g1, g2⟩
                    rw [ht3.len, List.take_length] at g1
                    refine ⟨D, _, rfl, SqL.of g1, ?_⟩
                    rw [List.all_map]
                    exact k _ (s13.trans g2)
              · have c5 : ¬ r.length = if h = "not" then 1 else 2 := fun z => c3 (by
                  rw [← ht3.len] at z
                  refine decide_eq_true (congrArg V.int ?_)
                  rw [z]
                  split <;> rfl)
                rw [decide_eq_false c5] at k
                exact k _ s13
          · have c2 : ¬ h ∈ (["not", "and", "or"] : List Str) := fun z => c ((in_strs _ h).trans (decide_eq_true z))
            rw [if_neg c2] at k
            have s13 := s12.trans s3
            have ht3 := DpAll.same s3 ht2
            have hq3 := sq_same s3 hq2
            generalize upd H2 p (.tup [.str "not", .str "and", .str "or"]) = H3 at s3 s13 ht3 hq3 ⊢
            have k := k _ s13
            refine ⟨_, rfl, rfl, _, rfl, ite2 (fun c3 => ?_) (fun c3 => ?_)⟩
            · rw [if_pos (V.str.inj (of_decide_eq_true c3))] at k
              refine ⟨_, rfl, q, ys, rfl, hq3, rfl, _, rfl, ite2 (fun c4 => ?_) (fun c4 => ?_)⟩
              · have c5 := V.int.inj (of_decide_eq_true c4)
                obtain ⟨y0, d0, rfl, rfl, h0⟩ := ht3.one (by omega)
                have e0 : atI [y0] 0 = some y0 := atI_nat (xs := [y0]) (j := 0) rfl
                refine ⟨_, rfl, rIx_at hq3 e0 ⟨y0, d0, rfl, h0, _, rfl, ite2 (fun c6 => ?_) (fun c6 => ?_)⟩⟩
                · obtain ⟨z, rfl, rfl⟩ := h0.int_of c6
                  refine ⟨_, rfl, rIx_at hq3 e0 ⟨_, _, rfl, rfl, _, rfl, ite2 (fun c7 => ?_) (fun c7 => ?_)⟩⟩
                  · rw [show numD [.int z] = (decide (0 ≤ z) && decide (z ≤ 2)) from rfl, c7, Bool.true_and] at k
                    exact ⟨_, _, rfl, rfl, k⟩
                  · rw [show numD [.int z] = (decide (0 ≤ z) && decide (z ≤ 2)) from rfl, Bool.eq_false_iff.mpr c7, Bool.false_and] at k
                    exact k
                · rw [num_one (Bool.eq_false_iff.mpr c6)] at k
                  exact k
              · rw [show numD r = false from ?_] at k
                · exact k
                · refine numD_len fun z => c4 (decide_eq_true (congrArg V.int ?_))
                  rw [ht3.len, z]
                  rfl
            · rw [if_neg fun z => c3 (decide_eq_true (congrArg V.str z))] at k
              refine ⟨_, rfl, aP, pT.map V.str, rfl, Or.inr (hP _), rfl, flat_strs _, _, rfl, ite2 (fun c4 => ?_) (fun c4 => ?_)⟩
              · have c5 : h ∈ pT := of_decide_eq_true ((in_strs _ h).symm.trans c4)
                rw [decide_eq_true c5, Bool.true_and] at k
                refine ⟨_, rfl, q, ys, rfl, hq3, rfl, ?_⟩
                rw [show decide (r.length = 0) = decide (V.int (ys.length : Int) = V.int 0) from ?_] at k
                · exact k
                · rw [dec_int, ← ht3.len]
                  exact decide_eq_decide.mpr (by omega)
              · have c5 : ¬ h ∈ pT := fun z => c4 ((in_strs _ h).trans (decide_eq_true z))
                rw [decide_eq_false c5] at k
                exact k
  intro n
  induction n with
  | zero => exact key 0 fun m e => by omega
  | succ n ih =>
    have e0 : 2 + (n + 1) + 1 = 3 + (n + 1) := by omega
    exact e0 ▸ key (n + 1) fun m e => (show n = m by omega) ▸ ih
end
end K17

set_option Elab.async false
set_option linter.all false
set_option maxRecDepth 100000
set_option maxHeartbeats 400000
namespace K17
open PySem PySem.Spec PyProof.Rows L2 Own
theorem dec_str (a b : Str) : decide (V.str a = V.str b) = decide (a = b) := decide_eq_decide.mpr ⟨fun e => V.str.inj e, fun e => congrArg V.str e⟩
def fullD (d : PyData) : Bool := match rowsD d with
  | some (_ :: _) => true
  | _ => false
def ifD : List PyData → Bool
  | [t, a, b] => (rowsD a).isSome && ((rowsD b).isSome && (fullD a && testD 6 t))
  | _ => false
theorem if3 (t a b : PyData) : ifD [t, a, b] = ((rowsD a).isSome && ((rowsD b).isSome && (fullD a && testD 6 t))) := rfl
theorem if_len {r : List PyData} (h : ¬ r.length = 3) : ifD r = false := by
  match r, h with
  | [], _ => rfl
  | [_], _ => rfl
  | [_, _], _ => rfl
  | [_, _, _], h => exact absurd rfl h
  | _ :: _ :: _ :: _ :: _, _ => rfl
def flagD : List PyData → Bool
  | [d] => isBoolD d
  | _ => false
def retD : List PyData → Bool
  | [.str x] => decide (x ∈ retL)
  | _ => false
theorem ret_one {d : PyData} (h : isStrD d = false) : retD [d] = false := by
  cases d with
  | str z => cases h
  | _ => rfl
theorem ret_len {r : List PyData} (h : ¬ r.length = 1) : retD r = false := by
  match r, h with
  | [], _ => rfl
  | [_], h => exact absurd rfl h
  | d :: _ :: _, _ => cases d <;> rfl
theorem flag_len {r : List PyData} (h : ¬ r.length = 1) : flagD r = false := by
  match r, h with
  | [], _ => rfl
  | [_], h => exact absurd rfl h
  | d :: _ :: _, _ => rfl
def stmtD (n : Str) (d : PyData) : Bool := match headD d with
  | none => false
  | some (h, r) => if h = "if" then ifD r else if h = "flag" then flagD r else if h = "return" then retD r else decide (h ∈ plainL n) && decide (r.length = 0)
def nameOk (n : Str) : Prop := n = "down" ∨ n = "turn" ∨ n = "up"
def spIf (K : PySem.W.Frag) : Sp := fun vs H Q _ => ∃ (a : Addr) (xs : List V) (r : List PyData), vs = [.ref a] ∧ (SqL K H a xs ∨ SqT K H a xs) ∧ DpAll K H xs r ∧ ∀ H', Same H H' → Q (.bl (ifD r)) H'
def spStmt (K : PySem.W.Frag) : Sp := fun vs H Q _ => ∃ (v : V) (d : PyData) (n : Str), vs = [v, .str n] ∧ nameOk n ∧ Dp K H v d ∧ ∀ H', Same H H' → Q (.bl (stmtD n d)) H'
section
variable {P : Program} {w : World} {K : PySem.W.Frag} {mg : Str → Option Value} {base : Heap}
abbrev sStmt : Stmt := top 29
abbrev sIf : Stmt := top 30
theorem scStmt : FnScope ["value", "name", "head", "rest"] ["value", "name"] (defScope sStmt) := ⟨rfl, rfl, rfl, by decide +kernel, rfl, by decide +kernel, by decide +kernel⟩
theorem scIf : FnScope ["rest"] ["rest"] (defScope sIf) := ⟨rfl, rfl, rfl, by decide +kernel, rfl, by decide +kernel, by decide +kernel⟩
/-- is_test of one value: the level is filled up by the default -/
structure Cl1 (P : Program) (w : World) (K : PySem.W.Frag) (mg : Str → Option Value) (base : Heap) (k : Nat) (x : Str) (ps : List Str) (dvs : List V) (sp : Sp) : Prop where
  ex : ∃ (f : Addr) (fd : FuncData), FnOk P w K mg base CX0 k f fd ps sp ∧ mg x = some (.ref f) ∧ PySem.W.keepIn K (.ref f) = true ∧ ∃ ds, Vals dvs ds ∧ Binds K fd ps ds
theorem ok_if {f : Addr} {fd : FuncData} (F : FnP K "is_rest_of_if" "is_rest_of_if" sIf f fd) (T : Tx mg) (cR : Cl P w K mg base 1 "is_row" ["value"] (spRow K)) (cT : Cl1 P w K mg base 9 "is_test" ["value", "level"] [.int 1] (spTest K 6)) : FnOk P w K mg base CX0 10 f fd ["rest"] (spIf K) := by
  obtain ⟨fR, fdR, GR, mR, kR, bR⟩ := cR.ex
  obtain ⟨fT, fdT, GT, mT, kT, dT, vT, bT⟩ := cT.ex
  refine F.ok scIf (fun vs H Q E h => ?_) (fun cdv A outer s H vs Q E hr h => ?_)
  · obtain ⟨a, xs, r, rfl, _⟩ := h
    rfl
  · obtain ⟨a, xs, r, rfl, hq, ha, k⟩ := h
    have hr1 : Room 1 _ := hr.mono (by omega)
    refine ⟨_, PSs.nox (pss_cons (ps_if (PW.pt (pw_or (pt_cmpR op_ne (pe_callB call_len_seq (by rfl) T.len PySem.boot_len (pa_cons (pv 0) pa_nil)) pe_int (nomark _))
        (pw_or (pt_not (pt_val (pe_call GR hr1 (by rfl) mR kR bR .nil pass0 (pa_cons (pe_ix ix_seq (pv 0) pe_int (fun _ _ => rfl)) pa_nil))))
        (pw_or1 (pt_not (pt_val (pe_call GR hr1 (by rfl) mR kR bR .nil pass0 (pa_cons (pe_ix ix_seq (pv 0) pe_int (fun _ _ => rfl)) pa_nil)))))))) (pss_one (ps_ret pe_bl)) pss_nil)
      (pss_one (ps_ret (pe_and (pe_cmpR op_gt (pe_callB call_len_seq (by rfl) T.len PySem.boot_len (pa_cons (pe_ix ix_seq (pv 0) pe_int (fun _ _ => rfl)) pa_nil)) pe_int (nomark _))
        (pe_one (pe_call GT hr (by rfl) mT kT bT vT pass0 (pa_cons (pe_ix ix_seq (pv 0) pe_int (fun _ _ => rfl)) pa_nil))))))), ?_⟩
    refine ⟨_, rfl, a, xs, rfl, hq, rfl, _, rfl, ite2 (fun c => ?_) (fun c => ?_)⟩
    · have c2 : ¬ r.length = 3 := fun z => by
        rw [← ha.len] at z
        rw [z] at c
        exact absurd c (by decide +kernel)
      rw [if_len c2] at k
      exact iteT (k _ (Same.refl H))
    · obtain ⟨x0, x1, x2, t, da, db, rfl, rfl, h0, h1, h2⟩ := ha.three (by
        refine Classical.byContradiction fun z => c ?_
        rw [Bool.not_eq_true', decide_eq_false_iff_not]
        exact fun e => z (by have := V.int.inj e; omega))
      have e0 : atI [x0, x1, x2] 0 = some x0 := atI_nat (xs := [x0, x1, x2]) (j := 0) rfl
      have e1 : atI [x0, x1, x2] 1 = some x1 := atI_nat (xs := [x0, x1, x2]) (j := 1) rfl
      have e2 : atI [x0, x1, x2] 2 = some x2 := atI_nat (xs := [x0, x1, x2]) (j := 2) rfl
      refine ⟨_, rfl, rIx_at hq e1 ⟨x1, da, rfl, h1, fun H1 s1 => ⟨_, rfl, ?_⟩⟩⟩
      have hq1 := sq_same s1 hq
      cases ea : (rowsD da).isSome with
      | false =>
        have e : ifD [t, da, db] = false := by rw [if3, ea]; rfl
        rw [e] at k
        exact iteT (iteT (k _ s1))
      | true =>
        refine iteF ⟨_, rfl, rIx_at hq1 e2 ⟨x2, db, rfl, Dp.same s1 h2, fun H2 s2 => ⟨_, rfl, ?_⟩⟩⟩
        have s12 := s1.trans s2
        have hq2 := sq_same s2 hq1
        cases eb : (rowsD db).isSome with
        | false =>
          have e : ifD [t, da, db] = false := by rw [if3, ea, eb]; rfl
          rw [e] at k
          exact iteT (k _ s12)
        | true =>
          obtain ⟨ds, ed⟩ := Option.isSome_iff_exists.mp ea
          obtain ⟨a1, ys, rfl, hy, hys⟩ := (Dp.same s12 h1).rows ed
          have e : ifD [t, da, db] = (fullD da && testD 6 t) := by rw [if3, ea, eb]; rfl
          rw [e] at k
          refine iteF ⟨_, rfl, rIx_at hq2 e1 ⟨a1, ys, rfl, hy, _, _, rfl, rfl, _, rfl, ite2 (fun c3 => ?_) (fun c3 => ?_)⟩⟩
          · refine ⟨_, rfl, rIx_at hq2 e0 ⟨x0, t, 1, rfl, rfl, Dp.same s12 h0, fun H3 s3 => ?_⟩⟩
            rw [show fullD da = true from ?_, Bool.true_and] at k
            · exact k _ (s12.trans s3)
            · unfold fullD
              rw [ed]
              cases hys with
              | nil => exact absurd c3 (by decide +kernel)
              | cons _ _ => rfl
          · rw [show fullD da = false from ?_, Bool.false_and] at k
            · exact k _ s12
            · unfold fullD
              rw [ed]
              cases hys with
              | nil => rfl
              | cons _ _ => exact absurd (decide_eq_true (by rw [List.length_cons]; omega)) c3
theorem ok_stmt {f : Addr} {fd : FuncData} (F : FnP K "is_statement" "is_statement" sStmt f fd) (T : Tx mg) (Y : Ty K w mg) (cH : Cl P w K mg base 2 "has_head" ["value"] (spHead K)) (cI : Cl P w K mg base 10 "is_rest_of_if" ["rest"] (spIf K)) : FnOk P w K mg base CX0 11 f fd ["value", "name"] (spStmt K) := by
  obtain ⟨fH, fdH, GH, mH, kH, bH⟩ := cH.ex
  obtain ⟨fI, fdI, GI, mI, kI, bI⟩ := cI.ex
  obtain ⟨aR, mR, hR⟩ := Y.rets
  obtain ⟨D, mD, hD⟩ := Y.plains
  refine F.ok scStmt (fun vs H Q E h => ?_) (fun cdv A outer s H vs Q E hr h => ?_)
  · obtain ⟨v, d, n, rfl, _⟩ := h
    rfl
  · obtain ⟨v, d, n, rfl, hn, hd, k⟩ := h
    obtain ⟨aP, hK, hP⟩ := hD n hn
    have hr2 : Room 2 _ := hr.mono (by omega)
    refine ⟨_, PSs.nox (pss_cons (ps_if (pt_not (pt_val (pe_call GH hr2 (by rfl) mH kH bH .nil pass0 (pa_cons (pv 0) pa_nil)))) (pss_one (ps_ret pe_bl)) pss_nil)
      (pss_cons (ps_par (i := 2) (j := 3) (by rfl) scStmt.nd rfl rfl (by decide) rfl rfl (pa_cons (pe_ix ix_seq (pv 0) pe_int (fun _ _ => rfl)) (pa_cons (pe_slice (sl_list.or sl_tup) (pv 0) (po_some pe_int) po_none) pa_nil)) (by rfl))
      (pss_cons (ps_if (pt_cmpR op_eq (pv 2) pe_str (nomark _)) (pss_one (ps_ret (pe_call GI hr (by rfl) mI kI bI .nil pass0 (pa_cons (pv 3) pa_nil)))) pss_nil)
      (pss_cons (ps_if (pt_cmpR op_eq (pv 2) pe_str (nomark _)) (pss_one (ps_ret (pe_and (pe_cmpR op_eq (pe_callB call_len_seq (by rfl) T.len PySem.boot_len (pa_cons (pv 3) pa_nil)) pe_int (nomark _))
          (pe_one (pe_callB call_isi (by rfl) T.isinstance (by decide +kernel) (pa_cons (pe_ix ix_seq (pv 3) pe_int (fun _ _ => rfl)) (pa_cons (pe_bltn (v := .ty "bool") (by rfl) T.bool (by decide +kernel) rfl) pa_nil))))))) pss_nil)
      (pss_cons (ps_if (pt_cmpR op_eq (pv 2) pe_str (nomark _)) (pss_one (ps_ret (pe_and (pe_cmpR op_eq (pe_callB call_len_seq (by rfl) T.len PySem.boot_len (pa_cons (pv 3) pa_nil)) pe_int (nomark _))
          (pe_and (pe_callB call_isi (by rfl) T.isinstance (by decide +kernel) (pa_cons (pe_ix ix_seq (pv 3) pe_int (fun _ _ => rfl)) (pa_cons (pe_bltn (v := .ty "str") (by rfl) T.str (by decide +kernel) rfl) pa_nil)))
          (pe_one (pe_cmpR op_in_seq (pe_ix ix_seq (pv 3) pe_int (fun _ _ => rfl)) (pe_glob (v := .ref aR) (by rfl) mR rfl) (by rfl))))))) pss_nil)
      (pss_one (ps_ret (pe_and (pe_cmpR op_in_seq (pv 2) (pe_ix ix_kdict (pe_glob (v := .ref D) (by rfl) mD rfl) (pv 1) (fun _ _ => rfl)) (by rfl)) (pe_one (pe_cmpR op_eq (pe_callB call_len_seq (by rfl) T.len PySem.boot_len (pa_cons (pv 3) pa_nil)) pe_int (nomark _))))))))))), ?_⟩
    refine ⟨_, rfl, v, d, rfl, hd, fun H1 s1 => ⟨_, rfl, ?_⟩⟩
    cases eh : headD d with
    | none =>
      have e : stmtD n d = false := by simp only [stmtD, eh]
      rw [e] at k
      exact iteT (k H1 s1)
    | some hr0 =>
      obtain ⟨h, r⟩ := hr0
      refine iteF ?_
      obtain ⟨a, y, ys, hd', er⟩ : ∃ a y ys, v = .ref a ∧ (SqL K H1 a (y :: ys) ∨ SqT K H1 a (y :: ys)) ∧ y = .str h ∧ DpAll K H1 ys r := head_at (Dp.same s1 hd) eh
      obtain ⟨rfl, hq, rfl, ht⟩ := (⟨hd', er⟩ : v = .ref a ∧ _)
      have e : stmtD n d = if h = "if" then ifD r else if h = "flag" then flagD r else if h = "return" then retD r else decide (h ∈ plainL n) && decide (r.length = 0) := by
        simp only [stmtD, eh]
      rw [e] at k
      refine ⟨_, rfl, rIx_at hq (atI_nat (xs := V.str h :: ys) (j := 0) rfl) ⟨_, rfl, 1, rfl, rSl_at hq fun q H3 s2 hq3 => ?_⟩⟩
      have ht3 := DpAll.same s2 ht
      have s13 := s1.trans s2
      refine ⟨_, _, rfl, ?_⟩
      refine ⟨_, rfl, rfl, _, rfl, ite2 (fun c1 => ?_) (fun c1 => ?_)⟩
      · rw [if_pos (V.str.inj (of_decide_eq_true c1))] at k
        exact ⟨_, rfl, q, ys, r, rfl, hq3, ht3, fun H4 s4 => k _ (s13.trans s4)⟩
      rw [if_neg fun z => c1 (decide_eq_true (congrArg V.str z))] at k
      have k := k _ s13
      refine ⟨_, rfl, rfl, _, rfl, ite2 (fun c1 => ?_) (fun c1 => ?_)⟩
      · rw [if_pos (V.str.inj (of_decide_eq_true c1))] at k
        refine ⟨_, rfl, q, ys, rfl, hq3, rfl, _, rfl, ite2 (fun c4 => ?_) (fun c4 => ?_)⟩
        · have c5 := V.int.inj (of_decide_eq_true c4)
          obtain ⟨y0, d0, rfl, rfl, h0⟩ := ht3.one (by omega)
          have e0 : atI [y0] 0 = some y0 := atI_nat (xs := [y0]) (j := 0) rfl
          exact ⟨_, rfl, rIx_at hq3 e0 ⟨_, _, _, _, _, rfl, ClsV.ty _, h0.ty, h0.kit_bool, k⟩⟩
        · rw [flag_len fun z => c4 (decide_eq_true (congrArg V.int (by rw [ht3.len, z]; rfl)))] at k
          exact k
      rw [if_neg fun z => c1 (decide_eq_true (congrArg V.str z))] at k
      refine ⟨_, rfl, rfl, _, rfl, ite2 (fun c1 => ?_) (fun c1 => ?_)⟩
      · rw [if_pos (V.str.inj (of_decide_eq_true c1))] at k
        refine ⟨_, rfl, q, ys, rfl, hq3, rfl, _, rfl, ite2 (fun c4 => ?_) (fun c4 => ?_)⟩
        · have c5 := V.int.inj (of_decide_eq_true c4)
          obtain ⟨y0, d0, rfl, rfl, h0⟩ := ht3.one (by omega)
          have e0 : atI [y0] 0 = some y0 := atI_nat (xs := [y0]) (j := 0) rfl
          refine ⟨_, rfl, rIx_at hq3 e0 ⟨_, _, _, _, _, rfl, ClsV.ty _, h0.ty, h0.kit_str, _, rfl, ite2 (fun c6 => ?_) (fun c6 => ?_)⟩⟩
          · obtain ⟨z, rfl, rfl⟩ := h0.str_of c6
            refine ⟨_, rfl, rIx_at hq3 e0 ⟨aR, retL.map V.str, rfl, Or.inr (hR _), rfl, flat_strs _, ?_⟩⟩
            rw [show retD [.str z] = decide (z ∈ retL) from rfl, ← in_strs] at k
            exact k
          · rw [ret_one (Bool.eq_false_iff.mpr c6)] at k
            exact k
        · rw [ret_len fun z => c4 (decide_eq_true (congrArg V.int (by rw [ht3.len, z]; rfl)))] at k
          exact k
      rw [if_neg fun z => c1 (decide_eq_true (congrArg V.str z))] at k
      refine ⟨_, rfl, _, rfl, D, n, _, rfl, rfl, hK, aP, (plainL n).map V.str, rfl, Or.inr (hP _), rfl, flat_strs _, _, rfl, ite2 (fun c4 => ?_) (fun c4 => ?_)⟩
      · have c5 : h ∈ plainL n := of_decide_eq_true ((in_strs _ h).symm.trans c4)
        rw [decide_eq_true c5, Bool.true_and] at k
        refine ⟨_, rfl, q, ys, rfl, hq3, rfl, ?_⟩
        rw [show decide (r.length = 0) = decide (V.int (ys.length : Int) = V.int 0) from ?_] at k
        · exact k
        · rw [dec_int, ← ht3.len]
          exact decide_eq_decide.mpr (by omega)
      · have c5 : ¬ h ∈ plainL n := fun z => c4 ((in_strs _ h).trans (decide_eq_true z))
        rw [decide_eq_false c5] at k
        exact k
end
end K17

set_option Elab.async false
set_option linter.all false
set_option maxRecDepth 100000
set_option maxHeartbeats 400000
namespace K17
open PySem PySem.Spec PyProof.Rows L2 Own
/-- what stands in the blocks of an if, none: not as lists -/
def kidsD (d : PyData) : Option (List PyData × List PyData) := match headD d with
  | some (h, r) => if h = "if" then (match r with
    | [_, .list a, .list b] => some (a, b)
    | _ => none) else some ([], [])
  | none => none
def cnt (n : Str) : Nat → List PyData → Option Nat
  | _, [] => some 0
  | 0, _ :: _ => none
  | m + 1, d :: st => if stmtD n d = true then (match kidsD d with
    | some (a, b) => (cnt n m (a ++ (b ++ st))).map (· + 1)
    | none => none) else none
theorem cnt_len {n : Str} : ∀ {m : Nat} {st : List PyData} {k : Nat}, cnt n m st = some k → st.length ≤ k
  | m, [], k, _ => Nat.zero_le _
  | 0, _ :: _, k, h => by cases h
  | m + 1, d :: st, k, h => by
    unfold cnt at h
    split at h
    · split at h
      · rename_i a b _
        cases e : cnt n m (a ++ (b ++ st)) with
        | none => rw [e] at h; cases h
        | some j =>
          rw [e] at h
          cases h
          have := cnt_len e
          rw [List.length_append, List.length_append] at this
          rw [List.length_cons]
          show st.length + 1 ≤ j + 1
          omega
      · cases h
    · cases h
theorem cnt_step {n : Str} {m : Nat} {d : PyData} {st : List PyData} {k : Nat} (h : cnt n (m + 1) (d :: st) = some k) : stmtD n d = true ∧ ∃ a b j, kidsD d = some (a, b) ∧ cnt n m (a ++ (b ++ st)) = some j ∧ k = j + 1 := by
  unfold cnt at h
  split at h
  · rename_i c
    refine ⟨c, ?_⟩
    split at h
    · rename_i a b e2
      cases e : cnt n m (a ++ (b ++ st)) with
      | none => rw [e] at h; cases h
      | some j =>
        rw [e] at h
        cases h
        exact ⟨a, b, j, e2, e, rfl⟩
    · cases h
  · cases h
theorem kids_at {K : PySem.W.Frag} {H : Hp} {v : V} {d : PyData} {a b : List PyData} (hd : Dp K H v d) (e : kidsD d = some (a, b)) : ∃ (p : Addr) (ys : List V) (h : Str), v = .ref p ∧ (SqL K H p (V.str h :: ys) ∨ SqT K H p (V.str h :: ys)) ∧
    (h = "if" → ∃ (y : V) (l1 l2 : Addr) (xs zs : List V), ys = [y, .ref l1, .ref l2] ∧ SqL K H l1 xs ∧ SqL K H l2 zs ∧ DpAll K H xs a ∧ DpAll K H zs b) ∧ (¬ h = "if" → a = [] ∧ b = []) := by
  unfold kidsD at e
  cases eh : headD d with
  | none => rw [eh] at e; cases e
  | some hr =>
    obtain ⟨h, r⟩ := hr
    rw [eh] at e
    obtain ⟨p, y, ys, rfl, hq, rfl, ht⟩ := head_at hd eh
    have e : (if h = "if" then (match r with
      | [_, .list a, .list b] => some (a, b)
      | _ => none) else some ([], [])) = some (a, b) := e
    refine ⟨p, ys, h, rfl, hq, fun c => ?_, fun c => ?_⟩
    · rw [if_pos c] at e
      split at e
      · rename_i x a2 b2
        cases e
        cases ht with
        | cons h0 ht =>
          cases ht with
          | cons h1 ht =>
            cases ht with
            | cons h2 ht =>
              cases ht
              cases h1 with
              | lst s1 d1 =>
                cases h2 with
                | lst s2 d2 => exact ⟨_, _, _, _, _, rfl, s1, s2, d1, d2⟩
      · cases e
    · rw [if_neg c] at e
      cases e
      exact ⟨rfl, rfl⟩
theorem DpAll.app {K : PySem.W.Frag} {H : Hp} : ∀ {vs : List V} {ds : List PyData} {us : List V} {es : List PyData}, DpAll K H vs ds → DpAll K H us es → DpAll K H (vs ++ us) (ds ++ es)
  | _, _, _, _, .nil, b => b
  | _, _, _, _, .cons h a, b => .cons h (DpAll.app a b)
def spCount (K : PySem.W.Frag) : Sp := fun vs H Q _ => ∃ (a : Addr) (xs : List V) (n : Str) (ds : List PyData) (m k : Nat), vs = [.str n, .ref a] ∧ nameOk n ∧ SqL K H a xs ∧ DpAll K H xs ds ∧ cnt n m ds = some k ∧ k ≤ 900 ∧ ∀ H', Same H H' → Q (.int k) H'
section
variable {P : Program} {w : World} {K : PySem.W.Frag} {mg : Str → Option Value} {base : Heap}
abbrev sCount : Stmt := top 31
theorem scCount : FnScope ["name", "block", "many", "waiting", "statement"] ["name", "block"] (defScope sCount) := ⟨rfl, rfl, rfl, by decide +kernel, rfl, by decide +kernel, by decide +kernel⟩
theorem ok_count {f : Addr} {fd : FuncData} (F : FnP K "count_statements" "count_statements" sCount f fd) (T : Tx mg) (cR : Cl P w K mg base 1 "is_row" ["value"] (spRow K)) (cS : Cl P w K mg base 11 "is_statement" ["value", "name"] (spStmt K)) : FnOk P w K mg base CX0 12 f fd ["name", "block"] (spCount K) := by
  obtain ⟨fR, fdR, GR, mR, kR, bR⟩ := cR.ex
  obtain ⟨fS, fdS, GS, mS, kS, bS⟩ := cS.ex
  refine F.ok scCount (fun vs H Q E h => ?_) (fun cdv A outer s H vs Q E hr h => ?_)
  · obtain ⟨a, xs, n, ds, m, k, rfl, _⟩ := h
    rfl
  · obtain ⟨a, xs, n, ds, m, c0, rfl, hn, hq, ha, hc, h9, k⟩ := h
    have hr1 : Room 1 _ := hr.mono (by omega)
    refine ⟨_, PSs.nox (pss_cons (ps_if (pt_not (pt_val (pe_call GR hr1 (by rfl) mR kR bR .nil pass0 (pa_cons (pv 1) pa_nil)))) (pss_one ps_never) pss_nil)
      (pss_cons (ps_set (i := 2) scCount.nd rfl (Or.inl rfl) pe_int)
      (pss_cons (ps_set (i := 3) scCount.nd rfl (Or.inl rfl) (pe_listRev rfl (by rfl) T.list (by rfl) T.reversed (pv 1)))
      (pss_cons (ps_while PassesOwn.never (pt_truth (pv 3) (fun _ => rfl))
        (pss_cons (ps_set (i := 4) scCount.nd rfl (Or.inl rfl) (pe_bm0 PySem.F.plainAttrs_list PySem.F.slot_list_pop PySem.F.type_list_pop mt_pop (pv 3)))
        (pss_cons (ps_if (pt_not (pt_val (pe_call GS hr (by rfl) mS kS bS .nil pass0 (pa_cons (pv 4) (pa_cons (pv 0) pa_nil))))) (pss_one ps_never) pss_nil)
        (pss_cons (ps_aug (i := 2) scCount.nd rfl (Or.inl rfl) pe_int ip_add)
        (pss_one (ps_if (pt_cmpR op_eq (pe_ix ix_seq (pv 4) pe_int (fun _ _ => rfl)) pe_str (nomark _))
          (pss_cons (ps_expr (pe_bm PySem.F.plainAttrs_list PySem.F.slot_list_extend PySem.F.type_list_extend mt_extend (pv 3) (pa_cons (pe_listRev rfl (by rfl) T.list (by rfl) T.reversed (pe_ix ix_seq (pv 4) pe_int (fun _ _ => rfl))) pa_nil)))
          (pss_one (ps_expr (pe_bm PySem.F.plainAttrs_list PySem.F.slot_list_extend PySem.F.type_list_extend mt_extend (pv 3) (pa_cons (pe_listRev rfl (by rfl) T.list (by rfl) T.reversed (pe_ix ix_seq (pv 4) pe_int (fun _ _ => rfl))) pa_nil))))) pss_nil))))))
      (pss_one (ps_ret (pv 2))))))), ?_⟩
    refine ⟨_, rfl, .ref a, .list ds, rfl, .lst hq ha, fun H1 s1 => ⟨_, rfl, iteF ?_⟩⟩
    refine ⟨_, rfl, a, xs, rfl, s1.seq hq, fun p hp => ?_⟩
    have sp : Same H (upd H1 p (.lst xs.reverse)) := s1.trans (same_new hp)
    have np : H p = none := s1.free hp
    refine ⟨fun m σ H' => ∃ ws st j y, DpAll K H ws st ∧ cnt n m st = some j ∧ j ≤ c0 ∧ H' p = some (.lst ws.reverse) ∧ Same H H' ∧ σ = [some (.str n), some (.ref a), some (.int ((c0 - j : Nat) : Int)), some (.ref p), y], ⟨m, xs, ds, c0, none, ha, hc, Nat.le_refl _, upd_same, sp, by rw [Nat.sub_self]; rfl⟩, ?_⟩
    rintro m σ H2 ⟨ws, st, j, y, hw, hc2, hj, h2, s2, rfl⟩
    refine ⟨_, rfl, !ws.reverse.isEmpty, Or.inl ⟨_, SqL.of h2, rfl⟩, ?_⟩
    cases hw with
    | nil =>
      refine iteF ⟨_, rfl, ?_⟩
      have e : j = 0 := by
        cases m <;> exact (Option.some.inj hc2).symm
      subst e
      exact k _ s2
    | @cons v ws d st h0 ht =>
      refine ite2 (fun _ => ?_) (fun z => absurd (by simp) z)
      cases m with
      | zero => cases hc2
      | succ m =>
        obtain ⟨hst, ka, kb, j2, ek, ec, rfl⟩ := cnt_step hc2
        have hl := cnt_len ec
        rw [List.length_append, List.length_append] at hl
        refine ⟨_, fun σ' H' h => ⟨m, Nat.lt_succ_self m, h⟩, ?_⟩
        refine ⟨_, rfl, Or.inl ⟨rfl, _, SqL.of h2⟩, p, (v :: ws).reverse, v, rfl, rfl, h2, ?_, ?_⟩
        · rw [List.reverse_cons, List.length_append, List.length_singleton, Nat.add_sub_cancel, List.getElem?_append_right (Nat.le_refl _), Nat.sub_self]
          rfl
        rw [show (v :: ws).reverse.dropLast = ws.reverse from by rw [List.reverse_cons, List.dropLast_concat]]
        have s3 : Same H (upd H2 p (.lst ws.reverse)) := s2.fresh_upd np
        have h3 : (upd H2 p (.lst ws.reverse)) p = some (.lst ws.reverse) := upd_same
        generalize upd H2 p (.lst ws.reverse) = H3 at s3 h3 ⊢
        refine ⟨_, rfl, _, rfl, v, d, n, rfl, hn, Dp.same s3 h0, fun H4 s34 => ⟨_, rfl, ?_⟩⟩
        rw [hst]
        refine iteF ?_
        have h4 := s34 _ _ h3
        have s4 := s3.trans s34
        refine ⟨_, rfl, _, _, rfl, rfl, ?_⟩
        have em : ((c0 - (j2 + 1) : Nat) : Int) + 1 = ((c0 - j2 : Nat) : Int) := by omega
        obtain ⟨q, ys, h, rfl, hv, k1, k2⟩ := kids_at h0 ek
        have hv4 := sq_same s4 hv
        have hlw := ht.len
        refine ⟨_, rfl, rIx_at hv4 (atI_nat (xs := V.str h :: ys) (j := 0) rfl) ⟨rfl, _, rfl, ite2 (fun c => ?_) (fun c => ?_)⟩⟩
        · obtain ⟨y0, l1, l2, xs1, xs2, rfl, q1, q2, d1, d2⟩ := k1 (V.str.inj (of_decide_eq_true c))
          have hx1 := d1.len
          have hx2 := d2.len
          refine ⟨_, rfl, Or.inl ⟨rfl, _, SqL.of h4⟩, _, rfl, rIx_at hv4 (atI_nat (xs := [V.str h, y0, V.ref l1, V.ref l2]) (j := 3) rfl) ⟨l2, xs2, rfl, s4.seq q2, fun p5 hp5 => ?_⟩⟩
          have n5 : p ≠ p5 := ne_of_none h4 hp5
          have s5 : Same H (upd H4 p5 (.lst xs2.reverse)) := s4.trans (same_new hp5)
          have h5 : (upd H4 p5 (.lst xs2.reverse)) p = some (.lst ws.reverse) := by rw [upd_ne n5]; exact h4
          have g5 : (upd H4 p5 (.lst xs2.reverse)) p5 = some (.lst xs2.reverse) := upd_same
          generalize upd H4 p5 (.lst xs2.reverse) = H5 at s5 h5 g5 ⊢
          refine ⟨p, p5, _, _, rfl, rfl, h5, g5, Nat.le_of_lt (small1000 (by rw [List.length_reverse, List.length_reverse]; omega)), ?_⟩
          have s6 : Same H (upd H5 p (.lst (ws.reverse ++ xs2.reverse))) := s5.fresh_upd np
          have h6 : (upd H5 p (.lst (ws.reverse ++ xs2.reverse))) p = some (.lst (ws.reverse ++ xs2.reverse)) := upd_same
          generalize upd H5 p (.lst (ws.reverse ++ xs2.reverse)) = H6 at s6 h6 ⊢
          have hv6 := sq_same s6 hv
          refine ⟨_, rfl, Or.inl ⟨rfl, _, SqL.of h6⟩, _, rfl, rIx_at hv6 (atI_nat (xs := [V.str h, y0, V.ref l1, V.ref l2]) (j := 2) rfl) ⟨l1, xs1, rfl, s6.seq q1, fun p7 hp7 => ?_⟩⟩
          have n7 : p ≠ p7 := ne_of_none h6 hp7
          have s7 : Same H (upd H6 p7 (.lst xs1.reverse)) := s6.trans (same_new hp7)
          have h7 : (upd H6 p7 (.lst xs1.reverse)) p = some (.lst (ws.reverse ++ xs2.reverse)) := by rw [upd_ne n7]; exact h6
          have g7 : (upd H6 p7 (.lst xs1.reverse)) p7 = some (.lst xs1.reverse) := upd_same
          generalize upd H6 p7 (.lst xs1.reverse) = H7 at s7 h7 g7 ⊢
          refine ⟨p, p7, _, _, rfl, rfl, h7, g7, Nat.le_of_lt (small1000 (by rw [List.length_append, List.length_reverse, List.length_reverse, List.length_reverse]; omega)), ?_⟩
          refine ⟨xs1 ++ (xs2 ++ ws), _, j2, some (.ref q), DpAll.app d1 (DpAll.app d2 ht), ec, by omega, ?_, s7.fresh_upd np, by rw [← em]; rfl⟩
          rw [upd_same, List.reverse_append, List.reverse_append]
        · obtain ⟨rfl, rfl⟩ := k2 fun z => c (decide_eq_true (congrArg V.str z))
          exact ⟨ws, st, j2, some (.ref q), ht, ec, by omega, h4, s4, by rw [← em]; rfl⟩
end
end K17

set_option Elab.async false
set_option linter.all false
set_option maxRecDepth 100000
set_option maxHeartbeats 400000
namespace L2
open PySem PySem.Spec PyProof.Rows
mutual
/-- lists as tuples, at any depth -/
def tupD : PyData → PyData
  | .list ds => .tuple (tupAll ds)
  | .tuple ds => .tuple (tupAll ds)
  | .none => .none
  | .bool b => .bool b
  | .int z => .int z
  | .str z => .str z
  | .dict z => .dict z
def tupAll : List PyData → List PyData
  | [] => []
  | d :: ds => tupD d :: tupAll ds
end
mutual
def narrow : PyData → Bool
  | .list ds => decide (ds.length ≤ 900) && narrowAll ds
  | .tuple ds => decide (ds.length ≤ 900) && narrowAll ds
  | _ => true
def narrowAll : List PyData → Bool
  | [] => true
  | d :: ds => narrow d && narrowAll ds
end
mutual
/-- how deep rows stand in rows -/
def high : PyData → Nat
  | .list ds => highAll ds + 1
  | .tuple ds => highAll ds + 1
  | _ => 0
def highAll : List PyData → Nat
  | [] => 0
  | d :: ds => max (high d) (highAll ds)
end
mutual
/-- no lists in it -/
inductive NoL : PyData → Prop
  | none : NoL .none
  | bool (b : Bool) : NoL (.bool b)
  | int (z : Int) : NoL (.int z)
  | str (z : Str) : NoL (.str z)
  | tuple {ds : List PyData} : NoLs ds → NoL (.tuple ds)
  | dict (z : List (PyData × PyData)) : NoL (.dict z)
inductive NoLs : List PyData → Prop
  | nil : NoLs []
  | cons {d : PyData} {ds : List PyData} : NoL d → NoLs ds → NoLs (d :: ds)
end
mutual
theorem tup_noL : ∀ d : PyData, NoL (tupD d)
  | .list ds => .tuple (tup_noLs ds)
  | .tuple ds => .tuple (tup_noLs ds)
  | .none => .none
  | .bool b => .bool b
  | .int z => .int z
  | .str z => .str z
  | .dict z => .dict z
theorem tup_noLs : ∀ ds : List PyData, NoLs (tupAll ds)
  | [] => .nil
  | d :: ds => .cons (tup_noL d) (tup_noLs ds)
end
/-- a tuple outlives a change of a list -/
theorem seqT_upd {K : PySem.W.Frag} {H : Hp} {a D : Addr} {xs ys zs : List V} (h : SqT K H a xs) (hD : H D = some (.lst ys)) : SqT K (upd H D (.lst zs)) a xs := by
  rcases h with (h | ⟨ob, h⟩) | h
  · exact .inl (.inl (by rw [upd_ne (ne_of h hD (by intro e; cases e))]; exact h))
  · exact .inl (.inr ⟨ob, by rw [upd_ne (ne_of h hD (by intro e; cases e))]; exact h⟩)
  · exact .inr h
mutual
theorem Dp.updl {K : PySem.W.Frag} {H : Hp} {D : Addr} {ys zs : List V} (hD : H D = some (.lst ys)) : ∀ (d : PyData) (v : V), NoL d → Dp K H v d → Dp K (upd H D (.lst zs)) v d
  | .none, v, _, h => by cases h; exact .non
  | .bool _, v, _, h => by cases h; exact .bl _
  | .int _, v, _, h => by cases h; exact .int _
  | .str _, v, _, h => by cases h; exact .str _
  | .list _, v, n, _ => by cases n
  | .tuple ds, v, n, h => by
    cases n with
    | tuple n =>
      cases h with
      | tup h a => exact .tup (seqT_upd h hD) (DpAll.updl hD ds _ n a)
  | .dict _, v, _, h => by cases h
theorem DpAll.updl {K : PySem.W.Frag} {H : Hp} {D : Addr} {ys zs : List V} (hD : H D = some (.lst ys)) : ∀ (ds : List PyData) (vs : List V), NoLs ds → DpAll K H vs ds → DpAll K (upd H D (.lst zs)) vs ds
  | [], vs, _, h => by cases h; exact .nil
  | d :: ds, vs, n, h => by
    cases n with
    | cons n m =>
      cases h with
      | cons h a => exact .cons (Dp.updl hD d _ n h) (DpAll.updl hD ds _ m a)
end
theorem Dp.upd_lst {K : PySem.W.Frag} {H : Hp} {D : Addr} {ys zs : List V} (hD : H D = some (.lst ys)) {d : PyData} {v : V} (n : NoL d) (h : Dp K H v d) : Dp K (upd H D (.lst zs)) v d := Dp.updl hD d v n h
theorem DpAll.upd_lst {K : PySem.W.Frag} {H : Hp} {D : Addr} {ys zs : List V} (hD : H D = some (.lst ys)) {d : List PyData} {v : List V} (n : NoLs d) (h : DpAll K H v d) : DpAll K (upd H D (.lst zs)) v d := DpAll.updl hD d v n h
theorem tupAll_map : ∀ ds : List PyData, tupAll ds = ds.map tupD
  | [] => rfl
  | d :: ds => congrArg (tupD d :: ·) (tupAll_map ds)
theorem high_get : ∀ {ds : List PyData} {i : Nat} {d : PyData}, ds[i]? = some d → high d ≤ highAll ds
  | [], i, d, e => by cases e
  | x :: ds, 0, d, e => by
    cases e
    exact Nat.le_max_left _ _
  | x :: ds, i + 1, d, e => Nat.le_trans (high_get (ds := ds) (i := i) e) (Nat.le_max_right _ _)
theorem narrow_get : ∀ {ds : List PyData} {i : Nat} {d : PyData}, ds[i]? = some d → narrowAll ds = true → narrow d = true
  | [], i, d, e, _ => by cases e
  | x :: ds, i, d, e, h => by
    have h2 : (narrow x && narrowAll ds) = true := h
    rw [Bool.and_eq_true] at h2
    cases i with
    | zero =>
      obtain rfl : x = d := Option.some.inj e
      exact h2.1
    | succ i => exact narrow_get (ds := ds) (i := i) e h2.2
theorem rows_high {d : PyData} {ds : List PyData} (e : rowsD d = some ds) : high d = highAll ds + 1 ∧ tupD d = .tuple (tupAll ds) ∧ narrow d = (decide (ds.length ≤ 900) && narrowAll ds) := by
  cases d <;> cases e <;> exact ⟨rfl, rfl, rfl⟩
theorem tup_none {d : PyData} (e : rowsD d = none) : tupD d = d := by
  cases d <;> first | rfl | cases e
theorem Dp.kit_lt {K : PySem.W.Frag} {H : Hp} {v : V} {d : PyData} (h : Dp K H v d) : PySem.W.kitOne K (.type (tyN d)) (.type "dict") = some false := by
  cases h <;> dsimp only [tyN] <;> exact kit_ty (by decide +kernel)
end L2
namespace K17
open PySem PySem.Spec PyProof.Rows L2 Own
def spAsT (K : PySem.W.Frag) (n : Nat) : Sp := fun vs H Q _ => ∃ (v : V) (d : PyData), vs = [v] ∧ high d ≤ n ∧ narrow d = true ∧ Dp K H v d ∧ ∀ v' H', Same H H' → Dp K H' v' (tupD d) → Q v' H'
section
variable {P : Program} {w : World} {K : PySem.W.Frag} {mg : Str → Option Value} {base : Heap}
abbrev sAsT : Stmt := top 14
theorem scAsT : FnScope ["value", "part"] ["value"] (defScope sAsT) := ⟨rfl, rfl, rfl, by decide +kernel, rfl, by decide +kernel, by decide +kernel⟩
theorem ok_asT (T : Tx mg) {f : Addr} {fd : FuncData} (F : FnP K "as_tuples" "as_tuples" sAsT f fd) (mA : mg "as_tuples" = some (.ref f)) (kA : PySem.W.keepIn K (.ref f) = true) (bA : Binds K fd ["value"] []) :
    ∀ n, FnOk P w K mg base CX0 (1 + n) f fd ["value"] (spAsT K n) := by
  have key : ∀ n, (∀ m, m + 1 = n → FnOk P w K mg base CX0 (1 + m) f fd ["value"] (spAsT K m)) → FnOk P w K mg base CX0 (n + 1) f fd ["value"] (spAsT K n) := by
    intro n ih
    refine F.ok scAsT (fun vs H Q E h => ?_) (fun cdv A outer s H vs Q E hr h => ?_)
    · obtain ⟨v, d, rfl, _⟩ := h
      rfl
    · obtain ⟨v, d, rfl, hh, hw, hd, k⟩ := h
      cases er : rowsD d with
      | none =>
        refine ⟨_, PSs.nox (pss_cons (ps_if (pt_val (pe_callB call_isiT (by rfl) T.isinstance (by decide +kernel) (pa_cons (pv 0) (pa_cons (pe_tup (pa_cons (pe_bltn (v := .ty "list") (by rfl) T.list (by decide +kernel) rfl) (pa_cons (pe_bltn (v := .ty "tuple") (by rfl) T.tuple (by decide +kernel) rfl) pa_nil))) pa_nil)))) (pss_one ps_never) pss_nil)
          (pss_cons (ps_if (pt_val (pe_callB call_isi (by rfl) T.isinstance (by decide +kernel) (pa_cons (pv 0) (pa_cons (pe_bltn (v := .ty "dict") (by rfl) T.dict (by decide +kernel) rfl) pa_nil)))) (pss_one ps_never) pss_nil)
          (pss_one (ps_ret (pv 0))))), ?_⟩
        refine ⟨_, rfl, (by show 2 ≤ sizeLine; decide), fun p hp => ?_⟩
        have s1 : Same H (upd H p (.tup [.ty "list", .ty "tuple"])) := same_new hp
        refine ⟨_, p, _, _, _, _, rfl, upd_same, .cons (ClsV.ty _) (.cons (ClsV.ty _) .nil), (Dp.same s1 hd).ty, hd.kit_row, _, rfl, ?_⟩
        rw [er]
        refine iteF ⟨_, rfl, _, _, _, _, _, rfl, ClsV.ty _, (Dp.same s1 hd).ty, hd.kit_lt, _, rfl, iteF ⟨_, rfl, ?_⟩⟩
        exact k _ _ s1 (by rw [tup_none er]; exact Dp.same s1 hd)
      | some ds =>
        obtain ⟨eh, et, en⟩ := rows_high er
        obtain ⟨m, rfl⟩ : ∃ m, n = m + 1 := ⟨n - 1, by omega⟩
        have GA := ih m rfl
        have hrA : Room (1 + m) _ := hr.mono (by omega)
        rw [en, Bool.and_eq_true, decide_eq_true_eq] at hw
        refine ⟨_, PSs.nox (pss_cons (ps_if (pt_val (pe_callB call_isiT (by rfl) T.isinstance (by decide +kernel) (pa_cons (pv 0) (pa_cons (pe_tup (pa_cons (pe_bltn (v := .ty "list") (by rfl) T.list (by decide +kernel) rfl) (pa_cons (pe_bltn (v := .ty "tuple") (by rfl) T.tuple (by decide +kernel) rfl) pa_nil))) pa_nil))))
            (pss_one (ps_ret (pe_callTy call_tuple_of (by rfl) T.tuple (by decide +kernel) (pa_cons
              (pe_way (pe_lc (own := [("part", 1)]) (g := gName 1) (tt := tYes) (by rfl) scAsT.nd (pi_list (pv 0)) (blkOk_by (own := [("part", 1)]) (N := ["value", "part"]) (sc := defScope sAsT) (by decide +kernel)) (fun _ _ _ _ _ => pg_name (i := 1) scAsT.nd rfl (Or.inl rfl)) (fun _ _ _ _ _ => pts_nil)
                  (fun _ _ _ _ _ => pe_call GA hrA (by rfl) mA kA bA .nil pass0 (pa_cons (pv 1) pa_nil)))
                (pe_lc (own := [("part", 1)]) (g := gName 1) (tt := tYes) (by rfl) scAsT.nd (pi_tup (pv 0)) (blkOk_by (own := [("part", 1)]) (N := ["value", "part"]) (sc := defScope sAsT) (by decide +kernel)) (fun _ _ _ _ _ => pg_name (i := 1) scAsT.nd rfl (Or.inl rfl)) (fun _ _ _ _ _ => pts_nil)
                  (fun _ _ _ _ _ => pe_call GA hrA (by rfl) mA kA bA .nil pass0 (pa_cons (pv 1) pa_nil)))) pa_nil)))) pss_nil)
          (pss_cons ps_never (pss_one ps_never))), ?_⟩
        refine ⟨_, rfl, (by show 2 ≤ sizeLine; decide), fun p hp => ?_⟩
        have s1 : Same H (upd H p (.tup [.ty "list", .ty "tuple"])) := same_new hp
        refine ⟨_, p, _, _, _, _, rfl, upd_same, .cons (ClsV.ty _) (.cons (ClsV.ty _) .nil), (Dp.same s1 hd).ty, hd.kit_row, _, rfl, ?_⟩
        rw [er]
        refine iteT ?_
        have hd1 := Dp.same s1 hd
        generalize upd H p (.tup [.ty "list", .ty "tuple"]) = H1 at s1 hd1 ⊢
        obtain ⟨a, xs, rfl, hq, ha⟩ := hd1.rows er
        rcases hq with hq | hq
        · refine Or.inl ⟨_, rfl, a, rfl, ⟨xs, hq⟩, fun D hD => ?_⟩
          refine lc_list (K := K) (a := a) (xs := xs) (fun j H' => (∃ us, H' D = some (.lst us) ∧ DpAll K H' us (tupAll (ds.take j))) ∧ Same H1 H') ⟨⟨[], upd_same, .nil⟩, same_new hD⟩ (fun i H' _ g => Same.seq g.2 hq) ?_ ?_
          · rintro i x H' ex ⟨⟨us, g1, g0⟩, g2⟩
            obtain ⟨di, edi, hdi⟩ := ha.get ex
            have hh2 := high_get edi
            refine ⟨rfl, ?_⟩
            refine ⟨_, rfl, x, di, rfl, by omega, narrow_get edi hw.2, Dp.same g2 hdi, fun y H3 s3 hy => ?_⟩
            have g3 := s3 _ _ g1
            have e0 := (DpAll.same s3 g0).len
            rw [tupAll_map, List.length_map, List.length_take] at e0
            refine ⟨_, g3, small1000 (by omega), ⟨us ++ [y], upd_same, ?_⟩, ?_⟩
            · rw [List.take_succ, edi, tupAll_map, List.map_append, ← tupAll_map]
              exact DpAll.app (DpAll.upd_lst g3 (tup_noLs _) (DpAll.same s3 g0)) (.cons (Dp.upd_lst g3 (tup_noL _) hy) .nil)
            · exact (g2.trans s3).fresh_upd hD
          · rintro H' ⟨⟨us, g1, g0⟩, g2⟩
            rw [ha.len, List.take_length] at g0
            refine ⟨D, us, rfl, Or.inl ⟨SqL.of g1, fun r hr' => ?_⟩⟩
            exact k _ _ (s1.trans (g2.trans (same_new hr'))) (by rw [et]; exact .tup (SqT.of upd_same) (DpAll.same (same_new hr') g0))
        · refine Or.inr ⟨_, rfl, a, rfl, ⟨xs, hq⟩, fun D hD => ?_⟩
          refine lc_tup (K := K) (a := a) (xs := xs) (fun j H' => (∃ us, H' D = some (.lst us) ∧ DpAll K H' us (tupAll (ds.take j))) ∧ Same H1 H') ⟨⟨[], upd_same, .nil⟩, same_new hD⟩ (fun i H' _ g => seqT_same g.2 hq) ?_ ?_
          · rintro i x H' ex ⟨⟨us, g1, g0⟩, g2⟩
            obtain ⟨di, edi, hdi⟩ := ha.get ex
            have hh2 := high_get edi
            refine ⟨rfl, ?_⟩
            refine ⟨_, rfl, x, di, rfl, by omega, narrow_get edi hw.2, Dp.same g2 hdi, fun y H3 s3 hy => ?_⟩
            have g3 := s3 _ _ g1
            have e0 := (DpAll.same s3 g0).len
            rw [tupAll_map, List.length_map, List.length_take] at e0
            refine ⟨_, g3, small1000 (by omega), ⟨us ++ [y], upd_same, ?_⟩, ?_⟩
            · rw [List.take_succ, edi, tupAll_map, List.map_append, ← tupAll_map]
              exact DpAll.app (DpAll.upd_lst g3 (tup_noLs _) (DpAll.same s3 g0)) (.cons (Dp.upd_lst g3 (tup_noL _) hy) .nil)
            · exact (g2.trans s3).fresh_upd hD
          · rintro H' ⟨⟨us, g1, g0⟩, g2⟩
            rw [ha.len, List.take_length] at g0
            refine ⟨D, us, rfl, Or.inl ⟨SqL.of g1, fun r hr' => ?_⟩⟩
            exact k _ _ (s1.trans (g2.trans (same_new hr'))) (by rw [et]; exact .tup (SqT.of upd_same) (DpAll.same (same_new hr') g0))
  intro n
  induction n with
  | zero => exact key 0 fun m e => by omega
  | succ n ih =>
    have e0 : (n + 1) + 1 = 1 + (n + 1) := by omega
    exact e0 ▸ key (n + 1) fun m e => (show n = m by omega) ▸ ih
end
end K17

set_option Elab.async false
set_option linter.all false
set_option maxRecDepth 100000
set_option maxHeartbeats 400000
namespace L2
open PySem PySem.Spec PyProof.Rows
mutual
theorem Dp.mono {K : PySem.W.Frag} {H H' : Hp} (hl : ∀ a xs, SqL K H a xs → SqL K H' a xs) (ht : ∀ a xs, SqT K H a xs → SqT K H' a xs) : ∀ (d : PyData) (v : V), Dp K H v d → Dp K H' v d
  | .none, v, h => by cases h; exact .non
  | .bool _, v, h => by cases h; exact .bl _
  | .int _, v, h => by cases h; exact .int _
  | .str _, v, h => by cases h; exact .str _
  | .list ds, v, h => by
    cases h with
    | lst h a => exact .lst (hl _ _ h) (DpAll.mono hl ht ds _ a)
  | .tuple ds, v, h => by
    cases h with
    | tup h a => exact .tup (ht _ _ h) (DpAll.mono hl ht ds _ a)
  | .dict _, v, h => by cases h
theorem DpAll.mono {K : PySem.W.Frag} {H H' : Hp} (hl : ∀ a xs, SqL K H a xs → SqL K H' a xs) (ht : ∀ a xs, SqT K H a xs → SqT K H' a xs) : ∀ (ds : List PyData) (vs : List V), DpAll K H vs ds → DpAll K H' vs ds
  | [], vs, h => by cases h; exact .nil
  | d :: ds, vs, h => by
    cases h with
    | cons h a => exact .cons (Dp.mono hl ht d _ h) (DpAll.mono hl ht ds _ a)
end
/-- rows stay where they are when something else changes -/
theorem seqL_but {K : PySem.W.Frag} {H H' : Hp} {p a : Addr} {o : HO} {xs : List V} (b : K17.But p H H') (hp : H p = some o) (ho : ∀ ys, o ≠ .lst ys) (ho2 : ∀ ob u, o ≠ .frz ob u) (h : SqL K H a xs) : SqL K H' a xs := by
  rcases h with (h | ⟨ob, h⟩) | h
  · exact .inl (.inl (b _ _ h (ne_of h hp fun e => ho _ e.symm)))
  · exact .inl (.inr ⟨ob, b _ _ h (ne_of h hp fun e => ho2 _ _ e.symm)⟩)
  · exact .inr h
theorem seqT_but {K : PySem.W.Frag} {H H' : Hp} {p a : Addr} {o : HO} {xs : List V} (b : K17.But p H H') (hp : H p = some o) (ho : ∀ ys, o ≠ .tup ys) (ho2 : ∀ ob u, o ≠ .frz ob u) (h : SqT K H a xs) : SqT K H' a xs := by
  rcases h with (h | ⟨ob, h⟩) | h
  · exact .inl (.inl (b _ _ h (ne_of h hp fun e => ho _ e.symm)))
  · exact .inl (.inr ⟨ob, b _ _ h (ne_of h hp fun e => ho2 _ _ e.symm)⟩)
  · exact .inr h
theorem Dp.but_ins {K : PySem.W.Frag} {H H' : Hp} {p C dx : Addr} {fs : List (Str × V)} (b : K17.But p H H') (hp : H p = some (.ins C dx fs)) {d : PyData} {v : V} (h : Dp K H v d) : Dp K H' v d :=
  Dp.mono (fun _ _ => seqL_but b hp (fun _ e => by cases e) (fun _ _ e => by cases e)) (fun _ _ => seqT_but b hp (fun _ e => by cases e) (fun _ _ e => by cases e)) d v h
theorem DpAll.but_ins {K : PySem.W.Frag} {H H' : Hp} {p C dx : Addr} {fs : List (Str × V)} (b : K17.But p H H') (hp : H p = some (.ins C dx fs)) {d : List PyData} {v : List V} (h : DpAll K H v d) : DpAll K H' v d :=
  DpAll.mono (fun _ _ => seqL_but b hp (fun _ e => by cases e) (fun _ _ e => by cases e)) (fun _ _ => seqT_but b hp (fun _ e => by cases e) (fun _ _ e => by cases e)) d v h
end L2
namespace K17
open PySem PySem.Spec PyProof.Rows L2 Own
theorem kD1 : ¬ (("down" : Str) = "turn") := by decide +kernel
theorem kD2 : ¬ (("down" : Str) = "up") := by decide +kernel
theorem kD3 : ¬ (("turn" : Str) = "up") := by decide +kernel
def rfl3 (a b c : V) : List (Str × V) := putF "up" c (putF "turn" b (putF "down" a []))
theorem rfl3_down (a b c : V) : (rfl3 a b c).lookup ("down" : Str) = some a := by
  unfold rfl3
  rw [lookup_putF, if_neg kD2, lookup_putF, if_neg kD1, lookup_putF, if_pos rfl]
theorem rfl3_turn (a b c : V) : (rfl3 a b c).lookup ("turn" : Str) = some b := by
  unfold rfl3
  rw [lookup_putF, if_neg kD3, lookup_putF, if_pos rfl]
theorem rfl3_up (a b c : V) : (rfl3 a b c).lookup ("up" : Str) = some c := by
  unfold rfl3
  rw [lookup_putF, if_pos rfl]
structure RoutAt (K : PySem.W.Frag) (C : Addr) (H : Hp) (x : Addr) (d t u : List PyData) : Prop where
  ex : ∃ dx a b c, H x = some (.ins C dx (rfl3 a b c)) ∧ Dp K H a (tupD (.list d)) ∧ Dp K H b (tupD (.list t)) ∧ Dp K H c (tupD (.list u))
theorem RoutAt.same {K : PySem.W.Frag} {C : Addr} {H H' : Hp} {x : Addr} {d t u : List PyData} (h : RoutAt K C H x d t u) (s : Same H H') : RoutAt K C H' x d t u := by
  obtain ⟨dx, a, b, c, h1, h2, h3, h4⟩ := h.ex
  exact ⟨dx, a, b, c, s _ _ h1, Dp.same s h2, Dp.same s h3, Dp.same s h4⟩
/-- blocks that Routine takes -/
structure Good (d t u : List PyData) : Prop where
  ex : ∃ m k1 k2 k3, cnt "down" m d = some k1 ∧ cnt "turn" m t = some k2 ∧ cnt "up" m u = some k3 ∧ k1 + k2 + k3 ≤ 40
  h1 : high (.list d) ≤ 20
  h2 : high (.list t) ≤ 20
  h3 : high (.list u) ≤ 20
  n1 : narrow (.list d) = true
  n2 : narrow (.list t) = true
  n3 : narrow (.list u) = true
def LstAt (K : PySem.W.Frag) (H : Hp) (a : Addr) (d : List PyData) : Prop := ∃ xs, SqL K H a xs ∧ DpAll K H xs d
theorem LstAt.same {K : PySem.W.Frag} {H H' : Hp} {a : Addr} {d : List PyData} (h : LstAt K H a d) (s : Same H H') : LstAt K H' a d := by
  obtain ⟨xs, h1, h2⟩ := h
  exact ⟨xs, s.seq h1, DpAll.same s h2⟩
theorem LstAt.dp {K : PySem.W.Frag} {H : Hp} {a : Addr} {d : List PyData} (h : LstAt K H a d) : Dp K H (.ref a) (.list d) := by
  obtain ⟨xs, h1, h2⟩ := h
  exact .lst h1 h2
structure TxR (K : PySem.W.Frag) (mg : Str → Option Value) (C fI : Addr) : Prop where
  cl : Cls K C
  n1 : NoAttr K C "down"
  n2 : NoAttr K C "turn"
  n3 : NoAttr K C "up"
  mgC : mg "Routine" = some (.ref C)
  mk_ : Mk K C fI
def spRInit (K : PySem.W.Frag) (C : Addr) : Sp := fun vs H Q _ => ∃ (p dx a b c : Addr) (d t u : List PyData), vs = [.ref p, .ref a, .ref b, .ref c] ∧ H p = some (.ins C dx []) ∧ LstAt K H a d ∧ LstAt K H b t ∧ LstAt K H c u ∧ Good d t u ∧
  ∀ (H' : Hp), But p H H' → RoutAt K C H' p d t u → Q .non H'
def spRout (K : PySem.W.Frag) (C : Addr) : Sp := fun vs H Q _ => ∃ (q : Addr) (d t u : List PyData), vs = [.ref q] ∧ Dp K H (.ref q) (.tuple [.list d, .list t, .list u]) ∧ Good d t u ∧
  ∀ (H' : Hp) (x : Addr), Same H H' → RoutAt K C H' x d t u → Q (.ref x) H'
section
variable {P : Program} {w : World} {K : PySem.W.Frag} {mg : Str → Option Value} {base : Heap}
abbrev sRInit : Stmt := inClass (top 53) 0
abbrev sRout : Stmt := top 71
theorem scRInit : FnScope ["self", "down", "turn", "up", "many"] ["self", "down", "turn", "up"] (defScope sRInit) := ⟨rfl, rfl, rfl, by decide +kernel, rfl, by decide +kernel, by decide +kernel⟩
theorem scRout : FnScope ["_law_blocks"] ["_law_blocks"] (defScope sRout) := ⟨rfl, rfl, rfl, by decide +kernel, rfl, by decide +kernel, by decide +kernel⟩
theorem ok_rinit {f C fI : Addr} {fd : FuncData} (F : FnP K "__init__" "Routine.__init__" sRInit f fd) (Y : Ty K w mg) (R : TxR K mg C fI) (cC : Cl P w K mg base 12 "count_statements" ["name", "block"] (spCount K)) (cA : Cl P w K mg base 21 "as_tuples" ["value"] (spAsT K 20)) : FnOk P w K mg base CX0 22 f fd ["self", "down", "turn", "up"] (spRInit K C) := by
  obtain ⟨fC, fdC, GC, mC, kC, bC⟩ := cC.ex
  obtain ⟨fA, fdA, GA, mA, kA, bA⟩ := cA.ex
  obtain ⟨tM, mM⟩ := Y.most
  refine F.ok scRInit (fun vs H Q E h => ?_) (fun cdv A outer s H vs Q E hr h => ?_)
  · obtain ⟨p, dx, a, b, c, d, t, u, rfl, _⟩ := h
    rfl
  · obtain ⟨p, dx, a, b, c, d, t, u, rfl, hp, hA, hB, hC, hG, k⟩ := h
    have hrC : Room 12 _ := hr.mono (by omega)
    obtain ⟨m, k1, k2, k3, e1, e2, e3, hk⟩ := hG.ex
    refine ⟨_, PSs.nox (pss_cons (ps_set (i := 4) scRInit.nd rfl (Or.inl rfl) (pe_op op_add (pe_op op_add (pe_call GC hrC (by rfl) mC kC bC .nil pass0 (pa_cons pe_str (pa_cons (pv 1) pa_nil))) (pe_call GC hrC (by rfl) mC kC bC .nil pass0 (pa_cons pe_str (pa_cons (pv 2) pa_nil))))
        (pe_call GC hrC (by rfl) mC kC bC .nil pass0 (pa_cons pe_str (pa_cons (pv 3) pa_nil)))))
      (pss_cons (ps_if (pt_cmpR op_gt (pv 4) (pe_glob (v := .int 40) (by rfl) mM ⟨tM, rfl⟩) (nomark _)) (pss_one ps_never) pss_nil)
      (pss_cons (ps_fld (pv 0) (pe_call GA hr (by rfl) mA kA bA .nil pass0 (pa_cons (pv 1) pa_nil)) rfl)
      (pss_cons (ps_fld (pv 0) (pe_call GA hr (by rfl) mA kA bA .nil pass0 (pa_cons (pv 2) pa_nil)) rfl)
      (pss_one (ps_fld (pv 0) (pe_call GA hr (by rfl) mA kA bA .nil pass0 (pa_cons (pv 3) pa_nil)) rfl)))))), ?_⟩
    obtain ⟨xa, qa, da⟩ := id hA
    obtain ⟨xb, qb, db⟩ := id hB
    obtain ⟨xc, qc, dc⟩ := id hC
    refine ⟨_, rfl, a, xa, "down", d, m, k1, rfl, Or.inl rfl, qa, da, e1, by omega, fun H1 s1 => ?_⟩
    refine ⟨_, rfl, b, xb, "turn", t, m, k2, rfl, Or.inr (Or.inl rfl), s1.seq qb, DpAll.same s1 db, e2, by omega, fun H2 s2 => ⟨_, _, rfl, rfl, ?_⟩⟩
    have s12 := s1.trans s2
    refine ⟨_, rfl, c, xc, "up", u, m, k3, rfl, Or.inr (Or.inr rfl), s12.seq qc, DpAll.same s12 dc, e3, by omega, fun H3 s3 => ⟨_, _, rfl, rfl, ?_⟩⟩
    have s13 := s12.trans s3
    refine ⟨_, rfl, _, _, rfl, rfl, _, rfl, ite2 (fun z => absurd (of_decide_eq_true z) (by omega)) (fun _ => ?_)⟩
    refine ⟨_, rfl, .ref a, _, rfl, hG.h1, hG.n1, (hA.same s13).dp, fun v1 H4 s4 w1 => ?_⟩
    have s14 := s13.trans s4
    refine ⟨_, rfl, p, C, dx, _, rfl, s14 _ _ hp, R.cl, R.n1, (by show 0 < 1000; decide), ?_⟩
    have b5 : But p H4 (upd H4 p (.ins C dx (putF "down" v1 []))) := but_upd _ _ _
    have hb5 := (Same.but s14 p).trans b5
    have w15 := Dp.but_ins b5 (s14 _ _ hp) w1
    have h5 : (upd H4 p (.ins C dx (putF "down" v1 []))) p = some (.ins C dx (putF "down" v1 [])) := upd_same
    generalize upd H4 p (.ins C dx (putF "down" v1 [])) = H5 at b5 hb5 w15 h5 ⊢
    refine ⟨_, rfl, .ref b, _, rfl, hG.h2, hG.n2, Dp.but_ins hb5 hp hB.dp, fun v2 H6 s6 w2 => ?_⟩
    refine ⟨_, rfl, p, C, dx, _, rfl, s6 _ _ h5, R.cl, R.n2, (by show 1 < 1000; decide), ?_⟩
    have b7 : But p H6 (upd H6 p (.ins C dx (putF "turn" v2 (putF "down" v1 [])))) := but_upd _ _ _
    have hb7 := (hb5.trans (Same.but s6 p)).trans b7
    have w27 := Dp.but_ins b7 (s6 _ _ h5) w2
    have w17 := Dp.but_ins b7 (s6 _ _ h5) (Dp.same s6 w15)
    have h7 : (upd H6 p (.ins C dx (putF "turn" v2 (putF "down" v1 [])))) p = some (.ins C dx (putF "turn" v2 (putF "down" v1 []))) := upd_same
    generalize upd H6 p (.ins C dx (putF "turn" v2 (putF "down" v1 []))) = H7 at b7 hb7 w27 w17 h7 ⊢
    refine ⟨_, rfl, .ref c, _, rfl, hG.h3, hG.n3, Dp.but_ins hb7 hp hC.dp, fun v3 H8 s8 w3 => ?_⟩
    refine ⟨_, rfl, p, C, dx, _, rfl, s8 _ _ h7, R.cl, R.n3, (by show 2 < 1000; decide), ?_⟩
    have b9 : But p H8 (upd H8 p (.ins C dx (rfl3 v1 v2 v3))) := but_upd _ _ _
    exact k _ ((hb7.trans (Same.but s8 p)).trans b9) ⟨dx, v1, v2, v3, upd_same, Dp.but_ins b9 (s8 _ _ h7) (Dp.same s8 w17), Dp.but_ins b9 (s8 _ _ h7) (Dp.same s8 w27), Dp.but_ins b9 (s8 _ _ h7) w3⟩
end
end K17

set_option Elab.async false
set_option linter.all false
set_option maxRecDepth 100000
set_option maxHeartbeats 400000
namespace L2
open PySem PySem.Spec PyProof.Rows
/-- names that hold data -/
def EnvAt (K : PySem.W.Frag) (H : Hp) (σ : L2.St) (Γ : List (Nat × PyData)) : Prop := ∀ q ∈ Γ, ∃ v, σ[q.1]? = some (some v) ∧ Dp K H v q.2
/-- an expression that makes a datum, whatever stands around -/
def DE (K : PySem.W.Frag) (Γ : List (Nat × PyData)) (te : TE) (d : PyData) : Prop := ∀ (σ : L2.St) (H : Hp) (Q : VK), EnvAt K H σ Γ → (∀ v H', Same H H' → Dp K H' v d → Q v H') → te σ H Q
def DA (K : PySem.W.Frag) (Γ : List (Nat × PyData)) (ta : TA) (ds : List PyData) : Prop := ∀ (σ : L2.St) (H : Hp) (Q : List V → Hp → Prop), EnvAt K H σ Γ → (∀ vs H', Same H H' → DpAll K H' vs ds → Q vs H') → ta σ H Q
section
variable {K : PySem.W.Frag} {Γ : List (Nat × PyData)} {te : TE} {ta : TA} {d : PyData} {ds : List PyData} {H H' : Hp} {σ : L2.St}
theorem EnvAt.nil : EnvAt K H σ [] := fun q h => by cases h
theorem EnvAt.same (e : EnvAt K H σ Γ) (s : Same H H') : EnvAt K H' σ Γ := fun q h => by
  obtain ⟨v, e1, e2⟩ := e q h
  exact ⟨v, e1, Dp.same s e2⟩
theorem EnvAt.put {i : Nat} {v : V} (e : EnvAt K H σ Γ) (s : Same H H') (hv : Dp K H' v d) (hl : decide (i < σ.length) = true) (hn : (Γ.all fun q => q.1 != i) = true) : EnvAt K H' (σ.set i (some v)) ((i, d) :: Γ) := fun q h => by
  rcases List.mem_cons.mp h with rfl | h
  · refine ⟨v, ?_, hv⟩
    rw [List.getElem?_set_self (of_decide_eq_true hl)]
  · obtain ⟨u, e1, e2⟩ := e q h
    refine ⟨u, ?_, Dp.same s e2⟩
    have := List.all_eq_true.mp hn q h
    rw [List.getElem?_set_ne (fun z => by rw [z] at this; simp at this)]
    exact e1
theorem EnvAt.ref {i : Nat} {x : V} (e : EnvAt K H σ Γ) (hn : (Γ.all fun q => q.1 != i) = true) : EnvAt K H (σ.set i (some x)) Γ := fun q h => by
  obtain ⟨u, e1, e2⟩ := e q h
  refine ⟨u, ?_, e2⟩
  have := List.all_eq_true.mp hn q h
  rw [List.getElem?_set_ne (fun z => by rw [z] at this; simp at this)]
  exact e1
theorem Dp.but_dK {p : Addr} (b : K17.But p H H') (hp : ∃ kvs, H p = some (.dK kvs)) {d : PyData} {v : V} (h : Dp K H v d) : Dp K H' v d :=
  hp.elim fun _ hp => Dp.mono (fun _ _ => seqL_but b hp (fun _ e => by cases e) (fun _ _ e => by cases e)) (fun _ _ => seqT_but b hp (fun _ e => by cases e) (fun _ _ e => by cases e)) d v h
theorem DpAll.but_dK {p : Addr} (b : K17.But p H H') (hp : ∃ kvs, H p = some (.dK kvs)) {d : List PyData} {v : List V} (h : DpAll K H v d) : DpAll K H' v d :=
  hp.elim fun _ hp => DpAll.mono (fun _ _ => seqL_but b hp (fun _ e => by cases e) (fun _ _ e => by cases e)) (fun _ _ => seqT_but b hp (fun _ e => by cases e) (fun _ _ e => by cases e)) d v h
theorem EnvAt.but_dK {p : Addr} (e : EnvAt K H σ Γ) (b : K17.But p H H') (hp : ∃ kvs, H p = some (.dK kvs)) : EnvAt K H' σ Γ := fun q h => by
  obtain ⟨v, e1, e2⟩ := e q h
  exact ⟨v, e1, Dp.but_dK b hp e2⟩
theorem Same.but_fresh {H0 : Hp} {p : Addr} (s : Same H0 H) (b : K17.But p H H') (n : H0 p = none) : Same H0 H' := fun c o e => b c o (s c o e) (ne_of_none e n)
theorem DE.str {x : Str} : DE K Γ (tC (.str x)) (.str x) := fun σ H Q _ q => q _ _ (Same.refl H) (.str x)
theorem DE.int {x : Int} : DE K Γ (tC (.int x)) (.int x) := fun σ H Q _ q => q _ _ (Same.refl H) (.int x)
theorem DE.bl {x : Bool} : DE K Γ (tC (.bl x)) (.bool x) := fun σ H Q _ q => q _ _ (Same.refl H) (.bl x)
theorem DE.var {i : Nat} (h : (i, d) ∈ Γ) : DE K Γ (tVar i) d := fun σ H Q e q => by
  obtain ⟨v, e1, e2⟩ := e _ h
  exact ⟨v, e1, q _ _ (Same.refl H) e2⟩
theorem DA.nil : DA K Γ tNil [] := fun σ H Q _ q => q _ _ (Same.refl H) .nil
theorem DA.cons (h1 : DE K Γ te d) (h2 : DA K Γ ta ds) : DA K Γ (tCons te ta) (d :: ds) := fun σ H Q e q =>
  h1 σ H _ e fun v H1 s1 d1 => h2 σ H1 _ (e.same s1) fun vs H2 s2 d2 => q _ _ (s1.trans s2) (.cons (Dp.same s2 d1) d2)
theorem DE.tup (h : DA K Γ ta ds) (hl : decide (ds.length ≤ 1000) = true := by rfl) : DE K Γ (tTup ta) (.tuple ds) := fun σ H Q e q =>
  h σ H _ e fun vs H1 s1 d1 => ⟨Nat.le_of_lt (small1000 (by rw [d1.len]; exact of_decide_eq_true hl)), fun p hp => q _ _ (s1.trans (K17.same_new hp)) (.tup (SqT.of upd_same) (DpAll.same (K17.same_new hp) d1))⟩
theorem DE.lst (h : DA K Γ ta ds) (hl : decide (ds.length ≤ 1000) = true := by rfl) : DE K Γ (tLst ta) (.list ds) := fun σ H Q e q =>
  h σ H _ e fun vs H1 s1 d1 => ⟨Nat.le_of_lt (small1000 (by rw [d1.len]; exact of_decide_eq_true hl)), fun p hp => q _ _ (s1.trans (K17.same_new hp)) (.lst (SqL.of upd_same) (DpAll.same (K17.same_new hp) d1))⟩
theorem DE.asg {g : TG} {rest : TS} {D : Ends} (h : DE K Γ te d) (e : EnvAt K H σ Γ) (q : ∀ v H', Same H H' → Dp K H' v d → g v σ H' (rest D)) : tSeq (tAsg te g) rest D σ H := h σ H _ e q
theorem DA.par {i j : Nat} {rest : TS} {D : Ends} (h : DA K Γ ta ds) (e : EnvAt K H σ Γ) (q : ∀ vs H', Same H H' → DpAll K H' vs ds → ∃ v w, vs = [v, w] ∧ rest D ((σ.set i (some v)).set j (some w)) H') : tSeq (tPar i j ta) rest D σ H := h σ H _ e q
theorem DE.dput {td ty : TE} {rest : TS} {D : Ends} (h : DE K Γ te d) (e : EnvAt K H σ Γ) (q : ∀ v H', Same H H' → Dp K H' v d → td σ H' fun x H2 => ty σ H2 fun y H3 => ∃ a H4, x = .ref a ∧ DPut H3 a y v H4 ∧ rest D σ H4) : tSeq (sDPut td ty te) rest D σ H := h σ H _ e q
theorem DE.pair {k : Str} {trs : List (TE × TE)} {Q : List (V × V) → Hp → Prop} (h : DE K Γ te d) (e : EnvAt K H σ Γ) (q : ∀ v H', Same H H' → Dp K H' v d → tPairs trs σ H' fun ps H2 => Q ((.str k, v) :: ps) H2) : tPairs ((tC (.str k), te) :: trs) σ H Q := h σ H _ e q
theorem DpAll.two {a b : PyData} {vs : List V} (h : DpAll K H vs [a, b]) : ∃ x y, vs = [x, y] ∧ Dp K H x a ∧ Dp K H y b := by
  cases h with
  | cons h0 ht =>
    cases ht with
    | cons h1 ht =>
      cases ht
      exact ⟨_, _, rfl, h0, h1⟩
theorem DpAll.three3 {a b c : PyData} {vs : List V} (h : DpAll K H vs [a, b, c]) : ∃ x y z, vs = [x, y, z] ∧ Dp K H x a ∧ Dp K H y b ∧ Dp K H z c := by
  cases h with
  | cons h0 ht =>
    obtain ⟨y, z, rfl, h1, h2⟩ := ht.two
    exact ⟨_, _, _, rfl, h0, h1, h2⟩
theorem Dp.pair {a b : PyData} {v : V} (h : Dp K H v (.tuple [a, b])) : ∃ p x y, v = .ref p ∧ SqT K H p [x, y] ∧ Dp K H x a ∧ Dp K H y b := by
  cases h with
  | tup h t =>
    obtain ⟨x, y, rfl, h1, h2⟩ := t.two
    exact ⟨_, _, _, rfl, h, h1, h2⟩
theorem Dp.trip {a b c : PyData} {v : V} (h : Dp K H v (.tuple [a, b, c])) : ∃ p x y z, v = .ref p ∧ SqT K H p [x, y, z] ∧ Dp K H x a ∧ Dp K H y b ∧ Dp K H z c := by
  cases h with
  | tup h t =>
    obtain ⟨x, y, z, rfl, h1, h2, h3⟩ := t.three3
    exact ⟨_, _, _, _, rfl, h, h1, h2, h3⟩
theorem merge2 {a b : Key} {x y : V} (h : ¬ a = b) : mergeK [] [(a, x), (b, y)] = [(a, x), (b, y)] := by
  simp [mergeK, putK, h]
/-- a dict of data by texts -/
structure DctD (K : PySem.W.Frag) (H : Hp) (D : Addr) (l : List (Str × PyData)) : Prop where
  ex : ∃ kvs : List (Key × V), H D = some (.dK kvs) ∧ kvs.map (·.1) = l.map (fun q => Sum.inr q.1) ∧ DpAll K H (kvs.map (·.2)) (l.map (·.2))
theorem DctD.same {D : Addr} {l : List (Str × PyData)} (h : DctD K H D l) (s : Same H H') : DctD K H' D l := by
  obtain ⟨kvs, h1, h2, h3⟩ := h.ex
  exact ⟨kvs, s _ _ h1, h2, DpAll.same s h3⟩
theorem putK_fresh {kvs : List (Key × V)} {k : Key} {v : V} (h : k ∉ kvs.map (·.1)) : putK kvs k v = kvs ++ [(k, v)] := by
  unfold putK
  rw [if_neg]
  intro z
  obtain ⟨q, hq, e⟩ := List.any_eq_true.mp z
  exact h (List.mem_map.mpr ⟨q, hq, of_decide_eq_true e⟩)
theorem DctD.put {D : Addr} {l : List (Str × PyData)} {k : Str} {v : V} (h : DctD K H D l) (hv : Dp K H v d) (hk : (l.all fun q => decide (q.1 ≠ k)) = true) (hl : decide (l.length ≤ 900) = true) :
    ∃ H', DPut H D (.str k) v H' ∧ K17.But D H H' ∧ DctD K H' D (l ++ [(k, d)]) := by
  obtain ⟨kvs, h1, h2, h3⟩ := h.ex
  have hn : (Sum.inr k : Key) ∉ kvs.map (·.1) := by
    rw [h2]
    intro hm
    obtain ⟨q, hq, e⟩ := List.mem_map.mp hm
    exact of_decide_eq_true (List.all_eq_true.mp hk q hq) (Sum.inr.inj e)
  have hlen : kvs.length = l.length := by
    have := congrArg List.length h2
    rw [List.length_map, List.length_map] at this
    exact this
  have b : K17.But D H (upd H D (.dK (putK kvs (Sum.inr k) v))) := K17.but_upd _ _ _
  refine ⟨_, DPut.k (k := Sum.inr k) h1 (small1000 (by have := of_decide_eq_true hl; omega)), b, _, upd_same, ?_, ?_⟩
  · rw [putK_fresh hn, List.map_append, List.map_append, h2]
    rfl
  · rw [putK_fresh hn, List.map_append, List.map_append]
    refine K17.DpAll.app ?_ (.cons ?_ .nil)
    · rw [← putK_fresh hn]; exact DpAll.but_dK b ⟨_, h1⟩ h3
    · rw [← putK_fresh hn]; exact Dp.but_dK b ⟨_, h1⟩ hv
theorem DctD.at_ {D : Addr} {l : List (Str × PyData)} (h : DctD K H D l) : ∃ kvs, H D = some (.dK kvs) := by
  obtain ⟨kvs, h1, _⟩ := h.ex
  exact ⟨kvs, h1⟩
theorem valV_at : ∀ {kvs : List (Key × V)} {l : List (Str × PyData)} {k : Str} {d : PyData}, kvs.map (·.1) = l.map (fun q => Sum.inr q.1) → DpAll K H (kvs.map (·.2)) (l.map (·.2)) → l.lookup k = some d → ∃ v, valV kvs (Sum.inr k) = some v ∧ Dp K H v d
  | [], [], k, d, _, _, e => by cases e
  | [], _ :: _, k, d, h, _, _ => by cases h
  | _ :: _, [], k, d, h, _, _ => by cases h
  | q :: kvs, (rk, rd) :: l, k, d, h, a, e => by
    have e : (match k == rk with
      | true => some rd
      | false => l.lookup k) = some d := e
    rw [List.map_cons, List.map_cons] at h
    obtain ⟨e1, e2⟩ := List.cons.inj h
    rw [List.map_cons, List.map_cons] at a
    cases a with
    | cons a1 a2 =>
      by_cases c : rk = k
      · rw [show (k == rk) = true from beq_iff_eq.mpr c.symm] at e
        cases e
        refine ⟨q.2, ?_, a1⟩
        exact valV_pos (by rw [e1, c])
      · rw [show (k == rk) = false from beq_eq_false_iff_ne.mpr (Ne.symm c)] at e
        obtain ⟨v, e3, e4⟩ := valV_at e2 a2 e
        refine ⟨v, ?_, e4⟩
        rw [valV_neg (by rw [e1]; exact fun z => c (Sum.inr.inj z))]
        exact e3
theorem DctD.get {D : Addr} {l : List (Str × PyData)} {k : Str} (h : DctD K H D l) (e : l.lookup k = some d) : ∃ v, DGet H D (.str k) (some v) ∧ Dp K H v d := by
  obtain ⟨kvs, h1, h2, h3⟩ := h.ex
  obtain ⟨v, e1, e2⟩ := valV_at h2 h3 e
  refine ⟨v, ?_, e2⟩
  have e3 := DGet.k (k := Sum.inr k) h1
  rw [e1] at e3
  exact e3
end
end L2
namespace K17
open PySem PySem.Spec PyProof.Rows L2 Own
def uLacks : PyData := .tuple [.str "if", .tuple [.str "or", .tuple [.str "not", .tuple [.str "ends"]], .tuple [.str "not", .tuple [.str "mark"]]], .list [.tuple [.str "return", .str "no"]], .list []]
def uStays : PyData := .tuple [.str "or", .tuple [.str "or", .tuple [.str "root"], .tuple [.str "mark"]], .tuple [.str "not", .tuple [.str "others", .int 0]]]
def uLeave : PyData := .tuple [.str "if", .tuple [.str "or", .tuple [.str "root"], .tuple [.str "not", .tuple [.str "others", .int 0]]], .list [.tuple [.str "return", .str "yes"]], .list []]
def uMake : PyData := .tuple [.str "if", .tuple [.str "not", .tuple [.str "next"]], .list [.tuple [.str "make"]], .list []]
def uKeeps : PyData := .tuple [.str "if", .tuple [.str "mark"], .list [.tuple [.str "keep"]], .list []]
def uYes : PyData := .tuple [.str "return", .str "yes"]
def uNo : PyData := .tuple [.str "return", .str "no"]
def uAlone : PyData := .tuple [.str "and", .tuple [.str "not", .tuple [.str "mark"]], .tuple [.str "others", .int 0]]
def uBare : PyData := .tuple [.str "or", .tuple [.str "not", .tuple [.str "ends"]], .tuple [.str "and", .tuple [.str "root"], uAlone]]
def uStop : PyData := .tuple [.str "if", .tuple [.str "mark"], .list [.tuple [.str "stop"]], .list []]
def uv_has : PyData := .tuple [.list [], .list [uLacks, uYes], .list []]
def uv_get : PyData := .tuple [.list [], .list [uLacks, .tuple [.str "return", .str "value"]], .list []]
def uv_put : PyData := .tuple [.list [uMake], .list [.tuple [.str "if", .tuple [.str "mark"], .list [uNo], .list []], .tuple [.str "mark"], uYes], .list []]
def uv_set : PyData := .tuple [.list [uMake], .list [.tuple [.str "if", .tuple [.str "own"], .list [uNo], .list []], .tuple [.str "mark"], uYes], .list []]
def uv_strike : PyData := .tuple [.list [], .list [uLacks, .tuple [.str "unmark"], uLeave], .list [.tuple [.str "cut"], .tuple [.str "if", uStays, .list [uYes], .list []]]]
def uv_lazy : PyData := .tuple [.list [], .list [uLacks, .tuple [.str "unmark"], uYes], .list []]
def uv_begins : PyData := .tuple [.list [], .list [.tuple [.str "if", uBare, .list [uNo], .list []], uYes], .list []]
def uv_longest : PyData := .tuple [.list [uKeeps], .list [uKeeps, .tuple [.str "return", .str "p"]], .list []]
def uv_clear : PyData := .tuple [.list [], .list [.tuple [.str "if", .tuple [.str "next"], .list [.tuple [.str "cut"]], .list []]], .list [.tuple [.str "cut"]]]
def uv_flags : PyData := .tuple [.list [.tuple [.str "if", .tuple [.str "mark"], .list [.tuple [.str "flag", .bool true]], .list []]], .list [.tuple [.str "return", .str "node"]], .list []]
def uv_halts : PyData := .tuple [.list [uStop], .list [.tuple [.str "return", .str "node"]], .list []]
def uv_rests : PyData := .tuple [.list [], .list [], .list [uStop, .tuple [.str "flag", .bool true]]]
def uv_blunt : PyData := .tuple [.list [.tuple [.str "make"]], .list [.tuple [.str "mark"], uYes], .list []]
def usualL : List (Str × PyData) := [("has", uv_has), ("get", uv_get), ("put", uv_put), ("set", uv_set), ("strike", uv_strike), ("lazy", uv_lazy), ("begins", uv_begins), ("longest", uv_longest), ("clear", uv_clear), ("flags", uv_flags), ("halts", uv_halts), ("rests", uv_rests), ("blunt", uv_blunt)]
abbrev nUsual : List Str := ["_law_name", "_law_lacks", "_law_stays", "_law_leave", "_law_make", "_law_keeps", "_law_yes", "_law_no", "_law_alone", "_law_bare", "_law_found", "_law_stop"]
def spUsual (K : PySem.W.Frag) : Sp := fun vs H Q _ => ∃ (n : Str) (d : PyData), vs = [.str n] ∧ usualL.lookup n = some d ∧ ∀ v H', Same H H' → Dp K H' v d → Q v H'
section
variable {P : Program} {w : World} {K : PySem.W.Frag} {mg : Str → Option Value} {base : Heap}
abbrev sUsual : Stmt := top 70
theorem scUsual : FnScope nUsual ["_law_name"] (defScope sUsual) := ⟨rfl, rfl, rfl, by decide +kernel, rfl, by decide +kernel, by decide +kernel⟩
theorem ok_usual {f : Addr} {fd : FuncData} (F : FnP K "_law_usual" "_law_usual" sUsual f fd) : FnOk P w K mg base CX0 1 f fd ["_law_name"] (spUsual K) := by
  refine F.ok scUsual (fun vs H Q E h => ?_) (fun cdv A outer s H vs Q E hr h => ?_)
  · obtain ⟨n, d, rfl, _⟩ := h
    rfl
  · obtain ⟨n, d, rfl, hn, k⟩ := h
    have hu := hu_of hr
    refine ⟨_, PSs.nox (pss_cons (ps_set (i := 1) scUsual.nd rfl (Or.inl rfl) (pe_tup (pa_cons pe_str (pa_cons (pe_tup (pa_cons pe_str (pa_cons (pe_tup (pa_cons pe_str (pa_cons (pe_tup (pa_cons pe_str pa_nil)) pa_nil))) (pa_cons (pe_tup (pa_cons pe_str (pa_cons (pe_tup (pa_cons pe_str pa_nil)) pa_nil))) pa_nil)))) (pa_cons (pe_lst (pa_cons (pe_tup (pa_cons pe_str (pa_cons pe_str pa_nil))) pa_nil)) (pa_cons (pe_lst pa_nil) pa_nil))))))
      (pss_cons (ps_set (i := 2) scUsual.nd rfl (Or.inl rfl) (pe_tup (pa_cons pe_str (pa_cons (pe_tup (pa_cons pe_str (pa_cons (pe_tup (pa_cons pe_str pa_nil)) (pa_cons (pe_tup (pa_cons pe_str pa_nil)) pa_nil)))) (pa_cons (pe_tup (pa_cons pe_str (pa_cons (pe_tup (pa_cons pe_str (pa_cons pe_int pa_nil))) pa_nil))) pa_nil)))))
      (pss_cons (ps_set (i := 3) scUsual.nd rfl (Or.inl rfl) (pe_tup (pa_cons pe_str (pa_cons (pe_tup (pa_cons pe_str (pa_cons (pe_tup (pa_cons pe_str pa_nil)) (pa_cons (pe_tup (pa_cons pe_str (pa_cons (pe_tup (pa_cons pe_str (pa_cons pe_int pa_nil))) pa_nil))) pa_nil)))) (pa_cons (pe_lst (pa_cons (pe_tup (pa_cons pe_str (pa_cons pe_str pa_nil))) pa_nil)) (pa_cons (pe_lst pa_nil) pa_nil))))))
      (pss_cons (ps_par (i := 4) (j := 5) (by rfl) scUsual.nd rfl rfl (by decide) rfl rfl (pa_cons (pe_tup (pa_cons pe_str (pa_cons (pe_tup (pa_cons pe_str (pa_cons (pe_tup (pa_cons pe_str pa_nil)) pa_nil))) (pa_cons (pe_lst (pa_cons (pe_tup (pa_cons pe_str pa_nil)) pa_nil)) (pa_cons (pe_lst pa_nil) pa_nil))))) (pa_cons (pe_tup (pa_cons pe_str (pa_cons (pe_tup (pa_cons pe_str pa_nil)) (pa_cons (pe_lst (pa_cons (pe_tup (pa_cons pe_str pa_nil)) pa_nil)) (pa_cons (pe_lst pa_nil) pa_nil))))) pa_nil)) (by rfl))
      (pss_cons (ps_asg (pe_tup (pa_cons (pe_tup (pa_cons pe_str (pa_cons pe_str pa_nil))) (pa_cons (pe_tup (pa_cons pe_str (pa_cons pe_str pa_nil))) (pa_cons (pe_tup (pa_cons pe_str (pa_cons (pe_tup (pa_cons pe_str (pa_cons (pe_tup (pa_cons pe_str pa_nil)) pa_nil))) (pa_cons (pe_tup (pa_cons pe_str (pa_cons pe_int pa_nil))) pa_nil)))) pa_nil)))) (pg_tup (by rfl) (pgs_cons (pg_name (i := 6) scUsual.nd rfl (Or.inl rfl)) (pgs_cons (pg_name (i := 7) scUsual.nd rfl (Or.inl rfl)) (pgs_cons (pg_name (i := 8) scUsual.nd rfl (Or.inl rfl)) pgs_nil)))))
      (pss_cons (ps_set (i := 9) scUsual.nd rfl (Or.inl rfl) (pe_tup (pa_cons pe_str (pa_cons (pe_tup (pa_cons pe_str (pa_cons (pe_tup (pa_cons pe_str pa_nil)) pa_nil))) (pa_cons (pe_tup (pa_cons pe_str (pa_cons (pe_tup (pa_cons pe_str pa_nil)) (pa_cons (pv 8) pa_nil)))) pa_nil)))))
      (pss_cons (ps_set (i := 10) scUsual.nd rfl (Or.inl rfl) (pe_disp (pps_cons pe_str (pe_tup (pa_cons (pe_lst pa_nil) (pa_cons (pe_lst (pa_cons (pv 1) (pa_cons (pv 6) pa_nil))) (pa_cons (pe_lst pa_nil) pa_nil)))) (pps_cons pe_str (pe_tup (pa_cons (pe_lst pa_nil) (pa_cons (pe_lst (pa_cons (pv 1) (pa_cons (pe_tup (pa_cons pe_str (pa_cons pe_str pa_nil))) pa_nil))) (pa_cons (pe_lst pa_nil) pa_nil)))) pps_nil)) (by rfl) (by rfl) (fun z => by cases z) (by decide)))
      (pss_cons (ps_dput hu (pv 10) pe_str (pe_tup (pa_cons (pe_lst (pa_cons (pv 4) pa_nil)) (pa_cons (pe_lst (pa_cons (pe_tup (pa_cons pe_str (pa_cons (pe_tup (pa_cons pe_str pa_nil)) (pa_cons (pe_lst (pa_cons (pv 7) pa_nil)) (pa_cons (pe_lst pa_nil) pa_nil))))) (pa_cons (pe_tup (pa_cons pe_str pa_nil)) (pa_cons (pv 6) pa_nil)))) (pa_cons (pe_lst pa_nil) pa_nil)))) rfl)
      (pss_cons (ps_dput hu (pv 10) pe_str (pe_tup (pa_cons (pe_lst (pa_cons (pv 4) pa_nil)) (pa_cons (pe_lst (pa_cons (pe_tup (pa_cons pe_str (pa_cons (pe_tup (pa_cons pe_str pa_nil)) (pa_cons (pe_lst (pa_cons (pv 7) pa_nil)) (pa_cons (pe_lst pa_nil) pa_nil))))) (pa_cons (pe_tup (pa_cons pe_str pa_nil)) (pa_cons (pv 6) pa_nil)))) (pa_cons (pe_lst pa_nil) pa_nil)))) rfl)
      (pss_cons (ps_dput hu (pv 10) pe_str (pe_tup (pa_cons (pe_lst pa_nil) (pa_cons (pe_lst (pa_cons (pv 1) (pa_cons (pe_tup (pa_cons pe_str pa_nil)) (pa_cons (pv 3) pa_nil)))) (pa_cons (pe_lst (pa_cons (pe_tup (pa_cons pe_str pa_nil)) (pa_cons (pe_tup (pa_cons pe_str (pa_cons (pv 2) (pa_cons (pe_lst (pa_cons (pv 6) pa_nil)) (pa_cons (pe_lst pa_nil) pa_nil))))) pa_nil))) pa_nil)))) rfl)
      (pss_cons (ps_dput hu (pv 10) pe_str (pe_tup (pa_cons (pe_lst pa_nil) (pa_cons (pe_lst (pa_cons (pv 1) (pa_cons (pe_tup (pa_cons pe_str pa_nil)) (pa_cons (pv 6) pa_nil)))) (pa_cons (pe_lst pa_nil) pa_nil)))) rfl)
      (pss_cons (ps_dput hu (pv 10) pe_str (pe_tup (pa_cons (pe_lst pa_nil) (pa_cons (pe_lst (pa_cons (pe_tup (pa_cons pe_str (pa_cons (pv 9) (pa_cons (pe_lst (pa_cons (pv 7) pa_nil)) (pa_cons (pe_lst pa_nil) pa_nil))))) (pa_cons (pv 6) pa_nil))) (pa_cons (pe_lst pa_nil) pa_nil)))) rfl)
      (pss_cons (ps_dput hu (pv 10) pe_str (pe_tup (pa_cons (pe_lst (pa_cons (pv 5) pa_nil)) (pa_cons (pe_lst (pa_cons (pv 5) (pa_cons (pe_tup (pa_cons pe_str (pa_cons pe_str pa_nil))) pa_nil))) (pa_cons (pe_lst pa_nil) pa_nil)))) rfl)
      (pss_cons (ps_dput hu (pv 10) pe_str (pe_tup (pa_cons (pe_lst pa_nil) (pa_cons (pe_lst (pa_cons (pe_tup (pa_cons pe_str (pa_cons (pe_tup (pa_cons pe_str pa_nil)) (pa_cons (pe_lst (pa_cons (pe_tup (pa_cons pe_str pa_nil)) pa_nil)) (pa_cons (pe_lst pa_nil) pa_nil))))) pa_nil)) (pa_cons (pe_lst (pa_cons (pe_tup (pa_cons pe_str pa_nil)) pa_nil)) pa_nil)))) rfl)
      (pss_cons (ps_dput hu (pv 10) pe_str (pe_tup (pa_cons (pe_lst (pa_cons (pe_tup (pa_cons pe_str (pa_cons (pe_tup (pa_cons pe_str pa_nil)) (pa_cons (pe_lst (pa_cons (pe_tup (pa_cons pe_str (pa_cons pe_bl pa_nil))) pa_nil)) (pa_cons (pe_lst pa_nil) pa_nil))))) pa_nil)) (pa_cons (pe_lst (pa_cons (pe_tup (pa_cons pe_str (pa_cons pe_str pa_nil))) pa_nil)) (pa_cons (pe_lst pa_nil) pa_nil)))) rfl)
      (pss_cons (ps_set (i := 11) scUsual.nd rfl (Or.inl rfl) (pe_tup (pa_cons pe_str (pa_cons (pe_tup (pa_cons pe_str pa_nil)) (pa_cons (pe_lst (pa_cons (pe_tup (pa_cons pe_str pa_nil)) pa_nil)) (pa_cons (pe_lst pa_nil) pa_nil))))))
      (pss_cons (ps_asg (pe_tup (pa_cons (pe_tup (pa_cons (pe_lst (pa_cons (pv 11) pa_nil)) (pa_cons (pe_lst (pa_cons (pe_tup (pa_cons pe_str (pa_cons pe_str pa_nil))) pa_nil)) (pa_cons (pe_lst pa_nil) pa_nil)))) (pa_cons (pe_tup (pa_cons (pe_lst pa_nil) (pa_cons (pe_lst pa_nil) (pa_cons (pe_lst (pa_cons (pv 11) (pa_cons (pe_tup (pa_cons pe_str (pa_cons pe_bl pa_nil))) pa_nil))) pa_nil)))) pa_nil))) (pg_tup (by rfl) (pgs_cons (pg_sub (pv 10) pe_str (set_dict hu)) (pgs_cons (pg_sub (pv 10) pe_str (set_dict hu)) pgs_nil))))
      (pss_cons (ps_dput hu (pv 10) pe_str (pe_tup (pa_cons (pe_lst (pa_cons (pe_tup (pa_cons pe_str pa_nil)) pa_nil)) (pa_cons (pe_lst (pa_cons (pe_tup (pa_cons pe_str pa_nil)) (pa_cons (pv 6) pa_nil))) (pa_cons (pe_lst pa_nil) pa_nil)))) rfl)
      (pss_one (ps_ret (pe_dget hu (pv 10) (pv 0) (fun _ _ => rfl)))))))))))))))))))))), ?_⟩
    have S0 := Same.refl H
    have env0 : EnvAt K H (start nUsual [.str n]) [] := EnvAt.nil
    refine DE.asg (K := K) (Γ := []) (d := uLacks) ?_ env0 fun v1 H1 s1 d1 => ?_
    · repeat (first | exact DE.str | exact DE.int | exact DE.bl | exact DA.nil | (refine DA.cons ?_ ?_) | (refine DE.tup ?_ (by rfl)) | (refine DE.lst ?_ (by rfl)) | exact DE.var (by simp))
    have env1 := env0.put (i := 1) s1 d1 (by rfl) (by decide)
    have S1 := S0.trans s1
    refine DE.asg (K := K) (Γ := ((1, uLacks) :: [])) (d := uStays) ?_ env1 fun v2 H2 s2 d2 => ?_
    · repeat (first | exact DE.str | exact DE.int | exact DE.bl | exact DA.nil | (refine DA.cons ?_ ?_) | (refine DE.tup ?_ (by rfl)) | (refine DE.lst ?_ (by rfl)) | exact DE.var (by simp))
    have env2 := env1.put (i := 2) s2 d2 (by rfl) (by decide)
    have S2 := S1.trans s2
    refine DE.asg (K := K) (Γ := ((2, uStays) :: ((1, uLacks) :: []))) (d := uLeave) ?_ env2 fun v3 H3 s3 d3 => ?_
    · repeat (first | exact DE.str | exact DE.int | exact DE.bl | exact DA.nil | (refine DA.cons ?_ ?_) | (refine DE.tup ?_ (by rfl)) | (refine DE.lst ?_ (by rfl)) | exact DE.var (by simp))
    have env3 := env2.put (i := 3) s3 d3 (by rfl) (by decide)
    have S3 := S2.trans s3
    refine DA.par (K := K) (Γ := ((3, uLeave) :: ((2, uStays) :: ((1, uLacks) :: [])))) (ds := [uMake, uKeeps]) ?_ env3 fun vs4 H4 s4 d4 => ?_
    · repeat (first | exact DE.str | exact DE.int | exact DE.bl | exact DA.nil | (refine DA.cons ?_ ?_) | (refine DE.tup ?_ (by rfl)) | (refine DE.lst ?_ (by rfl)) | exact DE.var (by simp))
    obtain ⟨p4a, p4b, rfl, q4a, q4b⟩ := d4.two
    refine ⟨_, _, rfl, ?_⟩
    have e40 := env3.put (i := 4) s4 q4a (by rfl) (by decide)
    have e41 := e40.put (i := 5) (Same.refl H4) q4b (by rfl) (by decide)
    have env4 := e41
    have S4 := S3.trans s4
    refine DE.asg (K := K) (Γ := ((5, uKeeps) :: ((4, uMake) :: ((3, uLeave) :: ((2, uStays) :: ((1, uLacks) :: [])))))) (d := (.tuple [uYes, uNo, uAlone])) ?_ env4 fun v5 H5 s5 d5 => ?_
    · repeat (first | exact DE.str | exact DE.int | exact DE.bl | exact DA.nil | (refine DA.cons ?_ ?_) | (refine DE.tup ?_ (by rfl)) | (refine DE.lst ?_ (by rfl)) | exact DE.var (by simp))
    obtain ⟨a5, p5a, p5b, p5c, rfl, hT5, q5a, q5b, q5c⟩ := d5.trip
    refine ⟨a5, _, rfl, hT5, rfl, _, _, rfl, _, _, rfl, _, _, rfl, rfl, ?_⟩
    have e50 := env4.put (i := 6) s5 q5a (by rfl) (by decide)
    have e51 := e50.put (i := 7) (Same.refl H5) q5b (by rfl) (by decide)
    have e52 := e51.put (i := 8) (Same.refl H5) q5c (by rfl) (by decide)
    have env5 := e52
    have S5 := S4.trans s5
    refine DE.asg (K := K) (Γ := ((8, uAlone) :: ((7, uNo) :: ((6, uYes) :: ((5, uKeeps) :: ((4, uMake) :: ((3, uLeave) :: ((2, uStays) :: ((1, uLacks) :: []))))))))) (d := uBare) ?_ env5 fun v6 H6 s6 d6 => ?_
    · repeat (first | exact DE.str | exact DE.int | exact DE.bl | exact DA.nil | (refine DA.cons ?_ ?_) | (refine DE.tup ?_ (by rfl)) | (refine DE.lst ?_ (by rfl)) | exact DE.var (by simp))
    have env6 := env5.put (i := 9) s6 d6 (by rfl) (by decide)
    have S6 := S5.trans s6
    refine fun D hD => ?_
    have sD : Same H6 (upd H6 D (.dK [])) := same_new hD
    have envD := env6.same sD
    refine DE.pair (K := K) (Γ := ((9, uBare) :: ((8, uAlone) :: ((7, uNo) :: ((6, uYes) :: ((5, uKeeps) :: ((4, uMake) :: ((3, uLeave) :: ((2, uStays) :: ((1, uLacks) :: [])))))))))) (d := uv_has) ?_ envD fun va Ha sa da => ?_
    · repeat (first | exact DE.str | exact DE.int | exact DE.bl | exact DA.nil | (refine DA.cons ?_ ?_) | (refine DE.tup ?_ (by rfl)) | (refine DE.lst ?_ (by rfl)) | exact DE.var (by simp))
    refine DE.pair (K := K) (Γ := ((9, uBare) :: ((8, uAlone) :: ((7, uNo) :: ((6, uYes) :: ((5, uKeeps) :: ((4, uMake) :: ((3, uLeave) :: ((2, uStays) :: ((1, uLacks) :: [])))))))))) (d := uv_get) ?_ (envD.same sa) fun vb Hb sb db => ?_
    · repeat (first | exact DE.str | exact DE.int | exact DE.bl | exact DA.nil | (refine DA.cons ?_ ?_) | (refine DE.tup ?_ (by rfl)) | (refine DE.lst ?_ (by rfl)) | exact DE.var (by simp))
    have hDb := sb _ _ (sa _ _ upd_same)
    refine ⟨hDb, [(Sum.inr "has", va), (Sum.inr "get", vb)], rfl, (by show 2 ≤ 15; decide), ?_⟩
    have bD : But D Hb (upd Hb D (.dK (mergeK [] [(Sum.inr "has", va), (Sum.inr "get", vb)]))) := but_upd _ _ _
    have eD : mergeK [] [((Sum.inr "has" : Key), va), ((Sum.inr "get" : Key), vb)] = [((Sum.inr "has" : Key), va), ((Sum.inr "get" : Key), vb)] := merge2 (by decide +kernel)
    have env7 := (((envD.same sa).same sb).but_dK bD ⟨_, hDb⟩).ref (i := 10) (x := .ref D) (by decide)
    have hh : (upd Hb D (.dK (mergeK [] [(Sum.inr "has", va), (Sum.inr "get", vb)]))) D = some (.dK [((Sum.inr "has" : Key), va), ((Sum.inr "get" : Key), vb)]) := by rw [upd_same, eD]
    have dc7 : DctD K _ D (usualL.take 2) := ⟨_, hh, rfl, .cons (Dp.but_dK bD ⟨_, hDb⟩ (Dp.same sb da)) (.cons (Dp.but_dK bD ⟨_, hDb⟩ db) .nil)⟩
    have S7 : Same H _ := (((S6.trans sD).trans sa).trans sb).fresh_upd (S6.free hD) (o := (.dK (mergeK [] [(Sum.inr "has", va), (Sum.inr "get", vb)])))
    generalize upd Hb D (.dK (mergeK [] [(Sum.inr "has", va), (Sum.inr "get", vb)])) = H7 at env7 dc7 S7 ⊢
    have nD : H D = none := S6.free hD
    dsimp only
    refine DE.dput (K := K) (Γ := ((9, uBare) :: ((8, uAlone) :: ((7, uNo) :: ((6, uYes) :: ((5, uKeeps) :: ((4, uMake) :: ((3, uLeave) :: ((2, uStays) :: ((1, uLacks) :: [])))))))))) (d := uv_put) ?_ env7 fun v8 G8 s8 d8 => ?_
    · repeat (first | exact DE.str | exact DE.int | exact DE.bl | exact DA.nil | (refine DA.cons ?_ ?_) | (refine DE.tup ?_ (by rfl)) | (refine DE.lst ?_ (by rfl)) | exact DE.var (by simp))
    obtain ⟨H8, pt8, b8, dc8⟩ := (dc7.same s8).put (k := "put") d8 (by decide +kernel) (by decide)
    refine ⟨_, rfl, D, H8, rfl, pt8, ?_⟩
    have env8 := (env7.same s8).but_dK b8 (dc7.same s8).at_
    have S8 := (S7.trans s8).but_fresh b8 nD
    refine DE.dput (K := K) (Γ := ((9, uBare) :: ((8, uAlone) :: ((7, uNo) :: ((6, uYes) :: ((5, uKeeps) :: ((4, uMake) :: ((3, uLeave) :: ((2, uStays) :: ((1, uLacks) :: [])))))))))) (d := uv_set) ?_ env8 fun v9 G9 s9 d9 => ?_
    · repeat (first | exact DE.str | exact DE.int | exact DE.bl | exact DA.nil | (refine DA.cons ?_ ?_) | (refine DE.tup ?_ (by rfl)) | (refine DE.lst ?_ (by rfl)) | exact DE.var (by simp))
    obtain ⟨H9, pt9, b9, dc9⟩ := (dc8.same s9).put (k := "set") d9 (by decide +kernel) (by decide)
    refine ⟨_, rfl, D, H9, rfl, pt9, ?_⟩
    have env9 := (env8.same s9).but_dK b9 (dc8.same s9).at_
    have S9 := (S8.trans s9).but_fresh b9 nD
    refine DE.dput (K := K) (Γ := ((9, uBare) :: ((8, uAlone) :: ((7, uNo) :: ((6, uYes) :: ((5, uKeeps) :: ((4, uMake) :: ((3, uLeave) :: ((2, uStays) :: ((1, uLacks) :: [])))))))))) (d := uv_strike) ?_ env9 fun v10 G10 s10 d10 => ?_
    · repeat (first | exact DE.str | exact DE.int | exact DE.bl | exact DA.nil | (refine DA.cons ?_ ?_) | (refine DE.tup ?_ (by rfl)) | (refine DE.lst ?_ (by rfl)) | exact DE.var (by simp))
    obtain ⟨H10, pt10, b10, dc10⟩ := (dc9.same s10).put (k := "strike") d10 (by decide +kernel) (by decide)
    refine ⟨_, rfl, D, H10, rfl, pt10, ?_⟩
    have env10 := (env9.same s10).but_dK b10 (dc9.same s10).at_
    have S10 := (S9.trans s10).but_fresh b10 nD
    refine DE.dput (K := K) (Γ := ((9, uBare) :: ((8, uAlone) :: ((7, uNo) :: ((6, uYes) :: ((5, uKeeps) :: ((4, uMake) :: ((3, uLeave) :: ((2, uStays) :: ((1, uLacks) :: [])))))))))) (d := uv_lazy) ?_ env10 fun v11 G11 s11 d11 => ?_
    · repeat (first | exact DE.str | exact DE.int | exact DE.bl | exact DA.nil | (refine DA.cons ?_ ?_) | (refine DE.tup ?_ (by rfl)) | (refine DE.lst ?_ (by rfl)) | exact DE.var (by simp))
    obtain ⟨H11, pt11, b11, dc11⟩ := (dc10.same s11).put (k := "lazy") d11 (by decide +kernel) (by decide)
    refine ⟨_, rfl, D, H11, rfl, pt11, ?_⟩
    have env11 := (env10.same s11).but_dK b11 (dc10.same s11).at_
    have S11 := (S10.trans s11).but_fresh b11 nD
    refine DE.dput (K := K) (Γ := ((9, uBare) :: ((8, uAlone) :: ((7, uNo) :: ((6, uYes) :: ((5, uKeeps) :: ((4, uMake) :: ((3, uLeave) :: ((2, uStays) :: ((1, uLacks) :: [])))))))))) (d := uv_begins) ?_ env11 fun v12 G12 s12 d12 => ?_
    · repeat (first | exact DE.str | exact DE.int | exact DE.bl | exact DA.nil | (refine DA.cons ?_ ?_) | (refine DE.tup ?_ (by rfl)) | (refine DE.lst ?_ (by rfl)) | exact DE.var (by simp))
    obtain ⟨H12, pt12, b12, dc12⟩ := (dc11.same s12).put (k := "begins") d12 (by decide +kernel) (by decide)
    refine ⟨_, rfl, D, H12, rfl, pt12, ?_⟩
    have env12 := (env11.same s12).but_dK b12 (dc11.same s12).at_
    have S12 := (S11.trans s12).but_fresh b12 nD
    refine DE.dput (K := K) (Γ := ((9, uBare) :: ((8, uAlone) :: ((7, uNo) :: ((6, uYes) :: ((5, uKeeps) :: ((4, uMake) :: ((3, uLeave) :: ((2, uStays) :: ((1, uLacks) :: [])))))))))) (d := uv_longest) ?_ env12 fun v13 G13 s13 d13 => ?_
    · repeat (first | exact DE.str | exact DE.int | exact DE.bl | exact DA.nil | (refine DA.cons ?_ ?_) | (refine DE.tup ?_ (by rfl)) | (refine DE.lst ?_ (by rfl)) | exact DE.var (by simp))
    obtain ⟨H13, pt13, b13, dc13⟩ := (dc12.same s13).put (k := "longest") d13 (by decide +kernel) (by decide)
    refine ⟨_, rfl, D, H13, rfl, pt13, ?_⟩
    have env13 := (env12.same s13).but_dK b13 (dc12.same s13).at_
    have S13 := (S12.trans s13).but_fresh b13 nD
    refine DE.dput (K := K) (Γ := ((9, uBare) :: ((8, uAlone) :: ((7, uNo) :: ((6, uYes) :: ((5, uKeeps) :: ((4, uMake) :: ((3, uLeave) :: ((2, uStays) :: ((1, uLacks) :: [])))))))))) (d := uv_clear) ?_ env13 fun v14 G14 s14 d14 => ?_
    · repeat (first | exact DE.str | exact DE.int | exact DE.bl | exact DA.nil | (refine DA.cons ?_ ?_) | (refine DE.tup ?_ (by rfl)) | (refine DE.lst ?_ (by rfl)) | exact DE.var (by simp))
    obtain ⟨H14, pt14, b14, dc14⟩ := (dc13.same s14).put (k := "clear") d14 (by decide +kernel) (by decide)
    refine ⟨_, rfl, D, H14, rfl, pt14, ?_⟩
    have env14 := (env13.same s14).but_dK b14 (dc13.same s14).at_
    have S14 := (S13.trans s14).but_fresh b14 nD
    refine DE.dput (K := K) (Γ := ((9, uBare) :: ((8, uAlone) :: ((7, uNo) :: ((6, uYes) :: ((5, uKeeps) :: ((4, uMake) :: ((3, uLeave) :: ((2, uStays) :: ((1, uLacks) :: [])))))))))) (d := uv_flags) ?_ env14 fun v15 G15 s15 d15 => ?_
    · repeat (first | exact DE.str | exact DE.int | exact DE.bl | exact DA.nil | (refine DA.cons ?_ ?_) | (refine DE.tup ?_ (by rfl)) | (refine DE.lst ?_ (by rfl)) | exact DE.var (by simp))
    obtain ⟨H15, pt15, b15, dc15⟩ := (dc14.same s15).put (k := "flags") d15 (by decide +kernel) (by decide)
    refine ⟨_, rfl, D, H15, rfl, pt15, ?_⟩
    have env15 := (env14.same s15).but_dK b15 (dc14.same s15).at_
    have S15 := (S14.trans s15).but_fresh b15 nD
    refine DE.asg (K := K) (Γ := ((9, uBare) :: ((8, uAlone) :: ((7, uNo) :: ((6, uYes) :: ((5, uKeeps) :: ((4, uMake) :: ((3, uLeave) :: ((2, uStays) :: ((1, uLacks) :: [])))))))))) (d := uStop) ?_ env15 fun v16 H16 s16 d16 => ?_
    · repeat (first | exact DE.str | exact DE.int | exact DE.bl | exact DA.nil | (refine DA.cons ?_ ?_) | (refine DE.tup ?_ (by rfl)) | (refine DE.lst ?_ (by rfl)) | exact DE.var (by simp))
    have env16 := env15.put (i := 11) s16 d16 (by rfl) (by decide)
    have dc16 := dc15.same s16
    have S16 := S15.trans s16
    refine DE.asg (K := K) (Γ := ((11, uStop) :: ((9, uBare) :: ((8, uAlone) :: ((7, uNo) :: ((6, uYes) :: ((5, uKeeps) :: ((4, uMake) :: ((3, uLeave) :: ((2, uStays) :: ((1, uLacks) :: []))))))))))) (d := (.tuple [uv_halts, uv_rests])) ?_ env16 fun v17 G17 s17 d17 => ?_
    · repeat (first | exact DE.str | exact DE.int | exact DE.bl | exact DA.nil | (refine DA.cons ?_ ?_) | (refine DE.tup ?_ (by rfl)) | (refine DE.lst ?_ (by rfl)) | exact DE.var (by simp))
    obtain ⟨aa, va2, vb2, rfl, hT, dva, dvb⟩ := d17.pair
    refine ⟨aa, _, rfl, hT, rfl, _, _, rfl, ?_⟩
    obtain ⟨G2, pt1, b1, dcx⟩ := (dc16.same s17).put (k := "halts") dva (by decide +kernel) (by decide)
    refine ⟨_, rfl, D, G2, rfl, pt1, ?_⟩
    refine ⟨_, _, rfl, ?_⟩
    obtain ⟨H17, pt2, b2, dc17⟩ := dcx.put (k := "rests") (Dp.but_dK b1 (dc16.same s17).at_ dvb) (by decide +kernel) (by decide)
    refine ⟨_, rfl, D, H17, rfl, pt2, ?_⟩
    refine ⟨rfl, ?_⟩
    have env17 := ((env16.same s17).but_dK b1 (dc16.same s17).at_).but_dK b2 dcx.at_
    have S17 := ((S16.trans s17).but_fresh b1 nD).but_fresh b2 nD
    refine DE.dput (K := K) (Γ := ((11, uStop) :: ((9, uBare) :: ((8, uAlone) :: ((7, uNo) :: ((6, uYes) :: ((5, uKeeps) :: ((4, uMake) :: ((3, uLeave) :: ((2, uStays) :: ((1, uLacks) :: []))))))))))) (d := uv_blunt) ?_ env17 fun v18 G18 s18 d18 => ?_
    · repeat (first | exact DE.str | exact DE.int | exact DE.bl | exact DA.nil | (refine DA.cons ?_ ?_) | (refine DE.tup ?_ (by rfl)) | (refine DE.lst ?_ (by rfl)) | exact DE.var (by simp))
    obtain ⟨H18, pt18, b18, dc18⟩ := (dc17.same s18).put (k := "blunt") d18 (by decide +kernel) (by decide)
    refine ⟨_, rfl, D, H18, rfl, pt18, ?_⟩
    have env18 := (env17.same s18).but_dK b18 (dc17.same s18).at_
    have S18 := (S17.trans s18).but_fresh b18 nD
    obtain ⟨v, e1, e2⟩ := dc18.get hn
    exact ⟨_, rfl, _, rfl, D, v, rfl, e1, k v _ S18 e2⟩
end
end K17

set_option Elab.async false
set_option linter.all false
set_option maxRecDepth 100000
set_option maxHeartbeats 400000
namespace K17
open PySem PySem.Spec PyProof.Rows L2 Own
section
variable {P : Program} {w : World} {K : PySem.W.Frag} {mg : Str → Option Value} {base : Heap}
theorem blocks_at {H : Hp} {q : Addr} {d t u : List PyData} (h : Dp K H (.ref q) (.tuple [.list d, .list t, .list u])) : ∃ a b c, SqT K H q [.ref a, .ref b, .ref c] ∧ LstAt K H a d ∧ LstAt K H b t ∧ LstAt K H c u := by
  obtain ⟨p, x, y, z, e, hT, h1, h2, h3⟩ := h.trip
  cases e
  cases h1 with
  | lst s1 d1 =>
    cases h2 with
    | lst s2 d2 =>
      cases h3 with
      | lst s3 d3 => exact ⟨_, _, _, hT, ⟨_, s1, d1⟩, ⟨_, s2, d2⟩, ⟨_, s3, d3⟩⟩
theorem ok_rout {f C fI : Addr} {fd fdI : FuncData} (F : FnP K "_law_routine" "_law_routine" sRout f fd) (T : Tx mg) (R : TxR K mg C fI) (GI : FnOk P w K mg base CX0 22 fI fdI ["self", "down", "turn", "up"] (spRInit K C)) (bI : Binds K fdI ["self", "down", "turn", "up"] []) :
    FnOk P w K mg base CX0 24 f fd ["_law_blocks"] (spRout K C) := by
  refine F.ok scRout (fun vs H Q E h => ?_) (fun cdv A outer s H vs Q E hr h => ?_)
  · obtain ⟨q, d, t, u, rfl, _⟩ := h
    rfl
  · obtain ⟨q, d, t, u, rfl, hq, hG, k⟩ := h
    refine ⟨_, PSs.nox (pss_one (ps_ret (pe_make R.mk_ GI hr (by rfl) R.mgC bI .nil pass0 (pa_cons (pe_callTy call_list_of (by rfl) T.list (by decide +kernel) (pa_cons (pe_ix ix_tup (pv 0) pe_int (fun _ _ => rfl)) pa_nil))
      (pa_cons (pe_callTy call_list_of (by rfl) T.list (by decide +kernel) (pa_cons (pe_ix ix_tup (pv 0) pe_int (fun _ _ => rfl)) pa_nil)) (pa_cons (pe_callTy call_list_of (by rfl) T.list (by decide +kernel) (pa_cons (pe_ix ix_tup (pv 0) pe_int (fun _ _ => rfl)) pa_nil)) pa_nil)))))), ?_⟩
    obtain ⟨a, b, c, hT, hA, hB, hC⟩ := blocks_at hq
    obtain ⟨xa, qa, da⟩ := hA
    refine ⟨_, rfl, q, _, _, _, rfl, rfl, hT, (by rfl), a, xa, rfl, Or.inl qa, fun l1 hl1 => ?_⟩
    have s1 : Same H (upd H l1 (.lst xa)) := same_new hl1
    have g1 : LstAt K (upd H l1 (.lst xa)) l1 d := ⟨xa, SqL.of upd_same, DpAll.same s1 da⟩
    generalize upd H l1 (.lst xa) = H1 at s1 g1 ⊢
    obtain ⟨xb, qb, db⟩ := hB.same s1
    refine ⟨_, rfl, q, _, _, _, rfl, rfl, seqT_same s1 hT, (by rfl), b, xb, rfl, Or.inl qb, fun l2 hl2 => ?_⟩
    have s2 : Same H1 (upd H1 l2 (.lst xb)) := same_new hl2
    have g2 : LstAt K (upd H1 l2 (.lst xb)) l2 t := ⟨xb, SqL.of upd_same, DpAll.same s2 db⟩
    generalize upd H1 l2 (.lst xb) = H2 at s2 g2 ⊢
    obtain ⟨xc, qc, dc⟩ := hC.same (s1.trans s2)
    refine ⟨_, rfl, q, _, _, _, rfl, rfl, seqT_same (s1.trans s2) hT, (by rfl), c, xc, rfl, Or.inl qc, fun l3 hl3 => ?_⟩
    have s3 : Same H2 (upd H2 l3 (.lst xc)) := same_new hl3
    have g3 : LstAt K (upd H2 l3 (.lst xc)) l3 u := ⟨xc, SqL.of upd_same, DpAll.same s3 dc⟩
    generalize upd H2 l3 (.lst xc) = H3 at s3 g3 ⊢
    have s13 := (s1.trans s2).trans s3
    refine fun x dx nx ndx ne => ?_
    have s4 : Same H3 (upd (upd H3 dx (.own x)) x (.ins C dx [])) := (same_new ndx).trans (same_new (by rw [upd_ne ne.symm]; exact nx))
    refine ⟨x, dx, l1, l2, l3, d, t, u, rfl, upd_same, (g1.same (s2.trans s3)).same s4, (g2.same s3).same s4, g3.same s4, hG, fun H5 b5 hR => ⟨rfl, ?_⟩⟩
    exact k H5 x (fun c o e => b5 c o (s4 c o (s13 c o e)) (ne_of_none (s13 c o e) nx)) hR
end
/-! ### the three that this law takes -/
def good (d t u : List PyData) (m : Nat) : Bool := (match cnt "down" m d, cnt "turn" m t, cnt "up" m u with
  | some a, some b, some c => decide (a + b + c ≤ 40)
  | _, _, _ => false) && ((decide (high (.list d) ≤ 20) && (decide (high (.list t) ≤ 20) && decide (high (.list u) ≤ 20))) && (narrow (.list d) && (narrow (.list t) && narrow (.list u))))
theorem good_ok {d t u : List PyData} {m : Nat} (h : good d t u m = true) : Good d t u := by
  unfold good at h
  simp only [Bool.and_eq_true, decide_eq_true_eq] at h
  obtain ⟨h1, ⟨h2, h3, h4⟩, h5, h6, h7⟩ := h
  refine ⟨?_, h2, h3, h4, h5, h6, h7⟩
  cases e1 : cnt "down" m d with
  | none => rw [e1] at h1; cases h1
  | some a =>
    cases e2 : cnt "turn" m t with
    | none => rw [e1, e2] at h1; cases h1
    | some b =>
      cases e3 : cnt "up" m u with
      | none => rw [e1, e2, e3] at h1; cases h1
      | some c =>
        rw [e1, e2, e3] at h1
        exact ⟨m, a, b, c, e1, e2, e3, of_decide_eq_true h1⟩
def blocksD (n : Str) : PyData := (usualL.lookup n).getD .none
def names3 : List Str := ["has", "put", "longest"]
theorem usual_good : ∀ n ∈ names3, ∃ d t u, usualL.lookup n = some (.tuple [.list d, .list t, .list u]) ∧ Good d t u := by
  intro n h
  simp only [names3, List.mem_cons, List.not_mem_nil, or_false] at h
  rcases h with rfl | rfl | rfl
  · exact ⟨_, _, _, (by rfl : usualL.lookup ("has" : Str) = some uv_has), good_ok (m := 10) (by decide +kernel)⟩
  · exact ⟨_, _, _, (by rfl : usualL.lookup ("put" : Str) = some uv_put), good_ok (m := 10) (by decide +kernel)⟩
  · exact ⟨_, _, _, (by rfl : usualL.lookup ("longest" : Str) = some uv_longest), good_ok (m := 10) (by decide +kernel)⟩
end K17

set_option Elab.async false
set_option linter.all false
set_option maxRecDepth 100000
set_option maxHeartbeats 400000
namespace K17
open PySem PySem.Spec PyProof.Rows L2 Own
theorem in_ints (l : List Int) (h : Int) : inV (.int h) (l.map V.int) = decide (h ∈ l) := by
  unfold inV
  rw [List.any_map]
  induction l with
  | nil => rfl
  | cons a l ih =>
    rw [List.any_cons, ih]
    have e : (eqV (V.int a) (V.int h)) = decide (h = a) := by
      show (a == h) = _
      rw [Bool.eq_iff_iff, beq_iff_eq, decide_eq_true_eq]
      exact eq_comm
    show (eqV (V.int a) (V.int h) || _) = _
    rw [e]
    simp only [List.mem_cons, Bool.decide_or]
theorem flat_ints : ∀ l : List Int, (l.map V.int).all flatV = true
  | [] => rfl
  | a :: l => by
    rw [List.map_cons, List.all_cons, flat_ints l]
    rfl
def rTupOf (K : PySem.W.Frag) : List V → Hp → VK → Prop := fun xs H Q => ∃ p ys, xs = [.ref p] ∧ ((SqL K H p ys ∧ ∀ l, H l = none → Q (.ref l) (upd H l (.tup ys))) ∨ (SqT K H p ys ∧ Q (.ref p) H))
theorem call_tupOf {X : Cx} : CallR X (.type "tuple") (rTupOf X.K) := call_tuple_of
theorem pget {α β : Type} {F : α → β → Prop} : ∀ {l : List α} {m : List β} (_ : Paired F l m) {i : Nat} {x : α}, l[i]? = some x → ∃ y, m[i]? = some y ∧ F x y
  | _, _, .nil, i, x, e => by cases e
  | _, _, .cons h t, 0, x, e => by cases e; exact ⟨_, rfl, h⟩
  | _, _, .cons h t, i + 1, x, e => by
    obtain ⟨y, e1, e2⟩ := pget t (i := i) (x := x) e
    exact ⟨y, e1, e2⟩
/-- what isinstance asks of an own class -/
structure InsC (K : PySem.W.Frag) (C : Addr) : Prop where
  ha : PySem.W.findIn K (.ref C) "__class__" = some (some (.builtin "object.__class__"))
  hn : PySem.W.specialIn K (.builtin "object.__class__") "__get__" = some (some (.builtin "getset_descriptor.__get__"))
  htk : PySem.W.takesIn K (.builtin "object.__class__") = some true
  hm : PySem.W.mroIn K C (.type "object") = some true
theorem kit_self {K : PySem.W.Frag} {C : Addr} : PySem.W.kitOne K (.ref C) (.ref C) = some true := by
  unfold PySem.W.kitOne
  rw [if_pos (by simp)]
def CallAt (C : Addr) (H : Hp) (v : V) (q : Int × Int) : Prop := ∃ t x dx fs, v = .ref t ∧ H t = some (.tup [.ref x, .int q.1, .int q.2]) ∧ H x = some (.ins C dx fs)
theorem CallAt.same {C : Addr} {H H' : Hp} {v : V} {q : Int × Int} (h : CallAt C H v q) (s : Same H H') : CallAt C H' v q := by
  obtain ⟨t, x, dx, fs, e, h1, h2⟩ := h
  exact ⟨t, x, dx, fs, e, s _ _ h1, s _ _ h2⟩
def CallOk (q : Int × Int) : Prop := 0 ≤ q.1 ∧ q.1 ≤ 1 ∧ 1 ≤ q.2 ∧ q.2 ≤ 9
def valD : PyData → Bool
  | .int z => decide (1 ≤ z) && decide (z ≤ 9)
  | _ => false
def spVal (K : PySem.W.Frag) : Sp := fun vs H Q _ => ∃ v d, vs = [v] ∧ Dp K H v d ∧ Q (.bl (valD d)) H
def spIsCall (C : Addr) : Sp := fun vs H Q _ => ∃ v q, vs = [v] ∧ CallAt C H v q ∧ CallOk q ∧ ∀ H', Same H H' → Q (.bl true) H'
def spCC (K : PySem.W.Frag) (C : Addr) : Sp := fun vs H Q _ => ∃ (a : Addr) (xs : List V) (qs : List (Int × Int)), vs = [.ref a] ∧ SqL K H a xs ∧ Paired (CallAt C H) xs qs ∧ (∀ q ∈ qs, CallOk q) ∧ 1 ≤ qs.length ∧ qs.length ≤ 4 ∧ ∀ H' p, Same H H' → H' p = some (.tup xs) → Q (.ref p) H'
def spCS (K : PySem.W.Frag) : Sp := fun vs H Q _ => ∃ (n : Str) (a : Addr) (ns : List Int) (m : Int), vs = [.str n, .ref a, .int m] ∧ SqL K H a (ns.map V.int) ∧ (∀ x ∈ ns, 0 ≤ x ∧ x < m) ∧ ns.Nodup ∧ ns.length ≤ 100 ∧ ∀ H' p, Same H H' → H' p = some (.tup (ns.map V.int)) → Q (.ref p) H'
def spCA (K : PySem.W.Frag) : Sp := fun vs H Q _ => ∃ (a : Addr), vs = [.ref a] ∧ SqL K H a [] ∧ ∀ H' p, Same H H' → H' p = some (.tup []) → Q (.ref p) H'
def spCW (K : PySem.W.Frag) : Sp := fun vs H Q _ => ∃ (a : Addr) (x : V), vs = [.ref a, x] ∧ H a = some (.dK []) ∧ ∀ H' p, Same H H' → H' p = some (.tup []) → Q (.ref p) H'
section
variable {P : Program} {w : World} {K : PySem.W.Frag} {mg : Str → Option Value} {base : Heap}
abbrev sVal : Stmt := top 18
abbrev sIsCall : Stmt := top 60
abbrev sCC : Stmt := top 59
abbrev sCS : Stmt := top 61
abbrev sCA : Stmt := top 62
abbrev sCW : Stmt := top 63
theorem scVal : FnScope ["value"] ["value"] (defScope sVal) := ⟨rfl, rfl, rfl, by decide +kernel, rfl, by decide +kernel, by decide +kernel⟩
theorem scIsCall : FnScope ["value", "routine", "which", "own"] ["value"] (defScope sIsCall) := ⟨rfl, rfl, rfl, by decide +kernel, rfl, by decide +kernel, by decide +kernel⟩
theorem scCC : FnScope ["calls", "index", "told"] ["calls"] (defScope sCC) := ⟨rfl, rfl, rfl, by decide +kernel, rfl, by decide +kernel, by decide +kernel⟩
theorem scCS : FnScope ["name", "script", "many", "found", "index", "number"] ["name", "script", "many"] (defScope sCS) := ⟨rfl, rfl, rfl, by decide +kernel, rfl, by decide +kernel, by decide +kernel⟩
theorem scCA : FnScope ["aspects", "found", "index", "aspect"] ["aspects"] (defScope sCA) := ⟨rfl, rfl, rfl, by decide +kernel, rfl, by decide +kernel, by decide +kernel⟩
theorem scCW : FnScope ["where", "one", "number"] ["where", "one"] (defScope sCW) := ⟨rfl, rfl, rfl, by decide +kernel, rfl, by decide +kernel, by decide +kernel⟩
theorem ok_val {f : Addr} {fd : FuncData} (F : FnP K "is_value" "is_value" sVal f fd) (Y : Ty K w mg) (cI : Cl P w K mg base 1 "is_integer" ["value"] (spInt K)) : FnOk P w K mg base CX0 2 f fd ["value"] (spVal K) := by
  obtain ⟨fI, fdI, GI, mI, kI, bI⟩ := cI.ex
  obtain ⟨tG, mG⟩ := Y.great
  refine F.ok scVal (fun vs H Q E h => ?_) (fun cdv A outer s H vs Q E hr h => ?_)
  · obtain ⟨v, d, rfl, _⟩ := h
    rfl
  · obtain ⟨v, d, rfl, hd, k⟩ := h
    refine ⟨_, PSs.nox (pss_one (ps_ret (pe_and (pe_call GI hr (by rfl) mI kI bI .nil pass0 (pa_cons (pv 0) pa_nil)) (pe_one (pe_chain op_le op_le pe_int (pv 0) (pe_glob (v := .int 9) (by rfl) mG ⟨tG, rfl⟩)))))), ?_⟩
    refine ⟨_, rfl, v, d, rfl, hd, _, rfl, ite2 (fun c => ?_) (fun c => ?_)⟩
    · obtain ⟨z, rfl, rfl⟩ := hd.int_of c
      have e : valD (.int z) = (decide (1 ≤ z) && decide (z ≤ 9)) := rfl
      rw [e] at k
      refine ⟨_, rfl, _, _, rfl, rfl, _, rfl, ite2 (fun c7 => ?_) (fun c7 => ?_)⟩
      · rw [c7, Bool.true_and] at k
        exact ⟨_, _, rfl, rfl, k⟩
      · rw [Bool.eq_false_iff.mpr c7, Bool.false_and] at k
        exact k
    · rw [show valD d = false from ?_] at k
      · exact k
      · cases d with
        | int z => exact absurd rfl c
        | _ => rfl
theorem ok_isCall {f C : Addr} {fd : FuncData} (F : FnP K "is_call" "is_call" sIsCall f fd) (T : Tx mg) (mC : mg "Routine" = some (.ref C)) (cl : Cls K C) (IC : InsC K C) (cI : Cl P w K mg base 1 "is_integer" ["value"] (spInt K)) (cV : Cl P w K mg base 2 "is_value" ["value"] (spVal K)) : FnOk P w K mg base CX0 3 f fd ["value"] (spIsCall C) := by
  obtain ⟨fI, fdI, GI, mI, kI, bI⟩ := cI.ex
  obtain ⟨fV, fdV, GV, mV, kV, bV⟩ := cV.ex
  refine F.ok scIsCall (fun vs H Q E h => ?_) (fun cdv A outer s H vs Q E hr h => ?_)
  · obtain ⟨v, q, rfl, _⟩ := h
    rfl
  · obtain ⟨v, q, rfl, ⟨t, x, dx, fs, rfl, ht, hx⟩, hq, k⟩ := h
    have hr1 : Room 1 _ := hr.mono (by omega)
    refine ⟨_, PSs.nox (pss_cons (ps_if (PW.pt (pw_or (pt_not (pt_val (pe_callB call_isiT (by rfl) T.isinstance (by decide +kernel) (pa_cons (pv 0) (pa_cons (pe_tup (pa_cons (pe_bltn (v := .ty "tuple") (by rfl) T.tuple (by decide +kernel) rfl) (pa_cons (pe_bltn (v := .ty "list") (by rfl) T.list (by decide +kernel) rfl) pa_nil))) pa_nil)))))
        (pw_or1 (pt_cmpR op_ne (pe_callB call_len_seq (by rfl) T.len PySem.boot_len (pa_cons (pv 0) pa_nil)) pe_int (nomark _))))) (pss_one (ps_ret pe_bl)) pss_nil)
      (pss_cons (ps_asg (pv 0) (pg_tup (by rfl) (pgs_cons (pg_name (i := 1) scIsCall.nd rfl (Or.inl rfl)) (pgs_cons (pg_name (i := 2) scIsCall.nd rfl (Or.inl rfl)) (pgs_cons (pg_name (i := 3) scIsCall.nd rfl (Or.inl rfl)) pgs_nil)))))
      (pss_one (ps_ret (pe_and (pe_callB call_isi (by rfl) T.isinstance (by decide +kernel) (pa_cons (pv 1) (pa_cons (pe_glob (v := .ref C) (by rfl) mC rfl) pa_nil)))
        (pe_and (pe_call GI hr1 (by rfl) mI kI bI .nil pass0 (pa_cons (pv 2) pa_nil))
        (pe_and (pe_chain op_le op_le pe_int (pv 2) pe_int)
        (pe_one (pe_call GV hr (by rfl) mV kV bV .nil pass0 (pa_cons (pv 3) pa_nil)))))))))), ?_⟩
    refine ⟨_, rfl, (by show 2 ≤ sizeLine; decide), fun p hp => ?_⟩
    have s1 : Same H (upd H p (.tup [.ty "tuple", .ty "list"])) := same_new hp
    refine ⟨_, p, _, _, _, true, rfl, upd_same, .cons (ClsV.ty _) (.cons (ClsV.ty _) .nil), TyX.base (.tup (s1 _ _ ht)), rfl, true, rfl, iteF ?_⟩
    generalize upd H p (.tup [.ty "tuple", .ty "list"]) = H1 at s1 ⊢
    have ht1 := s1 _ _ ht
    have hx1 := s1 _ _ hx
    refine ⟨_, rfl, t, _, rfl, Or.inr (SqT.of ht1), rfl, false, rfl, iteF ?_⟩
    refine ⟨_, rfl, t, _, rfl, SqT.of ht1, rfl, _, _, rfl, _, _, rfl, _, _, rfl, rfl, ?_⟩
    refine ⟨_, rfl, _, _, _, _, _, rfl, ClsV.own C, TyX.base (.ins hx1 cl IC.ha IC.hn IC.htk IC.hm), kit_self, true, rfl, iteT ?_⟩
    refine ⟨_, rfl, _, _, rfl, .int q.1, true, rfl, iteT ?_⟩
    refine ⟨_, rfl, _, _, rfl, rfl, true, ?_, iteT ⟨_, _, rfl, rfl, ?_⟩⟩
    · show V.bl (decide (0 ≤ q.1)) = V.bl true
      rw [decide_eq_true hq.1]
    · refine ⟨true, (show V.bl (decide (q.1 ≤ 1)) = V.bl true by rw [decide_eq_true hq.2.1]), iteT ⟨_, rfl, _, _, rfl, .int q.2, ?_⟩⟩
      rw [show valD (.int q.2) = true from by show (decide _ && decide _) = true; rw [decide_eq_true hq.2.2.1, decide_eq_true hq.2.2.2]; rfl]
      exact k _ s1
theorem ok_cc {f C : Addr} {fd : FuncData} (F : FnP K "checked_calls" "checked_calls" sCC f fd) (T : Tx mg) (Y : Ty K w mg) (cI : Cl P w K mg base 3 "is_call" ["value"] (spIsCall C)) : FnOk P w K mg base CX0 4 f fd ["calls"] (spCC K C) := by
  obtain ⟨fI, fdI, GI, mI, kI, bI⟩ := cI.ex
  obtain ⟨tG, mG⟩ := Y.calls
  refine F.ok scCC (fun vs H Q E h => ?_) (fun cdv A outer s H vs Q E hr h => ?_)
  · obtain ⟨a, xs, qs, rfl, _⟩ := h
    rfl
  · obtain ⟨a, xs, qs, rfl, ha, hp, hok, l1, l4, k⟩ := h
    have hlen := hp.length
    refine ⟨_, PSs.nox (pss_cons (ps_if (pt_not (pt_chain op_le op_le pe_int (pe_callB call_len_seq (by rfl) T.len PySem.boot_len (pa_cons (pv 0) pa_nil)) (pe_glob (v := .int 4) (by rfl) mG ⟨tG, rfl⟩))) (pss_one ps_never) pss_nil)
      (pss_cons (ps_for PassesOwn.never rfl (pi_enum (by rfl) T.enumerate (pa_cons (pv 0) pa_nil)) (pg_tup rfl (pgs_cons (pg_name (i := 1) scCC.nd rfl (Or.inl rfl)) (pgs_cons (pg_name (i := 2) scCC.nd rfl (Or.inl rfl)) pgs_nil)))
        (pss_one (ps_if (pt_not (pt_val (pe_call GI hr (by rfl) mI kI bI .nil pass0 (pa_cons (pv 2) pa_nil)))) (pss_one ps_never) pss_nil)))
      (pss_one (ps_ret (pe_callTy call_tuple_of (by rfl) T.tuple (by decide +kernel) (pa_cons
        (pe_lc (own := [("told", 2)]) (g := gName 2) (tt := tYes) (by rfl) scCC.nd (pi_list (pv 0)) (blkOk_by (own := [("told", 2)]) (N := ["calls", "index", "told"]) (sc := defScope sCC) (by decide +kernel)) (fun _ _ _ _ _ => pg_name (i := 2) scCC.nd rfl (Or.inl rfl)) (fun _ _ _ _ _ => pts_nil)
          (fun _ _ _ _ _ => pe_callTy (T := "tuple") (r := rTupOf K) call_tupOf (by rfl) T.tuple (by decide +kernel) (pa_cons (pv 2) pa_nil))) pa_nil)))))), ?_⟩
    refine ⟨_, rfl, a, xs, rfl, Or.inl ha, _, _, rfl, rfl, true, ?_, iteT ⟨_, _, rfl, rfl, true, ?_, iteF ?_⟩⟩
    · show V.bl (decide ((1 : Int) ≤ (xs.length : Int))) = V.bl true
      rw [decide_eq_true (by omega)]
    · show V.bl (decide ((xs.length : Int) ≤ 4)) = V.bl true
      rw [decide_eq_true (by omega)]
    refine ⟨_, rfl, a, _, rfl, ha, ?_⟩
    refine for_it (walk_enum (K := K) (a := a) (xs := xs)) (fun i σ H' => Same H H' ∧ ∃ v1 v2, σ = [some (.ref a), v1, v2]) ⟨Same.refl H, none, none, rfl⟩ (fun i σ H' _ h => h.1.seq ha) ?_ ?_
    · rintro i x σ H1 H2 hi ⟨s1, v1, v2, rfl⟩ ⟨W, n, y, rfl, hW, rfl, en, ey⟩
      have ey' : xs[i]? = some y := ey
      obtain ⟨q, hq, hc⟩ := pget hp ey'
      have s2 : Same H (upd H1 W (.tup [n, y])) := s1.trans (same_new hW)
      refine ⟨W, _, rfl, SqT.of upd_same, rfl, _, _, rfl, _, _, rfl, rfl, ?_⟩
      refine ⟨_, rfl, _, q, rfl, hc.same s2, hok q (List.mem_of_getElem? hq), fun H3 s3 => ⟨_, rfl, iteF ?_⟩⟩
      exact ⟨s2.trans s3, _, _, rfl⟩
    · rintro σ H1 ⟨s1, v1, v2, rfl⟩
      refine ⟨_, rfl, a, rfl, ⟨xs, s1.seq ha⟩, fun D hD => ?_⟩
      refine lc_list (K := K) (a := a) (xs := xs) (fun j H' => H' D = some (.lst (xs.take j)) ∧ Same H1 H') ⟨upd_same, same_new hD⟩ (fun i H' _ g => Same.seq g.2 (s1.seq ha)) ?_ ?_
      · rintro i x H' ex ⟨g1, g2⟩
        obtain ⟨q, hq, t, y, dx, fs, rfl, ht, hy⟩ := pget hp ex
        refine ⟨rfl, ⟨_, rfl, t, _, rfl, Or.inr ⟨SqT.of (g2 _ _ (s1 _ _ ht)), ?_⟩⟩⟩
        refine ⟨_, g1, small1000 (by rw [List.length_take]; omega), ?_, g2.fresh_upd hD⟩
        rw [upd_same, List.take_succ, ex]
        rfl
      · rintro H' ⟨g1, g2⟩
        rw [List.take_length] at g1
        exact ⟨D, xs, rfl, Or.inl ⟨SqL.of g1, fun r hr' => k _ r (s1.trans (g2.trans (same_new hr'))) upd_same⟩⟩
theorem ok_cs {f : Addr} {fd : FuncData} (F : FnP K "checked_script" "checked_script" sCS f fd) (T : Tx mg) (cI : Cl P w K mg base 1 "is_integer" ["value"] (spInt K)) : FnOk P w K mg base CX0 2 f fd ["name", "script", "many"] (spCS K) := by
  obtain ⟨fI, fdI, GI, mI, kI, bI⟩ := cI.ex
  refine F.ok scCS (fun vs H Q E h => ?_) (fun cdv A outer s H vs Q E hr h => ?_)
  · obtain ⟨n, a, ns, m, rfl, _⟩ := h
    rfl
  · obtain ⟨n, a, ns, m, rfl, ha, hok, hn, hl, k⟩ := h
    refine ⟨_, PSs.nox (pss_cons (ps_set (i := 3) scCS.nd rfl (Or.inl rfl) (pe_lst pa_nil))
      (pss_cons (ps_for PassesOwn.never rfl (pi_enum (by rfl) T.enumerate (pa_cons (pv 1) pa_nil)) (pg_tup rfl (pgs_cons (pg_name (i := 4) scCS.nd rfl (Or.inl rfl)) (pgs_cons (pg_name (i := 5) scCS.nd rfl (Or.inl rfl)) pgs_nil)))
        (pss_cons (ps_if (PW.pt (pw_or (pt_not (pt_val (pe_call GI hr (by rfl) mI kI bI .nil pass0 (pa_cons (pv 5) pa_nil)))) (pw_or (pt_not (pt_chain op_le op_lt pe_int (pv 5) (pv 2))) (pw_or1 (pt_cmpR op_in_seq (pv 5) (pv 3) (by rfl)))))) (pss_one ps_never) pss_nil)
        (pss_one (ps_expr (pe_bm PySem.F.plainAttrs_list PySem.F.slot_list_append PySem.F.type_list_append mt_append (pv 3) (pa_cons (pv 5) pa_nil))))))
      (pss_one (ps_ret (pe_callTy call_tuple_of (by rfl) T.tuple (by decide +kernel) (pa_cons (pv 3) pa_nil)))))), ?_⟩
    refine ⟨(by decide), fun d hd => ?_⟩
    have nd : H d = none := hd
    have s0 : Same H (upd H d (.lst [])) := same_new hd
    refine ⟨_, rfl, a, _, rfl, s0.seq ha, ?_⟩
    refine for_it (walk_enum (K := K) (a := a) (xs := ns.map V.int)) (fun i σ H' => Same H H' ∧ H' d = some (.lst ((ns.take i).map V.int)) ∧ ∃ v3 v4, σ = [some (.str n), some (.ref a), some (.int m), some (.ref d), v3, v4])
      ⟨s0, upd_same, none, none, rfl⟩ (fun i σ H' _ h => h.1.seq ha) ?_ ?_
    · rintro i x σ H1 H2 hi ⟨s1, h1, v3, v4, rfl⟩ ⟨W, n0, y, rfl, hW, rfl, en, ey⟩
      rw [List.length_map] at hi
      have ey' : (ns.map V.int)[i]? = some y := ey
      rw [List.getElem?_map, List.getElem?_eq_getElem hi] at ey'
      obtain rfl : V.int (ns[i]) = y := Option.some.inj ey'
      have hm := List.getElem_mem hi
      have s2 : Same H (upd H1 W (.tup [n0, .int ns[i]])) := s1.trans (same_new hW)
      have h2 : (upd H1 W (.tup [n0, .int ns[i]])) d = some (.lst ((ns.take i).map V.int)) := by rw [upd_ne (ne_of_none h1 hW)]; exact h1
      refine ⟨W, _, rfl, SqT.of upd_same, rfl, _, _, rfl, _, _, rfl, rfl, ?_⟩
      generalize upd H1 W (.tup [n0, .int ns[i]]) = H2 at s2 h2 ⊢
      obtain ⟨b0, b1⟩ := hok _ hm
      refine ⟨_, rfl, _, _, rfl, .int ns[i], true, rfl, iteF ?_⟩
      refine ⟨_, rfl, _, _, rfl, rfl, true, (show V.bl (decide (0 ≤ ns[i])) = V.bl true by rw [decide_eq_true b0]), iteT ⟨_, rfl, _, _, rfl, rfl, true, (show V.bl (decide (ns[i] < m)) = V.bl true by rw [decide_eq_true b1]), iteF ?_⟩⟩
      have hno : inV (V.int ns[i]) ((ns.take i).map V.int) = false := by
        rw [in_ints]
        refine decide_eq_false fun hmem => ?_
        obtain ⟨j, hj, e⟩ := List.mem_iff_getElem.mp hmem
        rw [List.length_take] at hj
        have e2 : ns[j] = ns[i] := by
          rw [List.getElem_take] at e
          exact e
        have := (List.getElem_inj hn).mp e2
        omega
      refine ⟨_, rfl, _, rfl, d, _, rfl, Or.inl (SqL.of h2), rfl, flat_ints _, false, (show V.bl (inV (V.int ns[i]) ((ns.take i).map V.int)) = V.bl false by rw [hno]), iteF ?_⟩
      refine ⟨_, rfl, Or.inl ⟨rfl, _, SqL.of h2⟩, _, rfl, d, _, _, rfl, rfl, h2, small1000 (by rw [List.length_map, List.length_take]; omega), s2.fresh_upd nd, ?_, _, _, rfl⟩
      rw [upd_same, take_next hi, List.map_append]
      rfl
    · rintro σ H1 ⟨s1, h1, v3, v4, rfl⟩
      rw [List.length_map, List.take_length] at h1
      exact ⟨_, rfl, d, _, rfl, Or.inl ⟨SqL.of h1, fun r hr' => k _ r (s1.trans (same_new hr')) upd_same⟩⟩
theorem ok_ca {f : Addr} {fd : FuncData} (F : FnP K "checked_aspects" "checked_aspects" sCA f fd) (T : Tx mg) : FnOk P w K mg base CX0 1 f fd ["aspects"] (spCA K) := by
  refine F.ok scCA (fun vs H Q E h => ?_) (fun cdv A outer s H vs Q E hr h => ?_)
  · obtain ⟨a, rfl, _⟩ := h
    rfl
  · obtain ⟨a, rfl, ha, k⟩ := h
    refine ⟨_, PSs.nox (pss_cons (ps_set (i := 1) scCA.nd rfl (Or.inl rfl) (pe_lst pa_nil))
      (pss_cons (ps_for PassesOwn.never rfl (pi_enum (by rfl) T.enumerate (pa_cons (pv 0) pa_nil)) (pg_tup rfl (pgs_cons (pg_name (i := 2) scCA.nd rfl (Or.inl rfl)) (pgs_cons (pg_name (i := 3) scCA.nd rfl (Or.inl rfl)) pgs_nil)))
        (pss_cons ps_never (pss_one ps_never)))
      (pss_one (ps_ret (pe_callTy call_tuple_of (by rfl) T.tuple (by decide +kernel) (pa_cons (pv 1) pa_nil)))))), ?_⟩
    refine ⟨(by decide), fun d hd => ?_⟩
    have s0 : Same H (upd H d (.lst [])) := same_new hd
    refine ⟨_, rfl, a, _, rfl, s0.seq ha, ?_⟩
    refine for_it (walk_enum (K := K) (a := a) (xs := [])) (fun i σ H' => Same H H' ∧ H' d = some (.lst []) ∧ σ = [some (.ref a), some (.ref d), none, none])
      ⟨s0, upd_same, rfl⟩ (fun i σ H' _ h => h.1.seq ha) ?_ ?_
    · rintro i x σ H1 H2 hi
      exact absurd hi (Nat.not_lt_zero _)
    · rintro σ H1 ⟨s1, h1, rfl⟩
      exact ⟨_, rfl, d, _, rfl, Or.inl ⟨SqL.of h1, fun r hr' => k _ r (s1.trans (same_new hr')) upd_same⟩⟩
end
end K17

set_option Elab.async false
set_option linter.all false
set_option maxRecDepth 100000
set_option maxHeartbeats 400000
namespace L2
open PySem PySem.Spec PyProof.Rows
theorem upd_back {H : Hp} {d : Addr} {u : HO} (o : HO) (h : H d = some u) : upd (upd H d o) d u = H := by
  funext b
  by_cases c : b = d
  · rw [c, upd_same, h]
  · rw [upd_ne c, upd_ne c]
end L2
namespace K17
open PySem PySem.Spec PyProof.Rows L2 Own
section
variable {P : Program} {w : World} {K : PySem.W.Frag} {mg : Str → Option Value} {base : Heap}
theorem ok_cw {f : Addr} {fd : FuncData} (F : FnP K "checked_where" "checked_where" sCW f fd) (T : Tx mg) : FnOk P w K mg base CX0 1 f fd ["where", "one"] (spCW K) := by
  refine F.ok scCW (fun vs H Q E h => ?_) (fun cdv A outer s H vs Q E hr h => ?_)
  · obtain ⟨a, x, rfl, _⟩ := h
    rfl
  · obtain ⟨a, x, rfl, ha, k⟩ := h
    have hu := hr.units
    have hu2 := hu_of hr
    refine ⟨_, PSs.nox (pss_cons (ps_lock (ps_for PassesOwn.never rfl (pi_keys (pv 0)) (pg_name (i := 2) scCW.nd rfl (Or.inl rfl)) (pss_one ps_never)))
      (pss_one (ps_ret (pe_callTy call_tuple_of (by rfl) T.tuple (by decide +kernel) (pa_cons (pe_callB (cr_sortD hu) (by rfl) T.sorted (by decide +kernel) (pa_cons
        (pe_lock (pe_lc (own := [("number", 2)]) (g := gName 2) (tt := tYes) (by rfl) scCW.nd (pi_keys (pv 0)) (blkOk_by (own := [("number", 2)]) (N := ["where", "one", "number"]) (sc := defScope sCW) (by decide +kernel)) (fun _ _ _ _ _ => pg_name (i := 2) scCW.nd rfl (Or.inl rfl)) (fun _ _ _ _ _ => pts_nil)
          (fun _ _ _ _ _ => pe_tup (pa_cons (pv 2) (pa_cons (pe_dget hu2 (pv 0) (pv 2) (fun _ _ => rfl)) pa_nil))))) pa_nil)) pa_nil))))), ?_⟩
    refine ⟨a, _, ha, by constructor, fun od => ?_⟩
    refine ⟨_, rfl, a, od, rfl, Or.inl ⟨[], upd_same, ?_⟩⟩
    refine for_it (walk_keys (d := a) (o := od) (kvs := [])) (fun i σ H' => H' = upd H a (.frz od (.dK [])) ∧ σ = [some (.ref a), some x, none]) ⟨rfl, rfl⟩ (fun i σ H' _ h => by rw [h.1]; exact upd_same) ?_ ?_
    · rintro i x σ H1 H2 hi
      exact absurd hi (Nat.not_lt_zero _)
    · rintro σ H1 ⟨rfl, rfl⟩
      refine ⟨upd_same, ?_⟩
      rw [upd_back _ ha]
      refine ⟨a, _, ha, by constructor, fun od => ?_⟩
      refine ⟨_, rfl, a, od, rfl, Or.inl ⟨[], upd_same, fun D hD => ?_⟩⟩
      have nD : a ≠ D := ne_of_none upd_same hD
      have hD2 : H D = none := by rw [upd_ne nD.symm] at hD; exact hD
      refine lc_it (walk_keys (d := a) (o := od) (kvs := [])) (fun i H' => H' = upd (upd H a (.frz od (.dK []))) D (.lst [])) rfl (fun i H' _ h => by rw [h, upd_ne nD]; exact upd_same) ?_ ?_
      · rintro i x H1 H2 hi
        exact absurd hi (Nat.not_lt_zero _)
      · rintro H1 rfl
        refine ⟨by rw [upd_ne nD]; exact upd_same, ?_⟩
        have e3 : (upd (upd (upd H a (.frz od (.dK []))) D (.lst [])) a (.dK [])) = upd H D (.lst []) := by
          funext b
          by_cases c : b = a
          · rw [c, upd_same, upd_ne nD, ha]
          · rw [upd_ne c]
            by_cases c2 : b = D
            · rw [c2, upd_same, upd_same]
            · rw [upd_ne c2, upd_ne c2, upd_ne c]
        rw [e3]
        have s1 : Same H (upd H D (.lst [])) := same_new hD2
        refine ⟨D, [], rfl, SqL.of upd_same, ?_, ?_, ?_, ?_, fun p hp => ?_⟩
        · intro b hb
          exact absurd hb (List.not_mem_nil)
        · exact PySem.W.AllAlike.of (bs := ([] : List Unit)) (enc := fun _ => PyData.none) fun _ _ => rfl
        · exact PySem.W.Sortable.tuples (bs := ([] : List Unit)) (enc := fun _ => PyData.tuple [.none]) fun _ => ⟨_, _, rfl⟩
        · intro b hb
          exact absurd hb (List.not_mem_nil)
        · refine ⟨p, _, rfl, Or.inl ⟨SqL.of upd_same, fun r hr' => ?_⟩⟩
          refine k _ r (s1.trans ((same_new hp).trans (same_new hr'))) ?_
          rw [upd_same]
          simp
end
def qflds (a b c d e : V) : List (Str × V) := putF "where" e (putF "aspects" d (putF "other" c (putF "one" b (putF "calls" a []))))
theorem q_calls (a b c d e : V) : (qflds a b c d e).lookup ("calls" : Str) = some a := by
  unfold qflds
  rw [lookup_putF, if_neg (by decide +kernel), lookup_putF, if_neg (by decide +kernel), lookup_putF, if_neg (by decide +kernel), lookup_putF, if_neg (by decide +kernel), lookup_putF, if_pos rfl]
theorem q_one (a b c d e : V) : (qflds a b c d e).lookup ("one" : Str) = some b := by
  unfold qflds
  rw [lookup_putF, if_neg (by decide +kernel), lookup_putF, if_neg (by decide +kernel), lookup_putF, if_neg (by decide +kernel), lookup_putF, if_pos rfl]
theorem q_other (a b c d e : V) : (qflds a b c d e).lookup ("other" : Str) = some c := by
  unfold qflds
  rw [lookup_putF, if_neg (by decide +kernel), lookup_putF, if_neg (by decide +kernel), lookup_putF, if_pos rfl]
structure QAt (CR C : Addr) (H : Hp) (x : Addr) (qs : List (Int × Int)) (os ts : List Int) : Prop where
  ex : ∃ dx a b c d e xs, H x = some (.ins C dx (qflds (.ref a) (.ref b) (.ref c) d e)) ∧ H a = some (.tup xs) ∧ Paired (CallAt CR H) xs qs ∧ H b = some (.tup (os.map V.int)) ∧ H c = some (.tup (ts.map V.int))
theorem QAt.same {CR C : Addr} {H H' : Hp} {x : Addr} {qs : List (Int × Int)} {os ts : List Int} (h : QAt CR C H x qs os ts) (s : Same H H') : QAt CR C H' x qs os ts := by
  obtain ⟨dx, a, b, c, d, e, xs, h1, h2, h3, h4, h5⟩ := h.ex
  exact ⟨dx, a, b, c, d, e, xs, s _ _ h1, s _ _ h2, Paired.mapP h3 fun _ _ h => h.same s, s _ _ h4, s _ _ h5⟩
structure TxQ (K : PySem.W.Frag) (mg : Str → Option Value) (C fI : Addr) : Prop where
  cl : Cls K C
  n1 : NoAttr K C "calls"
  n2 : NoAttr K C "one"
  n3 : NoAttr K C "other"
  n4 : NoAttr K C "aspects"
  n5 : NoAttr K C "where"
  mgC : mg "Question" = some (.ref C)
  mk_ : Mk K C fI
structure QArgs (K : PySem.W.Frag) (CR : Addr) (H : Hp) (a b c d : Addr) (qs : List (Int × Int)) (os ts : List Int) : Prop where
  ca : ∃ xs, H a = some (.lst xs) ∧ Paired (CallAt CR H) xs qs
  cb : H b = some (.lst (os.map V.int))
  cc : H c = some (.lst (ts.map V.int))
  cd : H d = some (.lst [])
  ok : ∀ q ∈ qs, CallOk q
  l1 : 1 ≤ qs.length
  l4 : qs.length ≤ 4
  ob : ∀ x ∈ os, 0 ≤ x ∧ x < qs.length
  tb : ∀ x ∈ ts, 0 ≤ x ∧ x < qs.length
  on : os.Nodup
  tn : ts.Nodup
  few : os.length + ts.length ≤ 4
theorem CallAt.but {C : Addr} {H H' : Hp} {v : V} {q : Int × Int} {p CQ dx : Addr} {fs : List (Str × V)} (h : CallAt C H v q) (b : But p H H') (hp : H p = some (.ins CQ dx fs)) (hC : CQ ≠ C) : CallAt C H' v q := by
  obtain ⟨t, x, dx', fs', e, h1, h2⟩ := h
  exact ⟨t, x, dx', fs', e, b _ _ h1 (ne_of h1 hp (by intro e; cases e)), b _ _ h2 (ne_of h2 hp (by intro e; cases e; exact hC rfl))⟩
def spQInit (K : PySem.W.Frag) (CR C : Addr) : Sp := fun vs H Q _ => ∃ (p dx a b c d : Addr) (qs : List (Int × Int)) (os ts : List Int), vs = [.ref p, .ref a, .ref b, .ref c, .ref d, .non] ∧ H p = some (.ins C dx []) ∧ QArgs K CR H a b c d qs os ts ∧
  ∀ (H' : Hp), But p H H' → QAt CR C H' p qs os ts → Q .non H'
section
variable {P : Program} {w : World} {K : PySem.W.Frag} {mg : Str → Option Value} {base : Heap}
abbrev sQInit : Stmt := inClass (top 58) 0
theorem scQInit : FnScope ["self", "calls", "one", "other", "aspects", "where"] ["self", "calls", "one", "other", "aspects", "where"] (defScope sQInit) := ⟨rfl, rfl, rfl, by decide +kernel, rfl, by decide +kernel, by decide +kernel⟩
theorem ok_qinit {f C CR fI : Addr} {fd : FuncData} {dvs : List V} (F : FunD K "__init__" "Question.__init__" (defArgs sQInit) (defBody sQInit) (defScope sQInit) dvs [] f fd) (T : Tx mg) (Y : Ty K w mg) (R : TxQ K mg C fI) (hC : C ≠ CR)
    (c1 : Cl P w K mg base 4 "checked_calls" ["calls"] (spCC K CR)) (c2 : Cl P w K mg base 2 "checked_script" ["name", "script", "many"] (spCS K)) (c3 : Cl P w K mg base 1 "checked_aspects" ["aspects"] (spCA K)) (c4 : Cl P w K mg base 1 "checked_where" ["where", "one"] (spCW K)) :
    FnOk P w K mg base CX0 5 f fd ["self", "calls", "one", "other", "aspects", "where"] (spQInit K CR C) := by
  obtain ⟨f1, fd1, G1, m1, k1, b1⟩ := c1.ex
  obtain ⟨f2, fd2, G2, m2, k2, b2⟩ := c2.ex
  obtain ⟨f3, fd3, G3, m3, k3, b3⟩ := c3.ex
  obtain ⟨f4, fd4, G4, m4, k4, b4⟩ := c4.ex
  obtain ⟨tN, mN⟩ := Y.nums
  refine F.ok scQInit (fun vs H Q E h => ?_) (fun cdv A outer s H vs Q E hr h => ?_)
  · obtain ⟨p, dx, a, b, c, d, qs, os, ts, rfl, _⟩ := h
    rfl
  · obtain ⟨p, dx, a, b, c, d, qs, os, ts, rfl, hp, hA, k⟩ := h
    have hr1 : Room 1 _ := hr.mono (by omega)
    have hr2 : Room 2 _ := hr.mono (by omega)
    refine ⟨_, PSs.nox (pss_cons (ps_fld (pv 0) (pe_call G1 hr (by rfl) m1 k1 b1 .nil pass0 (pa_cons (pv 1) pa_nil)) rfl)
      (pss_cons (ps_fld (pv 0) (pe_call G2 hr2 (by rfl) m2 k2 b2 .nil pass0 (pa_cons pe_str (pa_cons (pv 2) (pa_cons (pe_callB call_len_seq (by rfl) T.len PySem.boot_len (pa_cons (pv 1) pa_nil)) pa_nil)))) rfl)
      (pss_cons (ps_fld (pv 0) (pe_call G2 hr2 (by rfl) m2 k2 b2 .nil pass0 (pa_cons pe_str (pa_cons (pv 3) (pa_cons (pe_callB call_len_seq (by rfl) T.len PySem.boot_len (pa_cons (pv 1) pa_nil)) pa_nil)))) rfl)
      (pss_cons (ps_if (pt_cmpR op_gt (pe_op op_add (pe_callB call_len_seq (by rfl) T.len PySem.boot_len (pa_cons (pv 2) pa_nil)) (pe_callB call_len_seq (by rfl) T.len PySem.boot_len (pa_cons (pv 3) pa_nil))) (pe_glob (v := .int 4) (by rfl) mN ⟨tN, rfl⟩) (nomark _)) (pss_one ps_never) pss_nil)
      (pss_cons (ps_fld (pv 0) (pe_call G3 hr1 (by rfl) m3 k3 b3 .nil pass0 (pa_cons (pv 4) pa_nil)) rfl)
      (pss_one (ps_fld (pv 0) (pe_call G4 hr1 (by rfl) m4 k4 b4 .nil pass0 (pa_cons (pe_ifExp (pt_cmp (pc_isN (pv 5))) pe_dnewK (pv 5)) (pa_cons (pv 2) pa_nil))) rfl))))))), ?_⟩
    obtain ⟨⟨xs, ha, hpq⟩, hb, hc, hd, hok, l1, l4, ob, tb, on, tn, few⟩ := hA
    have hlen := hpq.length
    refine ⟨_, rfl, a, xs, qs, rfl, SqL.of ha, hpq, hok, l1, l4, fun H1 q1 s1 h1 => ?_⟩
    refine ⟨_, rfl, p, C, dx, _, rfl, s1 _ _ hp, R.cl, R.n1, (by show 0 < 1000; decide), ?_⟩
    have i1 : But p H1 (upd H1 p (.ins C dx (putF "calls" (.ref q1) []))) := but_upd _ _ _
    have bb2 := (Same.but s1 p).trans i1
    have hp2 : (upd H1 p (.ins C dx (putF "calls" (.ref q1) []))) p = some (.ins C dx (putF "calls" (.ref q1) [])) := upd_same
    have h12 := i1 _ _ h1 (ne_of h1 (s1 _ _ hp) (by intro e; cases e))
    generalize upd H1 p (.ins C dx (putF "calls" (.ref q1) [])) = H2 at i1 bb2 hp2 h12 ⊢
    have na := ne_of ha hp (by intro e; cases e)
    have nb := ne_of hb hp (by intro e; cases e)
    have nc := ne_of hc hp (by intro e; cases e)
    have nd := ne_of hd hp (by intro e; cases e)
    refine ⟨_, rfl, _, rfl, a, xs, rfl, Or.inl (SqL.of (bb2 _ _ ha na)), "one", b, os, _, rfl, SqL.of (bb2 _ _ hb nb), (by rw [hlen]; exact ob), on, by omega, fun H3 q3 s3 h3 => ?_⟩
    refine ⟨_, rfl, p, C, dx, _, rfl, s3 _ _ hp2, R.cl, R.n2, (by show 1 < 1000; decide), ?_⟩
    have i3 : But p H3 (upd H3 p (.ins C dx (putF "one" (.ref q3) (putF "calls" (.ref q1) [])))) := but_upd _ _ _
    have bb4 := (bb2.trans (Same.but s3 p)).trans i3
    have hp4 : (upd H3 p (.ins C dx (putF "one" (.ref q3) (putF "calls" (.ref q1) [])))) p = some (.ins C dx (putF "one" (.ref q3) (putF "calls" (.ref q1) []))) := upd_same
    have h14 := i3 _ _ (s3 _ _ h12) (ne_of (s3 _ _ h12) (s3 _ _ hp2) (by intro e; cases e))
    have h34 := i3 _ _ h3 (ne_of h3 (s3 _ _ hp2) (by intro e; cases e))
    generalize upd H3 p (.ins C dx (putF "one" (.ref q3) (putF "calls" (.ref q1) []))) = H4 at i3 bb4 hp4 h14 h34 ⊢
    refine ⟨_, rfl, _, rfl, a, xs, rfl, Or.inl (SqL.of (bb4 _ _ ha na)), "other", c, ts, _, rfl, SqL.of (bb4 _ _ hc nc), (by rw [hlen]; exact tb), tn, by omega, fun H5 q5 s5 h5 => ?_⟩
    refine ⟨_, rfl, p, C, dx, _, rfl, s5 _ _ hp4, R.cl, R.n3, (by show 2 < 1000; decide), ?_⟩
    have i5 : But p H5 (upd H5 p (.ins C dx (putF "other" (.ref q5) (putF "one" (.ref q3) (putF "calls" (.ref q1) []))))) := but_upd _ _ _
    have bb6 := (bb4.trans (Same.but s5 p)).trans i5
    have hp6 : (upd H5 p (.ins C dx (putF "other" (.ref q5) (putF "one" (.ref q3) (putF "calls" (.ref q1) []))))) p = some (.ins C dx (putF "other" (.ref q5) (putF "one" (.ref q3) (putF "calls" (.ref q1) [])))) := upd_same
    have h16 := i5 _ _ (s5 _ _ h14) (ne_of (s5 _ _ h14) (s5 _ _ hp4) (by intro e; cases e))
    have h36 := i5 _ _ (s5 _ _ h34) (ne_of (s5 _ _ h34) (s5 _ _ hp4) (by intro e; cases e))
    have h56 := i5 _ _ h5 (ne_of h5 (s5 _ _ hp4) (by intro e; cases e))
    generalize upd H5 p (.ins C dx (putF "other" (.ref q5) (putF "one" (.ref q3) (putF "calls" (.ref q1) [])))) = H6 at i5 bb6 hp6 h16 h36 h56 ⊢
    refine ⟨_, rfl, b, _, rfl, Or.inl (SqL.of (bb6 _ _ hb nb)), _, rfl, c, _, rfl, Or.inl (SqL.of (bb6 _ _ hc nc)), _, _, rfl, rfl, _, _, rfl, rfl, _, rfl, ite2 (fun z => absurd (of_decide_eq_true z) (by rw [List.length_map, List.length_map]; omega)) (fun _ => ?_)⟩
    refine ⟨_, rfl, d, rfl, SqL.of (bb6 _ _ hd nd), fun H7 q7 s7 h7 => ?_⟩
    refine ⟨_, rfl, p, C, dx, _, rfl, s7 _ _ hp6, R.cl, R.n4, (by show 3 < 1000; decide), ?_⟩
    have i7 : But p H7 (upd H7 p (.ins C dx (putF "aspects" (.ref q7) (putF "other" (.ref q5) (putF "one" (.ref q3) (putF "calls" (.ref q1) [])))))) := but_upd _ _ _
    have bb8 := (bb6.trans (Same.but s7 p)).trans i7
    have hp8 : (upd H7 p (.ins C dx (putF "aspects" (.ref q7) (putF "other" (.ref q5) (putF "one" (.ref q3) (putF "calls" (.ref q1) [])))))) p = some (.ins C dx (putF "aspects" (.ref q7) (putF "other" (.ref q5) (putF "one" (.ref q3) (putF "calls" (.ref q1) []))))) := upd_same
    have h18 := i7 _ _ (s7 _ _ h16) (ne_of (s7 _ _ h16) (s7 _ _ hp6) (by intro e; cases e))
    have h38 := i7 _ _ (s7 _ _ h36) (ne_of (s7 _ _ h36) (s7 _ _ hp6) (by intro e; cases e))
    have h58 := i7 _ _ (s7 _ _ h56) (ne_of (s7 _ _ h56) (s7 _ _ hp6) (by intro e; cases e))
    generalize upd H7 p (.ins C dx (putF "aspects" (.ref q7) (putF "other" (.ref q5) (putF "one" (.ref q3) (putF "calls" (.ref q1) []))))) = H8 at i7 bb8 hp8 h18 h38 h58 ⊢
    refine ⟨_, rfl, true, rfl, iteT fun e he => ⟨_, rfl, e, _, rfl, upd_same, fun H9 q9 s9 h9 => ?_⟩⟩
    have s89 : Same H8 H9 := (same_new he).trans s9
    refine ⟨_, rfl, p, C, dx, _, rfl, s89 _ _ hp8, R.cl, R.n5, (by show 4 < 1000; decide), ?_⟩
    have i9 : But p H9 (upd H9 p (.ins C dx (qflds (.ref q1) (.ref q3) (.ref q5) (.ref q7) (.ref q9)))) := but_upd _ _ _
    have bb := (bb8.trans (Same.but s89 p)).trans i9
    refine k _ bb ⟨dx, q1, q3, q5, .ref q7, .ref q9, xs, upd_same, ?_, Paired.mapP hpq fun _ _ h => h.but bb hp hC, ?_, ?_⟩
    · exact i9 _ _ (s89 _ _ h18) (ne_of (s89 _ _ h18) (s89 _ _ hp8) (by intro e; cases e))
    · exact i9 _ _ (s89 _ _ h38) (ne_of (s89 _ _ h38) (s89 _ _ hp8) (by intro e; cases e))
    · exact i9 _ _ (s89 _ _ h58) (ne_of (s89 _ _ h58) (s89 _ _ hp8) (by intro e; cases e))
end
end K17

set_option Elab.async false
set_option linter.all false
set_option maxRecDepth 100000
set_option maxHeartbeats 400000
/-! ### sorted of a list of empty tuples -/
namespace Own0
open PySem PySem.Spec PyProof.Rows PySem.W
section
variable {prog : Program} {w : World} {A : Around} {E : Value → Shared → Prop} {s : Shared}
def IsE (h : Heap) (v : Value) : Prop := ∃ a, v = .ref a ∧ h.IsTuple a #[]
theorem lt0 {v u : Value} {Q : Bool → Shared → Prop} (hu : A.units < cLine) (hv : IsE s.heap v) (hw : IsE s.heap u) (h : Q false s) : wpAny (model prog w) A (keyLt' oneType' v u) Q E s := by
  obtain ⟨l, rfl, hl⟩ := hv
  obtain ⟨b, rfl, hb⟩ := hw
  have tl : s.TypeIs (.ref l) "tuple" := hl.typeIs
  obtain ⟨⟨cls, dd, data, sl⟩, ho, hc, n, hd⟩ := id hl
  obtain ⟨⟨cls2, dd2, data2, sl2⟩, ho2, hc2, n2, hd2⟩ := id hb
  simp only at hc hd hc2 hd2
  subst hc hd hc2 hd2
  have tv : Looks (model prog w) s.heap (typeOf (.ref l)) (.type "tuple") := (Looks.ld ho).andThen .now
  have sp : Looks (model prog w) s.heap (specialOf (.ref l) "__lt__") (some (.builtin "tuple.__lt__")) := tv.andThen (Looks.of_pure PySem.F.slot_tuple_lt.lookup)
  rw [keyLt'_oneType, oneLt'_eq]
  simp only [if_true]
  refine wpAny_bind (wpAny_cRoomFor hu ?_)
  refine wpAny_bind (NtL.csib (E := E) sp (PySem.F.slot_tuple_lt.bind _) ?_)
  refine call_meets PySem.F.slot_tuple_lt ⟨_, ho, rfl⟩ PySem.F.entry_tuple_lt (PySem.F.args_tuple_lt_2 _ _) (HT.tuple_lt_ints l b #[] #[] n n2 dd dd2 sl sl2 [] [] .nil .nil) ⟨ho, ho2, ?_⟩
  exact wpAny_truthy_bool h
theorem kind0 {vs : List Value} {Q : SortKind → Shared → Prop} (h2 : 2 ≤ vs.length) (hT : ∀ v ∈ vs, IsE s.heap v) (h : Q oneType' s) : wpAny (model prog w) A (keyKind' vs.toArray) Q E s := by
  obtain ⟨v₁, v₂, rest, rfl⟩ : ∃ v₁ v₂ rest, vs = v₁ :: v₂ :: rest := by
    match vs, h2 with
    | [], h2 => simp at h2
    | [_], h2 => simp at h2
    | v₁ :: v₂ :: rest, _ => exact ⟨v₁, v₂, rest, rfl⟩
  have hty : ∀ v ∈ v₁ :: v₂ :: rest, ∀ {Q' : Value → Shared → Prop}, Q' (.type "tuple") s → wpAny (model prog w) A (typeOf v) Q' E s := fun v hv Q' q => by
    obtain ⟨a, rfl, ha⟩ := hT v hv
    exact wpAny_typeOf ha.typeIs q
  rw [keyKind'_eq, List.mapM_toArray, map_eq_pure_bind]
  refine wpAny_bind (wpAny_bind (kas_mapM (r := none) _ (fun v hv Q' hq => ?_) (wpAny_pure ?_)))
  · rw [kas_first_eq]
    refine wpAny_bind (hty v hv ?_)
    rw [if_neg (by decide)]
    obtain ⟨a, rfl, ha⟩ := hT v hv
    obtain ⟨o, ho, hc, n, hd⟩ := id ha
    unfold Builtin.List.listItems
    refine wpAny_bind (wpAny_bind (wpAny_seqItems ho hd (wpAny_pure ?_)))
    exact wpAny_pure hq
  · rw [if_neg (by simp), if_neg (by simp)]
    rw [oneTypeOnly'_eq, List.mapM_toArray, map_eq_pure_bind]
    refine wpAny_bind (wpAny_bind (wpAny_bind (kas_mapM (r := Value.type "tuple") _ (fun v hv Q' hq => hty v hv hq) (wpAny_pure ?_))))
    have hall : ((List.map (fun _ => Value.type "tuple") (v₁ :: v₂ :: rest)).toArray.all fun x => x == Value.type "tuple") = true := by
      simp only [List.all_toArray, List.all_map, List.all_eq_true]
      intro _ _
      rfl
    have h0 : (List.map (fun _ => Value.type "tuple") (v₁ :: v₂ :: rest)).toArray[0]? = some (Value.type "tuple") := by simp
    rw [h0]
    simp only [hall, if_true]
    refine wpAny_pure ?_
    exact wpAny_pure h
theorem sortable0 {a : Addr} {vs : List Value} (h2 : 2 ≤ vs.length) (hu : A.units < cLine) (hv : ∀ v ∈ vs, IsE s.heap v) (ha : ∀ v ∈ vs, v ≠ .ref a) : SrtO.SortableO prog w A s a vs fun _ _ => false := by
  intro h' keep
  have hv' : ∀ v ∈ vs, IsE h' v := fun v hm => by
    obtain ⟨b, e, hb⟩ := hv v hm
    exact ⟨b, e, hb.at fun o g => keep b o (fun z => ha v hm (by rw [e, z])) g⟩
  refine ⟨oneType', fun Q E hq => kind0 (s := { s with heap := h' }) h2 hv' hq, fun p q hp hq => ?_⟩
  exact lt0 (s := { s with heap := h' }) (Q := fun r s' => s' = { s with heap := h' } ∧ r = false) (E := fun _ _ => False) hu (hv' p.1 hp) (hv' q.1 hq) ⟨rfl, rfl⟩
end
end Own0
namespace Own
open PySem PySem.Spec PyProof.Rows L2
/-- sorted(xs), xs a list of empty tuples -/
def rSort0 (K : PySem.W.Frag) : List V → Hp → VK → Prop := fun vs H Q => ∃ (a : Addr) (xs : List V), vs = [V.ref a] ∧ SqL K H a xs ∧ (∀ x ∈ xs, ∃ t, x = V.ref t ∧ SqT K H t []) ∧
  ∀ ys p, ys.Perm xs → H p = none → Q (.ref p) (upd H p (.lst ys))
theorem cr_sort0 {X : Cx} (hu : X.A.units + 64 < cLine) : CallR X (.builtin "sorted") (rSort0 X.K) := by
  intro pins s σ H vs us Q I r h
  obtain ⟨a, xs, rfl, hs, hx, q⟩ := h
  obtain ⟨its, rv, hl, hz⟩ := I.list hs
  obtain ⟨u, rfl, ru⟩ := vals1 r
  obtain rfl : u = Value.ref a := ru
  obtain ⟨e1, e2⟩ := refs_back rv fun x m => by
    obtain ⟨t, e, _⟩ := hx x m
    exact ⟨t, e⟩
  have hv : ∀ v ∈ its, Own0.IsE s.heap v := fun v hm => by
    obtain ⟨t, rfl⟩ := e2 v hm
    have hmx : V.ref t ∈ xs := by rw [e1]; exact List.mem_map.mpr ⟨_, hm, rfl⟩
    obtain ⟨t', e, ht⟩ := hx _ hmx
    cases e
    obtain ⟨its2, r2, p2, _⟩ := I.tuple ht
    cases r2
    exact ⟨t, rfl, p2⟩
  refine SrtO.sorted_ord (ltv := fun _ _ => false) ⟨fun _ _ _ => rfl, fun _ _ _ _ _ => rfl⟩ hl.isList (by rw [← rv.length]; exact hz) (fun h2 h₁ b hb keep => ?_) fun out h1 h2 => ?_
  · refine Own0.sortable0 h2 (by show X.A.units + 1 + 1 < cLine; omega) (fun v hm => ?_) fun v hm z => ?_
    · obtain ⟨t, e, ht⟩ := hv v hm
      exact ⟨t, e, ht.at fun o g => (keep t o g).2⟩
    · obtain ⟨t, e, ht⟩ := hv v hm
      obtain ⟨o, ho, _⟩ := ht
      rw [e] at z
      cases z
      exact (keep _ o ho).1 rfl
  · obtain ⟨ep, he'⟩ := PyProof.Rows.sortedAll_at s.heap its out.toArray
    have h3 : ∀ u ∈ out, ∃ a, u = Value.ref a := fun u hu => e2 u (h2.perm.mem_iff.mp hu)
    have hp : (out.map backV).Perm xs := by rw [e1]; exact h2.perm.map backV
    refine ⟨.ref _, upd H (s.heap.objs.size + 1) (.lst (out.map backV)), I.laid (t' := s.toks) (fun _ _ => PyProof.Rows.sortedAll_old) (Nat.le_succ _) ⟨?_, out, ep, vals_back h3, he'⟩, rfl, q _ _ hp (I.hok.fresh (Nat.le_succ _))⟩
    rw [hp.length_eq]
    exact hz
end Own

set_option Elab.async false
set_option linter.all false
set_option maxRecDepth 100000
set_option maxHeartbeats 400000
namespace K17
open PySem PySem.Spec PyProof.Rows L2 Own
def rLenS (K : PySem.W.Frag) : List V → Hp → VK → Prop := fun xs H Q => ∃ p ys, xs = [.ref p] ∧ (SqL K H p ys ∨ SqT K H p ys) ∧ Q (.int ys.length) H
theorem call_lenS {X : Cx} : CallR X (.builtin "len") (rLenS X.K) := call_len_seq
/-! ### rows of numbers -/
def grow (rows : List (List Int)) (n : Int) : List (List Int) := rows ++ rows.map (· ++ [n])
def subsL (own : List Int) : List (List Int) := own.foldl grow [[]]
def addKey (ks : List (List Int)) (r : List Int) : List (List Int) := if r ∈ ks then ks else ks ++ [r]
def wh (qs : List (Int × Int)) (n : Int) : Int := (qs.getD n.toNat (0, 0)).1
def ownL (qs : List (Int × Int)) (ws ns : List Int) : List Int := ns.filter fun n => decide (wh qs n ∈ ws)
def keysL (qs : List (Int × Int)) (ws os ts : List Int) : List (List Int) := (subsL (ownL qs ws ts)).foldl addKey ((subsL (ownL qs ws os)).foldl addKey [])
def rowD (r : List Int) : PyData := .tuple (r.map .int)
def encD (r : List Int) : PyData := .tuple [.int r.length, rowD r]
def sortedL (ks : List (List Int)) : List (List Int) := ks.mergeSort (PySem.W.dataLe false encD)
def rowsF (qs : List (Int × Int)) (ws os ts : List Int) : List (List Int) := sortedL (keysL qs ws os ts)
theorem grow_len (rows : List (List Int)) (n : Int) : (grow rows n).length = 2 * rows.length := by
  unfold grow
  rw [List.length_append, List.length_map]
  omega
theorem fold_len : ∀ (ns : List Int) (rows : List (List Int)), (ns.foldl grow rows).length = 2 ^ ns.length * rows.length
  | [], rows => by simp
  | n :: ns, rows => by
    rw [List.foldl_cons, fold_len ns, grow_len, List.length_cons, Nat.pow_succ, Nat.mul_assoc, Nat.mul_comm 2]
theorem subs_len (ns : List Int) : (subsL ns).length = 2 ^ ns.length := by
  unfold subsL
  rw [fold_len]
  simp
theorem row_len {c : Nat} : ∀ (ns : List Int) (rows : List (List Int)), (∀ r ∈ rows, r.length ≤ c) → ∀ r ∈ ns.foldl grow rows, r.length ≤ c + ns.length
  | [], rows, h, r, hr => h r hr
  | n :: ns, rows, h, r, hr => by
    rw [List.foldl_cons] at hr
    have h1 := row_len (c := c + 1) ns (grow rows n) (fun s hs => by
      unfold grow at hs
      rcases List.mem_append.mp hs with hs | hs
      · exact Nat.le_succ_of_le (h s hs)
      · obtain ⟨u, hu, rfl⟩ := List.mem_map.mp hs
        have := h u hu
        rw [List.length_append, List.length_singleton]
        omega) r hr
    rw [List.length_cons]
    omega
theorem pow_16 {n : Nat} (h : n ≤ 4) : 2 ^ n ≤ 16 := Nat.pow_le_pow_right (by decide) h
theorem own_len (qs : List (Int × Int)) (ws ns : List Int) : (ownL qs ws ns).length ≤ ns.length := List.length_filter_le _ _
theorem key_len : ∀ (rs ks : List (List Int)), (rs.foldl addKey ks).length ≤ ks.length + rs.length
  | [], ks => by simp
  | r :: rs, ks => by
    rw [List.foldl_cons]
    have h := key_len rs (addKey ks r)
    have h2 : (addKey ks r).length ≤ ks.length + 1 := by
      unfold addKey
      split
      · omega
      · rw [List.length_append]; exact Nat.le_refl _
    rw [List.length_cons]
    omega
theorem key_mem {x : List Int} : ∀ (rs ks : List (List Int)), x ∈ rs.foldl addKey ks ↔ x ∈ ks ∨ x ∈ rs
  | [], ks => by simp
  | r :: rs, ks => by
    rw [List.foldl_cons, key_mem rs]
    have h2 : x ∈ addKey ks r ↔ x ∈ ks ∨ x = r := by
      unfold addKey
      split
      · rename_i h
        constructor
        · exact Or.inl
        · rintro (h1 | rfl)
          · exact h1
          · exact h
      · rw [List.mem_append, List.mem_singleton]
    rw [h2, List.mem_cons, or_assoc]
theorem key_nodup : ∀ (rs ks : List (List Int)), ks.Nodup → (rs.foldl addKey ks).Nodup
  | [], ks, h => h
  | r :: rs, ks, h => by
    rw [List.foldl_cons]
    refine key_nodup rs _ ?_
    unfold addKey
    split
    · exact h
    · rename_i c
      rw [List.nodup_append]
      refine ⟨h, by simp, fun a ha b hb => ?_⟩
      rw [List.mem_singleton] at hb
      rw [hb]
      exact fun z => c (z ▸ ha)
/-! ### rows as they stand -/
def RowAt (H : Hp) (v : V) (r : List Int) : Prop := ∃ t, v = .ref t ∧ H t = some (.tup (r.map V.int))
theorem RowAt.same {H H' : Hp} {v : V} {r : List Int} (h : RowAt H v r) (s : Same H H') : RowAt H' v r := by
  obtain ⟨t, e, h1⟩ := h
  exact ⟨t, e, s _ _ h1⟩
theorem RowAt.dp {K : PySem.W.Frag} {H : Hp} {v : V} {r : List Int} (h : RowAt H v r) : Dp K H v (rowD r) := by
  obtain ⟨t, rfl, h1⟩ := h
  refine .tup (SqT.of h1) ?_
  generalize r = r at h1
  clear h1
  induction r with
  | nil => exact .nil
  | cons a r ih => exact .cons (.int a) ih
abbrev RowsAt (H : Hp) (vs : List V) (rs : List (List Int)) : Prop := Paired (RowAt H) vs rs
theorem RowsAt.same {H H' : Hp} {vs : List V} {rs : List (List Int)} (h : RowsAt H vs rs) (s : Same H H') : RowsAt H' vs rs := Paired.mapP h fun _ _ h => h.same s
theorem RowsAt.but {H H' : Hp} {vs : List V} {rs : List (List Int)} {D : Addr} {o : HO} (h : RowsAt H vs rs) (b : But D H H') (hD : H D = some o) (ho : ∀ xs, o ≠ .tup xs) : RowsAt H' vs rs := Paired.mapP h fun _ _ ⟨t, e, h1⟩ => ⟨t, e, b _ _ h1 (ne_of h1 hD fun z => ho _ z.symm)⟩
theorem paired_app {α β : Type} {F : α → β → Prop} : ∀ {a : List α} {b : List β} {c : List α} {d : List β}, Paired F a b → Paired F c d → Paired F (a ++ c) (b ++ d)
  | _, _, _, _, .nil, q => q
  | _, _, _, _, .cons h t, q => .cons h (paired_app t q)
theorem paired_take {α β : Type} {F : α → β → Prop} : ∀ {a : List α} {b : List β} (n : Nat), Paired F a b → Paired F (a.take n) (b.take n)
  | _, _, 0, _ => by rw [List.take_zero, List.take_zero]; exact .nil
  | _, _, n + 1, .nil => .nil
  | _, _, n + 1, .cons h t => .cons h (paired_take n t)
/-! ### the dict of rows -/
def kvL (ks : List (List Int)) : List (List Key × V) := ks.map fun r => (r.map Sum.inl, V.bl true)
theorem inl_inj : ∀ {a b : List Int}, (a.map (Sum.inl : Int → Key)) = b.map Sum.inl → a = b
  | [], [], _ => rfl
  | [], _ :: _, h => by cases h
  | _ :: _, [], h => by cases h
  | x :: a, y :: b, h => by
    rw [List.map_cons, List.map_cons] at h
    obtain ⟨h1, h2⟩ := List.cons.inj h
    rw [Sum.inl.inj h1, inl_inj h2]
theorem put_key (ks : List (List Int)) (r : List Int) : putK (kvL ks) (r.map Sum.inl) (.bl true) = kvL (addKey ks r) := by
  unfold putK addKey
  by_cases c : r ∈ ks
  · rw [if_pos c, if_pos]
    · unfold kvL
      rw [List.map_map]
      refine List.map_congr_left fun x hx => ?_
      show (if (x.map Sum.inl : List Key) = r.map Sum.inl then (x.map Sum.inl, V.bl true) else (x.map Sum.inl, V.bl true)) = _
      split <;> rfl
    · refine List.any_eq_true.mpr ⟨(r.map Sum.inl, .bl true), List.mem_map.mpr ⟨r, c, rfl⟩, decide_eq_true rfl⟩
  · rw [if_neg c, if_neg]
    · unfold kvL
      rw [List.map_append]
      rfl
    · intro z
      obtain ⟨q, hq, e⟩ := List.any_eq_true.mp z
      obtain ⟨x, hx, rfl⟩ := List.mem_map.mp hq
      exact c (inl_inj (of_decide_eq_true e) ▸ hx)
theorem row_kV (r : List Int) : (r.map (Sum.inl : Int → Key)).map kV = r.map V.int := by
  rw [List.map_map]
  rfl
def kA (qs : List (Int × Int)) (ws : List Int) (sc : List (List Int)) : List (List Int) := sc.foldl (fun ks ns => (subsL (ownL qs ws ns)).foldl addKey ks) []
theorem kA_len {qs : List (Int × Int)} {ws : List Int} : ∀ {sc : List (List Int)}, (∀ ns ∈ sc, ns.length ≤ 4) → (kA qs ws sc).length ≤ 16 * sc.length := by
  intro sc
  unfold kA
  suffices h : ∀ (sc ks : List (List Int)), (∀ ns ∈ sc, ns.length ≤ 4) → (sc.foldl (fun ks ns => (subsL (ownL qs ws ns)).foldl addKey ks) ks).length ≤ ks.length + 16 * sc.length by
    intro hb
    have := h sc [] hb
    simpa using this
  intro sc
  induction sc with
  | nil => intro ks _; simp
  | cons ns sc ih =>
    intro ks hb
    rw [List.foldl_cons]
    have h1 := ih ((subsL (ownL qs ws ns)).foldl addKey ks) fun n hn => hb n (List.mem_cons_of_mem _ hn)
    have h2 := key_len (subsL (ownL qs ws ns)) ks
    rw [subs_len] at h2
    have h3 := pow_16 (Nat.le_trans (own_len qs ws ns) (hb ns (List.mem_cons_self ..)))
    rw [List.length_cons]
    omega
def EntAt (H : Hp) (v : V) (r : List Int) : Prop := ∃ t q, v = .ref t ∧ H t = some (.tup [.int r.length, .ref q]) ∧ H q = some (.tup (r.map V.int))
theorem EntAt.same {H H' : Hp} {v : V} {r : List Int} (h : EntAt H v r) (s : Same H H') : EntAt H' v r := by
  obtain ⟨t, q, e, h1, h2⟩ := h
  exact ⟨t, q, e, s _ _ h1, s _ _ h2⟩
theorem EntAt.but {H H' : Hp} {v : V} {r : List Int} {D : Addr} {o : HO} (h : EntAt H v r) (b : But D H H') (hD : H D = some o) (ho : ∀ xs, o ≠ .tup xs) : EntAt H' v r := by
  obtain ⟨t, q, e, h1, h2⟩ := h
  exact ⟨t, q, e, b _ _ h1 (ne_of h1 hD fun z => ho _ z.symm), b _ _ h2 (ne_of h2 hD fun z => ho _ z.symm)⟩
theorem EntAt.dp {K : PySem.W.Frag} {H : Hp} {v : V} {r : List Int} (h : EntAt H v r) : Dp K H v (encD r) := by
  obtain ⟨t, q, rfl, h1, h2⟩ := h
  exact .tup (SqT.of h1) (.cons (.int _) (.cons (RowAt.dp ⟨q, rfl, h2⟩) .nil))
theorem alike_ints : ∀ xs ys : List Int, PySem.W.alikeAll (xs.map PyData.int) (ys.map PyData.int) = true
  | [], _ => by
    rw [List.map_nil]
    unfold PySem.W.alikeAll
    rfl
  | _ :: _, [] => rfl
  | x :: xs, y :: ys => by
    rw [List.map_cons, List.map_cons]
    unfold PySem.W.alikeAll
    rw [alike_ints xs ys]
    rfl
theorem alike_enc (r s : List Int) : PySem.W.alike (encD r) (encD s) = true := by
  unfold encD rowD
  simp only [PySem.W.alike, PySem.W.alikeAll, alike_ints, Bool.and_self, Bool.and_true]
theorem depth_ints : ∀ r : List Int, PyData.depthAll (r.map PyData.int) = 0
  | [] => rfl
  | x :: r => by
    show max 0 (PyData.depthAll (r.map PyData.int)) = 0
    rw [depth_ints r]
    rfl
theorem enc_depth (r : List Int) : (encD r).depth ≤ 60 := by
  show max 0 (max (PyData.depthAll (r.map PyData.int) + 1) 0) + 1 ≤ 60
  rw [depth_ints]
  decide
theorem zip_fst {α β : Type} : ∀ {l : List α} {m : List β}, l.length = m.length → (l.zip m).map (·.1) = l
  | [], [], _ => rfl
  | _ :: _, [], h => by cases h
  | [], _ :: _, h => by cases h
  | a :: l, b :: m, h => by rw [List.zip_cons_cons, List.map_cons, zip_fst (Nat.succ.inj h)]
theorem zip_snd {α β : Type} : ∀ {l : List α} {m : List β}, l.length = m.length → (l.zip m).map (·.2) = m
  | [], [], _ => rfl
  | _ :: _, [], h => by cases h
  | [], _ :: _, h => by cases h
  | a :: l, b :: m, h => by rw [List.zip_cons_cons, List.map_cons, zip_snd (Nat.succ.inj h)]
theorem paired_zip {α β : Type} {F : α → β → Prop} : ∀ {l : List α} {m : List β}, Paired F l m → ∀ q ∈ l.zip m, F q.1 q.2
  | _, _, .nil, q, h => by cases h
  | _, _, .cons a t, q, h => by
    rw [List.zip_cons_cons, List.mem_cons] at h
    rcases h with rfl | h
    · exact a
    · exact paired_zip t q h
def spRowsOf (K : PySem.W.Frag) (CR CQ : Addr) : Sp := fun vs H Q _ => ∃ (x a : Addr) (qs : List (Int × Int)) (ws os ts : List Int), vs = [.ref x, .ref a] ∧ QAt CR CQ H x qs os ts ∧ SqT K H a (ws.map V.int) ∧
  (∀ n ∈ os, 0 ≤ n ∧ n < qs.length) ∧ (∀ n ∈ ts, 0 ≤ n ∧ n < qs.length) ∧ os.length ≤ 4 ∧ ts.length ≤ 4 ∧ ∀ H' p rs, Same H H' → H' p = some (.tup rs) → RowsAt H' rs (rowsF qs ws os ts) → Q (.ref p) H'
section
variable {P : Program} {w : World} {K : PySem.W.Frag} {mg : Str → Option Value} {base : Heap}
abbrev sRowsOf : Stmt := top 64
abbrev nRowsOf : List Str := ["question", "words", "found", "script", "rows", "number", "row", "length"]
theorem scRowsOf : FnScope nRowsOf ["question", "words"] (defScope sRowsOf) := ⟨rfl, rfl, rfl, by decide +kernel, rfl, by decide +kernel, by decide +kernel⟩
theorem ok_rowsOf {f CR CQ fI : Addr} {fd : FuncData} (F : FnP K "rows_of" "rows_of" sRowsOf f fd) (T : Tx mg) (R : TxQ K mg CQ fI) : FnOk P w K mg base CX0 1 f fd ["question", "words"] (spRowsOf K CR CQ) := by
  refine F.ok scRowsOf (fun vs H Q E h => ?_) (fun cdv A outer s H vs Q E hr h => ?_)
  · obtain ⟨x, a, qs, ws, os, ts, rfl, _⟩ := h
    rfl
  · obtain ⟨x, a, qs, ws, os, ts, rfl, hQ, hW, ob, tb, ol, tl, k⟩ := h
    have hu := hr.units
    have hu2 := hu_of hr
    refine ⟨_, PSs.nox (pss_cons (ps_set (i := 2) scRowsOf.nd rfl (Or.inl rfl) pe_dnewT)
      (pss_cons (ps_for PassesOwn.never rfl (pi_tup (pe_tup (pa_cons (pe_fld (pv 0) rfl) (pa_cons (pe_fld (pv 0) rfl) pa_nil)))) (pg_name (i := 3) scRowsOf.nd rfl (Or.inl rfl))
        (pss_cons (ps_set (i := 4) scRowsOf.nd rfl (Or.inl rfl) (pe_lst (pa_cons (pe_tup pa_nil) pa_nil)))
        (pss_cons (ps_for PassesOwn.never rfl (pi_tup (pv 3)) (pg_name (i := 5) scRowsOf.nd rfl (Or.inr rfl))
          (pss_one (ps_if (pt_cmpR op_in_seq (pe_ix ix_tup (pe_ix ix_tup (pe_fld (pv 0) rfl) (pv 5) (fun _ _ => rfl)) pe_int (fun _ _ => rfl)) (pv 1) (by rfl))
            (pss_one (ps_set (i := 4) scRowsOf.nd rfl (Or.inl rfl) (pe_op op_cat (pv 4)
              (pe_lc (own := [("row", 6)]) (g := gName 6) (tt := tYes) (by rfl) scRowsOf.nd (pi_list (pv 4)) (blkOk_by (own := [("row", 6)]) (N := nRowsOf) (sc := defScope sRowsOf) (by decide +kernel)) (fun _ _ _ _ _ => pg_name (i := 6) scRowsOf.nd rfl (Or.inl rfl)) (fun _ _ _ _ _ => pts_nil)
                (fun _ _ _ _ _ => pe_op (r := rCatA K) op_catA (pv 6) (pe_tup (pa_cons (pv 5) pa_nil))))))) pss_nil)))
        (pss_one (ps_for PassesOwn.never rfl (pi_list (pv 4)) (pg_name (i := 6) scRowsOf.nd rfl (Or.inl rfl)) (pss_one (ps_dput hu2 (pv 2) (pv 6) pe_bl rfl)))))))
      (pss_one (ps_ret (pe_callTy call_tuple_of (by rfl) T.tuple (by decide +kernel) (pa_cons
        (pe_lc (own := [("length", 7), ("row", 6)]) (g := gTup K 2 (gCons (gName 7) (gCons (gName 6) gNil))) (tt := tYes) (by rfl) scRowsOf.nd
          (pi_list (pe_callB (cr_sortD hu) (by rfl) T.sorted (by decide +kernel) (pa_cons
            (pe_lock (pe_lc (own := [("row", 6)]) (g := gName 6) (tt := tYes) (by rfl) scRowsOf.nd (pi_keys (pv 2)) (blkOk_by (own := [("row", 6)]) (N := nRowsOf) (sc := defScope sRowsOf) (by decide +kernel)) (fun _ _ _ _ _ => pg_name (i := 6) scRowsOf.nd rfl (Or.inl rfl)) (fun _ _ _ _ _ => pts_nil)
              (fun _ _ _ _ _ => pe_tup (pa_cons (pe_callB (r := rLenS K) call_lenS (by rfl) T.len PySem.boot_len (pa_cons (pv 6) pa_nil)) (pa_cons (pv 6) pa_nil))))) pa_nil)))
          (blkOk_by (own := [("length", 7), ("row", 6)]) (N := nRowsOf) (sc := defScope sRowsOf) (by decide +kernel))
          (fun _ _ _ _ _ => pg_tup (by rfl) (pgs_cons (pg_name (i := 7) scRowsOf.nd rfl (Or.inl rfl)) (pgs_cons (pg_name (i := 6) scRowsOf.nd rfl (Or.inl rfl)) pgs_nil))) (fun _ _ _ _ _ => pts_nil)
          (fun _ _ _ _ _ => pv 6)) pa_nil)))))), ?_⟩
    obtain ⟨dx, ca, cb, cc, cd, ce, xs, hx, hca, hpq, hcb, hcc⟩ := hQ.ex
    have hlen := hpq.length
    refine fun D hD => ?_
    have s0 : Same H (upd H D (.dT [])) := same_new hD
    have d0 : (upd H D (.dT [])) D = some (.dT []) := upd_same
    generalize upd H D (.dT []) = H0 at s0 d0 ⊢
    refine ⟨_, rfl, x, CQ, dx, _, _, rfl, s0 _ _ hx, R.cl, R.n2, q_one _ _ _ _ _, _, rfl, x, CQ, dx, _, _, rfl, s0 _ _ hx, R.cl, R.n3, q_other _ _ _ _ _, (by show 2 ≤ sizeLine; decide), fun tp htp => ⟨tp, rfl, ⟨_, SqT.of upd_same⟩, ?_⟩⟩
    have s1 : Same H (upd H0 tp (.tup [.ref cb, .ref cc])) := s0.trans (same_new htp)
    have d1 : (upd H0 tp (.tup [.ref cb, .ref cc])) D = some (.dT (kvL (kA qs ws (([os, ts] : List (List Int)).take 0)))) := by rw [upd_ne (ne_of_none d0 htp)]; exact d0
    refine for_it (walk_tup (K := K) (a := tp) (xs := [.ref cb, .ref cc])) (fun i σ H' => Same H H' ∧ H' tp = some (.tup [.ref cb, .ref cc]) ∧ H' D = some (.dT (kvL (kA qs ws (([os, ts] : List (List Int)).take i)))) ∧ ∃ v3 v4 v5 v6, σ = [some (.ref x), some (.ref a), some (.ref D), v3, v4, v5, v6, none])
      ⟨s1, upd_same, d1, none, none, none, none, rfl⟩ (fun i σ H' _ h => SqT.of h.2.1) ?_ ?_
    · rintro i y σ G G' hi ⟨sG, tG, dG, v3, v4, v5, v6, rfl⟩ ⟨rfl, ey⟩
      obtain ⟨c, ns, rfl, hc, ens, hb, hl⟩ : ∃ c ns, y = .ref c ∧ H c = some (.tup (ns.map V.int)) ∧ ([os, ts] : List (List Int))[i]? = some ns ∧ (∀ n ∈ ns, 0 ≤ n ∧ n < qs.length) ∧ ns.length ≤ 4 := by
        match i, hi, ey with
        | 0, _, e => cases e; exact ⟨cb, os, rfl, hcb, rfl, ob, ol⟩
        | 1, _, e => cases e; exact ⟨cc, ts, rfl, hcc, rfl, tb, tl⟩
        | n + 2, hi, _ => exact absurd hi (by show ¬ (n + 2 < 2); omega)
      have ekA : kA qs ws (([os, ts] : List (List Int)).take (i + 1)) = (subsL (ownL qs ws ns)).foldl addKey (kA qs ws (([os, ts] : List (List Int)).take i)) := by
        unfold kA
        rw [List.take_succ, ens, List.foldl_append]
        rfl
      have hkl : (kA qs ws (([os, ts] : List (List Int)).take i)).length ≤ 32 := by
        have h1 := kA_len (qs := qs) (ws := ws) (sc := ([os, ts] : List (List Int)).take i) fun n hn => by
          have := List.mem_of_mem_take hn
          simp only [List.mem_cons, List.not_mem_nil, or_false] at this
          rcases this with rfl | rfl
          · exact ol
          · exact tl
        have h2 : (([os, ts] : List (List Int)).take i).length ≤ 2 := by rw [List.length_take]; exact Nat.min_le_right _ _
        omega
      refine ⟨(by show 0 ≤ sizeLine; decide), fun e he => ⟨(by show 1 ≤ sizeLine; decide), fun L hL => ?_⟩⟩
      have sL : Same G' (upd (upd G' e (.tup [])) L (.lst [.ref e])) := (same_new he).trans (same_new hL)
      have hLe : (upd (upd G' e (.tup [])) L (.lst [.ref e])) e = some (.tup ((([] : List Int)).map V.int)) := by rw [upd_ne (ne_of_none upd_same hL)]; exact upd_same
      refine ⟨_, rfl, c, rfl, ⟨_, SqT.of (sL _ _ (sG _ _ hc))⟩, ?_⟩
      refine for_it (walk_tup (K := K) (a := c) (xs := ns.map V.int)) (fun j σ H' => Same G' H' ∧ ∃ L vs v5 v6, H' L = some (.lst vs) ∧ RowsAt H' vs ((ownL qs ws (ns.take j)).foldl grow [[]]) ∧ σ = [some (.ref x), some (.ref a), some (.ref D), some (.ref c), some (.ref L), v5, v6, none])
        ⟨sL, L, _, v5, v6, upd_same, .cons ⟨e, rfl, hLe⟩ .nil, rfl⟩ (fun j σ H' _ h => SqT.of (h.1 _ _ (sG _ _ hc))) ?_ ?_
      · rintro j y σ G1 G1' hj ⟨s1, L, vs, w5, w6, hL, hR, rfl⟩ ⟨rfl, ey⟩
        rw [List.length_map] at hj
        rw [List.getElem?_map, List.getElem?_eq_getElem hj] at ey
        obtain rfl : V.int (ns[j]) = y := Option.some.inj ey
        obtain ⟨n0, n1⟩ := hb _ (List.getElem_mem hj)
        have etk : ns.take (j + 1) = ns.take j ++ [ns[j]] := take_next hj
        generalize ns[j] = n at n0 n1 etk ⊢
        obtain ⟨m, rfl⟩ := Int.eq_ofNat_of_zero_le n0
        have hm : m < qs.length := by omega
        have hmx : m < xs.length := by omega
        obtain ⟨q, hq, t, y, dy, fy, ev, ht, _⟩ := pget hpq (List.getElem?_eq_getElem hmx)
        have sH := sG.trans s1
        have ewh : wh qs (m : Int) = q.1 := by
          unfold wh
          rw [Int.toNat_natCast, List.getD_eq_getElem?_getD, hq]
          rfl
        have eown : ownL qs ws (ns.take (j + 1)) = if q.1 ∈ ws then ownL qs ws (ns.take j) ++ [(m : Int)] else ownL qs ws (ns.take j) := by
          unfold ownL
          rw [etk, List.filter_append]
          split
          · rw [List.filter_cons_of_pos (by rw [ewh]; exact decide_eq_true ‹_›)]
            rfl
          · rw [List.filter_cons_of_neg (by rw [ewh]; simpa using ‹_›)]
            simp
        refine ⟨_, rfl, x, CQ, dx, _, _, rfl, sH _ _ hx, R.cl, R.n1, q_calls _ _ _ _ _, _, rfl, ca, xs, _, _, rfl, rfl, SqT.of (sH _ _ hca), atI_nat (List.getElem?_eq_getElem hmx), t, _, _, _, ev, rfl, SqT.of (sH _ _ ht), (by rfl), _, rfl, a, _, rfl, Or.inr (seqT_same sH hW), rfl, flat_ints _, _, rfl, ite2 (fun c1 => ?_) (fun c1 => ?_)⟩
        · have c2 : q.1 ∈ ws := of_decide_eq_true ((in_ints _ _).symm.trans c1)
          refine ⟨_, rfl, _, rfl, L, rfl, ⟨vs, SqL.of hL⟩, fun D2 hD2 => ?_⟩
          have hvl := hR.length
          have hrl : ((ownL qs ws (ns.take j)).foldl grow [[]]).length ≤ 16 := by
            have h1 := subs_len (ownL qs ws (ns.take j))
            have h2 := pow_16 (Nat.le_trans (own_len qs ws (ns.take j)) (Nat.le_trans (List.length_take_le _ _) (Nat.le_of_lt (Nat.lt_of_lt_of_le hj hl))))
            unfold subsL at h1
            omega
          generalize hrs : (ownL qs ws (ns.take j)).foldl grow [[]] = rs at hR hvl hrl
          refine lc_list (K := K) (a := L) (xs := vs) (fun i H'' => Same G1' H'' ∧ ∃ us, H'' D2 = some (.lst us) ∧ RowsAt H'' us ((rs.take i).map (· ++ [(m : Int)]))) ⟨same_new hD2, [], upd_same, .nil⟩ (fun i H'' _ g => SqL.of (g.1 _ _ hL)) ?_ ?_
          · rintro i v H2 ei ⟨g1, us, g2, g3⟩
            obtain ⟨r, er, tr, rfl, htr⟩ := pget hR ei
            have hus := g3.length
            rw [List.length_map, List.length_take] at hus
            have ertk : (rs.take (i + 1)).map (· ++ [(m : Int)]) = (rs.take i).map (· ++ [(m : Int)]) ++ [r ++ [(m : Int)]] := by
              rw [List.take_succ, er, List.map_append]
              rfl
            refine ⟨rfl, ?_⟩
            refine ⟨_, rfl, _, rfl, (by show 1 ≤ sizeLine; decide), fun q5 hq5 => ?_⟩
            have s5 : Same H2 (upd H2 q5 (.tup [.int m])) := same_new hq5
            have h5 : (upd H2 q5 (.tup [.int m])) q5 = some (.tup [.int m]) := upd_same
            generalize upd H2 q5 (.tup [.int m]) = H5 at s5 h5 ⊢
            have htr5 := s5 _ _ (g1 _ _ htr)
            have fin : ∀ (p : Addr) (H6 : Hp), Same H5 H6 → H6 p = some (.tup ((r ++ [(m : Int)]).map V.int)) → ∃ acc, H6 D2 = some (.lst acc) ∧ acc.length < sizeLine ∧ (Same G1' (upd H6 D2 (.lst (acc ++ [.ref p]))) ∧ ∃ us, (upd H6 D2 (.lst (acc ++ [.ref p]))) D2 = some (.lst us) ∧ RowsAt (upd H6 D2 (.lst (acc ++ [.ref p]))) us ((rs.take (i + 1)).map (· ++ [(m : Int)]))) := by
              intro p H6 s6 h6
              have d6 := s6 _ _ (s5 _ _ g2)
              refine ⟨us, d6, small1000 (by omega), ((g1.trans s5).trans s6).fresh_upd hD2, us ++ [.ref p], upd_same, ?_⟩
              rw [ertk]
              exact RowsAt.but (paired_app (g3.same (s5.trans s6)) (.cons ⟨p, rfl, h6⟩ .nil)) (but_upd _ _ _) d6 (fun _ z => by cases z)
            refine ⟨tr, q5, _, _, rfl, rfl, SqT.of htr5, SqT.of h5, ?_, fun e1 => ?_, (fun _ e2 => by cases e2), fun e1 _ p hp => ?_⟩
            · have h9 := row_len (c := 0) (ownL qs ws (ns.take j)) [[]] (fun r hr => by simp at hr; rw [hr]; exact Nat.le_refl _) r (by rw [hrs]; exact List.mem_of_getElem? er)
              have h10 := own_len qs ws (ns.take j)
              have h11 := List.length_take_le j ns
              have h12 : (List.map V.int r).length ≤ 900 := by rw [List.length_map]; omega
              exact Nat.le_of_lt (small1000 (by show (List.map V.int r).length + 1 ≤ 1000; omega))
            · have er0 : r = [] := by simpa using e1
              exact fin q5 H5 (Same.refl H5) (by rw [er0]; exact h5)
            · exact fin p _ (same_new hp) (by rw [upd_same, List.map_append]; rfl)
          · rintro H2 ⟨g1, us, g2, g3⟩
            rw [hvl, List.take_length] at g3
            have hus := g3.length
            rw [List.length_map] at hus
            refine ⟨L, D2, vs, us, rfl, rfl, g1 _ _ hL, g2, Nat.le_of_lt (small1000 (by omega)), fun p hp => ?_⟩
            refine ⟨s1.trans (g1.trans (same_new hp)), p, vs ++ us, _, w6, upd_same, ?_, rfl⟩
            rw [eown, if_pos c2, List.foldl_append, hrs]
            exact paired_app ((hR.same g1).same (same_new hp)) (g3.same (same_new hp))
        · have c2 : ¬ q.1 ∈ ws := fun z => c1 ((in_ints _ _).trans (decide_eq_true z))
          refine ⟨s1, L, vs, _, w6, hL, ?_, rfl⟩
          rw [eown, if_neg c2]
          exact hR
      · rintro σ G1 ⟨s1, L, vs, w5, w6, hL, hR, rfl⟩
        rw [List.length_map, List.take_length] at hR
        refine ⟨_, rfl, L, rfl, ⟨vs, SqL.of hL⟩, ?_⟩
        have hrl : ((ownL qs ws ns).foldl grow [[]]).length ≤ 16 := by
          have h1 := subs_len (ownL qs ws ns)
          have h2 := pow_16 (Nat.le_trans (own_len qs ws ns) hl)
          unfold subsL at h1
          omega
        have ekA' : kA qs ws (([os, ts] : List (List Int)).take (i + 1)) = ((ownL qs ws ns).foldl grow [[]]).foldl addKey (kA qs ws (([os, ts] : List (List Int)).take i)) := ekA
        rw [ekA']
        generalize (ownL qs ws ns).foldl grow [[]] = rs at hR hrl ⊢
        have hvl := hR.length
        generalize kA qs ws (([os, ts] : List (List Int)).take i) = ks at dG hkl ⊢
        refine for_it (walk_list (K := K) (a := L) (xs := vs)) (fun j σ H' => But D G1 H' ∧ H' D = some (.dT (kvL ((rs.take j).foldl addKey ks))) ∧ ∃ v6, σ = [some (.ref x), some (.ref a), some (.ref D), some (.ref c), some (.ref L), w5, v6, none])
          ⟨But.refl _ _, s1 _ _ dG, w6, rfl⟩ (fun j σ H' _ h => SqL.of (h.1 _ _ hL (ne_of hL (s1 _ _ dG) (by intro e; cases e)))) ?_ ?_
        · rintro j y σ G2 G2' hj ⟨b2, d2, v6, rfl⟩ ⟨rfl, ey⟩
          obtain ⟨r, er, tr, rfl, htr⟩ := pget hR ey
          have htr2 := b2 _ _ htr (ne_of htr (s1 _ _ dG) (by intro e; cases e))
          have hkl2 := key_len (rs.take j) ks
          have := List.length_take_le j rs
          refine ⟨_, rfl, _, rfl, D, _, rfl, Or.inr ⟨_, r.map Sum.inl, tr, d2, rfl, by rw [row_kV]; exact htr2, small1000 (by unfold kvL; rw [List.length_map]; omega), rfl⟩, ?_⟩
          refine ⟨b2.trans (but_upd _ _ _), ?_, _, rfl⟩
          rw [upd_same, put_key, List.take_succ, er, List.foldl_append]
          rfl
        · rintro σ G2 ⟨b2, d2, v6, rfl⟩
          rw [hvl, List.take_length] at d2
          refine ⟨fun b o e => b2 b o (s1 _ _ (sG b o e)) (ne_of_none e hD), b2 _ _ (s1 _ _ tG) (ne_of (s1 _ _ tG) (s1 _ _ dG) (by intro e; cases e)), d2, _, _, _, _, rfl⟩
    · rintro σ G ⟨sG, tG, dG, v3, v4, v5, v6, rfl⟩
      have eks : kA qs ws (([os, ts] : List (List Int)).take 2) = keysL qs ws os ts := rfl
      have dG : G D = some (.dT (kvL (keysL qs ws os ts))) := dG
      have hkl : (keysL qs ws os ts).length ≤ 32 := kA_len (qs := qs) (ws := ws) (sc := [os, ts]) fun n hn => by
        simp only [List.mem_cons, List.not_mem_nil, or_false] at hn
        rcases hn with rfl | rfl
        · exact ol
        · exact tl
      have ekk : rowsF qs ws os ts = sortedL (keysL qs ws os ts) := rfl
      rw [ekk] at k
      generalize keysL qs ws os ts = ks at dG hkl k
      refine ⟨D, _, dG, by constructor, fun od => ?_⟩
      refine ⟨_, rfl, D, od, rfl, Or.inr ⟨_, upd_same, fun E2 hE => ?_⟩⟩
      have nE : D ≠ E2 := ne_of_none upd_same hE
      have hE2 : G E2 = none := by rw [upd_ne nE.symm] at hE; exact hE
      refine lc_it (walk_keysT (d := D) (o := od) (kvs := kvL ks)) (fun i H' => H' D = some (.frz od (.dT (kvL ks))) ∧ But D G H' ∧ ∃ us, H' E2 = some (.lst us) ∧ Paired (EntAt H') us (ks.take i))
        ⟨by rw [upd_ne nE]; exact upd_same, fun b o e n => by rw [upd_ne (ne_of_none e hE2), upd_ne n]; exact e, [], upd_same, .nil⟩ (fun i H' _ h => h.1) ?_ ?_
      · rintro i y G1 G1' hi ⟨g1, g2, us, g3, g4⟩ ⟨rfl, kk, vv, q, ei, rfl, hq⟩
        unfold kvL at ei hi
        rw [List.length_map] at hi
        rw [List.getElem?_map, List.getElem?_eq_getElem hi] at ei
        obtain ⟨rfl, rfl⟩ := Prod.mk.inj (Option.some.inj ei)
        have hq' : G1' q = some (.tup (ks[i].map V.int)) := by rw [row_kV] at hq; exact hq
        have hus := g4.length
        rw [List.length_take] at hus
        refine ⟨rfl, ⟨_, rfl, q, _, rfl, Or.inr (SqT.of hq'), _, rfl, (by show 2 ≤ sizeLine; decide), fun t ht => ?_⟩⟩
        have s5 : Same G1' (upd G1' t (.tup [.int (ks[i].map V.int).length, .ref q])) := same_new ht
        have h5 : (upd G1' t (.tup [.int (ks[i].map V.int).length, .ref q])) t = some (.tup [.int (ks[i].length), .ref q]) := by rw [upd_same, List.length_map]
        generalize upd G1' t (.tup [.int (ks[i].map V.int).length, .ref q]) = G5 at s5 h5 ⊢
        have d5 := s5 _ _ g3
        refine ⟨us, d5, small1000 (by omega), by rw [upd_ne nE]; exact s5 _ _ g1, fun b o e n => ?_, us ++ [.ref t], upd_same, ?_⟩
        · rw [upd_ne (ne_of_none e hE2)]
          exact s5 _ _ (g2 b o e n)
        · rw [take_next hi]
          exact Paired.mapP (paired_app (Paired.mapP g4 fun _ _ h => h.same s5) (.cons ⟨t, q, rfl, h5, s5 _ _ hq'⟩ .nil)) fun _ _ h => h.but (but_upd _ _ _) d5 (fun _ z => by cases z)
      · rintro G1 ⟨g1, g2, us, g3, g4⟩
        unfold kvL at g4
        rw [List.length_map, List.take_length] at g4
        refine ⟨g1, ?_⟩
        have b6 : But D G1 (upd G1 D (.dT (kvL ks))) := but_upd _ _ _
        have s6 : Same H (upd G1 D (.dT (kvL ks))) := fun b o e => b6 _ _ (g2 _ _ (sG b o e) (ne_of_none e hD)) (ne_of_none e hD)
        have h6 : (upd G1 D (.dT (kvL ks))) E2 = some (.lst us) := b6 _ _ g3 nE.symm
        have p6 : Paired (EntAt (upd G1 D (.dT (kvL ks)))) us ks := Paired.mapP g4 fun _ _ h => h.but b6 g1 (fun _ z => by cases z)
        generalize upd G1 D (.dT (kvL ks)) = G6 at b6 s6 h6 p6 ⊢
        have hul := p6.length
        have hz := paired_zip p6
        have ef : ((us.zip ks).map fun p : V × List Int => (p.1, encD p.2)).map (·.1) = us := by
          rw [List.map_map]
          exact zip_fst hul
        refine ⟨E2, (us.zip ks).map fun p : V × List Int => (p.1, encD p.2), rfl, by rw [ef]; exact SqL.of h6, ?_, ?_, ?_, ?_, fun p7 hp7 => ?_⟩
        · intro b hb
          obtain ⟨q, hq, rfl⟩ := List.mem_map.mp hb
          exact (hz q hq).dp
        · rw [List.map_map]
          exact PySem.W.AllAlike.of (enc := fun q : V × List Int => encD q.2) fun _ _ => alike_enc _ _
        · rw [List.map_map]
          exact PySem.W.Sortable.tuples (enc := fun q : V × List Int => encD q.2) fun _ => ⟨_, _, rfl⟩
        · intro b hb
          obtain ⟨q, hq, rfl⟩ := List.mem_map.mp hb
          exact enc_depth q.2
        · have e1 := PySem.W.sort_maps (r := fun a b : V × List Int => PySem.W.dataLe false (·.2) ((fun q : V × List Int => (q.1, encD q.2)) a) ((fun q : V × List Int => (q.1, encD q.2)) b)) (s := PySem.W.dataLe false (·.2)) (fun q : V × List Int => (q.1, encD q.2)) (l := us.zip ks) fun _ _ _ _ => rfl
          have e2 := PySem.W.sort_maps (r := fun a b : V × List Int => PySem.W.dataLe false (·.2) ((fun q : V × List Int => (q.1, encD q.2)) a) ((fun q : V × List Int => (q.1, encD q.2)) b)) (s := PySem.W.dataLe false encD) (fun q : V × List Int => q.2) (l := us.zip ks) fun _ _ _ _ => rfl
          have hmem : ∀ q, q ∈ (us.zip ks).mergeSort (fun a b : V × List Int => PySem.W.dataLe false (·.2) ((fun q : V × List Int => (q.1, encD q.2)) a) ((fun q : V × List Int => (q.1, encD q.2)) b)) → EntAt G6 q.1 q.2 := fun q hq => hz q ((List.mergeSort_perm _ _).mem_iff.mp hq)
          rw [← e1]
          rw [zip_snd hul] at e2
          have e3 : ((us.zip ks).mergeSort (fun a b : V × List Int => PySem.W.dataLe false (·.2) ((fun q : V × List Int => (q.1, encD q.2)) a) ((fun q : V × List Int => (q.1, encD q.2)) b))).map (·.2) = sortedL ks := e2
          have hsl : ((us.zip ks).mergeSort (fun a b : V × List Int => PySem.W.dataLe false (·.2) ((fun q : V × List Int => (q.1, encD q.2)) a) ((fun q : V × List Int => (q.1, encD q.2)) b))).length ≤ 32 := by
            rw [List.length_mergeSort, List.length_zip]
            omega
          generalize (us.zip ks).mergeSort (fun a b : V × List Int => PySem.W.dataLe false (·.2) ((fun q : V × List Int => (q.1, encD q.2)) a) ((fun q : V × List Int => (q.1, encD q.2)) b) ) = sp at hmem e3 hsl ⊢
          have s7 : Same G6 (upd G6 p7 (.lst ((sp.map fun q : V × List Int => (q.1, encD q.2)).map (·.1)))) := same_new hp7
          have h7 : (upd G6 p7 (.lst ((sp.map fun q : V × List Int => (q.1, encD q.2)).map (·.1)))) p7 = some (.lst (sp.map (·.1))) := by rw [upd_same, List.map_map]; rfl
          generalize upd G6 p7 (.lst ((sp.map fun q : V × List Int => (q.1, encD q.2)).map (·.1))) = G7 at s7 h7 ⊢
          refine ⟨p7, rfl, ⟨_, SqL.of h7⟩, fun D8 hD8 => ?_⟩
          refine lc_list (K := K) (a := p7) (xs := sp.map (·.1)) (fun i H' => Same G7 H' ∧ ∃ us, H' D8 = some (.lst us) ∧ RowsAt H' us ((sp.take i).map (·.2))) ⟨same_new hD8, [], upd_same, .nil⟩ (fun i H' _ g => SqL.of (g.1 _ _ h7)) ?_ ?_
          · rintro i v H2 ei ⟨g1, us2, g2, g3⟩
            rw [List.getElem?_map] at ei
            cases es : sp[i]? with
            | none => rw [es] at ei; cases ei
            | some q =>
              rw [es] at ei
              obtain rfl := Option.some.inj ei
              obtain ⟨t, q2, et, h1, h2⟩ := hmem q (List.mem_of_getElem? es)
              have hus := g3.length
              rw [List.length_map, List.length_take] at hus
              have s72 := s7.trans g1
              refine ⟨t, _, et, SqT.of (s72 _ _ h1), rfl, _, _, rfl, _, _, rfl, rfl, rfl, ?_⟩
              refine ⟨_, rfl, us2, g2, small1000 (by omega), g1.fresh_upd hD8, us2 ++ [.ref q2], upd_same, ?_⟩
              rw [List.take_succ, es, List.map_append]
              exact RowsAt.but (paired_app g3 (.cons ⟨q2, rfl, s72 _ _ h2⟩ .nil)) (but_upd _ _ _) g2 (fun _ z => by cases z)
          · rintro H2 ⟨g1, us2, g2, g3⟩
            rw [List.length_map, List.take_length, e3] at g3
            refine ⟨D8, us2, rfl, Or.inl ⟨SqL.of g2, fun r hr' => ?_⟩⟩
            exact k _ r us2 (s6.trans (s7.trans (g1.trans (same_new hr')))) upd_same (g3.same (same_new hr'))
end
end K17

set_option Elab.async false
set_option linter.all false
set_option maxRecDepth 100000
set_option maxHeartbeats 400000
namespace K17
open PySem PySem.Spec PyProof.Rows L2 Own
/-! ### stories -/
def tagD (x : Str) (r : List Int) : PyData := .tuple [.str x, rowD r]
def storyL (rs : List (List Int)) (there : Bool) : List PyData := (if there = true then rs.map (tagD "old") else []) ++ rs.map (tagD "new")
def TagAt (x : Str) (H : Hp) (v : V) (r : List Int) : Prop := ∃ t q, v = .ref t ∧ H t = some (.tup [.str x, q]) ∧ RowAt H q r
theorem TagAt.same {x : Str} {H H' : Hp} {v : V} {r : List Int} (h : TagAt x H v r) (s : Same H H') : TagAt x H' v r := by
  obtain ⟨t, q, e, h1, h2⟩ := h
  exact ⟨t, q, e, s _ _ h1, h2.same s⟩
theorem TagAt.but {x : Str} {H H' : Hp} {v : V} {r : List Int} {D : Addr} {o : HO} (h : TagAt x H v r) (b : But D H H') (hD : H D = some o) (ho : ∀ xs, o ≠ .tup xs) : TagAt x H' v r := by
  obtain ⟨t, q, e, h1, p, e2, h2⟩ := h
  exact ⟨t, q, e, b _ _ h1 (ne_of h1 hD fun z => ho _ z.symm), p, e2, b _ _ h2 (ne_of h2 hD fun z => ho _ z.symm)⟩
theorem TagAt.dp {K : PySem.W.Frag} {x : Str} {H : Hp} {v : V} {r : List Int} (h : TagAt x H v r) : Dp K H v (tagD x r) := by
  obtain ⟨t, q, rfl, h1, h2⟩ := h
  exact .tup (SqT.of h1) (.cons (.str x) (.cons h2.dp .nil))
theorem tags_dp {K : PySem.W.Frag} {x : Str} {H : Hp} : ∀ {vs : List V} {rs : List (List Int)}, Paired (TagAt x H) vs rs → DpAll K H vs (rs.map (tagD x))
  | _, _, .nil => .nil
  | _, _, .cons h t => .cons h.dp (tags_dp t)
theorem rows_dp {K : PySem.W.Frag} {H : Hp} : ∀ {vs : List V} {rs : List (List Int)}, RowsAt H vs rs → DpAll K H vs (rs.map rowD)
  | _, _, .nil => .nil
  | _, _, .cons h t => .cons h.dp (rows_dp t)
def spStories (K : PySem.W.Frag) (CR CQ : Addr) : Sp := fun vs H Q _ => ∃ (x a : Addr) (qs : List (Int × Int)) (ws os ts : List Int) (there : Bool), vs = [.ref x, .ref a, .bl there] ∧ QAt CR CQ H x qs os ts ∧ SqT K H a (ws.map V.int) ∧
  (∀ n ∈ os, 0 ≤ n ∧ n < qs.length) ∧ (∀ n ∈ ts, 0 ≤ n ∧ n < qs.length) ∧ os.length ≤ 4 ∧ ts.length ≤ 4 ∧ ∀ H' v, Same H H' → Dp K H' v (.tuple (storyL (rowsF qs ws os ts) there)) → Q v H'
theorem rowsF_len (qs : List (Int × Int)) (ws os ts : List Int) (ho : os.length ≤ 4) (ht : ts.length ≤ 4) : (rowsF qs ws os ts).length ≤ 32 := by
  unfold rowsF sortedL
  rw [List.length_mergeSort]
  exact kA_len (qs := qs) (ws := ws) (sc := [os, ts]) fun n hn => by
    simp only [List.mem_cons, List.not_mem_nil, or_false] at hn
    rcases hn with rfl | rfl
    · exact ho
    · exact ht
section
variable {P : Program} {w : World} {K : PySem.W.Frag} {mg : Str → Option Value} {base : Heap}
abbrev sStories : Stmt := top 65
abbrev nStories : List Str := ["question", "words", "there", "rows", "old", "row"]
theorem scStories : FnScope nStories ["question", "words", "there"] (defScope sStories) := ⟨rfl, rfl, rfl, by decide +kernel, rfl, by decide +kernel, by decide +kernel⟩
theorem ok_stories {f CR CQ : Addr} {fd : FuncData} (F : FnP K "stories_of" "stories_of" sStories f fd) (T : Tx mg) (cR : Cl P w K mg base 1 "rows_of" ["question", "words"] (spRowsOf K CR CQ)) : FnOk P w K mg base CX0 2 f fd ["question", "words", "there"] (spStories K CR CQ) := by
  obtain ⟨fR, fdR, GR, mR, kR, bR⟩ := cR.ex
  refine F.ok scStories (fun vs H Q E h => ?_) (fun cdv A outer s H vs Q E hr h => ?_)
  · obtain ⟨x, a, qs, ws, os, ts, th, rfl, _⟩ := h
    rfl
  · obtain ⟨x, a, qs, ws, os, ts, th, rfl, hQ, hW, ob, tb, ol, tl, k⟩ := h
    refine ⟨_, PSs.nox (pss_cons (ps_set (i := 3) scStories.nd rfl (Or.inl rfl) (pe_call GR hr (by rfl) mR kR bR .nil pass0 (pa_cons (pv 0) (pa_cons (pv 1) pa_nil))))
      (C8.pss_cut (ps_set (i := 4) scStories.nd rfl (Or.inl rfl) (pe_ifExp (pt_val (pv 2))
        (pe_lc (own := [("row", 5)]) (g := gName 5) (tt := tYes) (by rfl) scStories.nd (pi_tup (pv 3)) (blkOk_by (own := [("row", 5)]) (N := nStories) (sc := defScope sStories) (by decide +kernel)) (fun _ _ _ _ _ => pg_name (i := 5) scStories.nd rfl (Or.inl rfl)) (fun _ _ _ _ _ => pts_nil)
          (fun _ _ _ _ _ => pe_tup (pa_cons pe_str (pa_cons (pv 5) pa_nil)))) (pe_lst pa_nil)))
      (pss_one (ps_ret (pe_callTy call_tuple_of (by rfl) T.tuple (by decide +kernel) (pa_cons (pe_op op_cat (pv 4)
        (pe_lc (own := [("row", 5)]) (g := gName 5) (tt := tYes) (by rfl) scStories.nd (pi_tup (pv 3)) (blkOk_by (own := [("row", 5)]) (N := nStories) (sc := defScope sStories) (by decide +kernel)) (fun _ _ _ _ _ => pg_name (i := 5) scStories.nd rfl (Or.inl rfl)) (fun _ _ _ _ _ => pts_nil)
          (fun _ _ _ _ _ => pe_tup (pa_cons pe_str (pa_cons (pv 5) pa_nil))))) pa_nil)))))), ?_⟩
    refine ⟨_, rfl, _, rfl, x, a, qs, ws, os, ts, rfl, hQ, hW, ob, tb, ol, tl, fun H1 p vs s1 hp hR => ?_⟩
    have hl := rowsF_len qs ws os ts ol tl
    generalize rowsF qs ws os ts = rs at hl hR k
    have hvl := hR.length
    refine ⟨fun σ H' => Same H1 H' ∧ ∃ L us, σ = [some (.ref x), some (.ref a), some (.bl th), some (.ref p), some (.ref L), none] ∧ H' L = some (.lst us) ∧ DpAll K H' us (if th = true then rs.map (tagD "old") else []) ∧ us.length ≤ 32, ?_, ?_⟩
    · refine ⟨_, rfl, th, rfl, ?_⟩
      cases th with
      | false =>
        refine iteF ⟨(by show 0 ≤ sizeLine; decide), fun L hL => ?_⟩
        exact ⟨same_new hL, L, [], rfl, upd_same, .nil, Nat.zero_le _⟩
      | true =>
        refine iteT ⟨_, rfl, p, rfl, ⟨vs, SqT.of hp⟩, fun D hD => ?_⟩
        refine lc_tup (K := K) (a := p) (xs := vs) (fun i H' => Same H1 H' ∧ ∃ us, H' D = some (.lst us) ∧ Paired (TagAt "old" H') us (rs.take i)) ⟨same_new hD, [], upd_same, .nil⟩ (fun i H' _ g => SqT.of (g.1 _ _ hp)) ?_ ?_
        · rintro i v H2 ei ⟨g1, us, g2, g3⟩
          obtain ⟨r, er, hr2⟩ := pget hR ei
          have hus := g3.length
          rw [List.length_take] at hus
          refine ⟨rfl, ⟨_, rfl, (by show 2 ≤ sizeLine; decide), fun t ht => ?_⟩⟩
          have s5 : Same H2 (upd H2 t (.tup [.str "old", v])) := same_new ht
          have h5 : (upd H2 t (.tup [.str "old", v])) t = some (.tup [.str "old", v]) := upd_same
          generalize upd H2 t (.tup [.str "old", v]) = H5 at s5 h5 ⊢
          have d5 := s5 _ _ g2
          refine ⟨us, d5, small1000 (by omega), (g1.trans s5).fresh_upd hD, us ++ [.ref t], upd_same, ?_⟩
          rw [List.take_succ, er]
          exact Paired.mapP (paired_app (Paired.mapP g3 fun _ _ h => h.same s5) (.cons ⟨t, v, rfl, h5, hr2.same (g1.trans s5)⟩ .nil)) fun _ _ h => h.but (but_upd _ _ _) d5 (fun _ z => by cases z)
        · rintro H2 ⟨g1, us, g2, g3⟩
          rw [hvl, List.take_length] at g3
          exact ⟨g1, D, us, rfl, g2, tags_dp g3, by rw [g3.length]; exact hl⟩
    · rintro σ' H2 ⟨s2, L, us0, rfl, hL, hd0, hu0⟩
      have hp2 := s2 _ _ hp
      refine ⟨_, rfl, _, rfl, p, rfl, ⟨vs, SqT.of hp2⟩, fun D hD => ?_⟩
      refine lc_tup (K := K) (a := p) (xs := vs) (fun i H' => Same H2 H' ∧ ∃ us, H' D = some (.lst us) ∧ Paired (TagAt "new" H') us (rs.take i)) ⟨same_new hD, [], upd_same, .nil⟩ (fun i H' _ g => SqT.of (g.1 _ _ hp2)) ?_ ?_
      · rintro i v H3 ei ⟨g1, us, g2, g3⟩
        obtain ⟨r, er, hr2⟩ := pget hR ei
        have hus := g3.length
        rw [List.length_take] at hus
        refine ⟨rfl, ⟨_, rfl, (by show 2 ≤ sizeLine; decide), fun t ht => ?_⟩⟩
        have s5 : Same H3 (upd H3 t (.tup [.str "new", v])) := same_new ht
        have h5 : (upd H3 t (.tup [.str "new", v])) t = some (.tup [.str "new", v]) := upd_same
        generalize upd H3 t (.tup [.str "new", v]) = H5 at s5 h5 ⊢
        have d5 := s5 _ _ g2
        refine ⟨us, d5, small1000 (by omega), (g1.trans s5).fresh_upd hD, us ++ [.ref t], upd_same, ?_⟩
        rw [List.take_succ, er]
        exact Paired.mapP (paired_app (Paired.mapP g3 fun _ _ h => h.same s5) (.cons ⟨t, v, rfl, h5, hr2.same (s2.trans (g1.trans s5))⟩ .nil)) fun _ _ h => h.but (but_upd _ _ _) d5 (fun _ z => by cases z)
      · rintro H3 ⟨g1, us, g2, g3⟩
        rw [hvl, List.take_length] at g3
        have h1 := g3.length
        refine ⟨L, D, us0, us, rfl, rfl, g1 _ _ hL, g2, Nat.le_of_lt (small1000 (by omega)), fun r hr' => ?_⟩
        have s4 : Same H3 (upd H3 r (.lst (us0 ++ us))) := same_new hr'
        refine ⟨r, _, rfl, Or.inl ⟨SqL.of upd_same, fun q hq => ?_⟩⟩
        have s6 := s4.trans (same_new (o := .tup (us0 ++ us)) hq)
        refine k _ _ (((s1.trans s2).trans g1).trans s6) (.tup (SqT.of upd_same) ?_)
        exact DpAll.app (DpAll.same (g1.trans s6) hd0) (DpAll.same s6 (tags_dp g3))
end
end K17

set_option Elab.async false
set_option linter.all false
set_option maxRecDepth 100000
set_option maxHeartbeats 400000
namespace K17
open PySem PySem.Spec PyProof.Rows L2 Own
/-! ### the order of rows -/
theorem ll_irr : ∀ a : List Int, ¬ a < a
  | [] => by simp
  | x :: a => by
    rw [List.cons_lt_cons_iff]
    have := ll_irr a
    simp [this]
theorem ll_tr : ∀ {a b c : List Int}, a < b → b < c → a < c
  | [], [], c, h, _ => absurd h (ll_irr _)
  | [], _ :: _, [], _, h => by simp at h
  | [], _ :: _, _ :: _, _, _ => by simp
  | _ :: _, [], _, h, _ => by simp at h
  | _ :: _, _ :: _, [], _, h => by simp at h
  | x :: a, y :: b, z :: c, h, g => by
    rw [List.cons_lt_cons_iff] at h g ⊢
    rcases h with h | ⟨rfl, h⟩
    · rcases g with g | ⟨rfl, g⟩
      · exact .inl (by omega)
      · exact .inl h
    · rcases g with g | ⟨rfl, g⟩
      · exact .inl g
      · exact .inr ⟨rfl, ll_tr h g⟩
theorem ll_tri : ∀ a b : List Int, a < b ∨ a = b ∨ b < a
  | [], [] => .inr (.inl rfl)
  | [], _ :: _ => .inl (by simp)
  | _ :: _, [] => .inr (.inr (by simp))
  | x :: a, y :: b => by
    rw [List.cons_lt_cons_iff, List.cons_lt_cons_iff]
    rcases ll_tri a b with h | h | h <;> rcases Int.lt_trichotomy x y with g | g | g <;> simp_all
def before (r s : List Int) : Prop := r.length < s.length ∨ (r.length = s.length ∧ r < s)
theorem bf_irr (a : List Int) : ¬ before a a := fun h => by
  rcases h with h | h
  · omega
  · exact ll_irr a h.2
theorem bf_tr {a b c : List Int} (h : before a b) (g : before b c) : before a c := by
  rcases h with h | ⟨h1, h2⟩
  · rcases g with g | ⟨g1, g2⟩
    · exact .inl (by omega)
    · exact .inl (by omega)
  · rcases g with g | ⟨g1, g2⟩
    · exact .inl (by omega)
    · exact .inr ⟨by omega, ll_tr h2 g2⟩
theorem bf_tri (a b : List Int) : before a b ∨ a = b ∨ before b a := by
  rcases Nat.lt_trichotomy a.length b.length with h | h | h
  · exact .inl (.inl h)
  · rcases ll_tri a b with g | g | g
    · exact .inl (.inr ⟨h, g⟩)
    · exact .inr (.inl g)
    · exact .inr (.inr (.inr ⟨h.symm, g⟩))
  · exact .inr (.inr (.inl h))
theorem eqv_ints : ∀ a b : List Int, PyData.eqvAll (a.map PyData.int) (b.map PyData.int) = decide (a = b)
  | [], [] => rfl
  | [], _ :: _ => by simp [PyData.eqvAll]
  | _ :: _, [] => by simp [PyData.eqvAll]
  | x :: a, y :: b => by
    rw [List.map_cons, List.map_cons, PyData.eqvAll, eqv_ints a b]
    simp only [PyData.eqv, List.cons.injEq, Bool.decide_and]
    rfl
theorem eqv_row (a b : List Int) : PyData.eqv (rowD a) (rowD b) = decide (a = b) := by
  unfold rowD
  rw [PyData.eqv, eqv_ints]
theorem lt_row (a b : List Int) : PySem.W.dataLt (rowD a) (rowD b) = decide (a < b) := by
  unfold rowD
  rw [PySem.W.dataLt_tuple]
  exact PySem.W.dataLt_ints a b
theorem lt_enc (a b : List Int) : PySem.W.dataLt (encD a) (encD b) = true ↔ before a b := by
  unfold encD
  rw [PySem.W.dataLt_pair (by simp [PySem.W.alike]) (by show PySem.W.alike (rowD a) (rowD b) = true; unfold rowD; simp only [PySem.W.alike, alike_ints]), eqv_row, lt_row, PySem.W.dataLt_int]
  simp only [PyData.eqv, beq_iff_eq, before, decide_eq_true_eq]
  by_cases c : (a.length : Int) = b.length
  · rw [if_pos c]
    have c2 : a.length = b.length := by omega
    by_cases d : a = b
    · rw [if_pos d, d]
      simp [ll_irr]
    · rw [if_neg d]
      simp only [decide_eq_true_eq]
      constructor
      · intro h
        exact .inr ⟨c2, h⟩
      · rintro (h | h)
        · omega
        · exact h.2
  · rw [if_neg c]
    simp only [decide_eq_true_eq]
    constructor
    · intro h
      exact .inl (by omega)
    · rintro (h | h)
      · omega
      · omega
theorem le_enc (a b : List Int) : PySem.W.dataLe false encD a b = true ↔ ¬ before b a := by
  rw [PySem.W.dataLe_eq]
  show (!PySem.W.dataLt (encD b) (encD a)) = true ↔ _
  rw [← lt_enc]
  simp
theorem le_row (a b : List Int) : PySem.W.dataLe false rowD a b = true ↔ ¬ b < a := by
  rw [PySem.W.dataLe_eq]
  show (!PySem.W.dataLt (rowD b) (rowD a)) = true ↔ _
  rw [lt_row]
  simp
/-! ### strictly sorted lists -/
theorem uniq : ∀ {l m : List (List Int)}, l.Pairwise before → m.Pairwise before → (∀ x, x ∈ l ↔ x ∈ m) → l = m
  | [], [], _, _, _ => rfl
  | [], y :: m, _, _, h => absurd ((h y).mpr (List.mem_cons_self ..)) (List.not_mem_nil)
  | x :: l, [], _, _, h => absurd ((h x).mp (List.mem_cons_self ..)) (List.not_mem_nil)
  | x :: l, y :: m, hl, hm, h => by
    rw [List.pairwise_cons] at hl hm
    have e : x = y := by
      rcases List.mem_cons.mp ((h x).mp (List.mem_cons_self ..)) with e | h1
      · exact e
      · rcases List.mem_cons.mp ((h y).mpr (List.mem_cons_self ..)) with e | h2
        · exact e.symm
        · exact absurd (bf_tr (hl.1 y h2) (hm.1 x h1)) (bf_irr x)
    subst e
    congr 1
    refine uniq hl.2 hm.2 fun z => ?_
    have hz := h z
    rw [List.mem_cons, List.mem_cons] at hz
    constructor
    · intro h1
      rcases hz.mp (.inr h1) with e | h2
      · exact absurd (hl.1 z h1) (e ▸ bf_irr z)
      · exact h2
    · intro h1
      rcases hz.mpr (.inr h1) with e | h2
      · exact absurd (hm.1 z h1) (e ▸ bf_irr z)
      · exact h2
theorem sorted_strict {ks : List (List Int)} (h : ks.Nodup) : (sortedL ks).Pairwise before := by
  unfold sortedL
  have h1 := List.pairwise_mergeSort (le := PySem.W.dataLe false encD) (fun a b c h g => by
    rw [le_enc] at h g ⊢
    intro z
    rcases bf_tri b a with q | q | q
    · exact h q
    · exact g (q ▸ z)
    · exact g (bf_tr z q)) (fun a b => by
    rw [Bool.or_eq_true, le_enc, le_enc]
    rcases bf_tri a b with q | q | q
    · exact .inl fun z => bf_irr a (bf_tr q z)
    · exact .inl (q ▸ bf_irr a)
    · exact .inr fun z => bf_irr b (bf_tr q z)) ks
  have h2 : (ks.mergeSort (PySem.W.dataLe false encD)).Nodup := (List.mergeSort_perm _ _).nodup_iff.mpr h
  refine (h1.and h2).imp fun {a b} ⟨p, q⟩ => ?_
  rw [le_enc] at p
  rcases bf_tri a b with z | z | z
  · exact z
  · exact absurd z q
  · exact absurd z p
/-! ### neighbours that are alike, once -/
def ddF (acc : List (List Int)) (x : List Int) : List (List Int) := if acc.getLast? = some x then acc else acc ++ [x]
def dd (l : List (List Int)) : List (List Int) := l.foldl ddF []
theorem dd_snoc (l : List (List Int)) (x : List Int) : dd (l ++ [x]) = ddF (dd l) x := by
  unfold dd
  rw [List.foldl_append]
  rfl
theorem snoc_ind {P : List (List Int) → Prop} (h0 : P []) (hs : ∀ l x, P l → P (l ++ [x])) (l : List (List Int)) : P l := by
  have h : ∀ m : List (List Int), P m.reverse := fun m => by
    induction m with
    | nil => exact h0
    | cons x m ih =>
      rw [List.reverse_cons]
      exact hs _ _ ih
  have := h l.reverse
  rwa [List.reverse_reverse] at this
theorem dd_last (l : List (List Int)) : (dd l).getLast? = l.getLast? := by
  induction l using snoc_ind with
  | h0 => rfl
  | hs l x ih =>
    rw [dd_snoc]
    unfold ddF
    split
    · rename_i h
      rw [h]
      simp
    · simp
theorem dd_mem {y : List Int} (l : List (List Int)) : y ∈ dd l ↔ y ∈ l := by
  induction l using snoc_ind with
  | h0 => exact Iff.rfl
  | hs l x ih =>
    rw [dd_snoc]
    unfold ddF
    split
    · rename_i h
      rw [List.mem_append, List.mem_singleton, ih]
      constructor
      · exact .inl
      · rintro (h1 | rfl)
        · exact h1
        · rw [dd_last] at h
          exact List.mem_of_getLast? h
    · rw [List.mem_append, List.mem_append, ih]
theorem dd_strict {l : List (List Int)} (h : l.Pairwise fun a b => ¬ before b a) : (dd l).Pairwise before := by
  induction l using snoc_ind with
  | h0 => exact List.Pairwise.nil
  | hs l x ih =>
    rw [List.pairwise_append] at h
    obtain ⟨h1, _, h3⟩ := h
    have ih := ih h1
    rw [dd_snoc]
    unfold ddF
    split
    · exact ih
    · rename_i hne
      rw [List.pairwise_append]
      refine ⟨ih, List.pairwise_singleton _ _, fun a ha b hb => ?_⟩
      rw [List.mem_singleton] at hb
      subst hb
      have ha2 := (dd_mem l).mp ha
      have h4 := h3 a ha2 b (List.mem_singleton.mpr rfl)
      rcases bf_tri a b with z | z | z
      · exact z
      · subst z
        exfalso
        -- a is the last of dd l
        cases hl : (dd l).getLast? with
        | none =>
          rw [List.getLast?_eq_none_iff] at hl
          rw [hl] at ha
          cases ha
        | some c =>
          have hc : c ∈ l := by
            rw [dd_last] at hl
            exact List.mem_of_getLast? hl
          have h5 := h3 c hc a (List.mem_singleton.mpr rfl)
          obtain ⟨m, em⟩ : ∃ m, dd l = m ++ [c] := List.getLast?_eq_some_iff.mp hl
          rw [em, List.mem_append, List.mem_singleton] at ha
          rcases ha with ha | ha
          · rw [em, List.pairwise_append] at ih
            exact h5 (ih.2.2 a ha c (List.mem_singleton.mpr rfl))
          · rw [hl, ha] at hne
            exact hne rfl
      · exact absurd z h4
/-! ### the law's own list -/
def srtF (left : List (List Int)) (n : Nat) : List (List Int) := (left.filter fun r => decide (r.length = n)).mergeSort (PySem.W.dataLe false rowD)
def blocks (left : List (List Int)) (m : Nat) : List (List Int) := (List.range m).flatMap (srtF left)
theorem srt_mem {left : List (List Int)} {n : Nat} {r : List Int} : r ∈ srtF left n ↔ r ∈ left ∧ r.length = n := by
  unfold srtF
  rw [(List.mergeSort_perm _ _).mem_iff, List.mem_filter, decide_eq_true_eq]
theorem blocks_succ (left : List (List Int)) (m : Nat) : blocks left (m + 1) = blocks left m ++ srtF left m := by
  unfold blocks
  rw [List.range_succ, List.flatMap_append]
  simp
theorem blocks_mem {left : List (List Int)} {r : List Int} {m : Nat} : r ∈ blocks left m ↔ r ∈ left ∧ r.length < m := by
  unfold blocks
  rw [List.mem_flatMap]
  constructor
  · rintro ⟨n, h1, h2⟩
    rw [List.mem_range] at h1
    rw [srt_mem] at h2
    exact ⟨h2.1, by omega⟩
  · rintro ⟨h1, h2⟩
    exact ⟨r.length, List.mem_range.mpr h2, srt_mem.mpr ⟨h1, rfl⟩⟩
theorem blocks_le (left : List (List Int)) : ∀ m, (blocks left m).Pairwise fun a b => ¬ before b a
  | 0 => List.Pairwise.nil
  | m + 1 => by
    rw [blocks_succ, List.pairwise_append]
    refine ⟨blocks_le left m, ?_, fun a ha b hb => ?_⟩
    · have h1 := List.pairwise_mergeSort (le := PySem.W.dataLe false rowD) (fun a b c h g => by
        rw [le_row] at h g ⊢
        intro z
        rcases ll_tri b a with q | q | q
        · exact h q
        · exact g (q ▸ z)
        · exact g (ll_tr z q)) (fun a b => by
        rw [Bool.or_eq_true, le_row, le_row]
        rcases ll_tri a b with q | q | q
        · exact .inl fun z => ll_irr a (ll_tr q z)
        · exact .inl (q ▸ ll_irr a)
        · exact .inr fun z => ll_irr b (ll_tr q z)) (left.filter fun r => decide (r.length = m))
      refine List.Pairwise.imp_of_mem (fun {a b} ha hb h => ?_) h1
      have l1 := (srt_mem (left := left) (n := m)).mp ha
      have l2 := (srt_mem (left := left) (n := m)).mp hb
      rw [le_row] at h
      rintro (z | z)
      · omega
      · exact h z.2
    · have l1 := blocks_mem.mp ha
      have l2 := srt_mem.mp hb
      rintro (z | z) <;> omega
/-- the law's list is the program's -/
theorem law_rows {left ks : List (List Int)} (h4 : ∀ r ∈ left, r.length ≤ 4) (hm : ∀ r, r ∈ left ↔ r ∈ ks) (hn : ks.Nodup) : dd (blocks left 5) = sortedL ks := by
  refine uniq (dd_strict (blocks_le left 5)) (sorted_strict hn) fun r => ?_
  rw [dd_mem, blocks_mem]
  unfold sortedL
  rw [(List.mergeSort_perm _ _).mem_iff, ← hm]
  exact ⟨fun h => h.1, fun h => ⟨h, Nat.lt_succ_of_le (h4 r h)⟩⟩
/-! ### rows by bits -/
theorem fm_congr {α β : Type} {f g : α → Option β} : ∀ {l : List α}, (∀ a ∈ l, f a = g a) → l.filterMap f = l.filterMap g
  | [], _ => rfl
  | a :: l, h => by
    rw [List.filterMap_cons, List.filterMap_cons, h a (List.mem_cons_self ..), fm_congr fun b hb => h b (List.mem_cons_of_mem _ hb)]
def pickB (own : List Int) (b : Nat) : List Int := (List.range own.length).filterMap fun k => if b / 2 ^ k % 2 = 1 then own[k]? else none
theorem pick_snoc (own : List Int) (n : Int) (b : Nat) : pickB (own ++ [n]) b = pickB own (b % 2 ^ own.length) ++ if b / 2 ^ own.length % 2 = 1 then [n] else [] := by
  unfold pickB
  rw [List.length_append, List.length_singleton, List.range_succ, List.filterMap_append]
  congr 1
  · refine fm_congr fun k hk => ?_
    rw [List.mem_range] at hk
    have e1 : b % 2 ^ own.length / 2 ^ k % 2 = b / 2 ^ k % 2 := by
      obtain ⟨d, ed⟩ : ∃ d, own.length = k + (d + 1) := ⟨own.length - k - 1, by omega⟩
      rw [ed, Nat.pow_add, Nat.mod_mul_right_div_self, Nat.pow_succ, Nat.mod_mul_left_mod]
    rw [e1, List.getElem?_append_left hk]
  · rw [List.filterMap_cons, List.filterMap_nil]
    by_cases c : b / 2 ^ own.length % 2 = 1
    · rw [if_pos c, if_pos c, List.getElem?_append_right (Nat.le_refl _), Nat.sub_self]
      rfl
    · rw [if_neg c, if_neg c]
theorem subs_pick (own : List Int) : subsL own = (List.range (2 ^ own.length)).map (pickB own) := by
  have h : ∀ m : List Int, subsL m.reverse = (List.range (2 ^ m.reverse.length)).map (pickB m.reverse) := fun m => by
    induction m with
    | nil => rfl
    | cons n m ih =>
      rw [List.reverse_cons]
      generalize m.reverse = o at ih ⊢
      have e1 : subsL (o ++ [n]) = subsL o ++ (subsL o).map (· ++ [n]) := by
        unfold subsL
        rw [List.foldl_append]
        rfl
      rw [e1, ih, List.length_append, List.length_singleton, Nat.pow_succ, Nat.mul_two, List.range_add, List.map_append, List.map_map, List.map_map]
      have hp : 0 < 2 ^ o.length := Nat.two_pow_pos _
      congr 1
      · refine List.map_congr_left fun b hb => ?_
        rw [List.mem_range] at hb
        rw [pick_snoc, Nat.mod_eq_of_lt hb, Nat.div_eq_of_lt hb]
        simp
      · refine List.map_congr_left fun b hb => ?_
        rw [List.mem_range] at hb
        show pickB o b ++ [n] = pickB (o ++ [n]) (2 ^ o.length + b)
        rw [pick_snoc, Nat.add_mod_left, Nat.mod_eq_of_lt hb, Nat.add_div_left _ hp, Nat.div_eq_of_lt hb]
        rfl
  have := h own.reverse
  rwa [List.reverse_reverse] at this
end K17

set_option Elab.async false
set_option linter.all false
set_option maxRecDepth 100000
set_option maxHeartbeats 400000
namespace K17
open PySem PySem.Spec PyProof.Rows L2 Own
/-! ### the law's own calls -/
def LCallAt (H : Hp) (v : V) (q : Int × Int) : Prop := ∃ t b, v = .ref t ∧ H t = some (.tup [b, .int q.1, .int q.2])
theorem LCallAt.same {H H' : Hp} {v : V} {q : Int × Int} (h : LCallAt H v q) (s : Same H H') : LCallAt H' v q := by
  obtain ⟨t, b, e, h1⟩ := h
  exact ⟨t, b, e, s _ _ h1⟩
def spLeft (K : PySem.W.Frag) : Sp := fun vs H Q _ => ∃ (sc cl wd : Addr) (xs : List V) (qs : List (Int × Int)) (ws ns : List Int), vs = [.ref sc, .ref cl, .ref wd] ∧ H sc = some (.lst (ns.map V.int)) ∧ H cl = some (.lst xs) ∧ Paired (LCallAt H) xs qs ∧ SqT K H wd (ws.map V.int) ∧
  (∀ n ∈ ns, 0 ≤ n ∧ n < qs.length) ∧ ns.length ≤ 4 ∧ ∀ H' p vs, Same H H' → H' p = some (.lst vs) → RowsAt H' vs (subsL (ownL qs ws ns)) → Q (.ref p) H'
theorem two_pow {l : Nat} (h : l ≤ 4) : atI [V.int 1, V.int 2, V.int 4, V.int 8, V.int 16] (l : Int) = some (V.int ((2 ^ l : Nat) : Int)) := by
  match l, h with
  | 0, _ => rfl
  | 1, _ => rfl
  | 2, _ => rfl
  | 3, _ => rfl
  | 4, _ => rfl
theorem two_pow4 {l : Nat} (h : l < 4) : atI [V.int 1, V.int 2, V.int 4, V.int 8] (0 + (l : Int)) = some (V.int ((2 ^ l : Nat) : Int)) := by
  rw [Int.zero_add]
  match l, h with
  | 0, _ => rfl
  | 1, _ => rfl
  | 2, _ => rfl
  | 3, _ => rfl
theorem bit_of (i l : Nat) : (0 + (i : Int)) / ((2 ^ l : Nat) : Int) % 2 = ((i / 2 ^ l % 2 : Nat) : Int) := by
  rw [Int.zero_add]
  rfl
def digL (b n : Nat) : List V := (List.range n).map fun k => V.int ((b / 2 ^ k % 2 : Nat) : Int)
def pickJ (own : List Int) (b j : Nat) : List Int := (List.range j).filterMap fun k => if b / 2 ^ k % 2 = 1 then own[k]? else none
section
variable {P : Program} {w : World} {K : PySem.W.Frag} {mg : Str → Option Value} {base : Heap}
abbrev sLeft : Stmt := top 73
abbrev nLeft : List Str := ["_law_script", "_law_calls", "_law_words", "_law_own", "_law_found", "_law_bits", "_law_digits", "_law_number", "_law_k"]
theorem scLeft : FnScope nLeft ["_law_script", "_law_calls", "_law_words"] (defScope sLeft) := ⟨rfl, rfl, rfl, by decide +kernel, rfl, by decide +kernel, by decide +kernel⟩
theorem ok_left {f : Addr} {fd : FuncData} (F : FnP K "_law_left" "_law_left" sLeft f fd) (T : Tx mg) : FnOk P w K mg base CX0 1 f fd ["_law_script", "_law_calls", "_law_words"] (spLeft K) := by
  refine F.ok scLeft (fun vs H Q E h => ?_) (fun cdv A outer s H vs Q E hr h => ?_)
  · obtain ⟨sc, cl, wd, xs, qs, ws, ns, rfl, _⟩ := h
    rfl
  · obtain ⟨sc, cl, wd, xs, qs, ws, ns, rfl, hsc, hcl, hpq, hW, hb, hl, k⟩ := h
    refine ⟨_, PSs.nox (pss_cons (ps_asg (pe_tup (pa_cons
          (pe_lc (own := [("_law_number", 7)]) (g := gName 7) (by rfl) scLeft.nd (pi_list (pv 0)) (blkOk_by (own := [("_law_number", 7)]) (N := nLeft) (sc := defScope sLeft) (by decide +kernel)) (fun _ _ _ _ _ => pg_name (i := 7) scLeft.nd rfl (Or.inl rfl))
            (fun _ _ _ _ _ => pts_one (pt_cmpR (r := rIn K false) op_in_seq (pe_ix (r := rIxT K) ix_tup (pe_ix (r := rIxL K) ix_list (pv 1) (pv 7) (fun _ _ => rfl)) pe_int (fun _ _ => rfl)) (pv 2) (by rfl))) (fun _ _ _ _ _ => pv 7))
          (pa_cons (pe_lst pa_nil) pa_nil))) (pg_tup (by rfl) (pgs_cons (pg_name (i := 3) scLeft.nd rfl (Or.inr rfl)) (pgs_cons (pg_name (i := 4) scLeft.nd rfl (Or.inl rfl)) pgs_nil))))
      (pss_cons (ps_for PassesOwn.never rfl (pi_range1 (by rfl) T.range (pa_cons (pe_op op_pow pe_int pe_int) pa_nil)) (pg_name (i := 5) scLeft.nd rfl (by first | exact Or.inl rfl | exact Or.inr rfl))
        (pss_one (ps_if (pt_cmpR op_lt (pv 5) (pe_ix ix_list (pe_lst (pa_cons pe_int (pa_cons pe_int (pa_cons pe_int (pa_cons pe_int (pa_cons pe_int pa_nil)))))) (pe_callB call_len_seq (by rfl) T.len PySem.boot_len (pa_cons (pv 3) pa_nil)) (fun _ _ => rfl)) (nomark _))
          (pss_cons (ps_set (i := 6) scLeft.nd rfl (Or.inr rfl)
            (pe_lc (own := [("_law_k", 8)]) (g := gName 8) (tt := tYes) (by rfl) scLeft.nd (pi_range1 (by rfl) T.range (pa_cons (pe_callB call_len_seq (by rfl) T.len PySem.boot_len (pa_cons (pv 3) pa_nil)) pa_nil)) (blkOk_by (own := [("_law_k", 8)]) (N := nLeft) (sc := defScope sLeft) (by decide +kernel)) (fun _ _ _ _ _ => pg_name (i := 8) scLeft.nd rfl (Or.inl rfl)) (fun _ _ _ _ _ => pts_nil)
              (fun _ _ _ _ _ => pe_op op_mod (pe_op op_fdiv (pe_callTy call_int1 (by rfl) T.int (by decide +kernel) (pa_cons (pv 5) pa_nil)) (pe_ix (r := rIxL K) ix_list (pe_lst (pa_cons pe_int (pa_cons pe_int (pa_cons pe_int (pa_cons pe_int pa_nil))))) (pv 8) (fun _ _ => rfl))) pe_int)))
          (pss_one (ps_expr (pe_bm PySem.F.plainAttrs_list PySem.F.slot_list_append PySem.F.type_list_append mt_append (pv 4) (pa_cons (pe_callTy call_tuple_of (by rfl) T.tuple (by decide +kernel) (pa_cons
            (pe_lc (own := [("_law_k", 8)]) (g := gName 8) (by rfl) scLeft.nd (pi_range1 (by rfl) T.range (pa_cons (pe_callB call_len_seq (by rfl) T.len PySem.boot_len (pa_cons (pv 3) pa_nil)) pa_nil)) (blkOk_by (own := [("_law_k", 8)]) (N := nLeft) (sc := defScope sLeft) (by decide +kernel)) (fun _ _ _ _ _ => pg_name (i := 8) scLeft.nd rfl (Or.inl rfl))
              (fun _ _ _ _ _ => pts_one (pt_cmpR op_eq (pe_ix (r := rIxL K) ix_list (pv 6) (pv 8) (fun _ _ => rfl)) pe_int (nomark _)))
              (fun _ _ _ _ _ => pe_ix (r := rIxL K) ix_list (pv 3) (pv 8) (fun _ _ => rfl))) pa_nil)) pa_nil)))))
          pss_nil)))
      (pss_one (ps_ret (pv 4))))), ?_⟩
    refine ⟨_, rfl, sc, rfl, ⟨_, SqL.of hsc⟩, fun D1 hD1 => ?_⟩
    refine lc_list (K := K) (a := sc) (xs := ns.map V.int) (fun i H' => Same H H' ∧ H' D1 = some (.lst ((ownL qs ws (ns.take i)).map V.int))) ⟨same_new hD1, upd_same⟩ (fun i H' _ g => SqL.of (g.1 _ _ hsc)) ?_ ?_
    · rintro i x H' ei ⟨g1, g2⟩
      rw [List.getElem?_map] at ei
      cases en : ns[i]? with
      | none => rw [en] at ei; cases ei
      | some n =>
        rw [en] at ei
        obtain rfl : V.int n = x := Option.some.inj ei
        obtain ⟨n0, n1⟩ := hb n (List.mem_of_getElem? en)
        have etk : ns.take (i + 1) = ns.take i ++ [n] := by rw [List.take_succ, en]; rfl
        obtain ⟨m, rfl⟩ := Int.eq_ofNat_of_zero_le n0
        have hlen := hpq.length
        have hmx : m < xs.length := by omega
        obtain ⟨q, hq, t, b, ev, ht⟩ := pget hpq (List.getElem?_eq_getElem hmx)
        have ewh : wh qs (m : Int) = q.1 := by
          unfold wh
          rw [Int.toNat_natCast, List.getD_eq_getElem?_getD, hq]
          rfl
        have eown : ownL qs ws (ns.take (i + 1)) = if q.1 ∈ ws then ownL qs ws (ns.take i) ++ [(m : Int)] else ownL qs ws (ns.take i) := by
          unfold ownL
          rw [etk, List.filter_append]
          split
          · rw [List.filter_cons_of_pos (by rw [ewh]; exact decide_eq_true ‹_›)]
            rfl
          · rw [List.filter_cons_of_neg (by rw [ewh]; simpa using ‹_›)]
            simp
        have hol := own_len qs ws (ns.take i)
        have hol2 : (ns.take i).length ≤ 4 := by rw [List.length_take]; omega
        refine ⟨rfl, ?_⟩
        refine ⟨_, rfl, _, rfl, cl, xs, _, _, rfl, rfl, SqL.of (g1 _ _ hcl), atI_nat (List.getElem?_eq_getElem hmx), t, _, _, _, ev, rfl, SqT.of (g1 _ _ ht), (by rfl), _, rfl, wd, _, rfl, Or.inr (seqT_same g1 hW), rfl, flat_ints _, _, rfl, ite2 (fun c1 => ?_) (fun c1 => ?_)⟩
        · have c2 : q.1 ∈ ws := of_decide_eq_true ((in_ints _ _).symm.trans c1)
          refine ⟨_, rfl, _, g2, small1000 (by rw [List.length_map]; omega), g1.fresh_upd hD1, ?_⟩
          rw [upd_same, eown, if_pos c2, List.map_append]
          rfl
        · have c2 : ¬ q.1 ∈ ws := fun z => c1 ((in_ints _ _).trans (decide_eq_true z))
          refine ⟨g1, ?_⟩
          rw [eown, if_neg c2]
          exact g2
    · rintro H1 ⟨g1, g2⟩
      rw [List.length_map, List.take_length] at g2
      have hol := own_len qs ws ns
      have hrow : RowsAt H1 [] [] := .nil
      generalize ownL qs ws ns = ow at g2 hol k
      refine ⟨(by show 0 ≤ sizeLine; decide), fun F hF => ⟨(by show 2 ≤ sizeLine; decide), fun tp htp => ?_⟩⟩
      have s2 : Same H1 (upd (upd H1 F (.lst [])) tp (.tup [.ref D1, .ref F])) := (same_new hF).trans (same_new htp)
      have f2 : (upd (upd H1 F (.lst [])) tp (.tup [.ref D1, .ref F])) F = some (.lst []) := by rw [upd_ne (ne_of_none upd_same htp)]; exact upd_same
      refine ⟨tp, _, rfl, SqT.of upd_same, rfl, _, _, rfl, _, _, rfl, rfl, ?_⟩
      generalize upd (upd H1 F (.lst [])) tp (.tup [.ref D1, .ref F]) = G at s2 f2 ⊢
      have d2 := s2 _ _ g2
      have nF : D1 ≠ F := ne_of_none g2 hF
      have hp2 := pow_16 (n := ow.length) (by omega)
      refine ⟨_, _, rfl, rfl, ⟨by decide, by decide, by decide⟩, 16, rfl, by decide, by decide, ?_⟩
      refine for_range (lo := 0) (n := 16) (fun i σ H' => But F G H' ∧ (∃ vs, H' F = some (.lst vs) ∧ RowsAt H' vs ((List.range (min i (2 ^ ow.length))).map (pickB ow))) ∧ ∃ v5 v6, σ = [some (.ref sc), some (.ref cl), some (.ref wd), some (.ref D1), some (.ref F), v5, v6, none, none])
        ⟨But.refl _ _, ⟨[], f2, by rw [Nat.zero_min]; exact .nil⟩, none, none, rfl⟩ ?_ ?_
      · rintro i σ H' hi ⟨b1, ⟨vs, hf, hR⟩, v5, v6, rfl⟩
        have hd := b1 _ _ d2 nF
        have hvl := hR.length
        rw [List.length_map, List.length_range] at hvl
        refine ⟨_, rfl, (by show 5 ≤ sizeLine; decide), fun q hq => ?_⟩
        have s3 : Same H' (upd H' q (.lst [.int 1, .int 2, .int 4, .int 8, .int 16])) := same_new hq
        have h3 : (upd H' q (.lst [.int 1, .int 2, .int 4, .int 8, .int 16])) q = some (.lst [.int 1, .int 2, .int 4, .int 8, .int 16]) := upd_same
        generalize upd H' q (.lst [.int 1, .int 2, .int 4, .int 8, .int 16]) = H3 at s3 h3 ⊢
        have hd3 := s3 _ _ hd
        refine ⟨_, rfl, D1, _, rfl, Or.inl (SqL.of hd3), q, _, _, _, rfl, rfl, SqL.of h3, (by rw [List.length_map]; exact two_pow (by omega)), _, _, rfl, rfl, _, rfl, ite2 (fun c => ?_) (fun c => ?_)⟩
        · have c2 : i < 2 ^ ow.length := by
            have := of_decide_eq_true c
            omega
          have e1 : min i (2 ^ ow.length) = i := by omega
          have e2 : min (i + 1) (2 ^ ow.length) = i + 1 := by omega
          rw [e1] at hR hvl
          refine ⟨_, rfl, D1, _, rfl, Or.inl (SqL.of hd3), _, rfl, (by rw [List.length_map]; omega), (by rw [List.length_map]; omega), fun Dg hDg => ?_⟩
          rw [List.length_map]
          refine lc_range (lo := 0) (n := ow.length) (fun j H'' => Same H3 H'' ∧ H'' Dg = some (.lst (digL i j))) ⟨same_new hDg, upd_same⟩ ?_ ?_
          · rintro j H4 hj ⟨g3, g4⟩
            refine ⟨rfl, ?_⟩
            refine ⟨_, rfl, Or.inl ⟨_, rfl, (by show 4 ≤ sizeLine; decide), fun q4 hq4 => ?_⟩⟩
            have s5 : Same H4 (upd H4 q4 (.lst [.int 1, .int 2, .int 4, .int 8])) := same_new hq4
            have h5 : (upd H4 q4 (.lst [.int 1, .int 2, .int 4, .int 8])) q4 = some (.lst [.int 1, .int 2, .int 4, .int 8]) := upd_same
            generalize upd H4 q4 (.lst [.int 1, .int 2, .int 4, .int 8]) = H5 at s5 h5 ⊢
            have hpos : (0 : Int) < ((2 ^ j : Nat) : Int) := by
              have := Nat.two_pow_pos j
              omega
            have hp16 : 2 ^ j ≤ 16 := pow_16 (by omega)
            have edig : digL i (j + 1) = digL i j ++ [V.int ((0 + (i : Int)) / ((2 ^ j : Nat) : Int) % 2)] := by
              unfold digL
              rw [List.range_succ, List.map_append, bit_of]
              rfl
            refine ⟨_, rfl, q4, _, _, _, rfl, rfl, SqL.of h5, two_pow4 (by omega), _, _, rfl, rfl, ⟨hpos, by omega⟩, _, _, rfl, rfl, (by show (0 : Int) < 2; decide), digL i j, s5 _ _ g4, small1000 (by unfold digL; rw [List.length_map, List.length_range]; omega), (g3.trans s5).fresh_upd hDg, ?_⟩
            rw [upd_same, edig]
          · rintro H4 ⟨g3, g4⟩
            have hd4 := g3 _ _ hd3
            have hf4 := g3 _ _ (s3 _ _ hf)
            refine ⟨_, rfl, Or.inl ⟨rfl, _, SqL.of hf4⟩, _, rfl, D1, _, rfl, Or.inl (SqL.of hd4), _, rfl, (by rw [List.length_map]; omega), (by rw [List.length_map]; omega), fun Dq hDq => ?_⟩
            rw [List.length_map]
            refine lc_range (lo := 0) (n := ow.length) (fun j H'' => Same H4 H'' ∧ H'' Dq = some (.lst ((pickJ ow i j).map V.int))) ⟨same_new hDq, upd_same⟩ ?_ ?_
            · rintro j H5 hj ⟨g5, g6⟩
              have hat : atI (digL i ow.length) (0 + (j : Int)) = some (V.int ((i / 2 ^ j % 2 : Nat) : Int)) := by
                rw [Int.zero_add]
                exact atI_nat (by unfold digL; rw [List.getElem?_map, List.getElem?_range hj]; rfl)
              have hown : atI (ow.map V.int) (0 + (j : Int)) = some (V.int ow[j]) := by
                rw [Int.zero_add]
                exact atI_nat (by rw [List.getElem?_map, List.getElem?_eq_getElem hj]; rfl)
              have epk : pickJ ow i (j + 1) = if i / 2 ^ j % 2 = 1 then pickJ ow i j ++ [ow[j]] else pickJ ow i j := by
                unfold pickJ
                rw [List.range_succ, List.filterMap_append, List.filterMap_cons, List.filterMap_nil]
                by_cases c9 : i / 2 ^ j % 2 = 1
                · rw [if_pos c9, if_pos c9, List.getElem?_eq_getElem hj]
                · rw [if_neg c9, if_neg c9]
                  simp
              have hpl : (pickJ ow i j).length ≤ 900 := by
                unfold pickJ
                have := List.length_filterMap_le (fun k => if i / 2 ^ k % 2 = 1 then ow[k]? else none) (List.range j)
                rw [List.length_range] at this
                omega
              refine ⟨rfl, ?_⟩
              refine ⟨_, rfl, _, rfl, Dg, _, _, _, rfl, rfl, SqL.of (g5 _ _ g4), hat, rfl, _, rfl, ite2 (fun c => ?_) (fun c => ?_)⟩
              · have c3 : i / 2 ^ j % 2 = 1 := by
                  have := V.int.inj (of_decide_eq_true c)
                  omega
                refine ⟨_, rfl, _, rfl, D1, _, _, _, rfl, rfl, SqL.of (g5 _ _ hd4), hown, _, g6, small1000 (by rw [List.length_map]; omega), g5.fresh_upd hDq, ?_⟩
                rw [upd_same, epk, if_pos c3, List.map_append]
                rfl
              · have c3 : ¬ i / 2 ^ j % 2 = 1 := fun z => c (decide_eq_true (congrArg V.int (by rw [z]; rfl)))
                refine ⟨g5, ?_⟩
                rw [epk, if_neg c3]
                exact g6
            · rintro H5 ⟨g5, g6⟩
              have hf5 := g5 _ _ hf4
              refine ⟨Dq, _, rfl, Or.inl ⟨SqL.of g6, fun r hr' => ?_⟩⟩
              have s6 : Same H5 (upd H5 r (.tup ((pickJ ow i ow.length).map V.int))) := same_new hr'
              have h6 : (upd H5 r (.tup ((pickJ ow i ow.length).map V.int))) r = some (.tup ((pickB ow i).map V.int)) := upd_same
              generalize upd H5 r (.tup ((pickJ ow i ow.length).map V.int)) = H6 at s6 h6 ⊢
              have hf6 := s6 _ _ hf5
              have s36 := (s3.trans (g3.trans g5)).trans s6
              refine ⟨F, _, _, rfl, rfl, hf6, small1000 (by omega), (b1.trans (Same.but s36 _)).trans (but_upd _ _ _), ⟨vs ++ [.ref r], upd_same, ?_⟩, _, _, rfl⟩
              rw [e2, List.range_succ, List.map_append]
              exact RowsAt.but (paired_app (hR.same s36) (.cons ⟨r, rfl, h6⟩ .nil)) (but_upd _ _ _) hf6 (fun _ z => by cases z)
        · have c2 : ¬ i < 2 ^ ow.length := fun z => c (decide_eq_true (by omega))
          have e1 : min (i + 1) (2 ^ ow.length) = min i (2 ^ ow.length) := by omega
          refine ⟨b1.trans (Same.but s3 _), ⟨vs, s3 _ _ hf, ?_⟩, _, _, rfl⟩
          rw [e1]
          exact hR.same s3
      · rintro σ H' ⟨b1, ⟨vs, hf, hR⟩, v5, v6, rfl⟩
        have e1 : min 16 (2 ^ ow.length) = 2 ^ ow.length := by omega
        rw [e1, ← subs_pick] at hR
        refine ⟨_, rfl, k _ F vs (fun b o e => ?_) hf hR⟩
        have e2 := g1 _ _ e
        exact b1 _ _ (s2 _ _ e2) (ne_of_none e2 hF)
end
end K17

set_option Elab.async false
set_option linter.all false
set_option maxRecDepth 100000
set_option maxHeartbeats 400000
namespace K17
open PySem PySem.Spec PyProof.Rows L2 Own
def spLRows (K : PySem.W.Frag) : Sp := fun vs H Q _ => ∃ (s1 s2 cl wd : Addr) (xs : List V) (qs : List (Int × Int)) (ws ns ms : List Int), vs = [.ref s1, .ref s2, .ref cl, .ref wd] ∧ H s1 = some (.lst (ns.map V.int)) ∧ H s2 = some (.lst (ms.map V.int)) ∧ H cl = some (.lst xs) ∧ Paired (LCallAt H) xs qs ∧ SqT K H wd (ws.map V.int) ∧
  (∀ n ∈ ns, 0 ≤ n ∧ n < qs.length) ∧ (∀ n ∈ ms, 0 ≤ n ∧ n < qs.length) ∧ ns.length ≤ 4 ∧ ms.length ≤ 4 ∧ ∀ H' p vs, Same H H' → H' p = some (.lst vs) → RowsAt H' vs (rowsF qs ws ns ms) → Q (.ref p) H'
/-! ### what stands in the middle -/
theorem all_nil : ∀ {H : Hp} {ys : List V} {m : List (List Int)}, (∀ y ∈ ys, RowAt H y []) → (∀ r ∈ m, r = []) → ys.length = m.length → RowsAt H ys m
  | H, [], [], _, _, _ => .nil
  | H, _ :: _, [], _, _, h => by cases h
  | H, [], _ :: _, _, _, h => by cases h
  | H, y :: ys, r :: m, h1, h2, h3 => by
    rw [h2 r (List.mem_cons_self ..)]
    exact .cons (h1 y (List.mem_cons_self ..)) (all_nil (fun z hz => h1 z (List.mem_cons_of_mem _ hz)) (fun z hz => h2 z (List.mem_cons_of_mem _ hz)) (Nat.succ.inj h3))
theorem rows_pairs {H : Hp} : ∀ {ps : List (V × List Int)}, (∀ q ∈ ps, RowAt H q.1 q.2) → RowsAt H (ps.map (·.1)) (ps.map (·.2))
  | [], _ => .nil
  | p :: ps, h => .cons (h p (List.mem_cons_self ..)) (rows_pairs fun q hq => h q (List.mem_cons_of_mem _ hq))
theorem filt_snd (ps : List (V × List Int)) (n : Nat) : (ps.filter fun q => decide (q.2.length = n)).map (·.2) = (ps.map (·.2)).filter fun r => decide (r.length = n) := by
  rw [List.filter_map]
  rfl
theorem row_depth (r : List Int) : (rowD r).depth ≤ 60 := by
  show PyData.depthAll (r.map PyData.int) + 1 ≤ 60
  rw [depth_ints]
  decide
theorem lay_ints : ∀ r : List Int, PyData.canLayAll0 (r.map PyData.int) = true
  | [] => rfl
  | x :: r => by
    show (true && PyData.canLayAll0 (r.map PyData.int)) = true
    rw [lay_ints r]
    rfl
theorem row_shaped (r : List Int) : SeqAt.shaped (rowD r) = true := by
  unfold SeqAt.shaped
  rw [show PyData.canLay0 (rowD r) = true from lay_ints r, Bool.true_and]
  exact decide_eq_true (Nat.le_trans (row_depth r) (by decide))
theorem alike_rows (r s : List Int) : PySem.W.alike (rowD r) (rowD s) = true := by
  unfold rowD
  simp only [PySem.W.alike, alike_ints]
theorem blocks_len {left : List (List Int)} (h : left.length ≤ 32) : ∀ m, (blocks left m).length ≤ 32 * m
  | 0 => Nat.le_refl _
  | m + 1 => by
    rw [blocks_succ, List.length_append]
    have h1 := blocks_len h m
    have h2 : (srtF left m).length ≤ 32 := by
      unfold srtF
      rw [List.length_mergeSort]
      exact Nat.le_trans (List.length_filter_le _ _) h
    omega
theorem dd_len (l : List (List Int)) : (dd l).length ≤ l.length := by
  induction l using snoc_ind with
  | h0 => exact Nat.le_refl _
  | hs l x ih =>
    rw [dd_snoc, List.length_append, List.length_singleton]
    unfold ddF
    split
    · omega
    · rw [List.length_append, List.length_singleton]
      omega
section
variable {P : Program} {w : World} {K : PySem.W.Frag} {mg : Str → Option Value} {base : Heap}
abbrev sLRows : Stmt := top 74
abbrev nLRows : List Str := ["_law_one", "_law_other", "_law_calls", "_law_words", "_law_left_here", "_law_found", "_law_length", "_law_row", "_law_k"]
theorem scLRows : FnScope nLRows ["_law_one", "_law_other", "_law_calls", "_law_words"] (defScope sLRows) := ⟨rfl, rfl, rfl, by decide +kernel, rfl, by decide +kernel, by decide +kernel⟩
theorem ok_lrows {f : Addr} {fd : FuncData} (F : FnP K "_law_rows" "_law_rows" sLRows f fd) (T : Tx mg) (cL : Cl P w K mg base 1 "_law_left" ["_law_script", "_law_calls", "_law_words"] (spLeft K)) : FnOk P w K mg base CX0 2 f fd ["_law_one", "_law_other", "_law_calls", "_law_words"] (spLRows K) := by
  obtain ⟨fL, fdL, GL, mL, kL, bL⟩ := cL.ex
  refine F.ok scLRows (fun vs H Q E h => ?_) (fun cdv A outer s H vs Q E hr h => ?_)
  · obtain ⟨s1, s2, cl, wd, xs, qs, ws, ns, ms, rfl, _⟩ := h
    rfl
  · obtain ⟨s1, s2, cl, wd, xs, qs, ws, ns, ms, rfl, h1, h2, hcl, hpq, hW, hb1, hb2, hl1, hl2, k⟩ := h
    have hu := hr.units
    refine ⟨_, PSs.nox (pss_cons (ps_asg (pe_tup (pa_cons (pe_op op_cat (pe_call GL hr (by rfl) mL kL bL .nil pass0 (pa_cons (pv 0) (pa_cons (pv 2) (pa_cons (pv 3) pa_nil)))) (pe_call GL hr (by rfl) mL kL bL .nil pass0 (pa_cons (pv 1) (pa_cons (pv 2) (pa_cons (pv 3) pa_nil)))))
          (pa_cons (pe_lst pa_nil) pa_nil))) (pg_tup (by rfl) (pgs_cons (pg_name (i := 4) scLRows.nd rfl (by first | exact Or.inl rfl | exact Or.inr rfl)) (pgs_cons (pg_name (i := 5) scLRows.nd rfl (by first | exact Or.inl rfl | exact Or.inr rfl)) pgs_nil))))
      (pss_cons (ps_for PassesOwn.never rfl (pi_range1 (by rfl) T.range (pa_cons pe_int pa_nil)) (pg_name (i := 6) scLRows.nd rfl (by first | exact Or.inl rfl | exact Or.inr rfl))
        (pss_one (ps_expr (pe_bm PySem.F.plainAttrs_list PySem.F.slot_list_extend PySem.F.type_list_extend mt_extend (pv 5) (pa_cons (pe_callB ((cr_sortD hu).or (cr_sort0 hu)) (by rfl) T.sorted (by decide +kernel) (pa_cons
          (pe_lc (own := [("_law_row", 7)]) (g := gName 7) (by rfl) scLRows.nd (pi_list (pv 4)) (blkOk_by (own := [("_law_row", 7)]) (N := nLRows) (sc := defScope sLRows) (by decide +kernel)) (fun _ _ _ _ _ => pg_name (i := 7) scLRows.nd rfl (Or.inl rfl))
            (fun _ _ _ _ _ => pts_one (pt_cmpR op_eq (pe_callB (r := rLenS K) call_lenS (by rfl) T.len PySem.boot_len (pa_cons (pv 7) pa_nil)) (pv 6) (nomark _))) (fun _ _ _ _ _ => pv 7)) pa_nil)) pa_nil)))))
      (pss_one (ps_ret (pe_lc (own := [("_law_k", 8)]) (g := gName 8) (by rfl) scLRows.nd (pi_range1 (by rfl) T.range (pa_cons (pe_callB call_len_seq (by rfl) T.len PySem.boot_len (pa_cons (pv 5) pa_nil)) pa_nil)) (blkOk_by (own := [("_law_k", 8)]) (N := nLRows) (sc := defScope sLRows) (by decide +kernel)) (fun _ _ _ _ _ => pg_name (i := 8) scLRows.nd rfl (Or.inl rfl))
            (fun _ _ _ _ _ => pts_one (PW.pt (pw_or (pt_cmpR op_eq (pv 8) pe_int (nomark _)) (pw_or1 (pt_cmpR (r := rNeD K) (op_neD hu) (pe_ix (r := rIxL K) ix_list (pv 5) (pv 8) (fun _ _ => rfl)) (pe_ix (r := rIxL K) ix_list (pv 5) (pe_op op_sub (pv 8) pe_int) (fun _ _ => rfl)) (nomark _))))))
            (fun _ _ _ _ _ => pe_ix (r := rIxL K) ix_list (pv 5) (pv 8) (fun _ _ => rfl))))))), ?_⟩
    refine ⟨_, rfl, _, rfl, _, rfl, s1, cl, wd, xs, qs, ws, ns, rfl, h1, hcl, hpq, hW, hb1, hl1, fun H1 p1 v1 sm1 hp1 hR1 => ?_⟩
    refine ⟨_, rfl, _, rfl, _, rfl, s2, cl, wd, xs, qs, ws, ms, rfl, sm1 _ _ h2, sm1 _ _ hcl, Paired.mapP hpq fun _ _ h => h.same sm1, seqT_same sm1 hW, hb2, hl2, fun H2 p2 v2 sm2 hp2 hR2 => ?_⟩
    have el1 := subs_len (ownL qs ws ns)
    have el2 := subs_len (ownL qs ws ms)
    have eb1 := pow_16 (Nat.le_trans (own_len qs ws ns) hl1)
    have eb2 := pow_16 (Nat.le_trans (own_len qs ws ms) hl2)
    have ev1 := hR1.length
    have ev2 := hR2.length
    have hR12 : RowsAt H2 (v1 ++ v2) (subsL (ownL qs ws ns) ++ subsL (ownL qs ws ms)) := paired_app (hR1.same sm2) hR2
    have hfin : dd (blocks (subsL (ownL qs ws ns) ++ subsL (ownL qs ws ms)) 5) = rowsF qs ws ns ms := by
      unfold rowsF
      refine law_rows (fun r hr => ?_) (fun r => ?_) (key_nodup _ _ (key_nodup _ _ List.nodup_nil))
      · rcases List.mem_append.mp hr with hr | hr
        · have h9 := row_len (c := 0) (ownL qs ws ns) [[]] (fun r hr => by simp at hr; rw [hr]; exact Nat.le_refl _) r hr
          have := own_len qs ws ns
          omega
        · have h9 := row_len (c := 0) (ownL qs ws ms) [[]] (fun r hr => by simp at hr; rw [hr]; exact Nat.le_refl _) r hr
          have := own_len qs ws ms
          omega
      · unfold keysL
        rw [key_mem, key_mem, List.mem_append]
        simp
    rw [← hfin] at k
    have hLl : (subsL (ownL qs ws ns) ++ subsL (ownL qs ws ms)).length ≤ 32 := by rw [List.length_append]; omega
    have hvl : (v1 ++ v2).length ≤ 32 := by rw [hR12.length]; exact hLl
    refine ⟨p1, p2, v1, v2, rfl, rfl, sm2 _ _ hp1, hp2, Nat.le_of_lt (small1000 (by omega)), fun L hL => ?_⟩
    generalize subsL (ownL qs ws ns) ++ subsL (ownL qs ws ms) = LS at hR12 hLl k
    generalize v1 ++ v2 = vs at hR12 hvl hL ⊢
    refine ⟨(by show 0 ≤ sizeLine; decide), fun F hF => ⟨(by show 2 ≤ sizeLine; decide), fun tp htp => ⟨tp, _, rfl, SqT.of upd_same, rfl, _, _, rfl, _, _, rfl, rfl, ?_⟩⟩⟩
    have sG : Same H2 (upd (upd (upd H2 L (.lst vs)) F (.lst [])) tp (.tup [.ref L, .ref F])) := ((same_new hL).trans (same_new hF)).trans (same_new htp)
    have nLF : L ≠ F := ne_of_none upd_same hF
    have fG : (upd (upd (upd H2 L (.lst vs)) F (.lst [])) tp (.tup [.ref L, .ref F])) F = some (.lst []) := by rw [upd_ne (ne_of_none upd_same htp)]; exact upd_same
    have lG : (upd (upd (upd H2 L (.lst vs)) F (.lst [])) tp (.tup [.ref L, .ref F])) L = some (.lst vs) := (same_new htp) _ _ (by rw [upd_ne nLF]; exact upd_same)
    have nF : H2 F = none := by
      have := hF
      rw [upd_ne nLF.symm] at this
      exact this
    generalize upd (upd (upd H2 L (.lst vs)) F (.lst [])) tp (.tup [.ref L, .ref F]) = G at sG fG lG ⊢
    have hG := hR12.same sG
    refine ⟨5, rfl, by decide, by decide, ?_⟩
    refine for_range (lo := 0) (n := 5) (fun i σ H' => But F G H' ∧ (∃ us, H' F = some (.lst us) ∧ RowsAt H' us (blocks LS i)) ∧ ∃ v6, σ = [some (.ref s1), some (.ref s2), some (.ref cl), some (.ref wd), some (.ref L), some (.ref F), v6, none, none])
      ⟨But.refl _ _, ⟨[], fG, .nil⟩, none, rfl⟩ ?_ ?_
    · rintro i σ H3 hi ⟨b3, ⟨us, f3, r3⟩, v6, rfl⟩
      have l3 := b3 _ _ lG nLF
      have hG3 : RowsAt H3 vs LS := RowsAt.but hG b3 fG (fun _ z => by cases z)
      have hz : ∀ q ∈ vs.zip LS, RowAt H3 q.1 q.2 := paired_zip hG3
      have hzl : (vs.zip LS).map (·.2) = LS := zip_snd hG3.length
      have hz1 : (vs.zip LS).map (·.1) = vs := zip_fst hG3.length
      have hzn : (vs.zip LS).length ≤ 32 := by rw [List.length_zip]; omega
      have hus := r3.length
      have hbl := blocks_len hLl i
      have hsl : (srtF LS i).length ≤ 32 := by
        unfold srtF
        rw [List.length_mergeSort]
        exact Nat.le_trans (List.length_filter_le _ _) hLl
      have hsr : srtF LS i = (((vs.zip LS).filter fun q => decide (q.2.length = i)).map (·.2)).mergeSort (PySem.W.dataLe false rowD) := by
        rw [filt_snd, hzl]
        rfl
      generalize vs.zip LS = ps at hz hzl hz1 hzn hsr
      refine ⟨_, rfl, Or.inl ⟨rfl, _, SqL.of f3⟩, _, rfl, L, rfl, ⟨_, SqL.of l3⟩, fun D hD => ?_⟩
      have nDF : F ≠ D := ne_of_none f3 hD
      refine lc_list (K := K) (a := L) (xs := vs) (fun j H' => Same H3 H' ∧ H' D = some (.lst (((ps.take j).filter fun q => decide (q.2.length = i)).map (·.1)))) ⟨same_new hD, upd_same⟩ (fun j H' _ g => SqL.of (g.1 _ _ l3)) ?_ ?_
      · rintro j x H4 ej ⟨g1, g2⟩
        rw [← hz1, List.getElem?_map] at ej
        cases ep : ps[j]? with
        | none => rw [ep] at ej; cases ej
        | some q =>
          rw [ep] at ej
          obtain rfl : q.1 = x := Option.some.inj ej
          obtain ⟨t, et, ht⟩ := hz q (List.mem_of_getElem? ep)
          have hfl : ((ps.take j).filter fun q => decide (q.2.length = i)).length ≤ 32 := Nat.le_trans (List.length_filter_le _ _) (by rw [List.length_take]; omega)
          refine ⟨rfl, ?_⟩
          refine ⟨_, rfl, t, _, by rw [et], Or.inr (SqT.of (g1 _ _ ht)), _, rfl, rfl, _, rfl, ite2 (fun c => ?_) (fun c => ?_)⟩
          · have c2 : q.2.length = i := by
              have := V.int.inj (of_decide_eq_true c)
              rw [List.length_map] at this
              omega
            refine ⟨_, rfl, _, g2, small1000 (by rw [List.length_map]; omega), g1.fresh_upd hD, ?_⟩
            rw [upd_same, List.take_succ, ep, List.filter_append, List.map_append]
            have e9 : (some q).toList.filter (fun q : V × List Int => decide (q.2.length = i)) = [q] := by simp [c2]
            rw [e9]
            rfl
          · have c2 : ¬ q.2.length = i := fun z => c (decide_eq_true (congrArg V.int (by rw [List.length_map, z]; omega)))
            refine ⟨g1, ?_⟩
            rw [List.take_succ, ep, List.filter_append, List.map_append]
            have e9 : (some q).toList.filter (fun q : V × List Int => decide (q.2.length = i)) = [] := by simp [c2]
            rw [e9]
            simpa using g2
      · rintro H4 ⟨g1, g2⟩
        have evp : vs.length = ps.length := by rw [← hz1, List.length_map]
        rw [evp, List.take_length] at g2
        have f4 := g1 _ _ f3
        have hfl : (ps.filter fun q => decide (q.2.length = i)).length ≤ 32 := Nat.le_trans (List.length_filter_le _ _) hzn
        have hfz : ∀ q ∈ ps.filter (fun q => decide (q.2.length = i)), RowAt H4 q.1 q.2 ∧ q.2.length = i := fun q hq => by
          rw [List.mem_filter, decide_eq_true_eq] at hq
          exact ⟨(hz q hq.1).same g1, hq.2⟩
        generalize ps.filter (fun q => decide (q.2.length = i)) = fl at g2 hfl hfz hsr
        have fin : ∀ (p : Addr) (ys : List V), H4 p = none → RowsAt H4 ys (srtF LS i) → F ≠ p ∧ us.length + ys.length ≤ sizeLine ∧ But F G (upd (upd H4 p (.lst ys)) F (.lst (us ++ ys))) ∧ RowsAt (upd (upd H4 p (.lst ys)) F (.lst (us ++ ys))) (us ++ ys) (blocks LS (i + 1)) := by
          intro p ys hp hr
          have nFp : F ≠ p := ne_of_none f4 hp
          have s5 : Same H4 (upd H4 p (.lst ys)) := same_new hp
          have f5 := s5 _ _ f4
          have hyl := hr.length
          refine ⟨nFp, Nat.le_of_lt (small1000 (by omega)), (b3.trans (Same.but (g1.trans s5) _)).trans (but_upd _ _ _), ?_⟩
          rw [blocks_succ]
          exact RowsAt.but (paired_app (r3.same (g1.trans s5)) (hr.same s5)) (but_upd _ _ _) f5 (fun _ z => by cases z)
        by_cases c0 : i = 0
        · refine Or.inr ⟨D, _, rfl, SqL.of g2, fun x hx => ?_, fun ys p hperm hp => ?_⟩
          · obtain ⟨q, hq, rfl⟩ := List.mem_map.mp hx
            obtain ⟨⟨t, et, ht⟩, hl0⟩ := hfz q hq
            have e0 : q.2 = [] := List.eq_nil_of_length_eq_zero (hl0.trans c0)
            rw [e0] at ht
            exact ⟨t, et, SqT.of ht⟩
          · have hr : RowsAt H4 ys (srtF LS i) := by
              refine all_nil (fun y hy => ?_) (fun r hr => ?_) ?_
              · obtain ⟨q, hq, rfl⟩ := List.mem_map.mp (hperm.mem_iff.mp hy)
                obtain ⟨h8, hl0⟩ := hfz q hq
                have e0 : q.2 = [] := List.eq_nil_of_length_eq_zero (hl0.trans c0)
                rw [e0] at h8
                exact h8
              · exact List.eq_nil_of_length_eq_zero ((srt_mem.mp hr).2.trans c0)
              · rw [hperm.length_eq, hsr, List.length_mergeSort, List.length_map, List.length_map]
            obtain ⟨f1, f2, f3', f4'⟩ := fin p ys hp hr
            exact ⟨F, p, us, ys, rfl, rfl, by rw [upd_ne f1]; exact f4, upd_same, f2, f3', ⟨_, upd_same, f4'⟩, _, rfl⟩
        · have ef : (fl.map fun q : V × List Int => (q.1, rowD q.2)).map (·.1) = fl.map (·.1) := by
            rw [List.map_map]
            rfl
          refine Or.inl ⟨D, fl.map fun q : V × List Int => (q.1, rowD q.2), rfl, by rw [ef]; exact SqL.of g2, ?_, ?_, ?_, ?_, fun p hp => ?_⟩
          · intro b hb
            obtain ⟨q, hq, rfl⟩ := List.mem_map.mp hb
            exact (hfz q hq).1.dp
          · rw [List.map_map]
            exact PySem.W.AllAlike.of (enc := fun q : V × List Int => rowD q.2) fun _ _ => alike_rows _ _
          · refine Or.inl fun d hd => ?_
            rw [List.map_map] at hd
            obtain ⟨q, hq, rfl⟩ := List.mem_map.mp hd
            obtain ⟨_, hl0⟩ := hfz q hq
            cases hq2 : q.2 with
            | nil => rw [hq2] at hl0; exact absurd hl0.symm c0
            | cons z zs => exact ⟨.int z, zs.map .int, by show rowD q.2 = _; rw [hq2]; rfl⟩
          · intro b hb
            obtain ⟨q, hq, rfl⟩ := List.mem_map.mp hb
            exact row_depth q.2
          · have e1 := PySem.W.sort_maps (r := fun a b : V × List Int => PySem.W.dataLe false (·.2) ((fun q : V × List Int => (q.1, rowD q.2)) a) ((fun q : V × List Int => (q.1, rowD q.2)) b)) (s := PySem.W.dataLe false (·.2)) (fun q : V × List Int => (q.1, rowD q.2)) (l := fl) fun _ _ _ _ => rfl
            have e2 := PySem.W.sort_maps (r := fun a b : V × List Int => PySem.W.dataLe false (·.2) ((fun q : V × List Int => (q.1, rowD q.2)) a) ((fun q : V × List Int => (q.1, rowD q.2)) b)) (s := PySem.W.dataLe false rowD) (fun q : V × List Int => q.2) (l := fl) fun _ _ _ _ => rfl
            have hr : RowsAt H4 (((fl.map fun q : V × List Int => (q.1, rowD q.2)).mergeSort (PySem.W.dataLe false (·.2))).map (·.1)) (srtF LS i) := by
              rw [hsr, ← e1, ← e2, List.map_map]
              exact rows_pairs (fun q hq => (hfz q ((List.mergeSort_perm _ _).mem_iff.mp hq)).1)
            obtain ⟨f1, f2, f3', f4'⟩ := fin p _ hp hr
            exact ⟨F, p, us, _, rfl, rfl, by rw [upd_ne f1]; exact f4, upd_same, f2, f3', ⟨_, upd_same, f4'⟩, _, rfl⟩
    · rintro σ H3 ⟨b3, ⟨us, f3, r3⟩, v6, rfl⟩
      have hbl := blocks_len hLl 5
      have hus := r3.length
      generalize blocks LS 5 = bs at r3 hbl hus k
      refine ⟨_, rfl, F, _, rfl, Or.inl (SqL.of f3), _, rfl, by omega, by omega, fun D hD => ?_⟩
      refine lc_range (lo := 0) (n := us.length) (fun j H' => Same H3 H' ∧ ∃ ys, H' D = some (.lst ys) ∧ RowsAt H' ys (dd (bs.take j))) ⟨same_new hD, [], upd_same, .nil⟩ ?_ ?_
      · rintro j H4 hj ⟨g1, ys, g2, g3⟩
        have hjb : j < bs.length := by omega
        obtain ⟨r, er, hr⟩ := pget r3 (List.getElem?_eq_getElem hj)
        have etk : bs.take (j + 1) = bs.take j ++ [r] := by rw [List.take_succ, er]; rfl
        have hyl : ys.length ≤ 160 := by
          rw [g3.length]
          have h1 := dd_len (bs.take j)
          rw [List.length_take] at h1
          omega
        have hat : atI us (0 + (j : Int)) = some us[j] := by
          rw [Int.zero_add]
          exact atI_nat (List.getElem?_eq_getElem hj)
        have push : (dd (bs.take j)).getLast? ≠ some r → ∃ acc, H4 D = some (.lst acc) ∧ acc.length < sizeLine ∧ (Same H3 (upd H4 D (.lst (acc ++ [us[j]]))) ∧ ∃ zs, (upd H4 D (.lst (acc ++ [us[j]]))) D = some (.lst zs) ∧ RowsAt (upd H4 D (.lst (acc ++ [us[j]]))) zs (dd (bs.take (j + 1)))) := fun hne => by
          refine ⟨ys, g2, small1000 (by omega), g1.fresh_upd hD, _, upd_same, ?_⟩
          rw [etk, dd_snoc]
          unfold ddF
          rw [if_neg hne]
          exact RowsAt.but (paired_app g3 (.cons (hr.same g1) .nil)) (but_upd _ _ _) g2 (fun _ z => by cases z)
        refine ⟨rfl, ?_⟩
        refine ⟨_, rfl, rfl, _, rfl, ite2 (fun c => ?_) (fun c => ?_)⟩
        · have c2 : j = 0 := by
            have := V.int.inj (of_decide_eq_true c)
            omega
          refine iteT ⟨_, rfl, _, rfl, F, _, _, _, rfl, rfl, SqL.of (g1 _ _ f3), hat, push ?_⟩
          rw [dd_last, c2]
          simp
        · obtain ⟨i, rfl⟩ : ∃ i, j = i + 1 := ⟨j - 1, by
            have : ¬ j = 0 := fun z => c (decide_eq_true (congrArg V.int (by rw [z]; rfl)))
            omega⟩
          have hi : i < us.length := by omega
          obtain ⟨r0, er0, hr0⟩ := pget r3 (List.getElem?_eq_getElem hi)
          have hat0 : atI us (0 + ((i + 1 : Nat) : Int) - 1) = some us[i] := by
            rw [show (0 + ((i + 1 : Nat) : Int) - 1) = (i : Int) by omega]
            exact atI_nat (List.getElem?_eq_getElem hi)
          have elast : (dd (bs.take (i + 1))).getLast? = some r0 := by
            rw [dd_last, List.take_succ, er0]
            simp
          refine ⟨_, rfl, _, rfl, F, _, _, _, rfl, rfl, SqL.of (g1 _ _ f3), hat, _, rfl, _, rfl, _, _, rfl, rfl, F, _, _, _, rfl, rfl, SqL.of (g1 _ _ f3), hat0, rowD r, rowD r0, (hr.same g1).dp, (hr0.same g1).dp, row_shaped _, row_shaped _, _, rfl, ite2 (fun c9 => ?_) (fun c9 => ?_)⟩
          · rw [eqv_row] at c9
            refine ⟨_, rfl, _, rfl, F, _, _, _, rfl, rfl, SqL.of (g1 _ _ f3), hat, push ?_⟩
            rw [elast]
            intro z
            rw [Option.some.inj z] at c9
            simp at c9
          · rw [eqv_row] at c9
            have e9 : r = r0 := by simpa using c9
            refine ⟨g1, ys, g2, ?_⟩
            rw [etk, dd_snoc]
            unfold ddF
            rw [if_pos (by rw [elast, e9])]
            exact g3
      · rintro H4 ⟨g1, ys, g2, g3⟩
        rw [hus, List.take_length] at g3
        refine k _ D ys (fun b o e => ?_) g2 g3
        have e2 := sm2 _ _ (sm1 _ _ e)
        exact g1 _ _ (b3 _ _ (sG _ _ e2) (ne_of_none e2 nF))
end
end K17

set_option Elab.async false
set_option linter.all false
set_option maxRecDepth 100000
set_option maxHeartbeats 400000
namespace K17
open PySem PySem.Spec PyProof.Rows L2 Own
theorem sub_len {α : Type} [DecidableEq α] : ∀ {l m : List α}, l.Nodup → (∀ x ∈ l, x ∈ m) → l.length ≤ m.length
  | [], _, _, _ => Nat.zero_le _
  | x :: l, m, h, s => by
    rw [List.nodup_cons] at h
    have hx := s x (List.mem_cons_self ..)
    have ih := sub_len (l := l) (m := m.erase x) h.2 fun y hy => (List.mem_erase_of_ne (fun z => h.1 (by rw [← z]; exact hy))).mpr (s y (List.mem_cons_of_mem _ hy))
    rw [List.length_erase_of_mem hx] at ih
    have := List.length_pos_of_mem hx
    rw [List.length_cons]
    omega
/-- numbers below m, unlike ones -/
structure Ord (m : Int) (ns : List Int) : Prop where
  b : ∀ x ∈ ns, 0 ≤ x ∧ x < m
  nd : ns.Nodup
def numsN (m : Nat) : List Int := (List.range m).map fun k : Nat => (0 : Int) + (k : Int)
def freeN (m : Nat) (ns : List Int) : List Int := (numsN m).filter fun x => !decide (x ∈ ns)
theorem nums_nodup (m : Nat) : (numsN m).Nodup := by
  unfold numsN
  rw [List.nodup_iff_pairwise_ne, List.pairwise_map]
  exact (List.nodup_range (n := m)).imp fun {a b} h z => h (by omega)
theorem free_ne {m : Nat} {ns : List Int} (h : ns.length < m) : freeN m ns ≠ [] := fun z => by
  have h1 : ∀ x ∈ numsN m, x ∈ ns := fun x hx => by
    refine Classical.byContradiction fun c => ?_
    have : x ∈ freeN m ns := List.mem_filter.mpr ⟨hx, by simp [c]⟩
    rw [z] at this
    cases this
  have h2 := sub_len (nums_nodup m) h1
  unfold numsN at h2
  rw [List.length_map, List.length_range] at h2
  omega
theorem free_mem {m : Nat} {ns : List Int} {x : Int} (h : x ∈ freeN m ns) : 0 ≤ x ∧ x < m ∧ x ∉ ns := by
  unfold freeN at h
  rw [List.mem_filter] at h
  obtain ⟨h1, h2⟩ := h
  obtain ⟨k, hk, rfl⟩ := List.mem_map.mp h1
  rw [List.mem_range] at hk
  exact ⟨by omega, by omega, by simpa using h2⟩
def tot (os : List (Addr × List Int)) : Nat := (os.map fun q => q.2.length).sum
theorem tot_snoc (os : List (Addr × List Int)) (q : Addr × List Int) : tot (os ++ [q]) = tot os + q.2.length := by
  unfold tot
  rw [List.map_append, List.sum_append]
  simp
def spScripts : Sp := fun vs H Q _ => ∃ (p l : Addr) (cs : List Int) (b z : Int) (m : Nat), vs = [.ref p, .int (m : Int)] ∧ 1 ≤ m ∧ m ≤ 4 ∧ Pen H p l cs b z ∧ b < 900000 ∧
  ∀ (t L1 L2 : Addr) (ns ms : List Int) (b' z' : Int) (H' : Hp), H' t = some (.tup [.ref L1, .ref L2]) → H' L1 = some (.lst (ns.map V.int)) → H' L2 = some (.lst (ms.map V.int)) → Ord m ns → Ord m ms → ns.length + ms.length ≤ 4 →
    b' ≤ b + 20 → Pen H' p l cs b' z' → But p H H' → Q (.ref t) H'
theorem draw_or {K : PySem.W.Frag} {σ : L2.St} {H : Hp} {Q : VK} {i : Nat} {p l : Addr} {cs : List Int} {b z : Int} (e0 : σ[0]? = some (some (.ref p))) (e4 : σ[4]? = some (some (.int (0 + (i : Int))))) (hp : Pen H p l cs b z) (hb : b < 1000000)
    (q : ∀ (d b' z' : Int) (H' : Hp), 0 ≤ d → b' ≤ b + 1 → Pen H' p l cs b' z' → But p H H' → Q (.int d) H') :
    tIf (tTest (tOp rEq (tVar 4) (tC (.int 0)))) (tOp (rI0 fun i j => V.int (i + j)) (tC (.int 1)) (tCall spDraw [] E0 (tCons (tVar 0) (tCons (tC (.int 3)) tNil)))) (tCall spDraw [] E0 (tCons (tVar 0) (tCons (tC (.int 4)) tNil))) σ H Q := by
  refine ⟨_, e4, rfl, _, rfl, ite2 (fun c => ?_) (fun c => ?_)⟩
  · exact ⟨_, e0, p, l, cs, b, z, 3, rfl, by decide, by decide, hp, hb, fun d b' z' H' d0 d1 hb' hp' hB => ⟨_, _, rfl, rfl, q _ b' z' H' (by omega) hb' hp' hB⟩⟩
  · exact ⟨_, e0, p, l, cs, b, z, 4, rfl, by decide, by decide, hp, hb, fun d b' z' H' d0 d1 hb' hp' hB => q _ b' z' H' d0 hb' hp' hB⟩
section
variable {P : Program} {w : World} {K : PySem.W.Frag} {mg : Str → Option Value} {base : Heap}
abbrev sScripts : Stmt := top 72
abbrev nScripts : List Str := ["_law_pen", "_law_many", "_law_rows_here", "_law_left_here", "_law_k", "_law_order", "_law_n", "_law_turned", "_law_number"]
theorem scScripts : FnScope nScripts ["_law_pen", "_law_many"] (defScope sScripts) := ⟨rfl, rfl, rfl, by decide +kernel, rfl, by decide +kernel, by decide +kernel⟩
theorem ok_scripts {f : Addr} {fd : FuncData} (F : FnP K "_law_scripts" "_law_scripts" sScripts f fd) (T : Tx mg) (cD : Cl P w K mg base 1 "_law_draw" ["_law_pen", "_law_many"] spDraw) (cP : Cl P w K mg base 2 "_law_pick" ["_law_pen", "_law_menu"] spPick) : FnOk P w K mg base CX0 3 f fd ["_law_pen", "_law_many"] spScripts := by
  obtain ⟨fD, fdD, GD, mD, kD, bD⟩ := cD.ex
  obtain ⟨fP, fdP, GP, mP, kP, bP⟩ := cP.ex
  refine F.ok scScripts (fun vs H Q E h => ?_) (fun cdv A outer s H vs Q E hr h => ?_)
  · obtain ⟨p, l, cs, b, z, m, rfl, _⟩ := h
    rfl
  · obtain ⟨p, l, cs, b, z, m, rfl, m1, m4, hp, hb, k⟩ := h
    have hr1 : Room 1 _ := hr.mono (by omega)
    refine ⟨_, PSs.nox (pss_cons (ps_par (i := 2) (j := 3) (by rfl) scScripts.nd rfl rfl (by decide) rfl rfl (pa_cons (pe_lst pa_nil) (pa_cons pe_int pa_nil)) (by rfl))
      (pss_cons (ps_for PassesOwn.never rfl (pi_range1 (by rfl) T.range (pa_cons pe_int pa_nil)) (pg_name (i := 4) scScripts.nd rfl (Or.inl rfl))
        (pss_cons (ps_set (i := 5) scScripts.nd rfl (Or.inr rfl) (pe_lst pa_nil))
        (pss_cons (ps_for PassesOwn.never rfl (pi_range1 (by rfl) T.range (pa_cons (pe_callB (cr_min3 (by rfl)) (by rfl) T.min (by decide +kernel) (pa_cons (pv 3) (pa_cons
              (pe_ifExp (pt_cmpR op_eq (pv 4) pe_int (nomark _)) (pe_op op_add pe_int (pe_call GD hr1 (by rfl) mD kD bD .nil pass0 (pa_cons (pv 0) (pa_cons pe_int pa_nil)))) (pe_call GD hr1 (by rfl) mD kD bD .nil pass0 (pa_cons (pv 0) (pa_cons pe_int pa_nil)))) (pa_cons (pv 1) pa_nil)))) pa_nil)) (pg_name (i := 6) scScripts.nd rfl (Or.inl rfl))
          (pss_one (ps_expr (pe_bm PySem.F.plainAttrs_list PySem.F.slot_list_append PySem.F.type_list_append mt_append (pv 5) (pa_cons (pe_call GP hr (by rfl) mP kP bP .nil pass0 (pa_cons (pv 0) (pa_cons
            (pe_lc (own := [("_law_number", 8)]) (g := gName 8) (by rfl) scScripts.nd (pi_range1 (by rfl) T.range (pa_cons (pv 1) pa_nil)) (blkOk_by (own := [("_law_number", 8)]) (N := nScripts) (sc := defScope sScripts) (by decide +kernel)) (fun _ _ _ _ _ => pg_name (i := 8) scScripts.nd rfl (Or.inl rfl))
              (fun _ _ _ _ _ => pts_one (pt_cmpR (r := rIn K true) op_notIn_seq (pv 8) (pv 5) (by rfl))) (fun _ _ _ _ _ => pv 8)) pa_nil))) pa_nil)))))
        (pss_cons (ps_set (i := 3) scScripts.nd rfl (Or.inl rfl) (pe_op op_sub (pv 3) (pe_callB call_len_seq (by rfl) T.len PySem.boot_len (pa_cons (pv 5) pa_nil))))
        (pss_one (ps_expr (pe_bm PySem.F.plainAttrs_list PySem.F.slot_list_append PySem.F.type_list_append mt_append (pv 2) (pa_cons (pv 5) pa_nil))))))))
      (C8.pss_cut (ps_set (i := 7) scScripts.nd rfl (Or.inl rfl) (pe_and (pe_cmpR op_eq (pe_call GD hr1 (by rfl) mD kD bD .nil pass0 (pa_cons (pv 0) (pa_cons pe_int pa_nil))) pe_int (nomark _)) (pe_one (pe_cmpR op_le (pe_callB call_len_seq (by rfl) T.len PySem.boot_len (pa_cons (pe_ix ix_list (pv 2) pe_int (fun _ _ => rfl)) pa_nil)) pe_int (nomark _)))))
      (pss_one (ps_ret (pe_tup (pa_cons (pe_ix ix_list (pv 2) pe_int (fun _ _ => rfl)) (pa_cons (pe_ifExp (pt_val (pv 7)) (pe_revL (pe_ix ix_list (pv 2) pe_int (fun _ _ => rfl))) (pe_ix ix_list (pv 2) pe_int (fun _ _ => rfl))) pa_nil)))))))), ?_⟩
    refine ⟨(by show 0 ≤ sizeLine; decide), fun R hR => ⟨_, _, rfl, ?_⟩⟩
    have s0 : Same H (upd H R (.lst [])) := same_new hR
    have r0 : (upd H R (.lst [])) R = some (.lst []) := upd_same
    have p0 := hp.same s0
    generalize upd H R (.lst []) = H0 at s0 r0 p0 ⊢
    refine ⟨2, rfl, by decide, by decide, ?_⟩
    refine for_range (lo := 0) (n := 2) (fun i σ H' => But p H H' ∧ (∃ (os : List (Addr × List Int)) (c : Nat) (v4 v5 v6 : Option V), H' R = some (.lst (os.map fun q => V.ref q.1)) ∧ (∀ q ∈ os, q.1 ≠ R ∧ H' q.1 = some (.lst (q.2.map V.int)) ∧ Ord m q.2) ∧ os.length = i ∧ c + tot os = 4 ∧
        σ = [some (.ref p), some (.int m), some (.ref R), some (.int c), v4, v5, v6, none, none]) ∧ ∃ b' z', Pen H' p l cs b' z' ∧ b' ≤ b + 5 * i)
      ⟨Same.but s0 _, ⟨[], 4, none, none, none, r0, (fun q hq => absurd hq List.not_mem_nil), rfl, rfl, rfl⟩, b, z, p0, by omega⟩ ?_ ?_
    · rintro i σ H1 hi ⟨b1, ⟨os, c, v4, v5, v6, hr1', ho, hol, hc, rfl⟩, b', z', p1, hb'⟩
      refine ⟨(by show 0 ≤ sizeLine; decide), fun O hO => ?_⟩
      have sO : Same H1 (upd H1 O (.lst [])) := same_new hO
      have oO : (upd H1 O (.lst [])) O = some (.lst []) := upd_same
      have pO := p1.same sO
      generalize upd H1 O (.lst []) = H2 at sO oO pO ⊢
      refine ⟨_, rfl, ?_⟩
      refine draw_or (K := K) (i := i) (p := p) (l := l) (cs := cs) (b := b') (z := z') rfl rfl pO (by omega) fun d b3 z3 H3 d0 hb3 p3 b23 => ?_
      refine ⟨_, rfl, _, _, _, rfl, fun lim hlim => ?_⟩
      have hc4 : c ≤ 4 := by omega
      refine ⟨lim, rfl, by omega, by omega, ?_⟩
      have hO3 : H3 O = some (.lst []) := b23 _ _ oO (ne_of oO pO.d (by intro e; cases e))
      have nOp : O ≠ p := ne_of oO pO.d (by intro e; cases e)
      refine for_range (lo := 0) (n := lim.toNat) (fun j σ H' => But p H1 H' ∧ (∃ (ns : List Int) (v6 : Option V), H' O = some (.lst (ns.map V.int)) ∧ Ord m ns ∧ ns.length = j ∧ σ = [some (.ref p), some (.int m), some (.ref R), some (.int c), some (.int (0 + (i : Int))), some (.ref O), v6, none, none]) ∧ ∃ b4 z4, Pen H' p l cs b4 z4 ∧ b4 ≤ b' + 1 + j)
        ⟨(Same.but sO _).trans b23, ⟨[], v6, hO3, ⟨fun x hx => absurd hx List.not_mem_nil, List.nodup_nil⟩, rfl, rfl⟩, b3, z3, p3, by omega⟩ ?_ ?_
      · rintro j σ H4 hj ⟨b4, ⟨ns, v6', o4, hord, hnl, rfl⟩, b5, z5, p5, hb5⟩
        have hjm : ns.length < m := by omega
        refine ⟨_, rfl, Or.inl ⟨rfl, _, SqL.of o4⟩, _, rfl, _, rfl, m, rfl, by omega, by omega, fun D hD => ?_⟩
        refine lc_range (lo := 0) (n := m) (fun i H' => Same H4 H' ∧ H' D = some (.lst (((numsN i).filter fun x => !decide (x ∈ ns)).map V.int))) ⟨same_new hD, upd_same⟩ ?_ ?_
        · rintro a H5 ha ⟨g1, g2⟩
          have etk : numsN (a + 1) = numsN a ++ [(0 : Int) + (a : Int)] := by
            unfold numsN
            rw [List.range_succ, List.map_append]
            rfl
          have hfl : ((numsN a).filter fun x => !decide (x ∈ ns)).length ≤ 4 := by
            refine Nat.le_trans (List.length_filter_le _ _) ?_
            unfold numsN
            rw [List.length_map, List.length_range]
            omega
          refine ⟨rfl, ?_⟩
          refine ⟨_, rfl, _, rfl, O, _, rfl, Or.inl (SqL.of (g1 _ _ o4)), rfl, flat_ints _, _, rfl, ite2 (fun c1 => ?_) (fun c1 => ?_)⟩
          · have c2 : (!decide ((0 + (a : Int)) ∈ ns)) = true := by rw [← in_ints]; exact c1
            refine ⟨_, rfl, _, g2, small1000 (by rw [List.length_map]; omega), g1.fresh_upd hD, ?_⟩
            rw [upd_same, etk, List.filter_append, List.map_append, List.filter_cons_of_pos (p := fun x => !decide (x ∈ ns)) c2]
            rfl
          · have c2 : ¬ (!decide ((0 + (a : Int)) ∈ ns)) = true := by rw [← in_ints]; exact c1
            refine ⟨g1, ?_⟩
            rw [etk, List.filter_append, List.filter_cons_of_neg (p := fun x => !decide (x ∈ ns)) c2]
            simpa using g2
        · rintro H5 ⟨g1, g2⟩
          have p6 := p5.same g1
          have e6 : H5 D = some (.lst ((freeN m ns).map V.int)) := g2
          have hfl : (freeN m ns).length ≤ 4 := by
            refine Nat.le_trans (List.length_filter_le _ _) ?_
            unfold numsN
            rw [List.length_map, List.length_range]
            omega
          refine ⟨p, l, cs, b5, z5, D, _, rfl, p6, by omega, e6, ?_, by rw [List.length_map]; omega, ne_of e6 p6.d (by intro e; cases e), fun x b7 z7 H7 hx hb7 p7 but7 => ?_⟩
          · intro z
            exact free_ne hjm (List.map_eq_nil_iff.mp z)
          · obtain ⟨y, hy, rfl⟩ := List.mem_map.mp hx
            obtain ⟨y0, y1, y2⟩ := free_mem hy
            have o7 : H7 O = some (.lst (ns.map V.int)) := but7 _ _ (g1 _ _ o4) nOp
            refine ⟨O, _, _, rfl, rfl, o7, small1000 (by rw [List.length_map]; omega), ?_⟩
            have b47 : But p H1 (upd H7 O (.lst (ns.map V.int ++ [V.int y]))) := fun c9 o9 e9 n9 => by
              rw [upd_ne (ne_of_none e9 hO)]
              exact but7 _ _ (g1 _ _ (b4 c9 o9 e9 n9)) n9
            refine ⟨b47, ⟨ns ++ [y], _, ?_, ⟨?_, ?_⟩, ?_, rfl⟩, b7, z7, ⟨?_, ?_, p7.b0, p7.z0, p7.n⟩, by omega⟩
            · rw [upd_same, List.map_append]
              rfl
            · intro x hx
              rcases List.mem_append.mp hx with hx | hx
              · exact hord.b x hx
              · rw [List.mem_singleton.mp hx]
                exact ⟨y0, y1⟩
            · rw [List.nodup_append]
              refine ⟨hord.nd, by simp, fun a ha b hb => ?_⟩
              rw [List.mem_singleton] at hb
              rw [hb]
              exact fun z => y2 (z ▸ ha)
            · rw [List.length_append, List.length_singleton, hnl]
            · rw [upd_ne nOp.symm]
              exact p7.d
            · rw [upd_ne (ne_of_none (p1.l) hO)]
              exact p7.l
      · rintro σ H4 ⟨b4, ⟨ns, v6', o4, hord, hnl, rfl⟩, b5, z5, p5, hb5⟩
        have nRO : R ≠ O := ne_of_none hr1' hO
        have nRp : R ≠ p := ne_of hr1' p1.d (by intro e; cases e)
        have hr4 := b4 _ _ hr1' nRp
        refine ⟨_, rfl, _, rfl, O, _, rfl, Or.inl (SqL.of o4), _, _, rfl, rfl, ?_⟩
        refine ⟨_, rfl, Or.inl ⟨rfl, _, SqL.of hr4⟩, _, rfl, R, _, _, rfl, rfl, hr4, small1000 (by rw [List.length_map]; omega), ?_⟩
        have b48 : But p H (upd H4 R (.lst ((os.map fun q => V.ref q.1) ++ [.ref O]))) := fun c9 o9 e9 n9 => by
          rw [upd_ne (ne_of_none e9 hR)]
          exact b4 _ _ (b1 c9 o9 e9 n9) n9
        have hcl : c - ns.length + ns.length = c := by omega
        refine ⟨b48, ⟨os ++ [(O, ns)], c - ns.length, some (.int (0 + (i : Int))), some (.ref O), v6', ?_, ?_, ?_, ?_, ?_⟩, b5, z5, ⟨?_, ?_, p5.b0, p5.z0, p5.n⟩, by omega⟩
        · rw [upd_same, List.map_append]
          rfl
        · intro q hq
          rcases List.mem_append.mp hq with hq | hq
          · obtain ⟨q1, q2, q3⟩ := ho q hq
            refine ⟨q1, ?_, q3⟩
            rw [upd_ne q1]
            exact b4 _ _ q2 (ne_of q2 p1.d (by intro e; cases e))
          · rw [List.mem_singleton.mp hq]
            refine ⟨nRO.symm, ?_, hord⟩
            rw [upd_ne nRO.symm]
            exact o4
        · rw [List.length_append, List.length_singleton, hol]
        · rw [tot_snoc]
          show c - ns.length + (tot os + ns.length) = 4
          omega
        · have e9 : (c : Int) - ((ns.map V.int).length : Int) = ((c - ns.length : Nat) : Int) := by
            rw [List.length_map]
            omega
          rw [← e9]
          rfl
        · rw [upd_ne nRp.symm]
          exact p5.d
        · rw [upd_ne (ne_of_none hp.l hR)]
          exact p5.l
    · rintro σ H1 ⟨b1, ⟨os, c, v4, v5, v6, hr1', ho, hol, hc, rfl⟩, b', z', p1, hb'⟩
      obtain ⟨q1, q2, rfl⟩ : ∃ q1 q2, os = [q1, q2] := by
        match os, hol with
        | [a, b], _ => exact ⟨a, b, rfl⟩
      obtain ⟨n1, o1, r1⟩ := ho q1 (List.mem_cons_self ..)
      obtain ⟨n2, o2, r2⟩ := ho q2 (List.mem_cons_of_mem _ (List.mem_cons_self ..))
      have ht : q1.2.length + q2.2.length ≤ 4 := by
        unfold tot at hc
        simp at hc
        omega
      have nRp : R ≠ p := ne_of hr1' p1.d (by intro e; cases e)
      have m1p : q1.1 ≠ p := ne_of o1 p1.d (by intro e; cases e)
      have m2p : q2.1 ≠ p := ne_of o2 p1.d (by intro e; cases e)
      have i0 : atI [V.ref q1.1, V.ref q2.1] 0 = some (V.ref q1.1) := atI_nat (xs := [V.ref q1.1, V.ref q2.1]) (j := 0) rfl
      have i1 : atI [V.ref q1.1, V.ref q2.1] 1 = some (V.ref q2.1) := atI_nat (xs := [V.ref q1.1, V.ref q2.1]) (j := 1) rfl
      refine ⟨fun σ H' => But p H1 H' ∧ (∃ tb : Bool, (tb = true → q1.2.length ≤ 2) ∧ σ = [some (.ref p), some (.int m), some (.ref R), some (.int c), v4, v5, v6, some (.bl tb), none]) ∧ ∃ b4 z4, Pen H' p l cs b4 z4 ∧ b4 ≤ b + 11, ?_, ?_⟩
      · refine ⟨_, rfl, p, l, cs, b', z', 2, rfl, by decide, by decide, p1, by omega, fun d b4 z4 H4 d0 d1 hb4 p4 bt4 => ⟨rfl, _, rfl, ite2 (fun c1 => ?_) (fun c1 => ?_)⟩⟩
        · refine ⟨_, rfl, R, _, _, _, rfl, rfl, SqL.of (bt4 _ _ hr1' nRp), i0, q1.1, _, rfl, Or.inl (SqL.of (bt4 _ _ o1 m1p)), _, _, rfl, rfl, bt4, ⟨_, fun h9 => ?_, rfl⟩, b4, z4, p4, by omega⟩
          have := of_decide_eq_true h9
          rw [List.length_map] at this
          omega
        · exact ⟨bt4, ⟨false, (fun h9 => by cases h9), rfl⟩, b4, z4, p4, by omega⟩
      · rintro σ H4 ⟨bt4, ⟨tb, htb, rfl⟩, b4, z4, p4, hb4⟩
        have hR4 := bt4 _ _ hr1' nRp
        have o14 := bt4 _ _ o1 m1p
        have o24 := bt4 _ _ o2 m2p
        refine ⟨_, rfl, R, _, _, _, rfl, rfl, SqL.of hR4, i0, _, rfl, tb, rfl, ?_⟩
        cases tb with
        | true =>
          refine iteT ⟨_, rfl, R, _, _, _, rfl, rfl, SqL.of hR4, i0, q1.1, _, rfl, SqL.of o14, fun L hL => ⟨(by show 2 ≤ sizeLine; decide), fun t ht' => ?_⟩⟩
          have s5 : Same H4 (upd H4 L (.lst ((q1.2.map V.int).reverse))) := same_new hL
          have h5 : (upd H4 L (.lst ((q1.2.map V.int).reverse))) L = some (.lst (q1.2.reverse.map V.int)) := by rw [upd_same, List.map_reverse]
          have s6 := same_new (o := .tup [.ref q1.1, .ref L]) ht'
          have s56 := s5.trans s6
          refine k t q1.1 L q1.2 q1.2.reverse b4 z4 _ upd_same (s56 _ _ o14) (s6 _ _ h5) r1 ⟨fun x hx => r1.b x (List.mem_reverse.mp hx), (List.reverse_perm _).nodup_iff.mpr r1.nd⟩ (by have := htb rfl; rw [List.length_reverse]; omega) (by omega) (p4.same s56) ((b1.trans bt4).trans (Same.but s56 _))
        | false =>
          refine iteF ⟨_, rfl, R, _, _, _, rfl, rfl, SqL.of hR4, i1, (by show 2 ≤ sizeLine; decide), fun t ht' => ?_⟩
          have s6 : Same H4 (upd H4 t (.tup [.ref q1.1, .ref q2.1])) := same_new ht'
          refine k t q1.1 q2.1 q1.2 q2.2 b4 z4 _ upd_same (s6 _ _ o14) (s6 _ _ o24) r1 r2 ht (by omega) (p4.same s6) ((b1.trans bt4).trans (Same.but s6 _))
end
end K17

set_option Elab.async false
set_option linter.all false
set_option maxRecDepth 100000
set_option maxHeartbeats 800000
namespace K17
open PySem PySem.Spec PyProof.Rows L2 Own
def spLaw (K : PySem.W.Frag) : Sp := fun vs H Q _ => ∃ (a : Addr) (ns : List Int), vs = [.ref a] ∧ SqL K H a (ns.map V.int) ∧ ns.length ≤ 63 ∧ ∀ H', Q (.bl true) H'
def LCB (bl : V) (H : Hp) (v : V) (q : Int × Int) : Prop := ∃ t, v = .ref t ∧ H t = some (.tup [bl, .int q.1, .int q.2])
theorem LCB.same {bl : V} {H H' : Hp} {v : V} {q : Int × Int} (h : LCB bl H v q) (s : Same H H') : LCB bl H' v q := by
  obtain ⟨t, e, h1⟩ := h
  exact ⟨t, e, s _ _ h1⟩
theorem LCB.but {bl : V} {H H' : Hp} {v : V} {q : Int × Int} {D : Addr} {o : HO} (h : LCB bl H v q) (b : But D H H') (hD : H D = some o) (ho : ∀ xs, o ≠ .tup xs) : LCB bl H' v q := by
  obtain ⟨t, e, h1⟩ := h
  exact ⟨t, e, b _ _ h1 (ne_of h1 hD fun z => ho _ z.symm)⟩
theorem LCB.l {bl : V} {H : Hp} {v : V} {q : Int × Int} (h : LCB bl H v q) : LCallAt H v q := by
  obtain ⟨t, e, h1⟩ := h
  exact ⟨t, bl, e, h1⟩
theorem CallAt.but_lst {C : Addr} {H H' : Hp} {v : V} {q : Int × Int} {D : Addr} {xs : List V} (h : CallAt C H v q) (b : But D H H') (hD : H D = some (.lst xs)) : CallAt C H' v q := by
  obtain ⟨t, x, dx, fs, e, h1, h2⟩ := h
  exact ⟨t, x, dx, fs, e, b _ _ h1 (ne_of h1 hD (by intro e; cases e)), b _ _ h2 (ne_of h2 hD (by intro e; cases e))⟩
theorem lay_rows (x : List PyData) (h : ∀ d ∈ x, PyData.canLay0 d = true) : PyData.canLayAll0 x = true := by
  induction x with
  | nil => rfl
  | cons d x ih =>
    show (PyData.canLay0 d && PyData.canLayAll0 x) = true
    rw [h d (List.mem_cons_self ..), ih fun e he => h e (List.mem_cons_of_mem _ he)]
    rfl
theorem depth_le (x : List PyData) (n : Nat) (h : ∀ d ∈ x, d.depth ≤ n) : PyData.depthAll x ≤ n := by
  induction x with
  | nil => exact Nat.zero_le _
  | cons d x ih =>
    show max d.depth (PyData.depthAll x) ≤ n
    exact Nat.max_le.mpr ⟨h d (List.mem_cons_self ..), ih fun e he => h e (List.mem_cons_of_mem _ he)⟩
theorem shaped_tup {x : List PyData} (h1 : ∀ d ∈ x, PyData.canLay0 d = true) (h2 : ∀ d ∈ x, d.depth ≤ 10) : SeqAt.shaped (.tuple x) = true := by
  unfold SeqAt.shaped
  rw [show PyData.canLay0 (.tuple x) = true from lay_rows x h1, Bool.true_and]
  refine decide_eq_true ?_
  show PyData.depthAll x + 1 ≤ 64
  have := depth_le x 10 h2
  omega
theorem row_d (r : List Int) : PyData.canLay0 (rowD r) = true ∧ (rowD r).depth ≤ 1 := by
  refine ⟨lay_ints r, ?_⟩
  show PyData.depthAll (r.map PyData.int) + 1 ≤ 1
  rw [depth_ints]
  exact Nat.le_refl _
theorem rows_shaped (rs : List (List Int)) : SeqAt.shaped (.tuple (rs.map rowD)) = true := by
  refine shaped_tup (fun d hd => ?_) (fun d hd => ?_)
  · obtain ⟨r, _, rfl⟩ := List.mem_map.mp hd
    exact (row_d r).1
  · obtain ⟨r, _, rfl⟩ := List.mem_map.mp hd
    exact Nat.le_trans (row_d r).2 (by decide)
theorem tag_d (x : Str) (hx : PyData.canLay0 (.str x) = true) (r : List Int) : PyData.canLay0 (tagD x r) = true ∧ (tagD x r).depth ≤ 3 := by
  constructor
  · show (PyData.canLay0 (.str x) && (PyData.canLay0 (rowD r) && true)) = true
    rw [hx, (row_d r).1]
    rfl
  · show max 0 (max (rowD r).depth 0) + 1 ≤ 3
    have := (row_d r).2
    omega
theorem story_shaped (rs : List (List Int)) (there : Bool) : SeqAt.shaped (.tuple (storyL rs there)) = true := by
  have key : ∀ d ∈ storyL rs there, PyData.canLay0 d = true ∧ d.depth ≤ 3 := fun d hd => by
    unfold storyL at hd
    rcases List.mem_append.mp hd with hd | hd
    · split at hd
      · obtain ⟨r, _, rfl⟩ := List.mem_map.mp hd
        exact tag_d _ (by decide +kernel) r
      · cases hd
    · obtain ⟨r, _, rfl⟩ := List.mem_map.mp hd
      exact tag_d _ (by decide +kernel) r
  exact shaped_tup (fun d hd => (key d hd).1) (fun d hd => Nat.le_trans (key d hd).2 (by decide))
section
variable {P : Program} {w : World} {K : PySem.W.Frag} {mg : Str → Option Value} {base : Heap}
abbrev sLaw : Stmt := top 75
abbrev nLaw : List Str := ["_law_script", "_law_pen", "_law_turn", "_law_many", "_law_blocks", "_law_calls", "_law_one", "_law_other", "_law_made", "_law_question", "_law_words", "_law_due", "_law_found", "_law_there", "_law_old", "_law_k", "_law_part", "_law_which", "_law_value", "_law_row"]
theorem scLaw : FnScope nLaw ["_law_script"] (defScope sLaw) := ⟨rfl, rfl, rfl, by decide +kernel, rfl, by decide +kernel, by decide +kernel⟩
theorem ok_law {f CR CQ fI fJ : Addr} {fd fdJ : FuncData} (F : FnP K "law" "law" sLaw f fd) (T : Tx mg) (RQ : TxQ K mg CQ fJ) (GJ : FnOk P w K mg base CX0 5 fJ fdJ ["self", "calls", "one", "other", "aspects", "where"] (spQInit K CR CQ)) (bJ : ∃ ds, Vals [V.non] ds ∧ Binds K fdJ ["self", "calls", "one", "other", "aspects", "where"] ds)
    (c1 : Cl P w K mg base 1 "_law_pen_of" ["_law_script"] (spPenOf K)) (cD : Cl P w K mg base 1 "_law_draw" ["_law_pen", "_law_many"] spDraw) (cP : Cl P w K mg base 2 "_law_pick" ["_law_pen", "_law_menu"] spPick) (cU : Cl P w K mg base 1 "_law_usual" ["_law_name"] (spUsual K))
    (cS : Cl P w K mg base 3 "_law_scripts" ["_law_pen", "_law_many"] spScripts) (cR : Cl P w K mg base 24 "_law_routine" ["_law_blocks"] (spRout K CR)) (cW : Cl P w K mg base 2 "_law_rows" ["_law_one", "_law_other", "_law_calls", "_law_words"] (spLRows K))
    (cO : Cl P w K mg base 1 "rows_of" ["question", "words"] (spRowsOf K CR CQ)) (cT : Cl P w K mg base 2 "stories_of" ["question", "words", "there"] (spStories K CR CQ)) : FnOk P w K mg base CX0 26 f fd ["_law_script"] (spLaw K) := by
  obtain ⟨f1, fd1, G1, m1, k1, b1⟩ := c1.ex
  obtain ⟨fD, fdD, GD, mD, kD, bD⟩ := cD.ex
  obtain ⟨fP, fdP, GP, mP, kP, bP⟩ := cP.ex
  obtain ⟨fU, fdU, GU, mU, kU, bU⟩ := cU.ex
  obtain ⟨fS, fdS, GS, mS, kS, bS⟩ := cS.ex
  obtain ⟨fR, fdR, GR, mR, kR, bR⟩ := cR.ex
  obtain ⟨fW, fdW, GW, mW, kW, bW⟩ := cW.ex
  obtain ⟨fO, fdO, GO, mO, kO, bO⟩ := cO.ex
  obtain ⟨fT, fdT, GT, mT, kT, bT⟩ := cT.ex
  obtain ⟨ds, vds, bJ⟩ := bJ
  refine F.ok scLaw (fun vs H Q E h => ?_) (fun cdv A outer s H vs Q E hr h => ?_)
  · obtain ⟨a, ns, rfl, _⟩ := h
    rfl
  · obtain ⟨a, ns, rfl, hS, hl, k⟩ := h
    have hr1 : Room 1 _ := hr.mono (by omega)
    have hr2 : Room 2 _ := hr.mono (by omega)
    have hr3 : Room 3 _ := hr.mono (by omega)
    have hr6 : Room 6 _ := hr.mono (by omega)
    have hr24 : Room 24 _ := hr.mono (by omega)
    have hu := hr.units
    refine ⟨_, PSs.nox (pss_cons (ps_set (i := 1) scLaw.nd rfl (Or.inr rfl) (pe_call G1 hr1 (by rfl) m1 k1 b1 .nil pass0 (pa_cons (pv 0) pa_nil)))
      (pss_cons (ps_for PassesOwn.never rfl (pi_range1 (by rfl) T.range (pa_cons pe_int pa_nil)) (pg_name (i := 2) scLaw.nd rfl (Or.inl rfl))
        (pss_cons (ps_set (i := 3) scLaw.nd rfl (Or.inl rfl) (pe_op op_add pe_int (pe_call GD hr1 (by rfl) mD kD bD .nil pass0 (pa_cons (pv 1) (pa_cons pe_int pa_nil)))))
        (pss_cons (ps_set (i := 4) scLaw.nd rfl (Or.inr rfl) (pe_call GU hr1 (by rfl) mU kU bU .nil pass0 (pa_cons (pe_call GP hr2 (by rfl) mP kP bP .nil pass0 (pa_cons (pv 1) (pa_cons (pe_lst (pa_cons pe_str (pa_cons pe_str (pa_cons pe_str pa_nil)))) pa_nil))) pa_nil)))
        (pss_cons (ps_setLc (i := 5) (own := [("_law_k", 15)]) (g := gName 15) (tt := tYes) (by rfl) scLaw.nd rfl rfl (sw_true rfl rfl rfl (by decide +kernel)) (pi_range1 (by rfl) T.range (pa_cons (pv 3) pa_nil)) (blkOk_by (own := [("_law_k", 15)]) (N := nLaw) (sc := defScope sLaw) (by decide +kernel))
            (fun _ _ _ _ _ => pg_name (i := 15) scLaw.nd rfl (Or.inl rfl)) (fun _ _ _ _ _ => pts_nil)
            (fun _ _ _ _ _ => pe_tup (pa_cons (pv 4) (pa_cons (pe_call GD hr1 (by rfl) mD kD bD .nil pass0 (pa_cons (pv 1) (pa_cons pe_int pa_nil))) (pa_cons (pe_op op_add pe_int (pe_call GD hr1 (by rfl) mD kD bD .nil pass0 (pa_cons (pv 1) (pa_cons pe_int pa_nil)))) pa_nil)))))
        (pss_cons (ps_asg (pe_call GS hr3 (by rfl) mS kS bS .nil pass0 (pa_cons (pv 1) (pa_cons (pv 3) pa_nil))) (pg_tup (by rfl) (pgs_cons (pg_name (i := 6) scLaw.nd rfl (Or.inl rfl)) (pgs_cons (pg_name (i := 7) scLaw.nd rfl (Or.inl rfl)) pgs_nil))))
        (C8.pss_cut (ps_if (pt_cmpR op_eq (pe_call GD hr1 (by rfl) mD kD bD .nil pass0 (pa_cons (pv 1) (pa_cons pe_int pa_nil))) pe_int (nomark _))
            (pss_one (ps_par (i := 6) (j := 7) (by rfl) scLaw.nd rfl rfl (by decide) rfl rfl (pa_cons (pv 7) (pa_cons (pv 6) pa_nil)) (by rfl))) pss_nil)
        (pss_cons (ps_setLc (i := 8) (own := [("_law_part", 16), ("_law_which", 17), ("_law_value", 18)]) (g := gTup K 3 (gCons (gName 16) (gCons (gName 17) (gCons (gName 18) gNil)))) (tt := tYes) (by rfl) scLaw.nd rfl rfl (sw_true rfl rfl rfl (by decide +kernel)) (pi_list (pv 5)) (blkOk_by (own := [("_law_part", 16), ("_law_which", 17), ("_law_value", 18)]) (N := nLaw) (sc := defScope sLaw) (by decide +kernel))
            (fun _ _ _ _ _ => pg_tup (by rfl) (pgs_cons (pg_name (i := 16) scLaw.nd rfl (Or.inl rfl)) (pgs_cons (pg_name (i := 17) scLaw.nd rfl (Or.inl rfl)) (pgs_cons (pg_name (i := 18) scLaw.nd rfl (Or.inl rfl)) pgs_nil)))) (fun _ _ _ _ _ => pts_nil)
            (fun _ _ _ _ _ => pe_tup (pa_cons (pe_call GR hr24 (by rfl) mR kR bR .nil pass0 (pa_cons (pv 16) pa_nil)) (pa_cons (pv 17) (pa_cons (pv 18) pa_nil)))))
        (pss_cons (ps_set (i := 9) scLaw.nd rfl (Or.inl rfl) (pe_make RQ.mk_ GJ hr6 (by rfl) RQ.mgC bJ vds pass0 (pa_cons (pv 8) (pa_cons (pe_callTy call_list_of (by rfl) T.list (by decide +kernel) (pa_cons (pv 6) pa_nil)) (pa_cons (pe_callTy call_list_of (by rfl) T.list (by decide +kernel) (pa_cons (pv 7) pa_nil)) (pa_cons (pe_lst pa_nil) pa_nil))))))
        (pss_one (ps_for PassesOwn.never rfl (pi_list (pe_lst (pa_cons (pe_tup (pa_cons pe_int pa_nil)) (pa_cons (pe_tup (pa_cons pe_int pa_nil)) (pa_cons (pe_tup (pa_cons pe_int (pa_cons pe_int pa_nil))) pa_nil))))) (pg_name (i := 10) scLaw.nd rfl (Or.inl rfl))
          (pss_cons (ps_set (i := 11) scLaw.nd rfl (Or.inl rfl) (pe_callTy call_tuple_of (by rfl) T.tuple (by decide +kernel) (pa_cons (pe_call GW hr2 (by rfl) mW kW bW .nil pass0 (pa_cons (pv 6) (pa_cons (pv 7) (pa_cons (pv 5) (pa_cons (pv 10) pa_nil))))) pa_nil)))
          (pss_cons (ps_set (i := 12) scLaw.nd rfl (Or.inl rfl) (pe_call GO hr1 (by rfl) mO kO bO .nil pass0 (pa_cons (pv 9) (pa_cons (pv 10) pa_nil))))
          (pss_cons (ps_if (PW.pt (pw_or (pt_cmpR (op_neD hu) (pv 12) (pv 11) (nomark _)) (pw_or1 (pt_not (pt_val (pe_callB (cr_all rfl) (by rfl) T.all (by decide +kernel) (pa_cons
              (pe_lc (own := [("_law_row", 19)]) (g := gName 19) (tt := tYes) (by rfl) scLaw.nd (pi_tup (pv 12)) (blkOk_by (own := [("_law_row", 19)]) (N := nLaw) (sc := defScope sLaw) (by decide +kernel)) (fun _ _ _ _ _ => pg_name (i := 19) scLaw.nd rfl (Or.inl rfl)) (fun _ _ _ _ _ => pts_nil)
                (fun _ _ _ _ _ => pe_callB (r := rIsi K) call_isi (by rfl) T.isinstance (by decide +kernel) (pa_cons (pv 19) (pa_cons (pe_bltn (v := .ty "tuple") (by rfl) T.tuple (by decide +kernel) rfl) pa_nil)))) pa_nil))))))) (pss_one ps_never) pss_nil)
          (pss_cons (ps_set (i := 13) scLaw.nd rfl (Or.inl rfl) (pe_cmpR op_eq (pe_call GD hr1 (by rfl) mD kD bD .nil pass0 (pa_cons (pv 1) (pa_cons pe_int pa_nil))) pe_int (nomark _)))
          (C8.pss_cut (ps_set (i := 14) scLaw.nd rfl (Or.inl rfl) (pe_ifExp (pt_val (pv 13))
              (pe_lc (own := [("_law_row", 19)]) (g := gName 19) (tt := tYes) (by rfl) scLaw.nd (pi_tup (pv 11)) (blkOk_by (own := [("_law_row", 19)]) (N := nLaw) (sc := defScope sLaw) (by decide +kernel)) (fun _ _ _ _ _ => pg_name (i := 19) scLaw.nd rfl (Or.inl rfl)) (fun _ _ _ _ _ => pts_nil)
                (fun _ _ _ _ _ => pe_tup (pa_cons pe_str (pa_cons (pv 19) pa_nil)))) (pe_lst pa_nil)))
          (pss_one (ps_if (pt_cmpR (op_neD hu) (pe_call GT hr2 (by rfl) mT kT bT .nil pass0 (pa_cons (pv 9) (pa_cons (pv 10) (pa_cons (pv 13) pa_nil)))) (pe_callTy call_tuple_of (by rfl) T.tuple (by decide +kernel) (pa_cons (pe_op op_cat (pv 14)
              (pe_lc (own := [("_law_row", 19)]) (g := gName 19) (tt := tYes) (by rfl) scLaw.nd (pi_tup (pv 11)) (blkOk_by (own := [("_law_row", 19)]) (N := nLaw) (sc := defScope sLaw) (by decide +kernel)) (fun _ _ _ _ _ => pg_name (i := 19) scLaw.nd rfl (Or.inl rfl)) (fun _ _ _ _ _ => pts_nil)
                (fun _ _ _ _ _ => pe_tup (pa_cons pe_str (pa_cons (pv 19) pa_nil))))) pa_nil)) (nomark _)) (pss_one ps_never) pss_nil)))))))))))))))))
      (pss_one (ps_ret pe_bl)))), ?_⟩
    refine ⟨_, rfl, a, ns, rfl, hS, hl, fun p l H1 s1 p1 => ?_⟩
    refine ⟨3, rfl, by decide, by decide, ?_⟩
    refine for_range (lo := 0) (n := 3) (fun i σ H' => (∃ b z, Pen H' p l ns b z ∧ b ≤ 60 * i) ∧ ∃ v2 v3 v4 v5 v6 v7 v8 v9 v10 v11 v12 v13 v14, σ = [some (.ref a), some (.ref p), v2, v3, v4, v5, v6, v7, v8, v9, v10, v11, v12, v13, v14, none, none, none, none, none])
      ⟨⟨0, 0, p1, by omega⟩, none, none, none, none, none, none, none, none, none, none, none, none, none, rfl⟩ ?_ ?_
    · rintro i σ H1 hi ⟨⟨b, z, p1, hb⟩, v2, v3, v4, v5, v6, v7, v8, v9, v10, v11, v12, v13, v14, rfl⟩
      refine ⟨_, rfl, p, l, ns, b, z, 4, rfl, by decide, by decide, p1, by omega, fun d b2 z2 H2 d0 d1 hb2 p2 bt2 => ⟨_, _, rfl, rfl, ?_⟩⟩
      obtain ⟨dn, rfl⟩ := Int.eq_ofNat_of_zero_le d0
      refine ⟨_, rfl, (by show 3 ≤ sizeLine; decide), fun q hq => ?_⟩
      have sq : Same H2 (upd H2 q (.lst [.str "has", .str "put", .str "longest"])) := same_new hq
      have eq : (upd H2 q (.lst [.str "has", .str "put", .str "longest"])) q = some (.lst [.str "has", .str "put", .str "longest"]) := upd_same
      have pq := p2.same sq
      generalize upd H2 q (.lst [.str "has", .str "put", .str "longest"]) = H3 at sq eq pq ⊢
      refine ⟨p, l, ns, b2, z2, q, _, rfl, pq, by omega, eq, (by simp), (by show 3 ≤ 1000; decide), ne_of eq pq.d (by intro e; cases e), fun x b3 z3 H4 hx hb3 p4 bt4 => ?_⟩
      obtain ⟨n, hn, rfl⟩ : ∃ n ∈ names3, x = V.str n := by
        simp only [List.mem_cons, List.not_mem_nil, or_false] at hx
        rcases hx with rfl | rfl | rfl
        · exact ⟨"has", by decide +kernel, rfl⟩
        · exact ⟨"put", by decide +kernel, rfl⟩
        · exact ⟨"longest", by decide +kernel, rfl⟩
      obtain ⟨bd, bt, bu, hlk, hgood⟩ := usual_good n hn
      refine ⟨n, _, rfl, hlk, fun v H5 s5 dv => ?_⟩
      obtain ⟨bq, rfl⟩ : ∃ bq, v = V.ref bq := by
        obtain ⟨bq, _, _, _, e, _⟩ := dv.trip
        exact ⟨bq, e⟩
      have p5 := p4.same s5
      refine ⟨_, rfl, _, rfl, by omega, by omega, fun D hD => ?_⟩
      have nDp : D ≠ p := (ne_of_none p5.d hD).symm
      refine lc_range (lo := 0) (n := (1 + (dn : Int)).toNat) (fun j H' => (∃ b z, Pen H' p l ns b z ∧ b ≤ b3 + 2 * j) ∧ But p H5 H' ∧ ∃ vs qs, H' D = some (.lst vs) ∧ Paired (LCB (.ref bq) H') vs qs ∧ qs.length = j ∧ ∀ q ∈ qs, CallOk q)
        ⟨⟨b3, z3, p5.same (same_new hD), by omega⟩, Same.but (same_new hD) _, [], [], upd_same, .nil, rfl, fun q hq => absurd hq List.not_mem_nil⟩ ?_ ?_
      · rintro j H6 hj ⟨⟨b6, z6, p6, hb6⟩, bt6, vs, qs, e6, q6, ql, qo⟩
        refine ⟨rfl, ?_⟩
        refine ⟨_, rfl, _, rfl, p, l, ns, b6, z6, 2, rfl, by decide, by decide, p6, by omega, fun d1 b7 z7 H7 d10 d11 hb7 p7 bt7 => ?_⟩
        refine ⟨_, rfl, p, l, ns, b7, z7, 9, rfl, by decide, by decide, p7, by omega, fun d2 b8 z8 H8 d20 d21 hb8 p8 bt8 => ⟨_, _, rfl, rfl, (by show 3 ≤ sizeLine; decide), fun t ht => ?_⟩⟩
        have bt68 := bt7.trans bt8
        have q8 : Paired (LCB (.ref bq) H8) vs qs := Paired.mapP q6 fun _ _ h => h.but bt68 p6.d (fun _ z => by cases z)
        have e8 := bt68 _ _ e6 nDp
        have s9 : Same H8 (upd H8 t (.tup [.ref bq, .int d1, .int (1 + d2)])) := same_new ht
        have e9 := s9 _ _ e8
        have t9 : (upd H8 t (.tup [.ref bq, .int d1, .int (1 + d2)])) t = some (.tup [.ref bq, .int d1, .int (1 + d2)]) := upd_same
        have p9 := p8.same s9
        generalize upd H8 t (.tup [.ref bq, .int d1, .int (1 + d2)]) = H9 at s9 e9 t9 p9 ⊢
        have hvl := q8.length
        refine ⟨vs, e9, small1000 (by omega), ⟨b8, z8, ⟨?_, ?_, p9.b0, p9.z0, p9.n⟩, by omega⟩, fun c o e n => ?_, vs ++ [.ref t], qs ++ [(d1, 1 + d2)], upd_same, ?_, ?_, ?_⟩
        · rw [upd_ne nDp.symm]
          exact p9.d
        · rw [upd_ne (ne_of_none p5.l hD)]
          exact p9.l
        · rw [upd_ne (ne_of_none e hD)]
          exact s9 _ _ (bt68 _ _ (bt6 c o e n) n)
        · exact Paired.mapP (paired_app (Paired.mapP q8 fun _ _ h => h.same s9) (.cons ⟨t, rfl, t9⟩ .nil)) fun _ _ h => h.but (but_upd _ _ _) e9 (fun _ z => by cases z)
        · rw [List.length_append, List.length_singleton, ql]
        · intro q hq
          rcases List.mem_append.mp hq with hq | hq
          · exact qo q hq
          · rw [List.mem_singleton.mp hq]
            exact ⟨d10, by show d1 ≤ 1; omega, by show 1 ≤ 1 + d2; omega, by show 1 + d2 ≤ 9; omega⟩
      · rintro H6 ⟨⟨b6, z6, p6, hb6⟩, bt6, vs, qs, e6, q6, ql, qo⟩
        have dv6 := Dp.but_dK bt6 ⟨_, p5.d⟩ dv
        have hq4 : qs.length = 1 + dn := by omega
        refine ⟨_, rfl, _, rfl, p, l, ns, b6, z6, 1 + dn, rfl, by omega, by omega, p6, by omega, fun t L1 L2 os ts b7 z7 H7 ht hL1 hL2 od1 od2 few hb7 p7 bt7 => ?_⟩
        have e7 := bt7 _ _ e6 nDp
        have q7 : Paired (LCB (.ref bq) H7) vs qs := Paired.mapP q6 fun _ _ h => h.but bt7 p6.d (fun _ z => by cases z)
        have dv7 := Dp.but_dK bt7 ⟨_, p6.d⟩ dv6
        refine ⟨t, _, rfl, SqT.of ht, rfl, _, _, rfl, _, _, rfl, rfl, ?_⟩
        refine ⟨fun σ H' => But p H7 H' ∧ (∃ b z, Pen H' p l ns b z ∧ b ≤ b7 + 1) ∧ ∃ (L1 L2 : Addr) (os ts : List Int), H' L1 = some (.lst (os.map V.int)) ∧ H' L2 = some (.lst (ts.map V.int)) ∧ Ord ((1 + dn : Nat) : Int) os ∧ Ord ((1 + dn : Nat) : Int) ts ∧ os.length + ts.length ≤ 4 ∧
          σ = [some (.ref a), some (.ref p), some (.int (0 + (i : Int))), some (.int (1 + (dn : Int))), some (.ref bq), some (.ref D), some (.ref L1), some (.ref L2), v8, v9, v10, v11, v12, v13, v14, none, none, none, none, none], ?_, ?_⟩
        · have nL1 := ne_of hL1 p7.d (by intro e; cases e)
          have nL2 := ne_of hL2 p7.d (by intro e; cases e)
          refine ⟨_, rfl, p, l, ns, b7, z7, 2, rfl, by decide, by decide, p7, by omega, fun d b8 z8 H8 d0 d1 hb8 p8 bt8 => ⟨rfl, _, rfl, ite2 (fun c => ?_) (fun c => ?_)⟩⟩
          · exact ⟨_, rfl, _, rfl, _, _, rfl, bt8, ⟨b8, z8, p8, by omega⟩, L2, L1, ts, os, bt8 _ _ hL2 nL2, bt8 _ _ hL1 nL1, od2, od1, by omega, rfl⟩
          · exact ⟨bt8, ⟨b8, z8, p8, by omega⟩, L1, L2, os, ts, bt8 _ _ hL1 nL1, bt8 _ _ hL2 nL2, od1, od2, few, rfl⟩
        · clear hL1 hL2 od1 od2 few
          rintro σ H8 ⟨bt8, ⟨b8, z8, p8, hb8⟩, L1, L2, os, ts, hL1, hL2, od1, od2, few, rfl⟩
          have e8 := bt8 _ _ e7 nDp
          have q8 : Paired (LCB (.ref bq) H8) vs qs := Paired.mapP q7 fun _ _ h => h.but bt8 p7.d (fun _ z => by cases z)
          have dv8 := Dp.but_dK bt8 ⟨_, p7.d⟩ dv7
          refine ⟨_, rfl, D, rfl, ⟨_, SqL.of e8⟩, fun D2 hD2 => ?_⟩
          have hvl := q8.length
          refine lc_list (K := K) (a := D) (xs := vs) (fun j H' => Same H8 H' ∧ ∃ us, H' D2 = some (.lst us) ∧ Paired (CallAt CR H') us (qs.take j)) ⟨same_new hD2, [], upd_same, .nil⟩ (fun i H' _ g => SqL.of (g.1 _ _ e8)) ?_ ?_
          · rintro j x H9 ej ⟨g1, us, g2, g3⟩
            obtain ⟨q, eq, t, rfl, ht⟩ := pget q8 ej
            have hus := g3.length
            rw [List.length_take] at hus
            refine ⟨t, _, rfl, SqT.of (g1 _ _ ht), rfl, _, _, rfl, _, _, rfl, _, _, rfl, rfl, rfl, ?_⟩
            refine ⟨_, rfl, bq, bd, bt, bu, rfl, Dp.same g1 dv8, hgood, fun H10 x s10 hx => ⟨_, rfl, _, rfl, (by show 3 ≤ sizeLine; decide), fun t2 ht2 => ?_⟩⟩
            have s11 : Same H10 (upd H10 t2 (.tup [.ref x, .int q.1, .int q.2])) := same_new ht2
            have t11 : (upd H10 t2 (.tup [.ref x, .int q.1, .int q.2])) t2 = some (.tup [.ref x, .int q.1, .int q.2]) := upd_same
            generalize upd H10 t2 (.tup [.ref x, .int q.1, .int q.2]) = H11 at s11 t11 ⊢
            have g211 := s11 _ _ (s10 _ _ g2)
            obtain ⟨dx, ra, rb, rc, hxr, _⟩ := hx.ex
            refine ⟨us, g211, small1000 (by omega), ((g1.trans s10).trans s11).fresh_upd hD2, us ++ [.ref t2], upd_same, ?_⟩
            rw [List.take_succ, eq]
            exact Paired.mapP (paired_app (Paired.mapP g3 fun _ _ h => h.same (s10.trans s11)) (.cons ⟨t2, x, dx, _, rfl, t11, s11 _ _ hxr⟩ .nil)) fun _ _ h => h.but_lst (but_upd _ _ _) g211
          · rintro H9 ⟨g1, us, g2, g3⟩
            rw [hvl, List.take_length] at g3
            refine ⟨_, rfl, _, rfl, L1, _, rfl, Or.inl (SqL.of (g1 _ _ hL1)), fun a1 ha1 => ?_⟩
            have sa1 : Same H9 (upd H9 a1 (.lst (os.map V.int))) := same_new ha1
            have ea1 : (upd H9 a1 (.lst (os.map V.int))) a1 = some (.lst (os.map V.int)) := upd_same
            generalize upd H9 a1 (.lst (os.map V.int)) = HA at sa1 ea1 ⊢
            refine ⟨_, rfl, L2, _, rfl, Or.inl (SqL.of (sa1 _ _ (g1 _ _ hL2))), fun a2 ha2 => ?_⟩
            have sa2 : Same HA (upd HA a2 (.lst (ts.map V.int))) := same_new ha2
            have ea2 : (upd HA a2 (.lst (ts.map V.int))) a2 = some (.lst (ts.map V.int)) := upd_same
            generalize upd HA a2 (.lst (ts.map V.int)) = HB at sa2 ea2 ⊢
            refine ⟨(by show 0 ≤ sizeLine; decide), fun a3 ha3 => ?_⟩
            have sa3 : Same HB (upd HB a3 (.lst [])) := same_new ha3
            have ea3 : (upd HB a3 (.lst [])) a3 = some (.lst []) := upd_same
            generalize upd HB a3 (.lst []) = HC at sa3 ea3 ⊢
            refine fun x dx nx ndx ne => ?_
            have s4 : Same HC (upd (upd HC dx (.own x)) x (.ins CQ dx [])) := (same_new ndx).trans (same_new (by rw [upd_ne ne.symm]; exact nx))
            have s9C : Same H9 HC := (sa1.trans sa2).trans sa3
            have ob : ∀ n ∈ os, 0 ≤ n ∧ n < (qs.length : Int) := fun n hn => by
              have := od1.b n hn
              omega
            have tb : ∀ n ∈ ts, 0 ≤ n ∧ n < (qs.length : Int) := fun n hn => by
              have := od2.b n hn
              omega
            refine ⟨x, dx, D2, a1, a2, a3, qs, os, ts, rfl, upd_same, ⟨⟨us, s4 _ _ (s9C _ _ g2), Paired.mapP g3 fun _ _ h => h.same (s9C.trans s4)⟩, s4 _ _ (sa3 _ _ (sa2 _ _ ea1)), s4 _ _ (sa3 _ _ ea2), s4 _ _ ea3, qo, by omega, by omega, ob, tb, od1.nd, od2.nd, few⟩, fun HQ bQ hQ => ⟨rfl, ?_⟩⟩
            have sQ : Same H9 HQ := fun c o e => bQ c o (s4 c o (s9C c o e)) (ne_of_none (s9C c o e) nx)
            have s8Q := g1.trans sQ
            have pQ := p8.same s8Q
            have eQ := s8Q _ _ e8
            have qQ : Paired (LCallAt HQ) vs qs := Paired.mapP q8 fun _ _ h => (h.same s8Q).l
            have l1Q := s8Q _ _ hL1
            have l2Q := s8Q _ _ hL2
            refine ⟨(by show 1 ≤ sizeLine; decide), fun w1 hw1 => ⟨(by show 1 ≤ sizeLine; decide), fun w2 hw2 => ⟨(by show 2 ≤ sizeLine; decide), fun w3 hw3 => ⟨(by show 3 ≤ sizeLine; decide), fun LW hLW => ⟨LW, rfl, ⟨_, SqL.of upd_same⟩, ?_⟩⟩⟩⟩⟩
            have f1 : (upd (upd (upd (upd HQ w1 (.tup [.int 0])) w2 (.tup [.int 1])) w3 (.tup [.int 0, .int 1])) LW (.lst [.ref w1, .ref w2, .ref w3])) w1 = some (.tup (([0] : List Int).map V.int)) := same_new hLW _ _ (same_new hw3 _ _ (same_new hw2 _ _ upd_same))
            have f2 : (upd (upd (upd (upd HQ w1 (.tup [.int 0])) w2 (.tup [.int 1])) w3 (.tup [.int 0, .int 1])) LW (.lst [.ref w1, .ref w2, .ref w3])) w2 = some (.tup (([1] : List Int).map V.int)) := same_new hLW _ _ (same_new hw3 _ _ upd_same)
            have f3 : (upd (upd (upd (upd HQ w1 (.tup [.int 0])) w2 (.tup [.int 1])) w3 (.tup [.int 0, .int 1])) LW (.lst [.ref w1, .ref w2, .ref w3])) w3 = some (.tup (([0, 1] : List Int).map V.int)) := same_new hLW _ _ upd_same
            have fl : (upd (upd (upd (upd HQ w1 (.tup [.int 0])) w2 (.tup [.int 1])) w3 (.tup [.int 0, .int 1])) LW (.lst [.ref w1, .ref w2, .ref w3])) LW = some (.lst [.ref w1, .ref w2, .ref w3]) := upd_same
            have sW : Same HQ (upd (upd (upd (upd HQ w1 (.tup [.int 0])) w2 (.tup [.int 1])) w3 (.tup [.int 0, .int 1])) LW (.lst [.ref w1, .ref w2, .ref w3])) := (((same_new hw1).trans (same_new hw2)).trans (same_new hw3)).trans (same_new hLW)
            generalize upd (upd (upd (upd HQ w1 (.tup [.int 0])) w2 (.tup [.int 1])) w3 (.tup [.int 0, .int 1])) LW (.lst [.ref w1, .ref w2, .ref w3]) = WH at f1 f2 f3 fl sW ⊢
            have pW := pQ.same sW
            have hQW := hQ.same sW
            have qW : Paired (LCallAt WH) vs qs := Paired.mapP qQ fun _ _ h => h.same sW
            have nLW : LW ≠ p := ne_of fl pW.d (by intro e; cases e)
            refine for_it (walk_list (K := K) (a := LW) (xs := [.ref w1, .ref w2, .ref w3])) (fun j σ H' => But p WH H' ∧ (∃ b z, Pen H' p l ns b z ∧ b ≤ b8 + j) ∧ ∃ v10 v11 v12 v13 v14, σ = [some (.ref a), some (.ref p), some (.int (0 + (i : Int))), some (.int (1 + (dn : Int))), some (.ref bq), some (.ref D), some (.ref L1), some (.ref L2), some (.ref D2), some (.ref x), v10, v11, v12, v13, v14, none, none, none, none, none])
              ⟨But.refl _ _, ⟨b8, z8, pW, by omega⟩, v10, v11, v12, v13, v14, rfl⟩ (fun j σ H' _ h => SqL.of (h.1 _ _ fl nLW)) ?_ ?_
            · rintro j y σ H10 H10' hj ⟨bt10, ⟨b10, z10, p10, hb10⟩, v10, v11, v12, v13, v14, rfl⟩ ⟨rfl, ey⟩
              obtain ⟨tw, ws, rfl, htw⟩ : ∃ (tw : Addr) (ws : List Int), y = V.ref tw ∧ WH tw = some (.tup (ws.map V.int)) := by
                match j, hj, ey with
                | 0, _, e => cases e; exact ⟨w1, [0], rfl, f1⟩
                | 1, _, e => cases e; exact ⟨w2, [1], rfl, f2⟩
                | 2, _, e => cases e; exact ⟨w3, [0, 1], rfl, f3⟩
                | n + 3, hi, _ => exact absurd hi (by show ¬ (n + 3 < 3); omega)
              have hj3 : j < 3 := hj
              have h10 : ∀ c o, WH c = some o → (∀ kvs, o ≠ .dK kvs) → H10' c = some o := fun c o e n => bt10 _ _ e (ne_of e pW.d (n _))
              have w10 := h10 _ _ htw (fun _ z => by cases z)
              have l110 := h10 _ _ (sW _ _ l1Q) (fun _ z => by cases z)
              have l210 := h10 _ _ (sW _ _ l2Q) (fun _ z => by cases z)
              have e10 := h10 _ _ (sW _ _ eQ) (fun _ z => by cases z)
              have q10 : Paired (LCallAt H10') vs qs := Paired.mapP qW fun _ _ ⟨t, b, e, h1⟩ => ⟨t, b, e, h10 _ _ h1 (fun _ z => by cases z)⟩
              have hQ10 : QAt CR CQ H10' x qs os ts := by
                obtain ⟨dx', ca, cb, cc, cd, ce, xs', k1, k2, k3, k4, k5⟩ := hQW.ex
                exact ⟨dx', ca, cb, cc, cd, ce, xs', h10 _ _ k1 (fun _ z => by cases z), h10 _ _ k2 (fun _ z => by cases z), Paired.mapP k3 fun _ _ ⟨t, y, dy, fy, e, k6, k7⟩ => ⟨t, y, dy, fy, e, h10 _ _ k6 (fun _ z => by cases z), h10 _ _ k7 (fun _ z => by cases z)⟩, h10 _ _ k4 (fun _ z => by cases z), h10 _ _ k5 (fun _ z => by cases z)⟩
              refine ⟨_, rfl, _, rfl, _, rfl, _, rfl, L1, L2, D, tw, vs, qs, ws, os, ts, rfl, l110, l210, e10, q10, SqT.of w10, ob, tb, by omega, by omega, fun H11 r rs s11 hr11 hR11 => ⟨r, rs, rfl, Or.inl ⟨SqL.of hr11, fun du hdu => ?_⟩⟩⟩
              have s12 : Same H11 (upd H11 du (.tup rs)) := same_new hdu
              have d12 : (upd H11 du (.tup rs)) du = some (.tup rs) := upd_same
              have R12 : RowsAt (upd H11 du (.tup rs)) rs (rowsF qs ws os ts) := hR11.same s12
              generalize upd H11 du (.tup rs) = H12 at s12 d12 R12 ⊢
              have s1012 := s11.trans s12
              refine ⟨_, rfl, _, rfl, x, tw, qs, ws, os, ts, rfl, hQ10.same s1012, SqT.of (s1012 _ _ w10), ob, tb, by omega, by omega, fun H13 fp rs2 s13 hf13 hR13 => ?_⟩
              have d13 := s13 _ _ d12
              have R13 := R12.same s13
              have hrl := rowsF_len qs ws os ts (by omega) (by omega)
              have eself : PyData.eqv (.tuple ((rowsF qs ws os ts).map rowD)) (.tuple ((rowsF qs ws os ts).map rowD)) = true := SeqAt.eqv_refl _ (SeqAt.canLay_of_shaped (rows_shaped _))
              refine ⟨_, rfl, _, rfl, .tuple ((rowsF qs ws os ts).map rowD), .tuple ((rowsF qs ws os ts).map rowD), .tup (SqT.of hf13) (rows_dp hR13), .tup (SqT.of d13) (rows_dp R13), rows_shaped _, rows_shaped _, false, (by rw [eself]; rfl), iteF ?_⟩
              have hrl2 := hR13.length
              refine ⟨_, rfl, fp, rfl, ⟨_, SqT.of hf13⟩, fun D4 hD4 => ?_⟩
              refine lc_tup (K := K) (a := fp) (xs := rs2) (fun j H' => Same H13 H' ∧ H' D4 = some (.lst ((List.replicate j true).map V.bl))) ⟨same_new hD4, upd_same⟩ (fun i H' _ g => SqT.of (g.1 _ _ hf13)) ?_ ?_
              · rintro j2 v H14 ev ⟨g5, g6⟩
                obtain ⟨rr, er, tt, rfl, htt⟩ := pget hR13 ev
                have hj2 : j2 < rs2.length := (List.getElem?_eq_some_iff.mp ev).1
                refine ⟨rfl, ?_⟩
                refine ⟨_, rfl, _, _, _, _, true, rfl, ClsV.ty _, TyX.base (.tup (g5 _ _ htt)), kit_ty (by decide +kernel), _, g6, small1000 (by rw [List.length_map, List.length_replicate]; omega), g5.fresh_upd hD4, ?_⟩
                rw [upd_same, List.replicate_succ', List.map_append]
                rfl
              · rintro H14 ⟨g5, g6⟩
                refine ⟨D4, List.replicate rs2.length true, rfl, SqL.of g6, _, rfl, ite2 (fun z => absurd z (by simp)) (fun _ => ?_)⟩
                have s1014 := (s1012.trans s13).trans g5
                have p14 := p10.same s1014
                refine ⟨_, rfl, p, l, ns, b10, z10, 2, rfl, by decide, by decide, p14, by omega, fun dd b11 z11 H15 dd0 dd1 hb11 p15 bt15 => ⟨rfl, ?_⟩⟩
                generalize decide (V.int dd = V.int 0) = th
                have h15 : ∀ c o, H10' c = some o → (∀ kvs, o ≠ .dK kvs) → H15 c = some o := fun c o e n => bt15 _ _ (s1014 _ _ e) (ne_of e p10.d (n _))
                have d15 : H15 du = some (.tup rs) := bt15 _ _ (g5 _ _ d13) (ne_of (g5 _ _ d13) p14.d (by intro e; cases e))
                have R15 : RowsAt H15 rs (rowsF qs ws os ts) := RowsAt.but (R13.same g5) bt15 p14.d (fun _ z => by cases z)
                have w15 := h15 _ _ w10 (fun _ z => by cases z)
                have hQ15 : QAt CR CQ H15 x qs os ts := by
                  obtain ⟨dx', ca, cb, cc, cd, ce, xs', k1, k2, k3, k4, k5⟩ := hQ10.ex
                  exact ⟨dx', ca, cb, cc, cd, ce, xs', h15 _ _ k1 (fun _ z => by cases z), h15 _ _ k2 (fun _ z => by cases z), Paired.mapP k3 fun _ _ ⟨t, y, dy, fy, e, k6, k7⟩ => ⟨t, y, dy, fy, e, h15 _ _ k6 (fun _ z => by cases z), h15 _ _ k7 (fun _ z => by cases z)⟩, h15 _ _ k4 (fun _ z => by cases z), h15 _ _ k5 (fun _ z => by cases z)⟩
                have bt1015 : But p H10' H15 := (Same.but s1014 _).trans bt15
                clear h15 R13 R12 hR11 hR13 hQ10 s1014 p14 s1012
                have hrl15 := R15.length
                refine ⟨fun σ H' => Same H15 H' ∧ ∃ L us, σ = [some (.ref a), some (.ref p), some (.int (0 + (i : Int))), some (.int (1 + (dn : Int))), some (.ref bq), some (.ref D), some (.ref L1), some (.ref L2), some (.ref D2), some (.ref x), some (.ref tw), some (.ref du), some (.ref fp), some (.bl th), some (.ref L), none, none, none, none, none] ∧ H' L = some (.lst us) ∧ DpAll K H' us (if th = true then (rowsF qs ws os ts).map (tagD "old") else []) ∧ us.length ≤ 32, ?_, ?_⟩
                · refine ⟨_, rfl, th, rfl, ?_⟩
                  cases th with
                  | false =>
                    refine iteF ⟨(by show 0 ≤ sizeLine; decide), fun L hL => ?_⟩
                    exact ⟨same_new hL, L, [], rfl, upd_same, .nil, Nat.zero_le _⟩
                  | true =>
                    refine iteT ⟨_, rfl, du, rfl, ⟨rs, SqT.of d15⟩, fun D5 hD5 => ?_⟩
                    refine lc_tup (K := K) (a := du) (xs := rs) (fun i H' => Same H15 H' ∧ ∃ us, H' D5 = some (.lst us) ∧ Paired (TagAt "old" H') us ((rowsF qs ws os ts).take i)) ⟨same_new hD5, [], upd_same, .nil⟩ (fun i H' _ g => SqT.of (g.1 _ _ d15)) ?_ ?_
                    · rintro i2 v H16 ei ⟨g7, us2, g8, g9⟩
                      obtain ⟨r2, er2, hr2⟩ := pget R15 ei
                      have hus2 := g9.length
                      rw [List.length_take] at hus2
                      refine ⟨rfl, ⟨_, rfl, (by show 2 ≤ sizeLine; decide), fun t ht => ?_⟩⟩
                      have s17 : Same H16 (upd H16 t (.tup [.str "old", v])) := same_new ht
                      have h17 : (upd H16 t (.tup [.str "old", v])) t = some (.tup [.str "old", v]) := upd_same
                      generalize upd H16 t (.tup [.str "old", v]) = H17 at s17 h17 ⊢
                      have d17 := s17 _ _ g8
                      refine ⟨us2, d17, small1000 (by omega), (g7.trans s17).fresh_upd hD5, us2 ++ [.ref t], upd_same, ?_⟩
                      rw [List.take_succ, er2]
                      exact Paired.mapP (paired_app (Paired.mapP g9 fun _ _ h => h.same s17) (.cons ⟨t, v, rfl, h17, hr2.same (g7.trans s17)⟩ .nil)) fun _ _ h => h.but (but_upd _ _ _) d17 (fun _ z => by cases z)
                    · rintro H16 ⟨g7, us2, g8, g9⟩
                      rw [hrl15, List.take_length] at g9
                      exact ⟨g7, D5, us2, rfl, g8, tags_dp g9, by rw [g9.length]; exact hrl⟩
                · rintro σ' H16 ⟨s16, L, us2, rfl, hL, hd0, hu0⟩
                  have hst : PyData.eqv (.tuple (storyL (rowsF qs ws os ts) th)) (.tuple (storyL (rowsF qs ws os ts) th)) = true := SeqAt.eqv_refl _ (SeqAt.canLay_of_shaped (story_shaped _ _))
                  refine ⟨_, rfl, _, rfl, _, rfl, x, tw, qs, ws, os, ts, th, rfl, hQ15.same s16, SqT.of (s16 _ _ w15), ob, tb, by omega, by omega, fun H17 sv s17 dsv => ?_⟩
                  have d17 := s17 _ _ (s16 _ _ d15)
                  have R17 := R15.same (s16.trans s17)
                  refine ⟨_, rfl, _, rfl, du, rfl, ⟨rs, SqT.of d17⟩, fun D6 hD6 => ?_⟩
                  refine lc_tup (K := K) (a := du) (xs := rs) (fun i H' => Same H17 H' ∧ ∃ us, H' D6 = some (.lst us) ∧ Paired (TagAt "new" H') us ((rowsF qs ws os ts).take i)) ⟨same_new hD6, [], upd_same, .nil⟩ (fun i H' _ g => SqT.of (g.1 _ _ d17)) ?_ ?_
                  · rintro i2 v H18 ei ⟨g7, us3, g8, g9⟩
                    obtain ⟨r2, er2, hr2⟩ := pget R17 ei
                    have hus2 := g9.length
                    rw [List.length_take] at hus2
                    refine ⟨rfl, ⟨_, rfl, (by show 2 ≤ sizeLine; decide), fun t ht => ?_⟩⟩
                    have s19 : Same H18 (upd H18 t (.tup [.str "new", v])) := same_new ht
                    have h19 : (upd H18 t (.tup [.str "new", v])) t = some (.tup [.str "new", v]) := upd_same
                    generalize upd H18 t (.tup [.str "new", v]) = H19 at s19 h19 ⊢
                    have d19 := s19 _ _ g8
                    refine ⟨us3, d19, small1000 (by omega), (g7.trans s19).fresh_upd hD6, us3 ++ [.ref t], upd_same, ?_⟩
                    rw [List.take_succ, er2]
                    exact Paired.mapP (paired_app (Paired.mapP g9 fun _ _ h => h.same s19) (.cons ⟨t, v, rfl, h19, hr2.same (g7.trans s19)⟩ .nil)) fun _ _ h => h.but (but_upd _ _ _) d19 (fun _ z => by cases z)
                  · rintro H18 ⟨g7, us3, g8, g9⟩
                    rw [hrl15, List.take_length] at g9
                    have h1 := g9.length
                    refine ⟨L, D6, us2, us3, rfl, rfl, g7 _ _ (s17 _ _ hL), g8, Nat.le_of_lt (small1000 (by omega)), fun r2 hr2 => ?_⟩
                    have s19 : Same H18 (upd H18 r2 (.lst (us2 ++ us3))) := same_new hr2
                    refine ⟨r2, _, rfl, Or.inl ⟨SqL.of upd_same, fun q2 hq2 => ?_⟩⟩
                    have s20 := s19.trans (same_new (o := .tup (us2 ++ us3)) hq2)
                    have s1620 := ((s16.trans s17).trans g7).trans s20
                    refine ⟨.tuple (storyL (rowsF qs ws os ts) th), .tuple (storyL (rowsF qs ws os ts) th), Dp.same (g7.trans s20) dsv, .tup (SqT.of upd_same) (DpAll.app (DpAll.same ((s17.trans g7).trans s20) hd0) (DpAll.same s20 (tags_dp g9))), story_shaped _ _, story_shaped _ _, false, (by rw [hst]; rfl), iteF ?_⟩
                    exact ⟨(bt10.trans bt1015).trans (Same.but s1620 _), ⟨b11, z11, p15.same s1620, by omega⟩, _, _, _, _, _, rfl⟩
            · rintro σ H10 ⟨bt10, ⟨b10, z10, p10, hb10⟩, v10, v11, v12, v13, v14, rfl⟩
              have hb10' : b10 ≤ b8 + 3 := hb10
              exact ⟨⟨b10, z10, p10, by omega⟩, some (.int (0 + (i : Int))), some (.int (1 + (dn : Int))), some (.ref bq), some (.ref D), some (.ref L1), some (.ref L2), some (.ref D2), some (.ref x), v10, v11, v12, v13, v14, rfl⟩
    · rintro σ H1 ⟨_, v2, v3, v4, v5, v6, v7, v8, v9, v10, v11, v12, v13, v14, rfl⟩
      exact k _
end
end K17

set_option Elab.async false
set_option linter.all false
set_option maxRecDepth 100000
set_option maxHeartbeats 0
namespace K17
open PySem PySem.Spec PyProof.Rows L2 Own
def fn : List He.DefD := [⟨("is_integer", none), "is_integer", "is_integer", defArgs sInt, defBody sInt, defScope sInt, [], []⟩, ⟨("is_value", none), "is_value", "is_value", defArgs sVal, defBody sVal, defScope sVal, [], []⟩, ⟨("is_row", none), "is_row", "is_row", defArgs sRow, defBody sRow, defScope sRow, [], []⟩, ⟨("has_head", none), "has_head", "has_head", defArgs sHead, defBody sHead, defScope sHead, [], []⟩, ⟨("is_test", none), "is_test", "is_test", defArgs sTest, defBody sTest, defScope sTest, [.int 1], []⟩, ⟨("is_statement", none), "is_statement", "is_statement", defArgs sStmt, defBody sStmt, defScope sStmt, [], []⟩, ⟨("is_rest_of_if", none), "is_rest_of_if", "is_rest_of_if", defArgs sIf, defBody sIf, defScope sIf, [], []⟩, ⟨("count_statements", none), "count_statements", "count_statements", defArgs sCount, defBody sCount, defScope sCount, [], []⟩, ⟨("as_tuples", none), "as_tuples", "as_tuples", defArgs sAsT, defBody sAsT, defScope sAsT, [], []⟩, ⟨("checked_calls", none), "checked_calls", "checked_calls", defArgs sCC, defBody sCC, defScope sCC, [], []⟩, ⟨("is_call", none), "is_call", "is_call", defArgs sIsCall, defBody sIsCall, defScope sIsCall, [], []⟩, ⟨("checked_script", none), "checked_script", "checked_script", defArgs sCS, defBody sCS, defScope sCS, [], []⟩, ⟨("checked_aspects", none), "checked_aspects", "checked_aspects", defArgs sCA, defBody sCA, defScope sCA, [], []⟩, ⟨("checked_where", none), "checked_where", "checked_where", defArgs sCW, defBody sCW, defScope sCW, [], []⟩, ⟨("rows_of", none), "rows_of", "rows_of", defArgs sRowsOf, defBody sRowsOf, defScope sRowsOf, [], []⟩, ⟨("stories_of", none), "stories_of", "stories_of", defArgs sStories, defBody sStories, defScope sStories, [], []⟩, ⟨("_law_pen_of", none), "_law_pen_of", "_law_pen_of", defArgs sPenOf, defBody sPenOf, defScope sPenOf, [], []⟩, ⟨("_law_draw", none), "_law_draw", "_law_draw", defArgs sDraw, defBody sDraw, defScope sDraw, [], []⟩, ⟨("_law_pick", none), "_law_pick", "_law_pick", defArgs sPick, defBody sPick, defScope sPick, [], []⟩, ⟨("_law_usual", none), "_law_usual", "_law_usual", defArgs sUsual, defBody sUsual, defScope sUsual, [], []⟩, ⟨("_law_routine", none), "_law_routine", "_law_routine", defArgs sRout, defBody sRout, defScope sRout, [], []⟩, ⟨("_law_scripts", none), "_law_scripts", "_law_scripts", defArgs sScripts, defBody sScripts, defScope sScripts, [], []⟩, ⟨("_law_left", none), "_law_left", "_law_left", defArgs sLeft, defBody sLeft, defScope sLeft, [], []⟩, ⟨("_law_rows", none), "_law_rows", "_law_rows", defArgs sLRows, defBody sLRows, defScope sLRows, [], []⟩, ⟨("law", none), "law", "law", defArgs sLaw, defBody sLaw, defScope sLaw, [], []⟩, ⟨("Routine", some "__init__"), "__init__", "Routine.__init__", defArgs sRInit, defBody sRInit, defScope sRInit, [], []⟩, ⟨("Question", some "__init__"), "__init__", "Question.__init__", defArgs sQInit, defBody sQInit, defScope sQInit, [.non], []⟩]
def fa : List He.Fa := [.glo "is_integer", .glo "is_value", .glo "is_row", .glo "has_head", .glo "is_test", .glo "is_statement", .glo "is_rest_of_if", .glo "count_statements", .glo "as_tuples", .glo "checked_calls", .glo "is_call", .glo "checked_script", .glo "checked_aspects", .glo "checked_where", .glo "rows_of", .glo "stories_of", .glo "_law_pen_of", .glo "_law_draw", .glo "_law_pick", .glo "_law_usual", .glo "_law_routine", .glo "_law_scripts", .glo "_law_left", .glo "_law_rows", .glo "law", .glo "Routine", .glo "Question", .glo "RETURNS", .glo "PLAIN_TESTS", .glo "PLAIN_STATEMENTS", .free "abs", .free "all", .free "bool", .free "dict", .free "enumerate", .free "int", .free "isinstance", .free "len", .free "list", .free "min", .free "range", .free "reversed", .free "sorted", .free "str", .free "tuple", .int "DEEPEST_TEST" 6, .int "MOST_STATEMENTS" 40, .int "GREATEST_VALUE" 9, .int "MOST_CALLS" 4, .int "MOST_NUMBERS" 4, .cls "Routine", .noat "Routine" "down", .noat "Routine" "turn", .noat "Routine" "up", .mkr "Routine", .cls "Question", .noat "Question" "calls", .noat "Question" "one", .noat "Question" "other", .noat "Question" "aspects", .noat "Question" "where", .mkr "Question"]
def loose : List Str := (["_wall", "ANSWER_KINDS", "is_answer_kind", "copied", "ShedError", "TooMany", "BadStatement", "BadText", "BadCall", "BadScript", "BadAspect", "BadWhere", "as_tuples", "GREATEST_VALUE", "is_integer", "is_value", "BLOCKS", "MOST_STATEMENTS", "DEEPEST_TEST", "RETURNS", "PLAIN_STATEMENTS", "PLAIN_TESTS", "is_row", "has_head", "is_test", "is_statement", "is_rest_of_if", "count_statements", "INDENT", "TEST_TEXTS"] : List Str) ++ (["OTHERS_TEXTS", "text_of_test", "in_brackets", "text_of_statement", "lines_of_block", "lines_of_if", "lines_of_routine", "TOO_DEEP", "LONGEST_PLAIN_TEST", "plain_tests", "plain_statement", "TestReader", "test_of", "RoutineReader", "blocks_of", "first_unlike", "Routine", "ASPECTS", "MOST_CALLS", "MOST_NUMBERS", "Question", "checked_calls", "is_call", "checked_script", "checked_aspects", "checked_where", "rows_of", "stories_of", "_law_pen_of", "_law_draw"] : List Str) ++ (["_law_pick", "_law_usual", "_law_routine", "_law_scripts", "_law_left", "_law_rows"] : List Str)
def ts : List He.Tab := [(fun K => He.ga K "PLAIN_STATEMENTS", ["down", "turn", "up"])]
/-- at a: a tuple of these texts -/
def tupA (K : PySem.W.Frag) (a : Addr) (vs : List Str) : Bool := match K.lookup a with
  | some ⟨.type c, _, .seq its _, _⟩ => decide (c = "tuple") && (decide (its.size ≤ sizeLine) && He.relAll (vs.map V.str) its.toList)
  | _ => false
def plainA (K : PySem.W.Frag) (n : Str) : Bool := match PySem.W.nsIn K (He.ga K "PLAIN_STATEMENTS") n with
  | some (some (.ref a)) => tupA K a (plainL n)
  | _ => false
def insB (K : PySem.W.Frag) (C : Addr) : Bool := He.eqO (PySem.W.findIn K (.ref C) "__class__") (some (some (.builtin "object.__class__"))) && (He.eqO (PySem.W.specialIn K (.builtin "object.__class__") "__get__") (some (some (.builtin "getset_descriptor.__get__"))) &&
  (decide (PySem.W.takesIn K (.builtin "object.__class__") = some true) && decide (PySem.W.mroIn K C (.type "object") = some true)))
def ex (K : PySem.W.Frag) : Bool := tupA K (He.ga K "RETURNS") retL && (tupA K (He.ga K "PLAIN_TESTS") pT && (plainA K "down" && (plainA K "turn" && (plainA K "up" && (insB K (He.ga K "Routine") && decide (¬ He.ga K "Question" = He.ga K "Routine"))))))
abbrev R : PySem.W.OpenRow := PySem.W.OpenLaw.row PySem.Challenge.rw_treeshed_k17_rows_and_stories
abbrev hk : PySem.W.Hook := He.hookX 6 fa fn ts [] ex
def ob (s : PySem.W.SharedT) : He.AlX := He.obsX 6 fa fn ts [] ex (HandSHeadRun.getT s)
theorem ob_eq (s : PySem.W.SharedT) : ob s = hk.obs s.abs := He.obsX_eq (HandSHeadRun.getT_eq s)
theorem runF (w : World) : HandSHeadRun.RunEq R (PySem.W.view R.prog [75]) hk ob 20000 loose (w.withFollow "special-get-raises" false) := by
  intro os
  kernel_rfl
theorem runT (w : World) : HandSHeadRun.RunEq R (PySem.W.view R.prog [75]) hk ob 20000 loose (w.withFollow "special-get-raises" true) := by
  intro os
  kernel_rfl
theorem run (w : World) : HandSHeadRun.RunEq R (PySem.W.view R.prog [75]) hk ob 20000 loose w :=
  PySem.W.byRow2 "special-get-raises" (P := fun w => HandSHeadRun.RunEq R (PySem.W.view R.prog [75]) hk ob 20000 loose w) runF runT w
end K17

set_option Elab.async false
set_option linter.all false
set_option maxRecDepth 100000
set_option maxHeartbeats 0
namespace K17
open PySem PySem.Spec PyProof.Rows L2 Own
theorem tupA_ok {K : PySem.W.Frag} {a : Addr} {vs : List Str} (h : tupA K a vs = true) (H : Hp) : SqT K H a (vs.map V.str) := by
  unfold tupA at h
  cases q : K.lookup a with
  | none =>
    rw [q] at h
    cases h
  | some o =>
    obtain ⟨oc, od, dt, osl⟩ := o
    rw [q] at h
    cases oc with
    | type c =>
      cases dt with
      | seq its n =>
        obtain ⟨h1, h2⟩ := He.ba (show (decide (c = "tuple") && (decide (its.size ≤ sizeLine) && He.relAll (vs.map V.str) its.toList)) = true from h)
        obtain ⟨h3, h4⟩ := He.ba h2
        exact .inr ⟨_, its, n, q, congrArg Value.type (of_decide_eq_true h1), rfl, of_decide_eq_true h3, He.relAll_ok h4⟩
      | _ => cases h
    | _ => cases dt <;> cases h
theorem plain_ok {K : PySem.W.Frag} {w : World} {es : Array DictEntry} {n : Nat} {x : Str} (D : KDict K w (He.ga K "PLAIN_STATEMENTS") es n) (h : plainA K x = true) : ∃ a, KDct K w (He.ga K "PLAIN_STATEMENTS") x (.ref a) ∧ ∀ H, SqT K H a ((plainL x).map V.str) := by
  unfold plainA at h
  cases q : PySem.W.nsIn K (He.ga K "PLAIN_STATEMENTS") x with
  | none => rw [q] at h; cases h
  | some o =>
    rw [q] at h
    cases o with
    | none => cases h
    | some v =>
      cases v with
      | ref a => exact ⟨a, ⟨es, n, .ref a, D.at_, D.lit, q, rfl⟩, fun H => tupA_ok h H⟩
      | _ => cases h
theorem ins_ok {K : PySem.W.Frag} {C : Addr} (h : insB K C = true) : InsC K C := by
  obtain ⟨h1, h2⟩ := He.ba h
  obtain ⟨h3, h4⟩ := He.ba h2
  obtain ⟨h5, h6⟩ := He.ba h4
  exact ⟨He.eqO_ok h1, He.eqO_ok h3, of_decide_eq_true h5, of_decide_eq_true h6⟩
theorem ex_ok {K : PySem.W.Frag} (h : ex K = true) : tupA K (He.ga K "RETURNS") retL = true ∧ tupA K (He.ga K "PLAIN_TESTS") pT = true ∧ plainA K "down" = true ∧ plainA K "turn" = true ∧ plainA K "up" = true ∧ insB K (He.ga K "Routine") = true ∧ ¬ He.ga K "Question" = He.ga K "Routine" := by
  obtain ⟨h1, h⟩ := He.ba h
  obtain ⟨h2, h⟩ := He.ba h
  obtain ⟨h3, h⟩ := He.ba h
  obtain ⟨h4, h⟩ := He.ba h
  obtain ⟨h5, h⟩ := He.ba h
  obtain ⟨h6, h⟩ := He.ba h
  exact ⟨h1, h2, h3, h4, h5, h6, of_decide_eq_true h⟩
theorem facts {P : Program} {w : World} {K : PySem.W.Frag} {h : Heap} {mg : Str → Option Value} {f : Addr} (X : K.In h) (G : h.Ns mainGlobals mg) (hfa : mg ("law" : Str) = some (.ref f)) (cx : He.SaysX fa fn ts [] ex w h K) :
    ∃ fd : FuncData, (∀ (s : Shared) (v : Value), BindsTo s fd ⟨[v], []⟩ [("_law_script", v)]) ∧ ∀ base : Heap, K.In base → base.Ns mainGlobals mg → FnOk P w K mg base CX0 26 f fd ["_law_script"] (spLaw K) := by
  have c := cx.t.d
  obtain ⟨fd0, F0⟩ : ∃ fd, FnP K "is_integer" "is_integer" sInt (He.ga K "is_integer") fd := c.def_ 0 (d := fn[0]) rfl
  obtain ⟨fd1, F1⟩ : ∃ fd, FnP K "is_value" "is_value" sVal (He.ga K "is_value") fd := c.def_ 1 (d := fn[1]) rfl
  obtain ⟨fd2, F2⟩ : ∃ fd, FnP K "is_row" "is_row" sRow (He.ga K "is_row") fd := c.def_ 2 (d := fn[2]) rfl
  obtain ⟨fd3, F3⟩ : ∃ fd, FnP K "has_head" "has_head" sHead (He.ga K "has_head") fd := c.def_ 3 (d := fn[3]) rfl
  obtain ⟨fd4, F4⟩ : ∃ fd, FunD K "is_test" "is_test" (defArgs sTest) (defBody sTest) (defScope sTest) [.int 1] [] (He.ga K "is_test") fd := c.def_ 4 (d := fn[4]) rfl
  obtain ⟨fd5, F5⟩ : ∃ fd, FnP K "is_statement" "is_statement" sStmt (He.ga K "is_statement") fd := c.def_ 5 (d := fn[5]) rfl
  obtain ⟨fd6, F6⟩ : ∃ fd, FnP K "is_rest_of_if" "is_rest_of_if" sIf (He.ga K "is_rest_of_if") fd := c.def_ 6 (d := fn[6]) rfl
  obtain ⟨fd7, F7⟩ : ∃ fd, FnP K "count_statements" "count_statements" sCount (He.ga K "count_statements") fd := c.def_ 7 (d := fn[7]) rfl
  obtain ⟨fd8, F8⟩ : ∃ fd, FnP K "as_tuples" "as_tuples" sAsT (He.ga K "as_tuples") fd := c.def_ 8 (d := fn[8]) rfl
  obtain ⟨fd9, F9⟩ : ∃ fd, FnP K "checked_calls" "checked_calls" sCC (He.ga K "checked_calls") fd := c.def_ 9 (d := fn[9]) rfl
  obtain ⟨fd10, F10⟩ : ∃ fd, FnP K "is_call" "is_call" sIsCall (He.ga K "is_call") fd := c.def_ 10 (d := fn[10]) rfl
  obtain ⟨fd11, F11⟩ : ∃ fd, FnP K "checked_script" "checked_script" sCS (He.ga K "checked_script") fd := c.def_ 11 (d := fn[11]) rfl
  obtain ⟨fd12, F12⟩ : ∃ fd, FnP K "checked_aspects" "checked_aspects" sCA (He.ga K "checked_aspects") fd := c.def_ 12 (d := fn[12]) rfl
  obtain ⟨fd13, F13⟩ : ∃ fd, FnP K "checked_where" "checked_where" sCW (He.ga K "checked_where") fd := c.def_ 13 (d := fn[13]) rfl
  obtain ⟨fd14, F14⟩ : ∃ fd, FnP K "rows_of" "rows_of" sRowsOf (He.ga K "rows_of") fd := c.def_ 14 (d := fn[14]) rfl
  obtain ⟨fd15, F15⟩ : ∃ fd, FnP K "stories_of" "stories_of" sStories (He.ga K "stories_of") fd := c.def_ 15 (d := fn[15]) rfl
  obtain ⟨fd16, F16⟩ : ∃ fd, FnP K "_law_pen_of" "_law_pen_of" sPenOf (He.ga K "_law_pen_of") fd := c.def_ 16 (d := fn[16]) rfl
  obtain ⟨fd17, F17⟩ : ∃ fd, FnP K "_law_draw" "_law_draw" sDraw (He.ga K "_law_draw") fd := c.def_ 17 (d := fn[17]) rfl
  obtain ⟨fd18, F18⟩ : ∃ fd, FnP K "_law_pick" "_law_pick" sPick (He.ga K "_law_pick") fd := c.def_ 18 (d := fn[18]) rfl
  obtain ⟨fd19, F19⟩ : ∃ fd, FnP K "_law_usual" "_law_usual" sUsual (He.ga K "_law_usual") fd := c.def_ 19 (d := fn[19]) rfl
  obtain ⟨fd20, F20⟩ : ∃ fd, FnP K "_law_routine" "_law_routine" sRout (He.ga K "_law_routine") fd := c.def_ 20 (d := fn[20]) rfl
  obtain ⟨fd21, F21⟩ : ∃ fd, FnP K "_law_scripts" "_law_scripts" sScripts (He.ga K "_law_scripts") fd := c.def_ 21 (d := fn[21]) rfl
  obtain ⟨fd22, F22⟩ : ∃ fd, FnP K "_law_left" "_law_left" sLeft (He.ga K "_law_left") fd := c.def_ 22 (d := fn[22]) rfl
  obtain ⟨fd23, F23⟩ : ∃ fd, FnP K "_law_rows" "_law_rows" sLRows (He.ga K "_law_rows") fd := c.def_ 23 (d := fn[23]) rfl
  obtain ⟨fd24, F24⟩ : ∃ fd, FnP K "law" "law" sLaw (He.ga K "law") fd := c.def_ 24 (d := fn[24]) rfl
  obtain ⟨fdR, FR⟩ : ∃ fd, FnP K "__init__" "Routine.__init__" sRInit (He.ma K (He.ga K "Routine") "__init__") fd := c.def_ 25 (d := fn[25]) rfl
  obtain ⟨fdQ, FQ⟩ : ∃ fd, FunD K "__init__" "Question.__init__" (defArgs sQInit) (defBody sQInit) (defScope sQInit) [.non] [] (He.ma K (He.ga K "Question") "__init__") fd := c.def_ 26 (d := fn[26]) rfl
  have g0 := He.glo_ok X G (c.fact 0 (f := .glo "is_integer") rfl)
  have g1 := He.glo_ok X G (c.fact 1 (f := .glo "is_value") rfl)
  have g2 := He.glo_ok X G (c.fact 2 (f := .glo "is_row") rfl)
  have g3 := He.glo_ok X G (c.fact 3 (f := .glo "has_head") rfl)
  have g4 := He.glo_ok X G (c.fact 4 (f := .glo "is_test") rfl)
  have g5 := He.glo_ok X G (c.fact 5 (f := .glo "is_statement") rfl)
  have g6 := He.glo_ok X G (c.fact 6 (f := .glo "is_rest_of_if") rfl)
  have g7 := He.glo_ok X G (c.fact 7 (f := .glo "count_statements") rfl)
  have g8 := He.glo_ok X G (c.fact 8 (f := .glo "as_tuples") rfl)
  have g9 := He.glo_ok X G (c.fact 9 (f := .glo "checked_calls") rfl)
  have g10 := He.glo_ok X G (c.fact 10 (f := .glo "is_call") rfl)
  have g11 := He.glo_ok X G (c.fact 11 (f := .glo "checked_script") rfl)
  have g12 := He.glo_ok X G (c.fact 12 (f := .glo "checked_aspects") rfl)
  have g13 := He.glo_ok X G (c.fact 13 (f := .glo "checked_where") rfl)
  have g14 := He.glo_ok X G (c.fact 14 (f := .glo "rows_of") rfl)
  have g15 := He.glo_ok X G (c.fact 15 (f := .glo "stories_of") rfl)
  have g16 := He.glo_ok X G (c.fact 16 (f := .glo "_law_pen_of") rfl)
  have g17 := He.glo_ok X G (c.fact 17 (f := .glo "_law_draw") rfl)
  have g18 := He.glo_ok X G (c.fact 18 (f := .glo "_law_pick") rfl)
  have g19 := He.glo_ok X G (c.fact 19 (f := .glo "_law_usual") rfl)
  have g20 := He.glo_ok X G (c.fact 20 (f := .glo "_law_routine") rfl)
  have g21 := He.glo_ok X G (c.fact 21 (f := .glo "_law_scripts") rfl)
  have g22 := He.glo_ok X G (c.fact 22 (f := .glo "_law_left") rfl)
  have g23 := He.glo_ok X G (c.fact 23 (f := .glo "_law_rows") rfl)
  have gCR := He.glo_ok X G (c.fact 25 (f := .glo "Routine") rfl)
  have gCQ := He.glo_ok X G (c.fact 26 (f := .glo "Question") rfl)
  have gRet := He.glo_ok X G (c.fact 27 (f := .glo "RETURNS") rfl)
  have gTests := He.glo_ok X G (c.fact 28 (f := .glo "PLAIN_TESTS") rfl)
  have gPl := He.glo_ok X G (c.fact 29 (f := .glo "PLAIN_STATEMENTS") rfl)
  have T : Tx mg := ⟨He.free_ok X G (c.fact 30 (f := .free "abs") rfl), He.free_ok X G (c.fact 31 (f := .free "all") rfl), He.free_ok X G (c.fact 32 (f := .free "bool") rfl), He.free_ok X G (c.fact 33 (f := .free "dict") rfl), He.free_ok X G (c.fact 34 (f := .free "enumerate") rfl), He.free_ok X G (c.fact 35 (f := .free "int") rfl), He.free_ok X G (c.fact 36 (f := .free "isinstance") rfl), He.free_ok X G (c.fact 37 (f := .free "len") rfl), He.free_ok X G (c.fact 38 (f := .free "list") rfl), He.free_ok X G (c.fact 39 (f := .free "min") rfl), He.free_ok X G (c.fact 40 (f := .free "range") rfl), He.free_ok X G (c.fact 41 (f := .free "reversed") rfl), He.free_ok X G (c.fact 42 (f := .free "sorted") rfl), He.free_ok X G (c.fact 43 (f := .free "str") rfl), He.free_ok X G (c.fact 44 (f := .free "tuple") rfl)⟩
  obtain ⟨x1, x2, x3, x4, x5, x6, x7⟩ := ex_ok cx.more
  obtain ⟨es, en, kd⟩ := cx.t.tab 0 (t := (fun K => He.ga K "PLAIN_STATEMENTS", ["down", "turn", "up"])) rfl
  have Y : Ty K w mg := ⟨He.int_ok X G (c.fact 45 (f := .int "DEEPEST_TEST" 6) rfl), He.int_ok X G (c.fact 46 (f := .int "MOST_STATEMENTS" 40) rfl), He.int_ok X G (c.fact 47 (f := .int "GREATEST_VALUE" 9) rfl), He.int_ok X G (c.fact 48 (f := .int "MOST_CALLS" 4) rfl), He.int_ok X G (c.fact 49 (f := .int "MOST_NUMBERS" 4) rfl), ⟨_, gRet, fun H => tupA_ok x1 H⟩, ⟨_, gTests, fun H => tupA_ok x2 H⟩, ⟨_, gPl, fun n hn => by
    rcases hn with rfl | rfl | rfl
    · exact plain_ok kd x3
    · exact plain_ok kd x4
    · exact plain_ok kd x5⟩⟩
  have RR : TxR K mg (He.ga K "Routine") (He.ma K (He.ga K "Routine") "__init__") := ⟨He.cls_ok (c.fact 50 (f := .cls "Routine") rfl), He.noat_ok (c.fact 51 (f := .noat "Routine" "down") rfl), He.noat_ok (c.fact 52 (f := .noat "Routine" "turn") rfl), He.noat_ok (c.fact 53 (f := .noat "Routine" "up") rfl), gCR, He.mkr_ok (c.fact 54 (f := .mkr "Routine") rfl)⟩
  have RQ : TxQ K mg (He.ga K "Question") (He.ma K (He.ga K "Question") "__init__") := ⟨He.cls_ok (c.fact 55 (f := .cls "Question") rfl), He.noat_ok (c.fact 56 (f := .noat "Question" "calls") rfl), He.noat_ok (c.fact 57 (f := .noat "Question" "one") rfl), He.noat_ok (c.fact 58 (f := .noat "Question" "other") rfl), He.noat_ok (c.fact 59 (f := .noat "Question" "aspects") rfl), He.noat_ok (c.fact 60 (f := .noat "Question" "where") rfl), gCQ, He.mkr_ok (c.fact 61 (f := .mkr "Question") rfl)⟩
  have e := hfa.symm.trans (He.glo_ok X G (c.fact 24 (f := .glo "law") rfl))
  cases e
  have b := FunD.bindsA (ps := ["_law_script"]) F24 fun _ _ _ _ _ _ us hl => match us, hl with | [_], _ => rfl
  refine ⟨fd24, fun s v => b s [v] rfl, fun base _ _ => ?_⟩
  have cI : Cl P w K mg base 1 "is_integer" ["value"] (spInt K) := cl_of F0 g0 (ok_int F0 T) fun _ _ _ _ _ _ us hl => match us, hl with | [_], _ => rfl
  have cRow : Cl P w K mg base 1 "is_row" ["value"] (spRow K) := cl_of F2 g2 (ok_row F2 T) fun _ _ _ _ _ _ us hl => match us, hl with | [_], _ => rfl
  have cH : Cl P w K mg base 2 "has_head" ["value"] (spHead K) := cl_of F3 g3 (ok_head F3 T cRow) fun _ _ _ _ _ _ us hl => match us, hl with | [_], _ => rfl
  obtain ⟨d2, vd2, b2⟩ := FunD.binds1 (ps := ["value", "level"]) F4 2 1 (by decide) rfl fun _ _ _ _ _ _ _ us its h1 h2 => match us, its, h1, h2 with | [_, _], [_], _, _ => ⟨_, rfl, rfl⟩
  cases vd2
  obtain ⟨d1, vd1, b1⟩ := FunD.binds1 (ps := ["value", "level"]) F4 1 0 (by decide) rfl fun _ _ _ _ _ _ _ us its h1 h2 => match us, its, h1, h2 with | [_], [_], _, _ => ⟨_, rfl, rfl⟩
  have oT := ok_test (P := P) (base := base) T Y cI cH ⟨_, F4⟩ g4 F4.kp b2 6
  have cT : Cl1 P w K mg base 9 "is_test" ["value", "level"] [.int 1] (spTest K 6) := ⟨_, _, oT, g4, F4.kp, d1, vd1, b1⟩
  have cIf : Cl P w K mg base 10 "is_rest_of_if" ["rest"] (spIf K) := cl_of F6 g6 (ok_if F6 T cRow cT) fun _ _ _ _ _ _ us hl => match us, hl with | [_], _ => rfl
  have cS : Cl P w K mg base 11 "is_statement" ["value", "name"] (spStmt K) := cl_of F5 g5 (ok_stmt F5 T Y cH cIf) fun _ _ _ _ _ _ us hl => match us, hl with | [_, _], _ => rfl
  have cCnt : Cl P w K mg base 12 "count_statements" ["name", "block"] (spCount K) := cl_of F7 g7 (ok_count F7 T cRow cS) fun _ _ _ _ _ _ us hl => match us, hl with | [_, _], _ => rfl
  have bA : Binds K fd8 ["value"] [] := FunD.bindsN F8 fun _ _ _ _ _ _ us hl => match us, hl with | [_], _ => rfl
  have cA : Cl P w K mg base 21 "as_tuples" ["value"] (spAsT K 20) := ⟨_, _, ok_asT T F8 g8 F8.kp bA 20, g8, F8.kp, bA⟩
  have oR := ok_rinit FR Y RR cCnt cA
  have bR : Binds K fdR ["self", "down", "turn", "up"] [] := FunD.bindsN FR fun _ _ _ _ _ _ us hl => match us, hl with | [_, _, _, _], _ => rfl
  have cRout : Cl P w K mg base 24 "_law_routine" ["_law_blocks"] (spRout K (He.ga K "Routine")) := cl_of F20 g20 (ok_rout F20 T RR oR bR) fun _ _ _ _ _ _ us hl => match us, hl with | [_], _ => rfl
  have cV : Cl P w K mg base 2 "is_value" ["value"] (spVal K) := cl_of F1 g1 (ok_val F1 Y cI) fun _ _ _ _ _ _ us hl => match us, hl with | [_], _ => rfl
  have cIC : Cl P w K mg base 3 "is_call" ["value"] (spIsCall (He.ga K "Routine")) := cl_of F10 g10 (ok_isCall F10 T gCR RR.cl (ins_ok x6) cI cV) fun _ _ _ _ _ _ us hl => match us, hl with | [_], _ => rfl
  have cCC : Cl P w K mg base 4 "checked_calls" ["calls"] (spCC K (He.ga K "Routine")) := cl_of F9 g9 (ok_cc F9 T Y cIC) fun _ _ _ _ _ _ us hl => match us, hl with | [_], _ => rfl
  have cCS : Cl P w K mg base 2 "checked_script" ["name", "script", "many"] (spCS K) := cl_of F11 g11 (ok_cs F11 T cI) fun _ _ _ _ _ _ us hl => match us, hl with | [_, _, _], _ => rfl
  have cCA : Cl P w K mg base 1 "checked_aspects" ["aspects"] (spCA K) := cl_of F12 g12 (ok_ca F12 T) fun _ _ _ _ _ _ us hl => match us, hl with | [_], _ => rfl
  have cCW : Cl P w K mg base 1 "checked_where" ["where", "one"] (spCW K) := cl_of F13 g13 (ok_cw F13 T) fun _ _ _ _ _ _ us hl => match us, hl with | [_, _], _ => rfl
  have oQ := ok_qinit FQ T Y RQ x7 cCC cCS cCA cCW
  obtain ⟨dq, vdq, bq⟩ := FunD.binds1 (ps := ["self", "calls", "one", "other", "aspects", "where"]) FQ 5 0 (by decide) rfl fun _ _ _ _ _ _ _ us its h1 h2 => match us, its, h1, h2 with | [_, _, _, _, _], [_], _, _ => ⟨_, rfl, rfl⟩
  have cRO : Cl P w K mg base 1 "rows_of" ["question", "words"] (spRowsOf K (He.ga K "Routine") (He.ga K "Question")) := cl_of F14 g14 (ok_rowsOf F14 T RQ) fun _ _ _ _ _ _ us hl => match us, hl with | [_, _], _ => rfl
  have cSt : Cl P w K mg base 2 "stories_of" ["question", "words", "there"] (spStories K (He.ga K "Routine") (He.ga K "Question")) := cl_of F15 g15 (ok_stories F15 T cRO) fun _ _ _ _ _ _ us hl => match us, hl with | [_, _, _], _ => rfl
  have cPO : Cl P w K mg base 1 "_law_pen_of" ["_law_script"] (spPenOf K) := cl_of F16 g16 (ok_penOf F16 T) fun _ _ _ _ _ _ us hl => match us, hl with | [_], _ => rfl
  have cD : Cl P w K mg base 1 "_law_draw" ["_law_pen", "_law_many"] spDraw := cl_of F17 g17 (ok_draw F17 T) fun _ _ _ _ _ _ us hl => match us, hl with | [_, _], _ => rfl
  have cP : Cl P w K mg base 2 "_law_pick" ["_law_pen", "_law_menu"] spPick := cl_of F18 g18 (ok_pick F18 T cD) fun _ _ _ _ _ _ us hl => match us, hl with | [_, _], _ => rfl
  have cU : Cl P w K mg base 1 "_law_usual" ["_law_name"] (spUsual K) := cl_of F19 g19 (ok_usual F19) fun _ _ _ _ _ _ us hl => match us, hl with | [_], _ => rfl
  have cSc : Cl P w K mg base 3 "_law_scripts" ["_law_pen", "_law_many"] spScripts := cl_of F21 g21 (ok_scripts F21 T cD cP) fun _ _ _ _ _ _ us hl => match us, hl with | [_, _], _ => rfl
  have cL : Cl P w K mg base 1 "_law_left" ["_law_script", "_law_calls", "_law_words"] (spLeft K) := cl_of F22 g22 (ok_left F22 T) fun _ _ _ _ _ _ us hl => match us, hl with | [_, _, _], _ => rfl
  have cLR : Cl P w K mg base 2 "_law_rows" ["_law_one", "_law_other", "_law_calls", "_law_words"] (spLRows K) := cl_of F23 g23 (ok_lrows F23 T cL) fun _ _ _ _ _ _ us hl => match us, hl with | [_, _, _, _], _ => rfl
  exact ok_law (fI := 0) F24 T RQ oQ ⟨dq, vdq, bq⟩ cPO cD cP cU cSc cRout cLR cRO cSt
end K17
open PySem PySem.W PySem.Calls PyProof.Rows
theorem PySem.Challenge.cw_treeshed_k17_rows_and_stories_holds : PySem.Challenge.rw_treeshed_k17_rows_and_stories.Holds := by
  w_on; o_law
  refine HandSHeadRun.head_any (r := OpenLaw.row PySem.Challenge.rw_treeshed_k17_rows_and_stories) (q := view (OpenLaw.row PySem.Challenge.rw_treeshed_k17_rows_and_stories).prog [75]) (H := K17.hk) (ob := K17.ob) (M := 20000) (loose := K17.loose) (d := HandSHeadRun.topDef (OpenLaw.row PySem.Challenge.rw_treeshed_k17_rows_and_stories).prog 75) (kwd := []) K17.ob_eq
    (by kernel_rfl) (fun s => by kernel_rfl) K17.run (by kernel_rfl) (by kernel_rfl) (by kernel_rfl) (by rfl) (by first | assumption | decide +kernel) (by decide +kernel) ⟨rfl, rfl, rfl, rfl, rfl, by decide +kernel⟩ ?hw ?hc
  case hw => w_witness2
  case hc =>
    refine L2.walk_ofE (l := PySem.Challenge.rw_treeshed_k17_rows_and_stories) (n := 63) (k := 26) (x := "_law_script") (CX := L2.CX0) rfl (by decide) (by kernel_rfl) ⟨rfl, by decide, by decide⟩ ?F (fun _ _ _ _ z => z)
    intro w mg fa h Y G hmg0
    obtain ⟨K, KX, c⟩ := Y
    have hmg : mg ("law" : PySem.Str) = some (.ref fa) := by
      have e : (HandSHeadRun.topDef (OpenLaw.row PySem.Challenge.rw_treeshed_k17_rows_and_stories).prog 75).name = ("law" : PySem.Str) := by kernel_rfl
      rw [← e]
      exact hmg0
    obtain ⟨fd, hb, hF⟩ := K17.facts (P := (PySem.Challenge.rw_treeshed_k17_rows_and_stories).prog) (w := w) KX G hmg c
    exact ⟨K, fd, K17.spLaw K, KX, hb, fun H a ns hl _ hS => ⟨a, ns, rfl, hS, hl, fun _ => rfl⟩, hF⟩
#print axioms PySem.Challenge.cw_treeshed_k17_rows_and_stories_holds
