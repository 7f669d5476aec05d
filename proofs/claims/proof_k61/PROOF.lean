import PyProof.Rows.All
import Wide.All
import OpenK.AllK
import Wide.FinOn
import KE.KStateDown
import HandS.ForMost
import HandS.Defaults
import HandS.IsInst
import HandS.SortOrd
import HandS.TupLe
import HandS.Walk
import HandS.Codes
import HandS.TupAny
import HandS.Style
import HandS.Flow
import HandS.Deep
import HandS.Small
import HandS.Rev
import HandS.Property
import HandS.More
import KE.KDictKeyed
import KE.KeyNested
import KE.SortData
import HandS.TupLen
import HandS.WordsDict
import HandS.TryOnly
import HandS.Zip
import HandS.DictComp
import HandS.Strs
import Lean
import HandS.WordsExc
import HandS.Head0
import HandS.Head1
import HandS.Head2
import HandS.HeadHook1
import HandS.HeadHook2
import HandS.HeadHook3
import HandS.HeadHook4
import HandS.HeadEnd
import Wide.Once
import PySem.Challenge.RW_treeshed_k61_sums_and_cells
set_option Elab.async false
set_option linter.all false
set_option maxRecDepth 100000
set_option maxHeartbeats 1000000
/-! ### DATA ABOVE THE HAND LAYER: what a program does with data, told without the heap -/
namespace DL
open PySem PySem.Spec PyProof.Rows L2
/-- data: what stands at a value, to the bottom -/
inductive D where
  | non | bl (b : Bool) | int (i : Int) | str (s : Str)
  | lst (xs : List D) | tup (xs : List D) | dct (ks vs : List D) | obj (c : Str) (ns : List Str) (vs : List D)
/-- a name's slot: nothing known, data that stay, a container handed in, a container of the def's own, the law's pen, the object that is being made -/
inductive Sl where
  | un | im (d : D) | bo (d : D) | ow (d : D) | pn | sf (ns : List Str) (vs : List D)
/-- the pen: the script's cells, how many are read, the digits left -/
structure Pn where
  cells : List Int
  k : Int
  z : Int
/-- what a piece of code comes to -/
inductive Ou (α : Type) where
  | ok (a : α) (ρ : List Sl) (t : Pn)
  | ex (c : Str) (ns : List Str) (vs : List D) (t : Pn)
  | bad
abbrev M (α : Type) := List Sl → Pn → Ou α
def Ou.bind {α β : Type} (r : Ou α) (k : α → M β) : Ou β := match r with
  | .ok a ρ t => k a ρ t
  | .ex c ns vs t => .ex c ns vs t
  | .bad => .bad
def mb {α β : Type} (m : M α) (k : α → M β) : M β := fun ρ t => (m ρ t).bind k
def mr {α : Type} (a : α) : M α := fun ρ t => .ok a ρ t
def mx {α : Type} : M α := fun _ _ => .bad
theorem bind_ok {α β : Type} {a : α} {ρ : List Sl} {t : Pn} {k : α → M β} : (Ou.ok a ρ t).bind k = k a ρ t := rfl
theorem bind_ex {α β : Type} {c : Str} {ns : List Str} {vs : List D} {t : Pn} {k : α → M β} : (Ou.ex c ns vs t).bind k = .ex c ns vs t := rfl
theorem bind_bad {α β : Type} {k : α → M β} : (Ou.bad : Ou α).bind k = .bad := rfl
/-- what a statement comes to -/
inductive Fl where
  | nx | rt (d : D) | bk | ct
/-- what is wanted of it -/
def Ou.post {α : Type} (r : Ou α) (P : α → List Sl → Pn → Prop) (E : Str → List Str → List D → Pn → Prop) : Prop := match r with
  | .ok a ρ t => P a ρ t
  | .ex c ns vs t => E c ns vs t
  | .bad => False
theorem post_bind {α β : Type} {r : Ou α} {k : α → M β} {P : β → List Sl → Pn → Prop} {E : Str → List Str → List D → Pn → Prop} (h : (r.bind k).post P E) : r.post (fun a ρ t => (k a ρ t).post P E) E := by
  cases r <;> exact h
theorem post_mono {α : Type} {r : Ou α} {P P' : α → List Sl → Pn → Prop} {E E' : Str → List Str → List D → Pn → Prop} (h : r.post P E) (hP : ∀ a ρ t, P a ρ t → P' a ρ t) (hE : ∀ c ns vs t, E c ns vs t → E' c ns vs t) : r.post P' E' := by
  cases r with
  | ok a ρ t => exact hP _ _ _ h
  | ex c ns vs t => exact hE _ _ _ _ h
  | bad => exact h
/-! ### the heap with some addresses hidden -/
def msk (O : List Addr) (H : Hp) : Hp := fun b => if b ∈ O then none else H b
theorem msk_in {O : List Addr} {H : Hp} {b : Addr} (h : b ∈ O) : msk O H b = none := if_pos h
theorem msk_out {O : List Addr} {H : Hp} {b : Addr} (h : b ∉ O) : msk O H b = H b := if_neg h
theorem msk_le {O : List Addr} {H : Hp} : Same (msk O H) H := fun b o e => by
  by_cases h : b ∈ O
  · rw [msk_in h] at e; cases e
  · rw [msk_out h] at e; exact e
theorem msk_same {O : List Addr} {H H' : Hp} (s : ∀ b o, b ∉ O → H b = some o → H' b = some o) : Same (msk O H) (msk O H') := fun b o e => by
  by_cases h : b ∈ O
  · rw [msk_in h] at e; cases e
  · rw [msk_out h] at e ⊢; exact s b o h e
theorem msk_sub {O O' : List Addr} {H : Hp} (s : ∀ b ∈ O', b ∈ O) : Same (msk O H) (msk O' H) := fun b o e => by
  by_cases h : b ∈ O
  · rw [msk_in h] at e; cases e
  · rw [msk_out h] at e
    rw [msk_out fun z => h (s b z)]; exact e
theorem msk_upd {O : List Addr} {H : Hp} {a : Addr} {o : HO} (h : a ∈ O) : msk O (upd H a o) = msk O H := by
  funext b
  by_cases hb : b ∈ O
  · rw [msk_in hb, msk_in hb]
  · rw [msk_out hb, msk_out hb, upd_ne (fun z => hb (by rw [z]; exact h))]
/-! ### what stands at a value -/
/-- what stays through the whole law: the written part, what the module's names hold, the world -/
structure Ct where
  K : PySem.W.Frag
  mg : Str → Option Value
  w : World
/-- the class of a name -/
def ClsOf (c : Ct) (n : Str) (C : Addr) : Prop := c.mg n = some (.ref C)
/-! ### keys -/
/-- a scalar -/
def isS : D → Bool
  | .non => true
  | .bl _ => true
  | .int _ => true
  | .str _ => true
  | _ => false
def b2n (b : Bool) : Int := if b = true then 1 else 0
def nkS : D → NestedKey
  | .bl b => .num (b2n b)
  | .int i => .num i
  | .str s => .text s
  | _ => .none
/-- a key up to == -/
def nk : D → NestedKey
  | .tup ks => .tup (ks.map nkS)
  | d => nkS d
/-- a key by value (false), a tuple of such, of truth values and of None (true) -/
def kkind : D → Option Bool
  | .int _ => some false
  | .str _ => some false
  | .tup ks => if ks.all isS = true then some true else none
  | _ => none
/-- a dict whose keys are tuples -/
def tdPhi (w : World) (a : Addr) (xs : List (NestedKey × Addr × V)) (h : Heap) : Prop :=
  xs.length ≤ sizeLine ∧ (a == sysModules) = false ∧ (xs.map (·.1)).Nodup ∧ ∃ ys : List (NestedKey × Addr × Value), Paired (fun p q => p.1 = q.1 ∧ p.2.1 = q.2.1 ∧ RelV p.2.2 q.2.2) xs ys ∧
    ∃ o es ep, h.get? a = some o ∧ o.ExactDict ∧ o.data = .dict es ep ∧ es.toList = ys.map fun y => (⟨y.1.hash w, .ref y.2.1, y.2.2⟩ : DictEntry)
def tdO (w : World) (a : Addr) (xs : List (NestedKey × Addr × V)) : HO := .ext (tdPhi w a xs)
mutual
inductive Ld (c : Ct) (H : Hp) : V → D → Prop
  | non : Ld c H .non .non
  | bl (b : Bool) : Ld c H (.bl b) (.bl b)
  | int (i : Int) : Ld c H (.int i) (.int i)
  | str (x : Str) : Ld c H (.str x) (.str x)
  | lst {a : Addr} {xs : List V} {ds : List D} : H a = some (.lst xs) → LdA c H xs ds → Ld c H (.ref a) (.lst ds)
  | tup {a : Addr} {xs : List V} {ds : List D} : SqT c.K H a xs → LdA c H xs ds → Ld c H (.ref a) (.tup ds)
  | dct {a : Addr} {kvs : List (Key × V)} {kd vd : List D} : H a = some (.dK kvs) → LdA c H (kvs.map fun q => kV q.1) kd → LdA c H (kvs.map (·.2)) vd → Ld c H (.ref a) (.dct kd vd)
  | dctT {a : Addr} {xs : List (NestedKey × Addr × V)} {kd vd : List D} : H a = some (tdO c.w a xs) → LdA c H (xs.map fun q => V.ref q.2.1) kd → xs.map (·.1) = kd.map nk → (kd.all fun d => decide (kkind d = some true)) = true →
      LdA c H (xs.map (·.2.2)) vd → Ld c H (.ref a) (.dct kd vd)
  | obj {a C dx : Addr} {fs : List (Str × V)} {n : Str} {vd : List D} : H a = some (.ins C dx fs) → ClsOf c n C → LdA c H (fs.map (·.2)) vd → Ld c H (.ref a) (.obj n (fs.map (·.1)) vd)
inductive LdA (c : Ct) (H : Hp) : List V → List D → Prop
  | nil : LdA c H [] []
  | cons {v : V} {vs : List V} {d : D} {ds : List D} : Ld c H v d → LdA c H vs ds → LdA c H (v :: vs) (d :: ds)
end
section
variable {c : Ct} {K : PySem.W.Frag} {H H' : Hp}
theorem seqT_same {a : Addr} {xs : List V} (e : Same H H') (h : SqT K H a xs) : SqT K H' a xs := by
  rcases h with (h | ⟨ob, h⟩) | h
  · exact .inl (.inl (e _ _ h))
  · exact .inl (.inr ⟨ob, e _ _ h⟩)
  · exact .inr h
mutual
theorem Ld.same (s : Same H H') : ∀ {d : D} {v : V}, Ld c H v d → Ld c H' v d
  | _, _, .non => .non
  | _, _, .bl b => .bl b
  | _, _, .int b => .int b
  | _, _, .str b => .str b
  | _, _, .lst h a => .lst (s _ _ h) (LdA.same s a)
  | _, _, .tup h a => .tup (seqT_same s h) (LdA.same s a)
  | _, _, .dct h a b => .dct (s _ _ h) (LdA.same s a) (LdA.same s b)
  | _, _, .dctT h a e k b => .dctT (s _ _ h) (LdA.same s a) e k (LdA.same s b)
  | _, _, .obj h c a => .obj (s _ _ h) c (LdA.same s a)
theorem LdA.same (s : Same H H') : ∀ {ds : List D} {vs : List V}, LdA c H vs ds → LdA c H' vs ds
  | _, _, .nil => .nil
  | _, _, .cons h a => .cons (Ld.same s h) (LdA.same s a)
end
theorem LdA.len : ∀ {ds : List D} {vs : List V}, LdA c H vs ds → vs.length = ds.length
  | _, _, .nil => rfl
  | _, _, .cons h a => congrArg Nat.succ (LdA.len a)
theorem LdA.app : ∀ {ds es : List D} {vs ws : List V}, LdA c H vs ds → LdA c H ws es → LdA c H (vs ++ ws) (ds ++ es)
  | _, _, _, _, .nil, b => b
  | _, _, _, _, .cons h a, b => .cons h (LdA.app a b)
theorem LdA.get : ∀ {ds : List D} {vs : List V}, LdA c H vs ds → ∀ {i : Nat} {v : V}, vs[i]? = some v → ∃ d, ds[i]? = some d ∧ Ld c H v d
  | _, _, .nil, i, x, e => by cases e
  | _, _, .cons h a, 0, x, e => by cases e; exact ⟨_, rfl, h⟩
  | _, _, .cons h a, i + 1, x, e => LdA.get a (i := i) (by simpa using e)
theorem LdA.get' : ∀ {ds : List D} {vs : List V}, LdA c H vs ds → ∀ {i : Nat} {d : D}, ds[i]? = some d → ∃ v, vs[i]? = some v ∧ Ld c H v d
  | _, _, .nil, i, x, e => by cases e
  | _, _, .cons h a, 0, x, e => by cases e; exact ⟨_, rfl, h⟩
  | _, _, .cons h a, i + 1, x, e => LdA.get' a (i := i) (by simpa using e)
theorem LdA.drop : ∀ {ds : List D} {vs : List V} (n : Nat), LdA c H vs ds → LdA c H (vs.drop n) (ds.drop n)
  | _, _, 0, a => a
  | _, _, n + 1, .nil => .nil
  | _, _, n + 1, .cons h a => LdA.drop n a
theorem LdA.take : ∀ {ds : List D} {vs : List V} (n : Nat), LdA c H vs ds → LdA c H (vs.take n) (ds.take n)
  | _, _, 0, a => .nil
  | _, _, n + 1, .nil => .nil
  | _, _, n + 1, .cons h a => .cons h (LdA.take n a)
theorem LdA.rev {ds : List D} {vs : List V} (h : LdA c H vs ds) : LdA c H vs.reverse ds.reverse := by
  induction ds generalizing vs with
  | nil => cases h; exact .nil
  | cons d ds ih =>
    cases h with
    | cons h a =>
      rw [List.reverse_cons, List.reverse_cons]
      exact LdA.app (ih a) (.cons h .nil)
theorem LdA.set : ∀ {ds : List D} {vs : List V}, LdA c H vs ds → ∀ {v : V} {d : D}, Ld c H v d → ∀ i : Nat, LdA c H (vs.set i v) (ds.set i d)
  | _, _, .nil, _, _, _, _ => .nil
  | _, _, .cons _ a, _, _, h, 0 => .cons h a
  | _, _, .cons h0 a, _, _, h, i + 1 => .cons h0 (LdA.set a h i)
theorem LdA.erase : ∀ {ds : List D} {vs : List V}, LdA c H vs ds → ∀ i : Nat, LdA c H (vs.eraseIdx i) (ds.eraseIdx i)
  | _, _, .nil, _ => .nil
  | _, _, .cons _ a, 0 => a
  | _, _, .cons h a, i + 1 => .cons h (LdA.erase a i)
end
/-! ### plain data: none, truth values, whole numbers, texts, lists, tuples -/
mutual
def toP : D → PyData
  | .non => .none
  | .bl b => .bool b
  | .int i => .int i
  | .str s => .str s
  | .lst xs => .list (toPs xs)
  | .tup xs => .tuple (toPs xs)
  | .dct _ _ => .none
  | .obj _ _ _ => .none
def toPs : List D → List PyData
  | [] => []
  | x :: xs => toP x :: toPs xs
end
mutual
/-- plain, and no deeper than n -/
def plain : Nat → D → Bool
  | _, .non => true
  | _, .bl _ => true
  | _, .int _ => true
  | _, .str s => PyData.strOk s
  | 0, .lst _ => false
  | 0, .tup _ => false
  | n + 1, .lst xs => plains n xs
  | n + 1, .tup xs => plains n xs
  | _, .dct _ _ => false
  | _, .obj _ _ _ => false
def plains : Nat → List D → Bool
  | _, [] => true
  | n, x :: xs => plain n x && plains n xs
end
end DL

set_option Elab.async false
set_option linter.all false
set_option maxRecDepth 100000
set_option maxHeartbeats 1000000
namespace DL
open PySem PySem.Spec PyProof.Rows L2
/-! ### plain data read by the layer below -/
section
variable {c : Ct} {H H' : Hp}
mutual
theorem Ld.dp : ∀ {n : Nat} {d : D} {v : V}, Ld c H v d → plain n d = true → Dp c.K H v (toP d)
  | _, .non, _, .non, _ => .non
  | _, .bl _, _, .bl b, _ => .bl b
  | _, .int _, _, .int b, _ => .int b
  | _, .str _, _, .str b, _ => .str b
  | n + 1, .lst _, _, .lst h a, p => .lst (SqL.of h) (LdA.dp (n := n) a p)
  | n + 1, .tup _, _, .tup h a, p => .tup h (LdA.dp (n := n) a p)
theorem LdA.dp : ∀ {n : Nat} {ds : List D} {vs : List V}, LdA c H vs ds → plains n ds = true → DpAll c.K H vs (toPs ds)
  | _, [], _, .nil, _ => .nil
  | n, _ :: _, _, .cons h a, p => by
    have p' : (plain n _ && plains n _) = true := p
    rw [Bool.and_eq_true] at p'
    exact .cons (Ld.dp h p'.1) (LdA.dp a p'.2)
end
mutual
theorem plain_lay : ∀ {n : Nat} {d : D}, plain n d = true → (toP d).canLay0 = true ∧ (toP d).depth ≤ n
  | _, .non, _ => ⟨by simp [toP, PyData.canLay0], by simp [toP, PyData.depth]⟩
  | _, .bl _, _ => ⟨by simp [toP, PyData.canLay0], by simp [toP, PyData.depth]⟩
  | _, .int _, _ => ⟨by simp [toP, PyData.canLay0], by simp [toP, PyData.depth]⟩
  | _, .str s, p => ⟨by
      simp only [toP, PyData.canLay0]
      exact p, by simp [toP, PyData.depth]⟩
  | n + 1, .lst xs, p => by
    obtain ⟨a, b⟩ := plains_lay (n := n) (ds := xs) p
    refine ⟨?_, ?_⟩
    · simp only [toP, PyData.canLay0]; exact a
    · simp only [toP, PyData.depth]; omega
  | n + 1, .tup xs, p => by
    obtain ⟨a, b⟩ := plains_lay (n := n) (ds := xs) p
    refine ⟨?_, ?_⟩
    · simp only [toP, PyData.canLay0]; exact a
    · simp only [toP, PyData.depth]; omega
  | 0, .lst _, p => by cases p
  | 0, .tup _, p => by cases p
theorem plains_lay : ∀ {n : Nat} {ds : List D}, plains n ds = true → PyData.canLayAll0 (toPs ds) = true ∧ PyData.depthAll (toPs ds) ≤ n
  | _, [], _ => by simp [toPs, PyData.canLayAll0, PyData.depthAll]
  | n, d :: ds, p => by
    have p' : (plain n d && plains n ds) = true := p
    rw [Bool.and_eq_true] at p'
    obtain ⟨a, b⟩ := plain_lay p'.1
    obtain ⟨c, e⟩ := plains_lay p'.2
    simp only [toPs, PyData.canLayAll0, PyData.depthAll, a, c, Bool.and_self, true_and]
    omega
end
end
/-! ### the context -/
structure G where
  c : Ct
  /-- the pen: its dict, the list of its cells, the name of its counter -/
  pen : Option (Addr × Addr × Str)
  /-- the object that is being made: its address, its class, its dict -/
  slf : Option (Addr × Addr × Addr)
  /-- what callers hide -/
  O : List Addr
  /-- the heap at the entry -/
  H0 : Hp
/-- what a def may change -/
def G.out (g : G) (b : Addr) : Prop := (∀ p l n, g.pen = some (p, l, n) → b ≠ p) ∧ (∀ x C dx, g.slf = some (x, C, dx) → b ≠ x)
def Pres (g : G) (H H' : Hp) : Prop := ∀ b o, H b = some o → g.out b → H' b = some o
theorem Pres.refl {g : G} {H : Hp} : Pres g H H := fun _ _ h _ => h
theorem Pres.trans {g : G} {H H1 H2 : Hp} (a : Pres g H H1) (b : Pres g H1 H2) : Pres g H H2 := fun c o h n => b c o (a c o h n) n
theorem Same.pres {g : G} {H H' : Hp} (s : Same H H') : Pres g H H' := fun b o h _ => s b o h
abbrev pnL (l : Addr) (n : Str) (t : Pn) : List (Key × V) := [(Sum.inr "cells", .ref l), (Sum.inr n, .int t.k), (Sum.inr "left", .int t.z)]
/-- the pen as it lies -/
structure PenAt (H : Hp) (p l : Addr) (n : Str) (t : Pn) : Prop where
  d : H p = some (.dK (pnL l n t))
  l : H l = some (.lst (t.cells.map V.int))
  k0 : 0 ≤ t.k
  z0 : 0 ≤ t.z
  len : t.cells.length ≤ 63
def PenOk (g : G) (H : Hp) (t : Pn) : Prop := ∀ p l n, g.pen = some (p, l, n) → PenAt H p l n t ∧ p ∈ g.O ∧ l ∉ g.O ∧ ∃ o, g.H0 l = some o
def mo (g : G) (os : List Addr) : List Addr := g.O ++ os
/-- the hidden heap -/
abbrev hd (g : G) (os : List Addr) (H : Hp) : Hp := msk (mo g os) H
abbrev Lay (g : G) (os : List Addr) (H : Hp) (v : V) (d : D) : Prop := Ld g.c (hd g os H) v d
abbrev LayA (g : G) (os : List Addr) (H : Hp) (vs : List V) (ds : List D) : Prop := LdA g.c (hd g os H) vs ds
/-- a container at a that its owner may change: what is in it is laid -/
def Own (g : G) (os : List Addr) (H : Hp) (a : Addr) : D → Prop
  | .lst ds => ∃ vs, H a = some (.lst vs) ∧ LayA g os H vs ds
  | .dct kd vd => (∃ kvs : List (Key × V), H a = some (.dK kvs) ∧ LayA g os H (kvs.map fun q => kV q.1) kd ∧ LayA g os H (kvs.map (·.2)) vd) ∨
      ∃ xs : List (NestedKey × Addr × V), H a = some (tdO g.c.w a xs) ∧ LayA g os H (xs.map fun q => V.ref q.2.1) kd ∧ xs.map (·.1) = kd.map nk ∧ (kd.all fun d => decide (kkind d = some true)) = true ∧ LayA g os H (xs.map (·.2.2)) vd ∧ xs ≠ []
  | _ => False
def SlOk (g : G) (os : List Addr) (H : Hp) (u : Option (Option V)) : Sl → Prop
  | .un => True
  | .im d => ∃ v, u = some (some v) ∧ Lay g os H v d
  | .bo d => ∃ a, u = some (some (.ref a)) ∧ Own g os H a d ∧ (g.H0 a).isSome = true ∧ g.out a
  | .ow d => ∃ a, u = some (some (.ref a)) ∧ a ∈ os ∧ Own g os H a d
  | .pn => ∃ p l n, g.pen = some (p, l, n) ∧ u = some (some (.ref p))
  | .sf ns vs => ∃ x C dx fs, g.slf = some (x, C, dx) ∧ u = some (some (.ref x)) ∧ H x = some (.ins C dx fs) ∧ fs.map (·.1) = ns ∧ LayA g os H (fs.map (·.2)) vs
structure Amb (g : G) (os : List Addr) (σ : L2.St) (H : Hp) (ρ : List Sl) (t : Pn) : Prop where
  len : ρ.length = σ.length
  sl : ∀ (i : Nat) (s : Sl), ρ[i]? = some s → SlOk g os H σ[i]? s
  dis : ∀ (i j : Nat) (d e : D) (a : Addr), i ≠ j → ρ[i]? = some (.ow d) → ρ[j]? = some (.ow e) → σ[i]? = some (some (.ref a)) → σ[j]? ≠ some (some (.ref a))
  pres : Pres g g.H0 H
  new : ∀ a ∈ os, g.H0 a = none
  live : ∀ a ∈ mo g os, ∃ o, H a = some o
  slf : ∀ x C dx, g.slf = some (x, C, dx) → x ∈ g.O
  o0 : ∀ a ∈ g.O, ∃ o, g.H0 a = some o
  pen : PenOk g H t
section
variable {g : G} {os os' : List Addr} {σ : L2.St} {H H' : Hp} {ρ : List Sl} {t : Pn}
theorem Own.same {a : Addr} {d : D} (s : Same (hd g os H) (hd g os' H')) (e : ∀ o, H a = some o → H' a = some o) (h : Own g os H a d) : Own g os' H' a d := by
  cases d with
  | lst ds => obtain ⟨vs, h1, h2⟩ := h; exact ⟨vs, e _ h1, LdA.same s h2⟩
  | dct kd vd =>
    rcases h with ⟨kvs, h1, h2, h3⟩ | ⟨xs, h1, h2, h3, h4, h5, h6⟩
    · exact .inl ⟨kvs, e _ h1, LdA.same s h2, LdA.same s h3⟩
    · exact .inr ⟨xs, e _ h1, LdA.same s h2, h3, h4, LdA.same s h5, h6⟩
  | _ => exact h
/-- the state goes on: all that is hidden lies as it lay but what may be changed -/
theorem Amb.step (A : Amb g os σ H ρ t) (s : Same (hd g os H) (hd g os H')) (ho : ∀ a ∈ os, ∀ o, H a = some o → H' a = some o) (hp : Pres g H H') (hl : ∀ a ∈ g.O, ∃ o, H' a = some o)
    (hs : ∀ x C dx, g.slf = some (x, C, dx) → ∀ o, H x = some o → H' x = some o) {t' : Pn} (hq : PenOk g H' t') : Amb g os σ H' ρ t' where
  len := A.len
  sl := fun i sx e => by
    have q := A.sl i sx e
    cases sx with
    | un => trivial
    | im d => obtain ⟨v, h1, h2⟩ := q; exact ⟨v, h1, Ld.same s h2⟩
    | bo d => obtain ⟨a, h1, h2, h3, h4⟩ := q; exact ⟨a, h1, h2.same s (fun o e => hp a o e h4), h3, h4⟩
    | ow d => obtain ⟨a, h1, h2, h3⟩ := q; exact ⟨a, h1, h2, h3.same s (ho a h2)⟩
    | pn => exact q
    | sf ns vs => obtain ⟨x, C, dx, fs, h1, h2, h3, h4, h5⟩ := q; exact ⟨x, C, dx, fs, h1, h2, hs _ _ _ h1 _ h3, h4, LdA.same s h5⟩
  dis := A.dis
  pres := A.pres.trans hp
  new := A.new
  live := fun a ha => by
    rcases List.mem_append.mp ha with h | h
    · exact hl a h
    · obtain ⟨o, ho'⟩ := A.live a ha
      exact ⟨o, ho a h o ho'⟩
  slf := A.slf
  o0 := A.o0
  pen := hq
/-- all that lay lies -/
theorem Amb.same (A : Amb g os σ H ρ t) (s : Same H H') : Amb g os σ H' ρ t :=
  A.step (msk_same fun b o _ e => s b o e) (fun a _ o e => s a o e) (Same.pres s) (fun a ha => by obtain ⟨o, e⟩ := A.live a (List.mem_append_left _ ha); exact ⟨o, s _ _ e⟩) (fun x C dx _ o e => s _ _ e)
    (fun p l n e => by obtain ⟨q, h1, h2⟩ := A.pen p l n e; exact ⟨⟨s _ _ q.d, s _ _ q.l, q.k0, q.z0, q.len⟩, h1, h2⟩)
theorem Amb.fresh (A : Amb g os σ H ρ t) {p : Addr} (h : H p = none) : p ∉ mo g os := fun hp => by
  obtain ⟨o, e⟩ := A.live p hp
  rw [h] at e; cases e
theorem same_upd {p : Addr} {o : HO} (h : H p = none) : Same H (upd H p o) := fun b o' e => by
  rw [upd_ne (ne_of_none e h)]; exact e
theorem hd_same (s : Same H H') : Same (hd g os H) (hd g os H') := msk_same fun b o _ e => s b o e
theorem hd_drop {a : Addr} : Same (hd g (a :: os) H) (hd g os H) := msk_sub fun b hb => by
  rcases List.mem_append.mp hb with h | h
  · exact List.mem_append_left _ h
  · exact List.mem_append_right _ (List.mem_cons_of_mem _ h)
theorem Amb.new_at (A : Amb g os σ H ρ t) {p : Addr} {o : HO} (h : H p = none) : Amb g os σ (upd H p o) ρ t := A.same (same_upd h)
theorem Amb.h0 (A : Amb g os σ H ρ t) {p : Addr} (h : H p = none) (ho : g.out p) : g.H0 p = none := by
  cases e : g.H0 p with
  | none => rfl
  | some o => have := A.pres p o e ho; rw [h] at this; cases this
theorem Amb.out_fresh (A : Amb g os σ H ρ t) {p : Addr} (h : H p = none) : g.out p := by
  refine ⟨fun q l n e z => ?_, fun x C dx e z => ?_⟩
  · obtain ⟨r, _, _⟩ := A.pen q l n e
    rw [z, r.d] at h; cases h
  · obtain ⟨o, e'⟩ := A.live x (List.mem_append_left _ (A.slf x C dx e))
    rw [z, e'] at h; cases h
/-- a new object that is owned from now on -/
theorem Amb.own (A : Amb g os σ H ρ t) {p : Addr} {o : HO} (h : H p = none) : Amb g (p :: os) σ (upd H p o) ρ t := by
  have B := A.new_at (o := o) h
  have nf := A.fresh h
  have e : Same (hd g os H) (hd g (p :: os) (upd H p o)) := fun b u e => by
    by_cases hb : b ∈ mo g os
    · rw [show hd g os H b = none from msk_in hb] at e; cases e
    · rw [show hd g os H b = H b from msk_out hb] at e
      have nb : b ≠ p := ne_of_none e h
      have nb2 : b ∉ mo g (p :: os) := fun z => by
        rcases List.mem_append.mp z with z | z
        · exact hb (List.mem_append_left _ z)
        · rcases List.mem_cons.mp z with z | z
          · exact nb z
          · exact hb (List.mem_append_right _ z)
      rw [show hd g (p :: os) (upd H p o) b = upd H p o b from msk_out nb2, upd_ne nb]
      exact e
  have old : ∀ {a : Addr} {u : HO}, H a = some u → upd H p o a = some u := fun {a u} z => by rw [upd_ne (ne_of_none z h)]; exact z
  refine ⟨B.len, fun i sx ei => ?_, B.dis, B.pres, fun a ha => ?_, fun a ha => ?_, B.slf, B.o0, B.pen⟩
  · have q := A.sl i sx ei
    cases sx with
    | un => trivial
    | im d => obtain ⟨v, h1, h2⟩ := q; exact ⟨v, h1, Ld.same e h2⟩
    | bo d => obtain ⟨a, h1, h2, h3, h4⟩ := q; exact ⟨a, h1, h2.same e (fun o z => old z), h3, h4⟩
    | ow d => obtain ⟨a, h1, h2, h3⟩ := q; exact ⟨a, h1, List.mem_cons_of_mem _ h2, h3.same e fun o z => old z⟩
    | pn => exact q
    | sf ns vs => obtain ⟨x, C, dx, fs, h1, h2, h3, h4, h5⟩ := q; exact ⟨x, C, dx, fs, h1, h2, old h3, h4, LdA.same e h5⟩
  · rcases List.mem_cons.mp ha with rfl | ha
    · exact A.h0 h (A.out_fresh h)
    · exact A.new a ha
  · rcases List.mem_append.mp ha with z | z
    · exact B.live a (List.mem_append_left _ z)
    · rcases List.mem_cons.mp z with rfl | z
      · exact ⟨o, upd_same⟩
      · exact B.live a (List.mem_append_right _ z)
theorem hd_own {p : Addr} {o : HO} (A : Amb g os σ H ρ t) (h : H p = none) : Same (hd g os H) (hd g (p :: os) (upd H p o)) := fun b u e => by
  by_cases hb : b ∈ mo g os
  · rw [show hd g os H b = none from msk_in hb] at e; cases e
  · rw [show hd g os H b = H b from msk_out hb] at e
    have nb : b ≠ p := ne_of_none e h
    have nb2 : b ∉ mo g (p :: os) := fun z => by
      rcases List.mem_append.mp z with z | z
      · exact hb (List.mem_append_left _ z)
      · rcases List.mem_cons.mp z with z | z
        · exact nb z
        · exact hb (List.mem_append_right _ z)
    rw [show hd g (p :: os) (upd H p o) b = upd H p o b from msk_out nb2, upd_ne nb]
    exact e
/-- what an expression leaves: all that was seen is seen, what is owned lies as it lay -/
structure Go (g : G) (os : List Addr) (H : Hp) (os' : List Addr) (H' : Hp) : Prop where
  s : Same (hd g os H) (hd g os' H')
  k : ∀ b ∈ os, b ∈ os' ∧ ∀ o, H b = some o → H' b = some o
  x : ∀ x C dx, g.slf = some (x, C, dx) → ∀ o, H x = some o → H' x = some o
theorem Go.refl : Go g os H os H := ⟨Same.refl _, fun b h => ⟨h, fun _ e => e⟩, fun _ _ _ _ _ e => e⟩
theorem Go.trans {os1 os2 : List Addr} {H1 H2 : Hp} (a : Go g os H os1 H1) (b : Go g os1 H1 os2 H2) : Go g os H os2 H2 :=
  ⟨a.s.trans b.s, fun c h => ⟨(b.k c (a.k c h).1).1, fun o e => (b.k c (a.k c h).1).2 o ((a.k c h).2 o e)⟩, fun x C dx e o z => b.x x C dx e o (a.x x C dx e o z)⟩
theorem Go.same (s : Same H H') : Go g os H os H' := ⟨hd_same s, fun b h => ⟨h, fun _ e => s _ _ e⟩, fun _ _ _ _ _ e => s _ _ e⟩
theorem Go.own {p : Addr} {o : HO} (A : Amb g os σ H ρ t) (h : H p = none) : Go g os H (p :: os) (upd H p o) :=
  ⟨hd_own A h, fun b h => ⟨List.mem_cons_of_mem _ h, fun _ e => same_upd ‹_› _ _ e⟩, fun _ _ _ _ _ e => same_upd h _ _ e⟩
theorem Go.none {os1 : List Addr} {H1 : Hp} {σ1 : L2.St} {ρ1 : List Sl} {t1 : Pn} (s : Go g os H os1 H1) (A : Amb g os1 σ1 H1 ρ1 t1) {p : Addr} (h : H1 p = .none) : H p = .none := by
  cases e : H p with
  | none => rfl
  | some o =>
    by_cases hp : p ∈ mo g os
    · rcases List.mem_append.mp hp with z | z
      · obtain ⟨o', e'⟩ := A.live p (List.mem_append_left _ z)
        rw [h] at e'; cases e'
      · have := (s.k p z).2 o e
        rw [h] at this; cases this
    · have := s.s p o (by rw [show hd g os H p = H p from msk_out hp]; exact e)
      have := msk_le _ _ this
      rw [h] at this; cases this
theorem Go.drop {os1 : List Addr} {H1 : Hp} {p : Addr} (A : Amb g os σ H ρ t) (s : Go g os H (p :: os1) H1) (h : H p = .none) : Go g os H os1 H1 :=
  ⟨s.s.trans hd_drop, fun b hb => ⟨by
    rcases List.mem_cons.mp (s.k b hb).1 with e | e
    · obtain ⟨o, z⟩ := A.live b (List.mem_append_right _ hb)
      rw [e, h] at z; cases z
    · exact e, (s.k b hb).2⟩, s.x⟩
instance : CoeOut (Go g os H os' H') (Same (hd g os H) (hd g os' H')) := ⟨Go.s⟩
end
end DL

set_option Elab.async false
set_option linter.all false
set_option maxRecDepth 100000
set_option maxHeartbeats 1000000
namespace DL
open PySem PySem.Spec PyProof.Rows L2
/-! ### readings by data -/
def noX : Str → List Str → List D → Pn → Prop := fun _ _ _ _ => False
/-- an expression -/
def tD (g : G) (f : M D) : TE := fun σ H Q => ∃ os ρ t, Amb g os σ H ρ t ∧
  (f ρ t).post (fun d ρ' t' => ∀ v H' os', Amb g os' σ H' ρ' t' → Lay g os' H' v d → Go g os H os' H' → Q v H') noX
/-- arguments, items -/
def aD (g : G) (f : M (List D)) : TA := fun σ H Q => ∃ os ρ t, Amb g os σ H ρ t ∧
  (f ρ t).post (fun ds ρ' t' => ∀ vs H' os', Amb g os' σ H' ρ' t' → LayA g os' H' vs ds → Go g os H os' H' → Q vs H') noX
/-- a test -/
def bD (g : G) (f : M Bool) : TT := fun σ H Q => ∃ os ρ t, Amb g os σ H ρ t ∧
  (f ρ t).post (fun b ρ' t' => ∀ H' os', Amb g os' σ H' ρ' t' → Go g os H os' H' → Q b H') noX
/-- no name owns the object at p -/
def NOw (σ : L2.St) (ρ : List Sl) (p : Addr) : Prop := ∀ (i : Nat) (d : D), ρ[i]? = some (.ow d) → σ[i]? ≠ some (some (.ref p))
/-- an expression that makes a new container -/
def fD (g : G) (f : M D) : TE := fun σ H Q => ∃ os ρ t, Amb g os σ H ρ t ∧
  (f ρ t).post (fun d ρ' t' => ∀ p H' os', Amb g (p :: os') σ H' ρ' t' → Own g (p :: os') H' p d → (p ∉ mo g os' ∧ H p = none) → NOw σ ρ' p → Go g os H (p :: os') H' → Q (.ref p) H') noX
/-- a statement, a block -/
def sQ (g : G) (Dn : Ends) (B : Hp) (fl : Fl) (ρ' : List Sl) (t' : Pn) : Prop := match fl with
  | .nx => ∀ σ' H' os', Amb g os' σ' H' ρ' t' → Same B (hd g os' H') → Dn.nx σ' H'
  | .bk => ∀ σ' H' os', Amb g os' σ' H' ρ' t' → Same B (hd g os' H') → Dn.bk σ' H'
  | .ct => ∀ σ' H' os', Amb g os' σ' H' ρ' t' → Same B (hd g os' H') → Dn.ct σ' H'
  | .rt d => ∀ v σ' H' os', Amb g os' σ' H' ρ' t' → Lay g os' H' v d → Same B (hd g os' H') → Dn.rt v H'
def sD (g : G) (f : M Fl) : TS := fun Dn σ H => ∃ os ρ t, Amb g os σ H ρ t ∧ (f ρ t).post (sQ g Dn (hd g os H)) noX
theorem sQ.base {g : G} {Dn : Ends} {B B' : Hp} (s : Same B B') {fl : Fl} {ρ : List Sl} {t : Pn} (h : sQ g Dn B fl ρ t) : sQ g Dn B' fl ρ t := by
  cases fl with
  | nx => exact fun σ' H' os' A z => h σ' H' os' A (s.trans z)
  | bk => exact fun σ' H' os' A z => h σ' H' os' A (s.trans z)
  | ct => exact fun σ' H' os' A z => h σ' H' os' A (s.trans z)
  | rt d => exact fun v σ' H' os' A l z => h v σ' H' os' A l (s.trans z)
abbrev SE (X : Cx) (g : G) (e : Expr) (f : M D) : Prop := PE X e (tD g f)
abbrev SF (X : Cx) (g : G) (e : Expr) (f : M D) : Prop := PE X e (fD g f)
abbrev SA (X : Cx) (g : G) (es : List Expr) (f : M (List D)) : Prop := PA X es (aD g f)
abbrev ST (X : Cx) (g : G) (e : Expr) (f : M Bool) : Prop := PT X e (bD g f)
abbrev SS (X : Cx) (g : G) (s : Stmt) (f : M Fl) : Prop := PS X s (sD g f)
abbrev SSs (X : Cx) (g : G) (s : List Stmt) (f : M Fl) : Prop := PSs X s (sD g f)
/-- the layer's context suits -/
structure Fx (X : Cx) (g : G) : Prop where
  k : X.K = g.c.K
  m : X.mg = g.c.mg
  w : X.w = g.c.w
  u : X.A.units + 65 < cLine
  c : X.calm = true
  n : X.N.Nodup
  p : PassesOwn (model X.prog X.w) X.A X.env X.xe
section
variable {X : Cx} {g : G}
theorem Fx.blk (fx : Fx X g) {s : Shared} {H : Hp} {scope : Scope} {ce : Env} {fp : List Addr} : Fx (X.blk s H scope ce fp) g := ⟨fx.k, fx.m, fx.w, fx.u, fx.c, fx.n, PassesOwn.never⟩
theorem Fx.u1 (fx : Fx X g) : X.A.units + 1 < cLine := by have := fx.u; omega
theorem Fx.u64 (fx : Fx X g) : X.A.units + 64 < cLine := by have := fx.u; omega
theorem PE.imp {e : Expr} {t t' : TE} (h : PE X e t) (w : ∀ σ H Q, t' σ H Q → t σ H Q) : PE X e t' := ⟨fun pins s σ H Q I q => h.run pins s σ H Q I (w σ H Q q)⟩
theorem PT.imp {e : Expr} {t t' : TT} (h : PT X e t) (w : ∀ σ H Q, t' σ H Q → t σ H Q) : PT X e t' := ⟨fun pins s σ H Q I q => h.run pins s σ H Q I (w σ H Q q)⟩
theorem PW.imp {e : Expr} {t t' : TT} (h : PW X e t) (w : ∀ σ H Q, t' σ H Q → t σ H Q) : PW X e t' := ⟨fun wh pins s σ H Q I q => h.run wh pins s σ H Q I (w σ H Q q)⟩
theorem PA.imp {e : List Expr} {t t' : TA} (h : PA X e t) (w : ∀ σ H Q, t' σ H Q → t σ H Q) : PA X e t' := ⟨fun pos pins s σ H Q I q => h.run pos pins s σ H Q I (w σ H Q q)⟩
theorem PS.imp {e : Stmt} {t t' : TS} (h : PS X e t) (w : ∀ Dn σ H, t' Dn σ H → t Dn σ H) : PS X e t' := ⟨fun pins s σ H Dn I q => h.run pins s σ H Dn I (w Dn σ H q)⟩
theorem PSs.imp {e : List Stmt} {t t' : TS} (h : PSs X e t) (w : ∀ Dn σ H, t' Dn σ H → t Dn σ H) : PSs X e t' := ⟨fun pins s σ H Dn I q => h.run pins s σ H Dn I (w Dn σ H q)⟩
theorem PE.or {e : Expr} {t1 t2 : TE} (h1 : PE X e t1) (h2 : PE X e t2) : PE X e (fun σ H Q => t1 σ H Q ∨ t2 σ H Q) :=
  ⟨fun pins s σ H Q I h => h.elim (h1.run pins s σ H Q I) (h2.run pins s σ H Q I)⟩
end
/-! ### names, constants -/
def evar (i : Nat) : M D := fun ρ t => match ρ[i]? with
  | some (.im d) => .ok d ρ t
  | _ => .bad
section
variable {X : Cx} {g : G}
theorem se_var (i : Nat) {x : Str} {pos : Pos} (h : PE X (.Name x pos) (tVar i)) : SE X g (.Name x pos) (evar i) := PE.imp h fun σ H Q q => by
  obtain ⟨os, ρ, t, A, q⟩ := q
  unfold evar at q
  cases e : ρ[i]? with
  | none => rw [e] at q; exact q.elim
  | some s =>
    rw [e] at q
    cases s with
    | im d =>
      obtain ⟨v, h1, h2⟩ := A.sl i _ e
      exact ⟨v, h1, q v H os A h2 Go.refl⟩
    | _ => exact q.elim
theorem se_c {e : Expr} {v : V} {d : D} (h : PE X e (tC v)) (l : ∀ c H, Ld c H v d) : SE X g e (mr d) := PE.imp h fun σ H Q q => by
  obtain ⟨os, ρ, t, A, q⟩ := q
  exact q v H os A (l _ _) Go.refl
theorem se_int {i : Int} {j pos} : SE X g (.Constant (.int i) j pos) (mr (.int i)) := se_c pe_int fun _ _ => .int i
theorem se_bl {b : Bool} {j pos} : SE X g (.Constant (.bool b) j pos) (mr (.bl b)) := se_c pe_bl fun _ _ => .bl b
theorem se_non {j pos} : SE X g (.Constant .none j pos) (mr .non) := se_c pe_non fun _ _ => .non
theorem se_str {x : Str} {j pos} : SE X g (.Constant (.str x) j pos) (mr (.str x)) := se_c pe_str fun _ _ => .str x
/-- a constant of the module -/
theorem se_glob {x : Str} {pos : Pos} {d : D} (fx : Fx X g) (hg : Gl X x) (h : ∃ u v, g.c.mg x = some u ∧ RelV v u ∧ ∀ H, Ld g.c H v d) (hd : (x == ("__debug__" : Str)) = false := by decide) : SE X g (.Name x pos) (mr d) := by
  obtain ⟨u, v, h1, h2, h3⟩ := h
  exact PE.imp (pe_glob hg (by rw [fx.m]; exact h1) h2 hd) fun σ H Q q => by
      obtain ⟨os, ρ, t, A, q⟩ := q
      exact q v H os A (h3 _) Go.refl
end
end DL

set_option Elab.async false
set_option linter.all false
set_option maxRecDepth 100000
set_option maxHeartbeats 1000000
namespace DL
open PySem PySem.Spec PyProof.Rows L2
/-! ### operators -/
abbrev lim : Nat := 1000000
theorem lim_le {n : Nat} (h : n ≤ lim) : n ≤ sizeLine := Nat.le_trans h (by decide)
theorem lim_lt {n : Nat} (h : n ≤ lim) : n < sizeLine := Nat.lt_of_le_of_lt h (by decide)
/-- what a two-place operation does with data -/
def OpS (g : G) (r : R2) (f : D → D → M D) : Prop := ∀ (os : List Addr) (σ : L2.St) (H : Hp) (ρ : List Sl) (t : Pn) (x y : V) (d e : D) (Q : VK), Amb g os σ H ρ t → Lay g os H x d → Lay g os H y e →
  (f d e ρ t).post (fun z ρ' t' => ∀ v H' os', Amb g os' σ H' ρ' t' → Lay g os' H' v z → Go g os H os' H' → Q v H') noX → r x y H Q
def e2 (f : D → D → M D) (a b : M D) : M D := mb a fun x => mb b fun y => f x y
section
variable {g : G}
theorem op_w {r : R2} {f : D → D → M D} {a b : M D} (hs : OpS g r f) : ∀ σ H Q, tD g (e2 f a b) σ H Q → tOp r (tD g a) (tD g b) σ H Q := fun σ H Q q => by
  obtain ⟨os, ρ, t, A, q⟩ := q
  refine ⟨os, ρ, t, A, post_mono (post_bind q) (fun d ρ1 t1 q1 v H1 os1 A1 l1 s1 => ?_) fun _ _ _ _ h => h⟩
  refine ⟨os1, ρ1, t1, A1, post_mono (post_bind q1) (fun e ρ2 t2 q2 u H2 os2 A2 l2 s2 => ?_) fun _ _ _ _ h => h⟩
  refine hs os2 σ H2 ρ2 t2 v u d e Q A2 (Ld.same (Go.s s2) l1) l2 (post_mono q2 (fun z ρ3 t3 q3 w H3 os3 A3 l3 s3 => q3 w H3 os3 A3 l3 ((s1.trans s2).trans s3)) fun _ _ _ _ h => h)
theorem OpS.or {r r' : R2} {f : D → D → M D} (h : ∀ os σ H ρ t x y d e Q, Amb g os σ H ρ t → Lay g os H x d → Lay g os H y e →
    (f d e ρ t).post (fun z ρ' t' => ∀ v H' os', Amb g os' σ H' ρ' t' → Lay g os' H' v z → Go g os H os' H' → Q v H') noX → r x y H Q ∨ r' x y H Q) : OpS g (fun x y H Q => r x y H Q ∨ r' x y H Q) f := h
end
/-- a sum -/
def dadd : D → D → M D
  | .int i, .int j => mr (.int (i + j))
  | .int i, .bl b => mr (.int (i + b2i b))
  | .str x, .str y => if x.length + y.length ≤ lim then mr (.str (x ++ y)) else mx
  | .tup (x :: xs), .tup ys => if (x :: xs).length + ys.length ≤ lim then mr (.tup ((x :: xs) ++ ys)) else mx
  | .lst xs, .lst ys => if xs.length + ys.length ≤ lim then mr (.lst (xs ++ ys)) else mx
  | _, _ => mx
def dsub : D → D → M D
  | .int i, .int j => mr (.int (i - j))
  | _, _ => mx
def dmul : D → D → M D
  | .int i, .int j => if -(2 ^ 64) < i ∧ i < 2 ^ 64 then mr (.int (i * j)) else if -(2 ^ 64) < j ∧ j < 2 ^ 64 then mr (.int (i * j)) else mx
  | _, _ => mx
def dmod : D → D → M D
  | .int i, .int j => if 0 < j then mr (.int (i % j)) else mx
  | _, _ => mx
def dfdiv : D → D → M D
  | .int i, .int j => if 0 < j ∧ j < 1073741824 then mr (.int (i / j)) else mx
  | _, _ => mx
def deq : D → D → M D := fun x y => if plain 60 x = true ∧ plain 60 y = true then mr (.bl (PyData.eqv (toP x) (toP y))) else mx
def dne : D → D → M D := fun x y => if plain 60 x = true ∧ plain 60 y = true then mr (.bl (!PyData.eqv (toP x) (toP y))) else mx
def dcmp (p : Int → Int → Bool) : D → D → M D
  | .int i, .int j => mr (.bl (p i j))
  | _, _ => mx
abbrev dlt := dcmp fun i j => decide (i < j)
abbrev dle := dcmp fun i j => decide (i ≤ j)
abbrev dgt := dcmp fun i j => decide (j < i)
abbrev dge := dcmp fun i j => decide (j ≤ i)
section
variable {X : Cx} {g : G}
theorem post_if {α : Type} {c : Prop} [Decidable c] {m m' : M α} {ρ : List Sl} {t : Pn} {P : α → List Sl → Pn → Prop} {E : Str → List Str → List D → Pn → Prop} (h : ((if c then m else m') ρ t).post P E) : (c ∧ (m ρ t).post P E) ∨ (¬ c ∧ (m' ρ t).post P E) := by
  by_cases hc : c
  · rw [if_pos hc] at h; exact .inl ⟨hc, h⟩
  · rw [if_neg hc] at h; exact .inr ⟨hc, h⟩
/-- a new object that stays as it is, its items laid ahead -/
theorem lay_new {os : List Addr} {σ : L2.St} {H : Hp} {ρ : List Sl} {t : Pn} {p : Addr} {o : HO} (A : Amb g os σ H ρ t) (h : H p = none) : Amb g os σ (upd H p o) ρ t ∧ hd g os (upd H p o) p = some o ∧ Go g os H os (upd H p o) :=
  ⟨A.new_at h, by rw [show hd g os (upd H p o) p = upd H p o p from msk_out (A.fresh h)]; exact upd_same, Go.same (same_upd h)⟩
theorem Lay.seqT {os : List Addr} {H : Hp} {a : Addr} {xs : List V} (h : SqT g.c.K (hd g os H) a xs) : SqT g.c.K H a xs := seqT_same msk_le h
def RAdd (K : PySem.W.Frag) : R2 := fun x y H Q => (∃ i j, x = .int i ∧ y = .int j ∧ Q (.int (i + j)) H) ∨ (∃ i k, x = .int i ∧ y = .bl k ∧ Q (.int (i + b2i k)) H) ∨
  (∃ i j, x = .str i ∧ y = .str j ∧ i.length + j.length ≤ sizeLine ∧ Q (.str (i ++ j)) H) ∨ rCatT K x y H Q ∨ rCat x y H Q
theorem op_addA : OpR X (binaryOp .Add) (RAdd X.K) := op_add.or (op_add_ib.or (op_add_str.or (op_catT.or op_cat)))
theorem os_add : OpS g (RAdd g.c.K) dadd := by
  intro os σ H ρ t x y d e Q A lx ly q
  cases lx with
  | int i => cases ly with
    | int j => exact .inl ⟨i, j, rfl, rfl, q _ H os A (.int _) Go.refl⟩
    | bl b => exact .inr (.inl ⟨i, b, rfl, rfl, q _ H os A (.int _) Go.refl⟩)
    | _ => exact q.elim
  | str x => cases ly with
    | str y =>
      rcases post_if q with ⟨c, q⟩ | ⟨_, q⟩
      · exact .inr (.inr (.inl ⟨x, y, rfl, rfl, lim_le c, q _ H os A (.str _) Go.refl⟩))
      · exact q.elim
    | _ => exact q.elim
  | @tup a xs ds hx ax => cases ly with
    | @tup b ys es hy ay => cases ax with
      | nil => exact q.elim
      | @cons v vs d0 ds0 h0 a0 =>
        rcases post_if q with ⟨c, q⟩ | ⟨_, q⟩
        · have l1 := a0.len
          have l2 := ay.len
          refine .inr (.inr (.inr (.inl ⟨a, b, v :: vs, ys, rfl, rfl, Lay.seqT hx, Lay.seqT hy, (fun z => by cases z), lim_le (by rw [List.length_cons] at c ⊢; omega), fun e0 => ?_, fun n0 p hp => ?_⟩)))
          · subst e0
            cases ay
            refine q _ H os A ?_ Go.refl
            rw [List.append_nil]
            exact .tup hx (.cons h0 a0)
          · obtain ⟨A1, h1, s1⟩ := lay_new (o := .tup (v :: vs ++ ys)) A hp
            exact q _ _ os A1 (.tup (SqT.of h1) (LdA.same (Go.s s1) (LdA.app (.cons h0 a0) ay))) s1
        · exact q.elim
    | _ => cases ax <;> exact q.elim
  | @lst a xs ds hx ax => cases ly with
    | @lst b ys es hy ay =>
      rcases post_if q with ⟨c, q⟩ | ⟨_, q⟩
      · have l1 := ax.len
        have l2 := ay.len
        refine .inr (.inr (.inr (.inr ⟨a, b, xs, ys, rfl, rfl, msk_le _ _ hx, msk_le _ _ hy, lim_le (by omega), fun p hp => ?_⟩)))
        obtain ⟨A1, h1, s1⟩ := lay_new (o := .lst (xs ++ ys)) A hp
        exact q _ _ os A1 (.lst h1 (LdA.same (Go.s s1) (LdA.app ax ay))) s1
      · exact q.elim
    | _ => exact q.elim
  | _ => exact q.elim
theorem se_add {a b : Expr} {pos : Pos} {f h : M D} (fx : Fx X g) (ha : SE X g a f) (hb : SE X g b h) : SE X g (.BinOp a .Add b pos) (e2 dadd f h) :=
  PE.imp (pe_op op_addA ha hb) (by rw [fx.k]; exact op_w os_add)
theorem os_sub : OpS g (rI0 fun i j => .int (i - j)) dsub := by
  intro os σ H ρ t x y d e Q A lx ly q
  cases lx with
  | int i => cases ly with
    | int j => exact ⟨i, j, rfl, rfl, q _ H os A (.int _) Go.refl⟩
    | _ => exact q.elim
  | _ => exact q.elim
theorem se_sub {a b : Expr} {pos : Pos} {f h : M D} (ha : SE X g a f) (hb : SE X g b h) : SE X g (.BinOp a .Sub b pos) (e2 dsub f h) := PE.imp (pe_op op_sub ha hb) (op_w os_sub)
theorem os_mul : OpS g (rI CMul fun i j => .int (i * j)) dmul := by
  intro os σ H ρ t x y d e Q A lx ly q
  cases lx with
  | int i => cases ly with
    | int j =>
      rcases post_if q with ⟨c, q⟩ | ⟨_, q⟩
      · exact ⟨i, j, rfl, rfl, .inl c, q _ H os A (.int _) Go.refl⟩
      · rcases post_if q with ⟨c, q⟩ | ⟨_, q⟩
        · exact ⟨i, j, rfl, rfl, .inr c, q _ H os A (.int _) Go.refl⟩
        · exact q.elim
    | _ => exact q.elim
  | _ => exact q.elim
theorem se_mul {a b : Expr} {pos : Pos} {f h : M D} (ha : SE X g a f) (hb : SE X g b h) : SE X g (.BinOp a .Mult b pos) (e2 dmul f h) := PE.imp (pe_op op_mul ha hb) (op_w os_mul)
theorem os_mod : OpS g (rI (fun _ j => 0 < j) fun i j => .int (i % j)) dmod := by
  intro os σ H ρ t x y d e Q A lx ly q
  cases lx with
  | int i => cases ly with
    | int j =>
      rcases post_if q with ⟨c, q⟩ | ⟨_, q⟩
      · exact ⟨i, j, rfl, rfl, c, q _ H os A (.int _) Go.refl⟩
      · exact q.elim
    | _ => exact q.elim
  | _ => exact q.elim
theorem se_mod {a b : Expr} {pos : Pos} {f h : M D} (ha : SE X g a f) (hb : SE X g b h) : SE X g (.BinOp a .Mod b pos) (e2 dmod f h) := PE.imp (pe_op op_mod ha hb) (op_w os_mod)
theorem os_fdiv : OpS g (rI CDiv fun i j => .int (i / j)) dfdiv := by
  intro os σ H ρ t x y d e Q A lx ly q
  cases lx with
  | int i => cases ly with
    | int j =>
      rcases post_if q with ⟨c, q⟩ | ⟨_, q⟩
      · exact ⟨i, j, rfl, rfl, c, q _ H os A (.int _) Go.refl⟩
      · exact q.elim
    | _ => exact q.elim
  | _ => exact q.elim
theorem se_fdiv {a b : Expr} {pos : Pos} {f h : M D} (ha : SE X g a f) (hb : SE X g b h) : SE X g (.BinOp a .FloorDiv b pos) (e2 dfdiv f h) := PE.imp (pe_op op_fdiv ha hb) (op_w os_fdiv)
/-! comparisons -/
theorem plain_shaped {x : D} (h : plain 60 x = true) : SeqAt.shaped (toP x) = true := by
  obtain ⟨a, b⟩ := plain_lay h
  show ((toP x).canLay0 && decide ((toP x).depth ≤ 64)) = true
  rw [a, Bool.true_and]
  exact decide_eq_true (by omega)
theorem Lay.dp {os : List Addr} {H : Hp} {v : V} {d : D} (h : Lay g os H v d) (p : plain 60 d = true) : Dp g.c.K H v (toP d) := Ld.dp (Ld.same msk_le h) p
theorem os_eq : OpS g (rEqD g.c.K) deq := by
  intro os σ H ρ t x y d e Q A lx ly q
  rcases post_if q with ⟨⟨c1, c2⟩, q⟩ | ⟨_, q⟩
  · exact ⟨toP d, toP e, lx.dp c1, ly.dp c2, plain_shaped c1, plain_shaped c2, q _ H os A (.bl _) Go.refl⟩
  · exact q.elim
theorem os_ne : OpS g (rNeD g.c.K) dne := by
  intro os σ H ρ t x y d e Q A lx ly q
  rcases post_if q with ⟨⟨c1, c2⟩, q⟩ | ⟨_, q⟩
  · exact ⟨toP d, toP e, lx.dp c1, ly.dp c2, plain_shaped c1, plain_shaped c2, q _ H os A (.bl _) Go.refl⟩
  · exact q.elim
theorem os_cmp {p : Int → Int → Bool} : OpS g (rI0 fun i j => .bl (p i j)) (dcmp p) := by
  intro os σ H ρ t x y d e Q A lx ly q
  cases lx with
  | int i => cases ly with
    | int j => exact ⟨i, j, rfl, rfl, q _ H os A (.bl _) Go.refl⟩
    | _ => exact q.elim
  | _ => exact q.elim
/-- a comparison that data answer -/
structure CmS (X : Cx) (g : G) (op : CmpOp) (b : Expr) (f : D → D → M D) : Prop where
  ex : ∃ r, OpR X (compareOp op) r ∧ OpS g r f ∧ behindInMarks op b = false
theorem cs_eq {b : Expr} (fx : Fx X g) : CmS X g .Eq b deq := ⟨_, op_eqD fx.u64, by rw [fx.k]; exact os_eq, nomark _⟩
theorem cs_ne {b : Expr} (fx : Fx X g) : CmS X g .NotEq b dne := ⟨_, op_neD fx.u64, by rw [fx.k]; exact os_ne, nomark _⟩
theorem cs_lt {b : Expr} : CmS X g .Lt b dlt := ⟨_, op_lt, os_cmp, nomark _⟩
theorem cs_le {b : Expr} : CmS X g .LtE b dle := ⟨_, op_le, os_cmp, nomark _⟩
theorem cs_gt {b : Expr} : CmS X g .Gt b dgt := ⟨_, op_gt, os_cmp, nomark _⟩
theorem cs_ge {b : Expr} : CmS X g .GtE b dge := ⟨_, op_ge, os_cmp, nomark _⟩
theorem se_cmp {a b : Expr} {op : CmpOp} {pos : Pos} {f h : M D} {c : D → D → M D} (hc : CmS X g op b c) (ha : SE X g a f) (hb : SE X g b h) : SE X g (.Compare a [op] [b] pos) (e2 c f h) := by
  obtain ⟨r, h1, h2, h3⟩ := hc.ex
  exact PE.imp (pe_cmpR h1 ha hb h3) (op_w h2)
/-- a truth value -/
def asB (f : M D) : M Bool := mb f fun d => match d with
  | .bl b => mr b
  | _ => mx
theorem test_w {f : M D} : ∀ σ H Q, bD g (asB f) σ H Q → tTest (tD g f) σ H Q := fun σ H Q q => by
  obtain ⟨os, ρ, t, A, q⟩ := q
  refine ⟨os, ρ, t, A, post_mono (post_bind q) (fun d ρ1 t1 q1 v H1 os1 A1 l1 s1 => ?_) fun _ _ _ _ h => h⟩
  cases l1 with
  | bl b => exact ⟨b, rfl, q1 H1 os1 A1 s1⟩
  | _ => exact q1.elim
theorem tTest_mono {t t' : TE} (h : ∀ σ H Q, t' σ H Q → t σ H Q) : ∀ σ H Q, tTest t' σ H Q → tTest t σ H Q := fun σ H Q q => h _ _ _ q
theorem st_cmp {a b : Expr} {op : CmpOp} {pos : Pos} {f h : M D} {c : D → D → M D} (hc : CmS X g op b c) (ha : SE X g a f) (hb : SE X g b h) : ST X g (.Compare a [op] [b] pos) (asB (e2 c f h)) := by
  obtain ⟨r, h1, h2, h3⟩ := hc.ex
  exact PT.imp (pt_cmpR h1 ha hb h3) fun σ H Q q => tTest_mono (op_w h2) σ H Q (test_w σ H Q q)
/-- a <= b <= c -/
def e3 (f1 f2 : D → D → M D) (a b c : M D) : M D := mb a fun x => mb b fun y => mb (f1 x y) fun z => match z with
  | .bl true => mb c fun w => f2 y w
  | .bl false => mr (.bl false)
  | _ => mx
theorem chain_w {r r' : R2} {f1 f2 : D → D → M D} {a b c : M D} (h1 : OpS g r f1) (h2 : OpS g r' f2) : ∀ σ H Q, tD g (e3 f1 f2 a b c) σ H Q → tChain r r' (tD g a) (tD g b) (tD g c) σ H Q := fun σ H Q q => by
  obtain ⟨os, ρ, t, A, q⟩ := q
  refine ⟨os, ρ, t, A, post_mono (post_bind q) (fun d ρ1 t1 q1 v H1 os1 A1 l1 s1 => ?_) fun _ _ _ _ h => h⟩
  refine ⟨os1, ρ1, t1, A1, post_mono (post_bind q1) (fun e ρ2 t2 q2 u H2 os2 A2 l2 s2 => ?_) fun _ _ _ _ h => h⟩
  refine h1 os2 σ H2 ρ2 t2 v u d e _ A2 (Ld.same (Go.s s2) l1) l2 (post_mono (post_bind q2) (fun z ρ3 t3 q3 w H3 os3 A3 l3 s3 => ?_) fun _ _ _ _ h => h)
  cases l3 with
  | bl b =>
    refine ⟨b, rfl, ?_⟩
    cases b with
    | true =>
      rw [if_pos rfl]
      refine ⟨os3, ρ3, t3, A3, post_mono (post_bind q3) (fun e' ρ4 t4 q4 w' H4 os4 A4 l4 s4 => ?_) fun _ _ _ _ h => h⟩
      exact h2 os4 σ H4 ρ4 t4 u w' e e' Q A4 (Ld.same (Go.s s4) (Ld.same (Go.s s3) l2)) l4 (post_mono q4 (fun z5 ρ5 t5 q5 w5 H5 os5 A5 l5 s5 => q5 w5 H5 os5 A5 l5 ((((s1.trans s2).trans s3).trans s4).trans s5)) fun _ _ _ _ h => h)
    | false =>
      rw [if_neg Bool.false_ne_true]
      exact q3 _ H3 os3 A3 (.bl _) ((s1.trans s2).trans s3)
  | _ => exact q3.elim
theorem se_chain {a b c : Expr} {op op' : CmpOp} {pos : Pos} {f h k : M D} {c1 c2 : D → D → M D} (hc : CmS X g op b c1) (hc' : CmS X g op' c c2) (ha : SE X g a f) (hb : SE X g b h) (hcc : SE X g c k) (hm : lastMarks [op, op'] [b, c] = false := by with_unfolding_all rfl) :
    SE X g (.Compare a [op, op'] [b, c] pos) (e3 c1 c2 f h k) := by
  obtain ⟨r, h1, h2, h3⟩ := hc.ex
  obtain ⟨r', h4, h5, h6⟩ := hc'.ex
  exact PE.imp (pe_chain h1 h4 ha hb hcc hm) (chain_w h2 h5)
theorem st_chain {a b c : Expr} {op op' : CmpOp} {pos : Pos} {f h k : M D} {c1 c2 : D → D → M D} (hc : CmS X g op b c1) (hc' : CmS X g op' c c2) (ha : SE X g a f) (hb : SE X g b h) (hcc : SE X g c k) (hm : lastMarks [op, op'] [b, c] = false := by with_unfolding_all rfl) :
    ST X g (.Compare a [op, op'] [b, c] pos) (asB (e3 c1 c2 f h k)) := by
  obtain ⟨r, h1, h2, h3⟩ := hc.ex
  obtain ⟨r', h4, h5, h6⟩ := hc'.ex
  exact PT.imp (pt_chain h1 h4 ha hb hcc hm) fun σ H Q q => tTest_mono (chain_w h2 h5) σ H Q (test_w σ H Q q)
end
end DL

set_option Elab.async false
set_option linter.all false
set_option maxRecDepth 100000
set_option maxHeartbeats 1000000
namespace DL
open PySem PySem.Spec PyProof.Rows L2
/-! ### none, truth, and, or, not, if -/
def isNon : D → Bool
  | .non => true
  | _ => false
def enon (f : M D) : M D := mb f fun d => mr (.bl (isNon d))
def enno (f : M D) : M D := mb f fun d => mr (.bl (!isNon d))
section
variable {X : Cx} {g : G}
theorem Ld.non_iff {c : Ct} {H : Hp} {v : V} {d : D} (h : Ld c H v d) : decide (v = .non) = isNon d := by
  cases h <;> rfl
theorem non_w {f : M D} : ∀ σ H Q, tD g (enon f) σ H Q → tIsN (tD g f) σ H Q := fun σ H Q q => by
  obtain ⟨os, ρ, t, A, q⟩ := q
  refine ⟨os, ρ, t, A, post_mono (post_bind q) (fun d ρ1 t1 q1 v H1 os1 A1 l1 s1 => ?_) fun _ _ _ _ h => h⟩
  show Q (.bl (decide (v = .non))) H1
  rw [l1.non_iff]
  exact q1 _ H1 os1 A1 (.bl _) s1
theorem nno_w {f : M D} : ∀ σ H Q, tD g (enno f) σ H Q → tNotN (tD g f) σ H Q := fun σ H Q q => by
  obtain ⟨os, ρ, t, A, q⟩ := q
  refine ⟨os, ρ, t, A, post_mono (post_bind q) (fun d ρ1 t1 q1 v H1 os1 A1 l1 s1 => ?_) fun _ _ _ _ h => h⟩
  show Q (.bl (!decide (v = .non))) H1
  rw [l1.non_iff]
  exact q1 _ H1 os1 A1 (.bl _) s1
theorem se_isN {a : Expr} {pos pos' : Pos} {j} {f : M D} (ha : SE X g a f) : SE X g (.Compare a [.Is] [.Constant .none j pos'] pos) (enon f) := PE.imp (pe_cmp (pc_isN ha)) non_w
theorem se_noN {a : Expr} {pos pos' : Pos} {j} {f : M D} (ha : SE X g a f) : SE X g (.Compare a [.IsNot] [.Constant .none j pos'] pos) (enno f) := PE.imp (pe_cmp (pc_notN ha)) nno_w
theorem st_isN {a : Expr} {pos pos' : Pos} {j} {f : M D} (ha : SE X g a f) : ST X g (.Compare a [.Is] [.Constant .none j pos'] pos) (asB (enon f)) :=
  PT.imp (pt_cmp (pc_isN ha)) fun σ H Q q => tTest_mono non_w σ H Q (test_w σ H Q q)
theorem st_noN {a : Expr} {pos pos' : Pos} {j} {f : M D} (ha : SE X g a f) : ST X g (.Compare a [.IsNot] [.Constant .none j pos'] pos) (asB (enno f)) :=
  PT.imp (pt_cmp (pc_notN ha)) fun σ H Q q => tTest_mono nno_w σ H Q (test_w σ H Q q)
/-- what a value is worth as a test -/
def truth : D → Option Bool
  | .non => some false
  | .bl b => some b
  | .int i => some (i != 0)
  | .str s => if s.length ≤ lim then some ((s.length : Int) != 0) else none
  | .lst xs => some (!xs.isEmpty)
  | .tup xs => some (!xs.isEmpty)
  | .dct _ _ => none
  | .obj _ _ _ => none
theorem LdA.empty {c : Ct} {H : Hp} {vs : List V} {ds : List D} (h : LdA c H vs ds) : vs.isEmpty = ds.isEmpty := by
  cases h <;> rfl
theorem Lay.tru {os : List Addr} {H : Hp} {v : V} {d : D} {b : Bool} (h : Lay g os H v d) (e : truth d = some b) : TruV g.c.K v H b := by
  cases h with
  | non => exact (Option.some.inj e).symm
  | bl b => exact (Option.some.inj e).symm
  | int i => exact (Option.some.inj e).symm
  | str s =>
    have e : (if s.length ≤ lim then some ((s.length : Int) != 0) else none) = some b := e
    by_cases c : s.length ≤ lim
    · rw [if_pos c] at e
      exact ⟨lim_le c, (Option.some.inj e).symm⟩
    · rw [if_neg c] at e; cases e
  | lst h a => exact .inl ⟨_, SqL.of (msk_le _ _ h), by rw [a.empty]; exact (Option.some.inj e).symm⟩
  | tup h a => exact .inr (.inl ⟨_, Lay.seqT h, by rw [a.empty]; exact (Option.some.inj e).symm⟩)
  | dct h a b => cases e
  | dctT h a b k z => cases e
  | obj h c a => cases e
def eand (f h : M D) : M D := mb f fun d => match truth d with
  | some true => h
  | some false => mr d
  | none => mx
def eor (f h : M D) : M D := mb f fun d => match truth d with
  | some false => h
  | some true => mr d
  | none => mx
def enot (f : M D) : M D := mb f fun d => match truth d with
  | some b => mr (.bl (!b))
  | none => mx
theorem and_w {f h : M D} : ∀ σ H Q, tD g (eand f h) σ H Q → tAndT g.c.K (tD g f) (tD g h) σ H Q := fun σ H Q q => by
  obtain ⟨os, ρ, t, A, q⟩ := q
  refine ⟨os, ρ, t, A, post_mono (post_bind q) (fun d ρ1 t1 q1 v H1 os1 A1 l1 s1 => ?_) fun _ _ _ _ h => h⟩
  cases e : truth d with
  | none => simp only [e] at q1; exact q1.elim
  | some b =>
    simp only [e] at q1
    refine ⟨b, l1.tru e, ?_⟩
    cases b with
    | true =>
      rw [if_pos rfl]
      exact ⟨os1, ρ1, t1, A1, post_mono q1 (fun z ρ2 t2 q2 w H2 os2 A2 l2 s2 => q2 w H2 os2 A2 l2 (s1.trans s2)) fun _ _ _ _ h => h⟩
    | false =>
      rw [if_neg Bool.false_ne_true]
      exact q1 _ H1 os1 A1 l1 s1
theorem or_w {f h : M D} : ∀ σ H Q, tD g (eor f h) σ H Q → tOrT g.c.K (tD g f) (tD g h) σ H Q := fun σ H Q q => by
  obtain ⟨os, ρ, t, A, q⟩ := q
  refine ⟨os, ρ, t, A, post_mono (post_bind q) (fun d ρ1 t1 q1 v H1 os1 A1 l1 s1 => ?_) fun _ _ _ _ h => h⟩
  cases e : truth d with
  | none => simp only [e] at q1; exact q1.elim
  | some b =>
    simp only [e] at q1
    refine ⟨b, l1.tru e, ?_⟩
    cases b with
    | true =>
      rw [if_pos rfl]
      exact q1 _ H1 os1 A1 l1 s1
    | false =>
      rw [if_neg Bool.false_ne_true]
      exact ⟨os1, ρ1, t1, A1, post_mono q1 (fun z ρ2 t2 q2 w H2 os2 A2 l2 s2 => q2 w H2 os2 A2 l2 (s1.trans s2)) fun _ _ _ _ h => h⟩
theorem not_w {f : M D} : ∀ σ H Q, tD g (enot f) σ H Q → tNotT g.c.K (tD g f) σ H Q := fun σ H Q q => by
  obtain ⟨os, ρ, t, A, q⟩ := q
  refine ⟨os, ρ, t, A, post_mono (post_bind q) (fun d ρ1 t1 q1 v H1 os1 A1 l1 s1 => ?_) fun _ _ _ _ h => h⟩
  cases e : truth d with
  | none => simp only [e] at q1; exact q1.elim
  | some b =>
    simp only [e] at q1
    exact ⟨b, l1.tru e, q1 _ H1 os1 A1 (.bl _) s1⟩
theorem se_one {op : BoolOp} {a : Expr} {pos : Pos} {f : M D} (ha : SE X g a f) : SE X g (.BoolOp op [a] pos) f := pe_one ha
theorem se_and {a b : Expr} {rest : List Expr} {pos : Pos} {f h : M D} (fx : Fx X g) (ha : SE X g a f) (hb : SE X g (.BoolOp .And (b :: rest) pos) h) : SE X g (.BoolOp .And (a :: b :: rest) pos) (eand f h) :=
  PE.imp (pe_andT ha hb) (by rw [fx.k]; exact and_w)
theorem se_or {a b : Expr} {rest : List Expr} {pos : Pos} {f h : M D} (fx : Fx X g) (ha : SE X g a f) (hb : SE X g (.BoolOp .Or (b :: rest) pos) h) : SE X g (.BoolOp .Or (a :: b :: rest) pos) (eor f h) :=
  PE.imp (pe_orT ha hb) (by rw [fx.k]; exact or_w)
theorem se_not {a : Expr} {pos : Pos} {f : M D} (fx : Fx X g) (ha : SE X g a f) : SE X g (.UnaryOp .Not a pos) (enot f) := PE.imp (pe_notT ha) (by rw [fx.k]; exact not_w)
/-! tests -/
abbrev SW (X : Cx) (g : G) (e : Expr) (f : M Bool) : Prop := PW X e (bD g f)
def btru (f : M D) : M Bool := mb f fun d => match truth d with
  | some b => mr b
  | none => mx
theorem st_val {a : Expr} {f : M D} (fx : Fx X g) (ha : SE X g a f) (he : ∀ whole, isTrue a X.env whole = (do let v ← whole; standAt a.pos; holding [v] (truthy v)) := by intro _; rfl) : ST X g a (btru f) :=
  PT.imp (pt_truth ha he) fun σ H Q q => by
    obtain ⟨os, ρ, t, A, q⟩ := q
    refine ⟨os, ρ, t, A, post_mono (post_bind q) (fun d ρ1 t1 q1 v H1 os1 A1 l1 s1 => ?_) fun _ _ _ _ h => h⟩
    cases e : truth d with
    | none => simp only [e] at q1; exact q1.elim
    | some b =>
      simp only [e] at q1
      exact ⟨b, by rw [fx.k]; exact l1.tru e, q1 H1 os1 A1 s1⟩
def band (f h : M Bool) : M Bool := mb f fun b => if b = true then h else mr false
def bor (f h : M Bool) : M Bool := mb f fun b => if b = true then mr true else h
def bnot (f : M Bool) : M Bool := mb f fun b => mr (!b)
theorem sw_and1 {a : Expr} {pos : Pos} {f : M Bool} (ha : ST X g a f) : SW X g (.BoolOp .And [a] pos) f := pw_and1 ha
theorem sw_or1 {a : Expr} {pos : Pos} {f : M Bool} (ha : ST X g a f) : SW X g (.BoolOp .Or [a] pos) f := pw_or1 ha
theorem sw_and {a b : Expr} {rest : List Expr} {pos : Pos} {f h : M Bool} (ha : ST X g a f) (hb : SW X g (.BoolOp .And (b :: rest) pos) h) : SW X g (.BoolOp .And (a :: b :: rest) pos) (band f h) :=
  PW.imp (pw_and ha hb) fun σ H Q q => by
    obtain ⟨os, ρ, t, A, q⟩ := q
    refine ⟨os, ρ, t, A, post_mono (post_bind q) (fun b ρ1 t1 q1 H1 os1 A1 s1 => ?_) fun _ _ _ _ h => h⟩
    rcases post_if q1 with ⟨c, q1⟩ | ⟨c, q1⟩
    · rw [if_pos c]
      exact ⟨os1, ρ1, t1, A1, post_mono q1 (fun z ρ2 t2 q2 H2 os2 A2 s2 => q2 H2 os2 A2 (s1.trans s2)) fun _ _ _ _ h => h⟩
    · rw [if_neg c]
      exact q1 H1 os1 A1 s1
theorem sw_or {a b : Expr} {rest : List Expr} {pos : Pos} {f h : M Bool} (ha : ST X g a f) (hb : SW X g (.BoolOp .Or (b :: rest) pos) h) : SW X g (.BoolOp .Or (a :: b :: rest) pos) (bor f h) :=
  PW.imp (pw_or ha hb) fun σ H Q q => by
    obtain ⟨os, ρ, t, A, q⟩ := q
    refine ⟨os, ρ, t, A, post_mono (post_bind q) (fun b ρ1 t1 q1 H1 os1 A1 s1 => ?_) fun _ _ _ _ h => h⟩
    rcases post_if q1 with ⟨c, q1⟩ | ⟨c, q1⟩
    · rw [if_pos c]
      exact q1 H1 os1 A1 s1
    · rw [if_neg c]
      exact ⟨os1, ρ1, t1, A1, post_mono q1 (fun z ρ2 t2 q2 H2 os2 A2 s2 => q2 H2 os2 A2 (s1.trans s2)) fun _ _ _ _ h => h⟩
theorem st_w {e : Expr} {f : M Bool} (h : SW X g e f) : ST X g e f := PW.pt h
theorem st_not {a : Expr} {pos : Pos} {f : M Bool} (ha : ST X g a f) : ST X g (.UnaryOp .Not a pos) (bnot f) :=
  PT.imp (pt_not ha) fun σ H Q q => by
    obtain ⟨os, ρ, t, A, q⟩ := q
    exact ⟨os, ρ, t, A, post_mono (post_bind q) (fun b ρ1 t1 q1 H1 os1 A1 s1 => q1 H1 os1 A1 s1) fun _ _ _ _ h => h⟩
def eif (c : M Bool) (f h : M D) : M D := mb c fun b => if b = true then f else h
theorem se_if {c a b : Expr} {pos : Pos} {k : M Bool} {f h : M D} (hc : ST X g c k) (ha : SE X g a f) (hb : SE X g b h) : SE X g (.IfExp c a b pos) (eif k f h) :=
  PE.imp (pe_ifExp hc ha hb) fun σ H Q q => by
    obtain ⟨os, ρ, t, A, q⟩ := q
    refine ⟨os, ρ, t, A, post_mono (post_bind q) (fun b ρ1 t1 q1 H1 os1 A1 s1 => ?_) fun _ _ _ _ h => h⟩
    rcases post_if q1 with ⟨c, q1⟩ | ⟨c, q1⟩
    · rw [if_pos c]
      exact ⟨os1, ρ1, t1, A1, post_mono q1 (fun z ρ2 t2 q2 w H2 os2 A2 l2 s2 => q2 w H2 os2 A2 l2 (s1.trans s2)) fun _ _ _ _ h => h⟩
    · rw [if_neg c]
      exact ⟨os1, ρ1, t1, A1, post_mono q1 (fun z ρ2 t2 q2 w H2 os2 A2 l2 s2 => q2 w H2 os2 A2 l2 (s1.trans s2)) fun _ _ _ _ h => h⟩
/-! ### displays -/
def anil : M (List D) := mr []
def acons (f : M D) (h : M (List D)) : M (List D) := mb f fun x => mb h fun xs => mr (x :: xs)
theorem sa_nil : SA X g [] anil := PA.imp pa_nil fun σ H Q q => by
  obtain ⟨os, ρ, t, A, q⟩ := q
  exact q [] H os A .nil Go.refl
theorem sa_cons {e : Expr} {es : List Expr} {f : M D} {h : M (List D)} (he : SE X g e f) (hs : SA X g es h) (hst : starEach (e :: es) X.env = (false, eval e X.env) :: starEach es X.env := by rfl) : SA X g (e :: es) (acons f h) :=
  PA.imp (pa_cons he hs hst) fun σ H Q q => by
    obtain ⟨os, ρ, t, A, q⟩ := q
    refine ⟨os, ρ, t, A, post_mono (post_bind q) (fun d ρ1 t1 q1 v H1 os1 A1 l1 s1 => ?_) fun _ _ _ _ h => h⟩
    exact ⟨os1, ρ1, t1, A1, post_mono (post_bind q1) (fun ds ρ2 t2 q2 vs H2 os2 A2 l2 s2 => q2 (v :: vs) H2 os2 A2 (.cons (Ld.same (Go.s s2) l1) l2) (s1.trans s2)) fun _ _ _ _ h => h⟩
def etup (h : M (List D)) : M D := mb h fun ds => if ds.length ≤ lim then mr (.tup ds) else mx
def elst (h : M (List D)) : M D := mb h fun ds => if ds.length ≤ lim then mr (.lst ds) else mx
theorem se_tup {es : List Expr} {x1} {pos : Pos} {h : M (List D)} (hs : SA X g es h) : SE X g (.Tuple es x1 pos) (etup h) :=
  PE.imp (pe_tup hs) fun σ H Q q => by
    obtain ⟨os, ρ, t, A, q⟩ := q
    refine ⟨os, ρ, t, A, post_mono (post_bind q) (fun ds ρ1 t1 q1 vs H1 os1 A1 l1 s1 => ?_) fun _ _ _ _ h => h⟩
    rcases post_if q1 with ⟨c, q1⟩ | ⟨c, q1⟩
    · refine ⟨lim_le (by rw [l1.len]; exact c), fun p hp => ?_⟩
      obtain ⟨A2, h2, s2⟩ := lay_new (o := .tup vs) A1 hp
      exact q1 _ _ os1 A2 (.tup (SqT.of h2) (LdA.same (Go.s s2) l1)) (s1.trans s2)
    · exact q1.elim
/-- the owned becomes what stays -/
theorem Amb.drop {os : List Addr} {σ : L2.St} {H : Hp} {ρ : List Sl} {t : Pn} {p : Addr} (A : Amb g (p :: os) σ H ρ t) (n : NOw σ ρ p) : Amb g os σ H ρ t where
  len := A.len
  sl := fun i sx e => by
    have q := A.sl i sx e
    cases sx with
    | un => trivial
    | im d => obtain ⟨v, h1, h2⟩ := q; exact ⟨v, h1, Ld.same hd_drop h2⟩
    | bo d => obtain ⟨a, h1, h2, h3, h4⟩ := q; exact ⟨a, h1, h2.same hd_drop (fun _ z => z), h3, h4⟩
    | ow d =>
      obtain ⟨a, h1, h2, h3⟩ := q
      refine ⟨a, h1, ?_, h3.same hd_drop fun _ z => z⟩
      rcases List.mem_cons.mp h2 with z | z
      · exact absurd (by rw [h1, z]) (n i d e)
      · exact z
    | pn => exact q
    | sf ns vs => obtain ⟨x, C, dx, fs, h1, h2, h3, h4, h5⟩ := q; exact ⟨x, C, dx, fs, h1, h2, h3, h4, LdA.same hd_drop h5⟩
  dis := A.dis
  pres := A.pres
  new := fun a ha => A.new a (List.mem_cons_of_mem _ ha)
  live := fun a ha => A.live a (by
    rcases List.mem_append.mp ha with z | z
    · exact List.mem_append_left _ z
    · exact List.mem_append_right _ (List.mem_cons_of_mem _ z))
  slf := A.slf
  o0 := A.o0
  pen := A.pen
theorem own_lay {os : List Addr} {H : Hp} {p : Addr} {d : D} (h : Own g (p :: os) H p d) (n : p ∉ mo g os) : Lay g os H (.ref p) d := by
  have at_ : ∀ {o : HO}, H p = some o → hd g os H p = some o := fun {o} e => by rw [show hd g os H p = H p from msk_out n]; exact e
  cases d with
  | lst ds => obtain ⟨vs, h1, h2⟩ := h; exact .lst (at_ h1) (LdA.same hd_drop h2)
  | dct kd vd =>
    rcases h with ⟨kvs, h1, h2, h3⟩ | ⟨xs, h1, h2, h3, h4, h5, _⟩
    · exact .dct (at_ h1) (LdA.same hd_drop h2) (LdA.same hd_drop h3)
    · exact .dctT (at_ h1) (LdA.same hd_drop h2) h3 h4 (LdA.same hd_drop h5)
  | _ => exact h.elim
theorem se_of {e : Expr} {f : M D} (h : SF X g e f) : SE X g e f := PE.imp h fun σ H Q q => by
  obtain ⟨os, ρ, t, A, q⟩ := q
  exact ⟨os, ρ, t, A, post_mono q (fun d ρ1 t1 q1 p H1 os1 A1 o1 n1 w1 s1 => q1 _ H1 os1 (A1.drop w1) (own_lay o1 n1.1) (s1.drop A n1.2)) fun _ _ _ _ h => h⟩
/-- a fresh object is owned -/
theorem own_new {os : List Addr} {σ : L2.St} {H : Hp} {ρ : List Sl} {t : Pn} {p : Addr} {o : HO} (A : Amb g os σ H ρ t) (h : H p = none) :
    Amb g (p :: os) σ (upd H p o) ρ t ∧ p ∉ mo g os ∧ NOw σ ρ p ∧ Go g os H (p :: os) (upd H p o) := by
  refine ⟨A.own h, A.fresh h, fun i d e z => ?_, Go.own A h⟩
  obtain ⟨a, h1, h2, h3⟩ := A.sl i _ e
  have e1 := h1.symm.trans z
  cases e1
  obtain ⟨o', e'⟩ := A.live _ (List.mem_append_right _ h2)
  rw [h] at e'
  cases e'
theorem sf_lst {es : List Expr} {pos : Pos} {h : M (List D)} (hs : SA X g es h) : SF X g (.List es pos) (elst h) :=
  PE.imp (pe_lst hs) fun σ H Q q => by
    obtain ⟨os, ρ, t, A, q⟩ := q
    refine ⟨os, ρ, t, A, post_mono (post_bind q) (fun ds ρ1 t1 q1 vs H1 os1 A1 l1 s1 => ?_) fun _ _ _ _ h => h⟩
    rcases post_if q1 with ⟨c, q1⟩ | ⟨c, q1⟩
    · refine ⟨lim_le (by rw [l1.len]; exact c), fun p hp => ?_⟩
      obtain ⟨A2, n2, w2, s2⟩ := own_new (o := .lst vs) A1 hp
      exact q1 p _ os1 A2 ⟨vs, upd_same, LdA.same (Go.s s2) l1⟩ ⟨n2, s1.none A1 hp⟩ w2 (s1.trans s2)
    · exact q1.elim
theorem sf_dnew {pos : Pos} : SF X g (.Dict [] [] pos) (mr (.dct [] [])) := PE.imp pe_dnewK fun σ H Q q => by
  obtain ⟨os, ρ, t, A, q⟩ := q
  intro p hp
  obtain ⟨A2, n2, w2, s2⟩ := own_new (o := .dK []) A hp
  exact q p _ os A2 (.inl ⟨[], upd_same, .nil, .nil⟩) ⟨n2, hp⟩ w2 s2
end
end DL

set_option Elab.async false
set_option linter.all false
set_option maxRecDepth 100000
set_option maxHeartbeats 1000000
namespace DL
open PySem PySem.Spec PyProof.Rows L2
/-! ### dicts: looking up -/
def dlook : List D → List D → NestedKey → Option D
  | k :: ks, v :: vs, n => if nk k = n then some v else dlook ks vs n
  | _, _, _ => none
/-- are these keys of the kind of k -/
def sameKind (ks : List D) (k : D) : Bool := match kkind k with
  | none => false
  | some b => ks.all fun d => decide (kkind d = some b)
section
variable {c : Ct} {H : Hp} {X : Cx} {g : G}
theorem nk_key {k : Key} {d : D} (h : Ld c H (kV k) d) : (∃ i, k = .inl i ∧ d = .int i) ∨ ∃ s, k = .inr s ∧ d = .str s := by
  cases k with
  | inl i => cases h; exact .inl ⟨i, rfl, rfl⟩
  | inr s => cases h; exact .inr ⟨s, rfl, rfl⟩
theorem nk_inj {k k' : Key} {d d' : D} (h : Ld c H (kV k) d) (h' : Ld c H (kV k') d') : nk d = nk d' ↔ k = k' := by
  rcases nk_key h with ⟨i, rfl, rfl⟩ | ⟨s, rfl, rfl⟩ <;> rcases nk_key h' with ⟨j, rfl, rfl⟩ | ⟨r, rfl, rfl⟩ <;> simp [nk, nkS]
theorem look_k : ∀ {kvs : List (Key × V)} {kd vd : List D}, LdA c H (kvs.map fun q => kV q.1) kd → LdA c H (kvs.map (·.2)) vd → ∀ {k : Key} {d : D}, Ld c H (kV k) d →
    (valV kvs k = none ∧ dlook kd vd (nk d) = none) ∨ ∃ v z, valV kvs k = some v ∧ dlook kd vd (nk d) = some z ∧ Ld c H v z
  | [], _, _, .nil, .nil, _, _, _ => .inl ⟨rfl, rfl⟩
  | q :: kvs, _, _, .cons h0 a, .cons h1 b, k, d, h => by
    by_cases e : q.1 = k
    · refine .inr ⟨q.2, _, valV_pos e, ?_, h1⟩
      exact if_pos ((nk_inj h0 h).mpr e)
    · rw [valV_neg e]
      have ih := look_k a b h
      have e' : ¬ nk _ = nk d := fun z => e ((nk_inj h0 h).mp z)
      rw [dlook, if_neg e']
      exact ih
theorem look_t : ∀ {xs : List (NestedKey × Addr × V)} {kd vd : List D}, xs.map (·.1) = kd.map nk → LdA c H (xs.map (·.2.2)) vd → ∀ (n : NestedKey),
    ((xs.find? fun x => decide (x.1 = n)) = none ∧ dlook kd vd n = none) ∨ ∃ x z, (xs.find? fun x => decide (x.1 = n)) = some x ∧ dlook kd vd n = some z ∧ Ld c H x.2.2 z
  | [], [], _, _, .nil, _ => .inl ⟨rfl, rfl⟩
  | [], _ :: _, _, e, _, _ => by cases e
  | _ :: _, [], _, e, _, _ => by cases e
  | x :: xs, k :: kd, _, e, .cons h1 b, n => by
    rw [List.map_cons, List.map_cons] at e
    obtain ⟨e1, e2⟩ := List.cons.inj e
    by_cases z : x.1 = n
    · refine .inr ⟨x, _, by rw [List.find?_cons, decide_eq_true z], ?_, h1⟩
      exact if_pos (e1.symm.trans z)
    · rw [List.find?_cons, decide_eq_false z, dlook, if_neg (fun y => z (e1.trans y))]
      exact look_t e2 b n
/-! the layer below -/
theorem nested_S {h : Heap} {v : V} {u : Value} {d : D} (l : Ld c H v d) (r : RelV v u) (hk : isS d = true) : NestedIs h (nkS d) u := by
  cases l with
  | non => cases r; exact .none
  | bl b => cases r; exact .bool rfl
  | int i => obtain ⟨t, rfl⟩ := r; exact .int i t
  | str s => obtain ⟨t, rfl⟩ := r; exact .text s t
  | _ => cases hk
theorem nested_all {h : Heap} : ∀ {vs : List V} {us : List Value} {ds : List D}, LdA c H vs ds → Vals vs us → ds.all isS = true → NestedAll h (ds.map nkS) us
  | _, _, _, .nil, .nil, _ => .nil
  | _, _, _, .cons l a, .cons r t, hk => by
    rw [List.all_cons, Bool.and_eq_true] at hk
    exact .cons (nested_S l r hk.1) (nested_all a t hk.2)
theorem depthS : ∀ ds : List D, NestedKey.depthAll (ds.map nkS) ≤ 1
  | [] => by simp [NestedKey.depthAll]
  | d :: ds => by
    have := depthS ds
    cases d <;> simp [nkS, NestedKey.depthAll, NestedKey.depth] <;> omega
/-- a tuple is a key -/
theorem tup_key {pins : List (Addr × Obj)} {σ : L2.St} {s : Shared} {v : V} {d : D} (I : Inv X pins σ H s) (hc : c.K = X.K) (l : Ld c H v d) (hk : kkind d = some true) : ∃ b, v = .ref b ∧ (nestedKind X.prog X.w).is s.heap (nk d) b := by
  cases l with
  | tup h a =>
    rename_i b xs ds
    by_cases z : ds.all isS = true
    · rw [hc] at h
      obtain ⟨its, r, ⟨o, h1, h2, n, h3⟩, _⟩ := I.tuple h
      refine ⟨b, rfl, .tup h1 h2 h3 (by simpa using nested_all a r z), ?_⟩
      have := depthS ds
      simp only [nk, NestedKey.depth]
      omega
    · have hk : (if ds.all isS = true then some true else none) = some true := hk
      rw [if_neg z] at hk; cases hk
  | _ => cases hk
theorem tup_keys {pins : List (Addr × Obj)} {σ : L2.St} {s : Shared} (I : Inv X pins σ H s) (hc : c.K = X.K) : ∀ {xs : List (NestedKey × Addr × V)} {kd : List D}, LdA c H (xs.map fun q => V.ref q.2.1) kd → xs.map (·.1) = kd.map nk → (kd.all fun d => decide (kkind d = some true)) = true →
    ∀ x ∈ xs, (nestedKind X.prog X.w).is s.heap x.1 x.2.1
  | [], _, _, _, _, x, hx => by cases hx
  | q :: xs, _, .cons l a, e, hk, x, hx => by
    rw [List.map_cons, List.map_cons] at e
    obtain ⟨e1, e2⟩ := List.cons.inj e
    rw [List.all_cons, Bool.and_eq_true] at hk
    rcases List.mem_cons.mp hx with rfl | hx
    · obtain ⟨b, e3, e4⟩ := tup_key I hc l (of_decide_eq_true hk.1)
      cases e3
      rw [e1]; exact e4
    · exact tup_keys I hc a e2 hk.2 x hx
theorem td_of {pins : List (Addr × Obj)} {σ : L2.St} {s : Shared} {a : Addr} {xs : List (NestedKey × Addr × V)} (I : Inv X pins σ H s) (h : H a = some (tdO X.w a xs)) : tdPhi X.w a xs s.heap := by
  have q : ObjOk X.prog X.w H s.heap a (.ext (tdPhi X.w a xs)) := I.hok a _ h
  exact q.1
theorem paired_mem {α β : Type} {F : α → β → Prop} : ∀ {xs : List α} {ys : List β}, Paired F xs ys → ∀ y ∈ ys, ∃ x ∈ xs, F x y
  | _, _, .nil, y, hy => by cases hy
  | _, _, .cons r t, y, hy => by
    rcases List.mem_cons.mp hy with rfl | hy
    · exact ⟨_, List.mem_cons_self, r⟩
    · obtain ⟨x, h1, h2⟩ := paired_mem t y hy
      exact ⟨x, List.mem_cons_of_mem _ h1, h2⟩
abbrev PT3 : List (NestedKey × Addr × V) → List (NestedKey × Addr × Value) → Prop := Paired fun p q => p.1 = q.1 ∧ p.2.1 = q.2.1 ∧ RelV p.2.2 q.2.2
theorem pt3_keys : ∀ {xs : List (NestedKey × Addr × V)} {ys : List (NestedKey × Addr × Value)}, PT3 xs ys → xs.map (·.1) = ys.map (·.1)
  | _, _, .nil => rfl
  | _, _, .cons r t => by rw [List.map_cons, List.map_cons, r.1, pt3_keys t]
theorem pt3_find : ∀ {xs : List (NestedKey × Addr × V)} {ys : List (NestedKey × Addr × Value)}, PT3 xs ys → ∀ n : NestedKey,
    ((xs.find? fun x => decide (x.1 = n)) = none ∧ atKey ys n = none) ∨ ∃ x p, (xs.find? fun x => decide (x.1 = n)) = some x ∧ atKey ys n = some p ∧ RelV x.2.2 p.2
  | _, _, .nil, _ => .inl ⟨rfl, rfl⟩
  | _, _, .cons (b := y) r t, n => by
    rename_i x xs ys
    by_cases z : x.1 = n
    · refine .inr ⟨x, y.2, by rw [List.find?_cons, decide_eq_true z], ?_, r.2.2⟩
      unfold atKey
      rw [List.find?_cons, decide_eq_true (r.1.symm.trans z)]
      rfl
    · have e : atKey (y :: ys) n = atKey ys n := by
        unfold atKey
        rw [List.find?_cons, decide_eq_false (fun q => z (r.1.trans q))]
      rw [List.find?_cons, decide_eq_false z, e]
      exact pt3_find t n
/-- the dict as the library has it -/
theorem td_dict {pins : List (Addr × Obj)} {σ : L2.St} {s : Shared} {a : Addr} {xs : List (NestedKey × Addr × V)} (I : Inv X pins σ H s) (h : H a = some (tdO X.w a xs)) (hk : ∀ x ∈ xs, (nestedKind X.prog X.w).is s.heap x.1 x.2.1) :
    xs.length ≤ sizeLine ∧ (a == sysModules) = false ∧ ∃ ys, PT3 xs ys ∧ s.heap.DictOfH (nestedKind X.prog X.w) a ys := by
  obtain ⟨h1, h2, h3, ys, h4, o, es, ep, h5, h6, h7, h8⟩ := td_of I h
  refine ⟨h1, h2, ys, h4, o, es, ep, h5, h6, h7, h8, fun y hy => ?_, by rw [← pt3_keys h4]; exact h3⟩
  obtain ⟨x, hx, e1, e2, _⟩ := paired_mem h4 y hy
  rw [← e1, ← e2]
  exact hk x hx
/-- d[k], there -/
def rTG (c : Ct) : R2 := fun x y H Q => ∃ a xs kd d x0, x = .ref a ∧ H a = some (tdO c.w a xs) ∧ LdA c H (xs.map fun q => V.ref q.2.1) kd ∧ xs.map (·.1) = kd.map nk ∧ (kd.all fun d => decide (kkind d = some true)) = true ∧
  Ld c H y d ∧ kkind d = some true ∧ (xs.find? fun x => decide (x.1 = nk d)) = some x0 ∧ Q x0.2.2 H
theorem ix_td (hc : c.K = X.K) (hw : c.w = X.w) (hu : X.A.units + 60 < cLine) : IxR X (rTG c) := by
  intro value slice pins s σ H x y v u Q I rx ry h hs
  obtain ⟨a, xs, kd, d, x0, rfl, h1, h2, h3, h4, h6, h7, h8, q⟩ := h
  cases rx
  obtain ⟨b, rfl, hb⟩ := tup_key I hc h6 h7
  cases ry
  rw [hw] at h1
  obtain ⟨k1, k2, ys, k3, k4⟩ := td_dict I h1 (tup_keys I hc h2 h3 h4)
  rcases pt3_find k3 (nk d) with ⟨e, _⟩ | ⟨x', p, e4, e5, e6⟩
  · rw [h8] at e; cases e
  · rw [h8] at e4; cases e4
    refine subscriptTail_builtinR (x := p.2) k4.typeIs PySem.F.slot_dict_getitem.lookup ?_ hs
    exact wpAny_getItem_heap (show (nestedKind X.prog X.w).room X.A.in1 from by show X.A.units + 1 + 8 < cLine; omega) hb k4 e5 ⟨rfl, x0.2.2, H, I.tok _, e6, q⟩
/-- k in d, k not in d -/
def rTI (c : Ct) (neg : Bool) : R2 := fun y x H Q => ∃ a xs kd d, x = .ref a ∧ H a = some (tdO c.w a xs) ∧ LdA c H (xs.map fun q => V.ref q.2.1) kd ∧ xs.map (·.1) = kd.map nk ∧ (kd.all fun d => decide (kkind d = some true)) = true ∧
  Ld c H y d ∧ kkind d = some true ∧ Q (.bl (if neg = true then !(xs.find? fun x => decide (x.1 = nk d)).isSome else (xs.find? fun x => decide (x.1 = nk d)).isSome)) H
theorem pt3_some {xs : List (NestedKey × Addr × V)} {ys : List (NestedKey × Addr × Value)} (h : PT3 xs ys) (n : NestedKey) : (atKey ys n).isSome = (xs.find? fun x => decide (x.1 = n)).isSome := by
  rcases pt3_find h n with ⟨e1, e2⟩ | ⟨x, p, e1, e2, _⟩ <;> rw [e1, e2] <;> rfl
theorem in_td (hc : c.K = X.K) (hw : c.w = X.w) (hu : X.A.units + 60 < cLine) : OpR X (compareOp .In) (rTI c false) := by
  intro pins s σ H y x u v Q I ry rx h
  obtain ⟨a, xs, kd, d, rfl, h1, h2, h3, h4, h6, h7, q⟩ := h
  cases rx
  obtain ⟨b, rfl, hb⟩ := tup_key I hc h6 h7
  cases ry
  rw [hw] at h1
  obtain ⟨k1, k2, ys, k3, k4⟩ := td_dict I h1 (tup_keys I hc h2 h3 h4)
  refine in_keyed (show (nestedKind X.prog X.w).room X.A.in1 from by show X.A.units + 1 + 8 < cLine; omega) hb k2 ⟨ys, k4, rfl⟩ ?_
  rw [valueAt_pairsH, Option.isSome_map, pt3_some k3]
  exact ⟨.bl _, H, I.tok _, rfl, q⟩
theorem notIn_td (hc : c.K = X.K) (hw : c.w = X.w) (hu : X.A.units + 60 < cLine) : OpR X (compareOp .NotIn) (rTI c true) := by
  intro pins s σ H y x u v Q I ry rx h
  obtain ⟨a, xs, kd, d, rfl, h1, h2, h3, h4, h6, h7, q⟩ := h
  cases rx
  obtain ⟨b, rfl, hb⟩ := tup_key I hc h6 h7
  cases ry
  rw [hw] at h1
  obtain ⟨k1, k2, ys, k3, k4⟩ := td_dict I h1 (tup_keys I hc h2 h3 h4)
  refine notIn_keyed (show (nestedKind X.prog X.w).room X.A.in1 from by show X.A.units + 1 + 8 < cLine; omega) hb k2 ⟨ys, k4, rfl⟩ ?_
  rw [valueAt_pairsH, Option.isSome_map, pt3_some k3]
  exact ⟨.bl _, H, I.tok _, rfl, q⟩
/-- an empty dict of the layer below is an empty one of tuples, and the other way round -/
theorem dk_td {pins : List (Addr × Obj)} {σ : L2.St} {H : Hp} {s : Shared} {a : Addr} (I : Inv X pins σ H s) (h : H a = some (.dK [])) : (a == sysModules) = false ∧ s.heap.DictOfH (nestedKind X.prog X.w) a [] := by
  obtain ⟨_, hd, vs, rel, o, es, ep, h1, h2, h3, h4, h5, h6⟩ := dk_of I.hok h
  cases rel
  refine ⟨hd, o, es, ep, h1, h2, h3, ?_, (fun x hx => by cases hx), List.nodup_nil⟩
  have := h5.length
  exact List.length_eq_zero_iff.mp this
theorem td_dk {pins : List (Addr × Obj)} {σ : L2.St} {H : Hp} {s : Shared} {a : Addr} (I : Inv X pins σ H s) (h : H a = some (tdO X.w a [])) : (a == sysModules) = false ∧ s.heap.DictOf (mixKind X.prog X.w) a [] := by
  obtain ⟨h1, h2, h3, ys, h4, o, es, ep, h5, h6, h7, h8⟩ := td_of I h
  cases h4
  have e : es = #[] := by
    have : es.toList = [] := h8
    exact Array.toList_eq_nil_iff.mp this
  subst e
  exact ⟨h2, o, #[], ep, h5, h6, h7, (fun x hx => by simp at hx), .nil, List.nodup_nil⟩
def rE0 (c : Ct) (neg : Bool) : R2 := fun y x H Q => ∃ a, x = .ref a ∧ Q (.bl neg) H ∧ ((H a = some (.dK []) ∧ ∃ d, Ld c H y d ∧ kkind d = some true) ∨ (H a = some (tdO c.w a []) ∧ ∃ k, y = kV k))
theorem in_0 (hc : c.K = X.K) (hw : c.w = X.w) (hu : X.A.units + 60 < cLine) : OpR X (compareOp .In) (rE0 c false) := by
  intro pins s σ H y x u v Q I ry rx h
  obtain ⟨a, rfl, q, ⟨h1, d, h2, h3⟩ | ⟨h1, k, rfl⟩⟩ := h
  · cases rx
    obtain ⟨b, rfl, hb⟩ := tup_key I hc h2 h3
    cases ry
    obtain ⟨k2, k4⟩ := dk_td I h1
    exact in_keyed (show (nestedKind X.prog X.w).room X.A.in1 from by show X.A.units + 1 + 8 < cLine; omega) hb k2 ⟨[], k4, rfl⟩ ⟨.bl _, H, I.tok _, rfl, q⟩
  · cases rx
    rw [hw] at h1
    obtain ⟨k2, k4⟩ := td_dk I h1
    exact wpAny_in_of (kV_is ry) k2 k4.mapOf ⟨.bl _, H, I.tok _, rfl, q⟩
theorem notIn_0 (hc : c.K = X.K) (hw : c.w = X.w) (hu : X.A.units + 60 < cLine) : OpR X (compareOp .NotIn) (rE0 c true) := by
  intro pins s σ H y x u v Q I ry rx h
  obtain ⟨a, rfl, q, ⟨h1, d, h2, h3⟩ | ⟨h1, k, rfl⟩⟩ := h
  · cases rx
    obtain ⟨b, rfl, hb⟩ := tup_key I hc h2 h3
    cases ry
    obtain ⟨k2, k4⟩ := dk_td I h1
    exact notIn_keyed (show (nestedKind X.prog X.w).room X.A.in1 from by show X.A.units + 1 + 8 < cLine; omega) hb k2 ⟨[], k4, rfl⟩ ⟨.bl _, H, I.tok _, rfl, q⟩
  · cases rx
    rw [hw] at h1
    obtain ⟨k2, k4⟩ := td_dk I h1
    exact wpAny_notIn_of (kV_is ry) k2 k4.mapOf ⟨.bl _, H, I.tok _, rfl, q⟩
end
end DL

set_option Elab.async false
set_option linter.all false
set_option maxRecDepth 100000
set_option maxHeartbeats 1000000
namespace DL
open PySem PySem.Spec PyProof.Rows L2
section
variable {c : Ct} {X : Cx} {g : G}
theorem LdA.atI {H : Hp} {vs : List V} {ds : List D} (a : LdA c H vs ds) {i : Int} {d : D} (h : atI ds i = some d) : ∃ v, atI vs i = some v ∧ Ld c H v d := by
  have hl := a.len
  unfold L2.atI at h ⊢
  rw [hl]
  cases e : ixN ds.length i with
  | none => rw [e] at h; cases h
  | some j =>
    rw [e] at h
    exact a.get' (i := j) h
def rDK (c : Ct) : R2 := fun x y H Q => ∃ a kvs k v, x = .ref a ∧ H a = some (.dK kvs) ∧ y = kV k ∧ valV kvs k = some v ∧ Q v H
theorem ix_dk : IxR X (rDK c) := by
  intro value slice pins s σ H x y v u Q I rx ry h hs
  obtain ⟨a, kvs, k, z, rfl, h1, rfl, h2, q⟩ := h
  cases rx
  obtain ⟨_, hd, vs, rel, dd⟩ := dk_of I.hok h1
  obtain ⟨w', hw, rw'⟩ := RelO.some_of (v := z) (o := valueAt vs k) (by rw [← h2]; exact rel.val k)
  refine subscriptTail_builtinR (x := w') dd.typeIs PySem.F.slot_dict_getitem.lookup ?_ hs
  exact wpAny_getItem_of (kV_is ry) dd.mapOf hw ⟨rfl, z, H, I.tok _, rw', q⟩
/-- d[e] -/
def dix : D → D → M D
  | .lst xs, .int i => match atI xs i with
    | some d => mr d
    | none => mx
  | .tup xs, .int i => match atI xs i with
    | some d => mr d
    | none => mx
  | .str s, .int i => if s.length ≤ lim then match atI s.cps.toList i with
    | some x => mr (.str ⟨#[x]⟩)
    | none => mx else mx
  | .dct kd vd, k => if sameKind kd k = true then match dlook kd vd (nk k) with
    | some d => mr d
    | none => mx else mx
  | _, _ => mx
def RIx (c : Ct) : R2 := fun x y H Q => rIx c.K x y H Q ∨ rDK c x y H Q ∨ rTG c x y H Q
theorem kkind_f {H : Hp} {v : V} {d : D} (l : Ld c H v d) (h : kkind d = some false) : ∃ k : Key, v = kV k := by
  cases l with
  | int i => exact ⟨.inl i, rfl⟩
  | str s => exact ⟨.inr s, rfl⟩
  | @tup a xs ds h0 a0 =>
    have h : (if ds.all isS = true then some true else none) = some false := h
    split at h <;> cases h
  | _ => cases h
theorem all_f {H : Hp} : ∀ {kvs : List (Key × V)} {kd : List D}, LdA c H (kvs.map fun q => kV q.1) kd → ∀ {b : Bool}, (kd.all fun d => decide (kkind d = some b)) = true → kd = [] ∨ b = false
  | [], _, .nil, _, _ => .inl rfl
  | q :: kvs, _, .cons l a, b, h => by
    rw [List.all_cons, Bool.and_eq_true] at h
    have h1 := of_decide_eq_true h.1
    rcases nk_key l with ⟨i, _, rfl⟩ | ⟨s, _, rfl⟩ <;> exact .inr (Option.some.inj h1).symm
theorem os_ix : OpS g (RIx g.c) dix := by
  intro os σ H ρ t x y d e Q A lx ly q
  cases lx with
  | @lst a xs ds hx ax => cases ly with
    | int i =>
      simp only [dix] at q
      cases ei : atI ds i with
      | none => simp only [ei] at q; exact q.elim
      | some z =>
        simp only [ei] at q
        obtain ⟨v, h1, h2⟩ := ax.atI ei
        exact .inl (.inl ⟨a, xs, i, v, rfl, rfl, SqL.of (msk_le _ _ hx), h1, q _ H os A h2 Go.refl⟩)
    | _ => exact q.elim
  | @tup a xs ds hx ax => cases ly with
    | int i =>
      simp only [dix] at q
      cases ei : atI ds i with
      | none => simp only [ei] at q; exact q.elim
      | some z =>
        simp only [ei] at q
        obtain ⟨v, h1, h2⟩ := ax.atI ei
        exact .inl (.inr (.inl ⟨a, xs, i, v, rfl, rfl, Lay.seqT hx, h1, q _ H os A h2 Go.refl⟩))
    | _ => exact q.elim
  | str s => cases ly with
    | int i =>
      simp only [dix] at q
      rcases post_if q with ⟨cl, q⟩ | ⟨_, q⟩
      · cases ei : atI s.cps.toList i with
        | none => simp only [ei] at q; exact q.elim
        | some z =>
          simp only [ei] at q
          exact .inl (.inr (.inr ⟨s, i, z, rfl, rfl, lim_le cl, ei, q _ H os A (.str _) Go.refl⟩))
      · exact q.elim
    | _ => exact q.elim
  | @dct a kvs kd vd h1 h2 h3 =>
    simp only [dix] at q
    rcases post_if q with ⟨sk, q⟩ | ⟨_, q⟩
    · unfold sameKind at sk
      cases ek : kkind e with
      | none => rw [ek] at sk; cases sk
      | some b =>
        simp only [ek] at sk
        rcases all_f h2 sk with rfl | rfl
        · simp only [dlook] at q; exact q.elim
        · obtain ⟨k, rfl⟩ := kkind_f ly ek
          rcases look_k h2 h3 ly with ⟨_, e2⟩ | ⟨v, z, e1, e2, e3⟩
          · simp only [e2] at q; exact q.elim
          · simp only [e2] at q
            exact .inr (.inl ⟨a, kvs, k, v, rfl, msk_le _ _ h1, rfl, e1, q _ H os A e3 Go.refl⟩)
    · exact q.elim
  | @dctT a xs kd vd h1 h2 h3 h4 h5 =>
    simp only [dix] at q
    rcases post_if q with ⟨sk, q⟩ | ⟨_, q⟩
    · unfold sameKind at sk
      cases ek : kkind e with
      | none => rw [ek] at sk; cases sk
      | some b =>
        simp only [ek] at sk
        cases e2 : dlook kd vd (nk e) with
        | none => simp only [e2] at q; exact q.elim
        | some z =>
          simp only [e2] at q
          have hb : b = true := by
            cases kd with
            | nil => cases e2
            | cons k0 kd0 =>
              rw [List.all_cons, Bool.and_eq_true] at sk h4
              have z1 := of_decide_eq_true sk.1
              have z2 := of_decide_eq_true h4.1
              rw [z1] at z2
              exact Option.some.inj z2
          subst hb
          rcases look_t h3 h5 (nk e) with ⟨_, n2⟩ | ⟨x, z', n1, n2, n3⟩
          · rw [e2] at n2; cases n2
          · rw [e2] at n2; cases n2
            exact .inr (.inr ⟨a, xs, kd, e, x, rfl, msk_le _ _ h1, LdA.same msk_le h2, h3, h4, Ld.same msk_le ly, ek, n1, q _ H os A n3 Go.refl⟩)
    · exact q.elim
  | _ => exact q.elim
theorem se_ix {a b : Expr} {pos : Pos} {f h : M D} (fx : Fx X g) (ha : SE X g a f) (hb : SE X g b h) (hs : PlainIx b := by exact fun _ _ => rfl) : SE X g (.Subscript a b pos) (e2 dix f h) :=
  PE.imp (pe_ix (ix_seq.or (ix_dk.or (ix_td (c := g.c) fx.k.symm fx.w.symm (by have := fx.u; omega)))) ha hb hs) (by rw [fx.k]; exact op_w os_ix)
/-! ### in -/
def dinS (ds : List D) (d : D) : Bool := ds.any fun z => PyData.eqv (toP z) (toP d)
def din (neg : Bool) : D → D → M D := fun d e => match e with
  | .lst ds => if plain 60 d = true ∧ plains 60 ds = true then mr (.bl (if neg = true then !dinS ds d else dinS ds d)) else mx
  | .tup ds => if plain 60 d = true ∧ plains 60 ds = true then mr (.bl (if neg = true then !dinS ds d else dinS ds d)) else mx
  | .str y => match d with
    | .str x => mr (.bl (if neg = true then !(!(Builtin.Str.occurrences y x 0 y.length 1).isEmpty) else !(Builtin.Str.occurrences y x 0 y.length 1).isEmpty))
    | _ => mx
  | .dct kd vd => if sameKind kd d = true then mr (.bl (if neg = true then !(dlook kd vd (nk d)).isSome else (dlook kd vd (nk d)).isSome)) else mx
  | _ => mx
/-- x in c of data -/
def rInA (K : PySem.W.Frag) (neg : Bool) : R2 := fun x y H Q => ∃ d ds, Dp K H x d ∧ (Dp K H y (.list ds) ∨ Dp K H y (.tuple ds)) ∧ PyData.canLay0 d = true ∧ PyData.canLayAll0 ds = true ∧ d.depth ≤ 60 ∧
  Q (.bl (if neg = true then !ds.any fun z => PyData.eqv z d else ds.any fun z => PyData.eqv z d)) H
theorem room_in {A : Around} {ds : List PyData} {d : PyData} (hd : d.depth ≤ 60) (hu : A.units + 64 < cLine) : A.units + 1 + min (PyData.depthAll ds) d.depth < cLine := by
  have h := Nat.min_le_right (PyData.depthAll ds) d.depth
  omega
theorem op_inA (hu : X.A.units + 64 < cLine) : OpR X (compareOp .In) (rInA X.K false) := by
  intro pins s σ H x y v u Q I rx ry h
  obtain ⟨d, ds, hd, he, sd, se, hl, q⟩ := h
  obtain ⟨as, r1⟩ := Dp.reads I d x v hd rx
  rcases he with he | he
  · obtain ⟨bs, r2⟩ := Dp.reads I (.list ds) y u he ry
    exact SeqAt.in_list_reads r2 r1 se sd (room_in hl hu) ⟨.bl _, H, I, rfl, q⟩
  · obtain ⟨bs, r2⟩ := Dp.reads I (.tuple ds) y u he ry
    exact SeqAt.in_tuple_reads r2 r1 se sd (room_in hl hu) ⟨.bl _, H, I, rfl, q⟩
theorem op_notInA (hu : X.A.units + 64 < cLine) : OpR X (compareOp .NotIn) (rInA X.K true) := by
  intro pins s σ H x y v u Q I rx ry h
  obtain ⟨d, ds, hd, he, sd, se, hl, q⟩ := h
  obtain ⟨as, r1⟩ := Dp.reads I d x v hd rx
  rcases he with he | he
  · obtain ⟨bs, r2⟩ := Dp.reads I (.list ds) y u he ry
    exact SeqAt.notIn_list_reads r2 r1 se sd (room_in hl hu) ⟨.bl _, H, I, rfl, q⟩
  · obtain ⟨bs, r2⟩ := Dp.reads I (.tuple ds) y u he ry
    exact SeqAt.notIn_tuple_reads r2 r1 se sd (room_in hl hu) ⟨.bl _, H, I, rfl, q⟩
/-- k in d of values -/
def rKI (neg : Bool) : R2 := fun y x H Q => ∃ a kvs k, x = .ref a ∧ H a = some (.dK kvs) ∧ y = kV k ∧ Q (.bl (if neg = true then !(valV kvs k).isSome else (valV kvs k).isSome)) H
theorem in_dk (hu : X.A.units + 1 < cLine) : OpR X (compareOp .In) (rKI false) := by
  intro pins s σ H y x u v Q I ry rx h
  obtain ⟨a, kvs, k, rfl, h1, rfl, q⟩ := h
  cases rx
  exact d_in hu I (DGet.k (k := k) h1) ry fun s' I' => ⟨.bl _, H, I', rfl, q⟩
theorem notIn_dk (hu : X.A.units + 1 < cLine) : OpR X (compareOp .NotIn) (rKI true) := by
  intro pins s σ H y x u v Q I ry rx h
  obtain ⟨a, kvs, k, rfl, h1, rfl, q⟩ := h
  cases rx
  exact d_notIn hu I (DGet.k (k := k) h1) ry fun s' I' => ⟨.bl _, H, I', rfl, q⟩
def RIn (c : Ct) (neg : Bool) : R2 := fun x y H Q => rInA c.K neg x y H Q ∨ (∃ i j, x = .str i ∧ y = .str j ∧ Q (.bl (if neg = true then !(!(Builtin.Str.occurrences j i 0 j.length 1).isEmpty) else !(Builtin.Str.occurrences j i 0 j.length 1).isEmpty)) H) ∨ rKI neg x y H Q ∨ rTI c neg x y H Q ∨ rE0 c neg x y H Q
theorem any_toP (d : D) : ∀ ds : List D, ((toPs ds).any fun z => PyData.eqv z (toP d)) = dinS ds d
  | [] => rfl
  | x :: ds => by
    have ih := any_toP d ds
    show (PyData.eqv (toP x) (toP d) || (toPs ds).any _) = (PyData.eqv (toP x) (toP d) || ds.any _)
    rw [ih]; rfl
theorem os_in {neg : Bool} : OpS g (RIn g.c neg) (din neg) := by
  intro os σ H ρ t x y d e Q A lx ly q
  have seq : ∀ {ds : List D}, (plain 60 d = true ∧ plains 60 ds = true) → (Dp g.c.K H y (.list (toPs ds)) ∨ Dp g.c.K H y (.tuple (toPs ds))) → Q (.bl (if neg = true then !dinS ds d else dinS ds d)) H → rInA g.c.K neg x y H Q := fun {ds} hp hy hq =>
    ⟨toP d, toPs ds, lx.dp hp.1, hy, (plain_lay hp.1).1, (plains_lay hp.2).1, (plain_lay hp.1).2, by rw [any_toP]; exact hq⟩
  cases ly with
  | @lst a xs ds hx ax =>
    simp only [din] at q
    rcases post_if q with ⟨cl, q⟩ | ⟨_, q⟩
    · exact .inl (seq cl (.inl (.lst (SqL.of (msk_le _ _ hx)) (LdA.dp (LdA.same msk_le ax) cl.2))) (q _ H os A (.bl _) Go.refl))
    · exact q.elim
  | @tup a xs ds hx ax =>
    simp only [din] at q
    rcases post_if q with ⟨cl, q⟩ | ⟨_, q⟩
    · exact .inl (seq cl (.inr (.tup (Lay.seqT hx) (LdA.dp (LdA.same msk_le ax) cl.2))) (q _ H os A (.bl _) Go.refl))
    · exact q.elim
  | str y => cases lx with
    | str x => exact .inr (.inl ⟨x, y, rfl, rfl, q _ H os A (.bl _) Go.refl⟩)
    | _ => exact q.elim
  | @dct a kvs kd vd h1 h2 h3 =>
    simp only [din] at q
    rcases post_if q with ⟨sk, q⟩ | ⟨_, q⟩
    · unfold sameKind at sk
      cases ek : kkind d with
      | none => rw [ek] at sk; cases sk
      | some b =>
        simp only [ek] at sk
        rcases all_f h2 sk with rfl | rfl
        · cases kvs with
          | cons q0 l => cases h2
          | nil =>
            have q' := q _ H os A (.bl _) Go.refl
            simp only [dlook, Option.isSome_none, Bool.not_false] at q'
            cases b with
            | true => exact .inr (.inr (.inr (.inr ⟨a, rfl, by cases neg <;> simpa using q', .inl ⟨msk_le _ _ h1, d, Ld.same msk_le lx, ek⟩⟩)))
            | false =>
              obtain ⟨k, rfl⟩ := kkind_f lx ek
              refine .inr (.inr (.inl ⟨a, [], k, rfl, msk_le _ _ h1, rfl, ?_⟩))
              rw [valV_nil]
              cases neg <;> simpa using q'
        · obtain ⟨k, rfl⟩ := kkind_f lx ek
          refine .inr (.inr (.inl ⟨a, kvs, k, rfl, msk_le _ _ h1, rfl, ?_⟩))
          have q' := q _ H os A (.bl _) Go.refl
          rcases look_k h2 h3 lx with ⟨e1, e2⟩ | ⟨v, z, e1, e2, e3⟩
          · rw [e1]; rw [e2] at q'; exact q'
          · rw [e1]; rw [e2] at q'; exact q'
    · exact q.elim
  | @dctT a xs kd vd h1 h2 h3 h4 h5 =>
    simp only [din] at q
    rcases post_if q with ⟨sk, q⟩ | ⟨_, q⟩
    · unfold sameKind at sk
      cases ek : kkind d with
      | none => rw [ek] at sk; cases sk
      | some b =>
        simp only [ek] at sk
        have q' := q _ H os A (.bl _) Go.refl
        cases b with
        | true =>
          refine .inr (.inr (.inr (.inl ⟨a, xs, kd, d, rfl, msk_le _ _ h1, LdA.same msk_le h2, h3, h4, Ld.same msk_le lx, ek, ?_⟩)))
          rcases look_t h3 h5 (nk d) with ⟨e1, e2⟩ | ⟨x, z, e1, e2, e3⟩
          · rw [e1]; rw [e2] at q'; exact q'
          · rw [e1]; rw [e2] at q'; exact q'
        | false =>
          cases kd with
          | cons k0 kd0 =>
            rw [List.all_cons, Bool.and_eq_true] at sk h4
            have z1 := of_decide_eq_true sk.1
            have z2 := of_decide_eq_true h4.1
            rw [z1] at z2; cases z2
          | nil =>
            cases xs with
            | cons x0 l => cases h3
            | nil =>
              obtain ⟨k, rfl⟩ := kkind_f lx ek
              simp only [dlook, Option.isSome_none, Bool.not_false] at q'
              exact .inr (.inr (.inr (.inr ⟨a, rfl, by cases neg <;> simpa using q', .inr ⟨msk_le _ _ h1, k, rfl⟩⟩)))
    · exact q.elim
  | _ => exact q.elim
theorem OpR.str_in : OpR X (compareOp .In) (fun x y H Q => ∃ i j, x = .str i ∧ y = .str j ∧ Q (.bl (if (false : Bool) = true then !(!(Builtin.Str.occurrences j i 0 j.length 1).isEmpty) else !(Builtin.Str.occurrences j i 0 j.length 1).isEmpty)) H) := op_in_str
theorem cs_in {b : Expr} (fx : Fx X g) (hm : behindInMarks .In b = false := by rfl) : CmS X g .In b (din false) := by
  refine ⟨RIn g.c false, ?_, os_in, hm⟩
  have hu := fx.u
  exact OpR.or (by rw [← fx.k]; exact op_inA fx.u64) (OpR.or op_in_str (OpR.or (in_dk fx.u1) (OpR.or (in_td fx.k.symm fx.w.symm (by omega)) (in_0 fx.k.symm fx.w.symm (by omega)))))
theorem cs_notIn {b : Expr} (fx : Fx X g) (hm : behindInMarks .NotIn b = false := by rfl) : CmS X g .NotIn b (din true) := by
  refine ⟨RIn g.c true, ?_, os_in, hm⟩
  have hu := fx.u
  exact OpR.or (by rw [← fx.k]; exact op_notInA fx.u64) (OpR.or op_notIn_str (OpR.or (notIn_dk fx.u1) (OpR.or (notIn_td fx.k.symm fx.w.symm (by omega)) (notIn_0 fx.k.symm fx.w.symm (by omega)))))
end
end DL

set_option Elab.async false
set_option linter.all false
set_option maxRecDepth 100000
set_option maxHeartbeats 1000000
namespace DL
open PySem PySem.Spec PyProof.Rows L2
/-! ### built-ins called -/
/-- what a call does with data -/
def CaS (g : G) (r : List V → Hp → VK → Prop) (f : List D → M D) : Prop := ∀ (os : List Addr) (σ : L2.St) (H : Hp) (ρ : List Sl) (t : Pn) (xs : List V) (ds : List D) (Q : VK), Amb g os σ H ρ t → LayA g os H xs ds →
  (f ds ρ t).post (fun z ρ' t' => ∀ v H' os', Amb g os' σ H' ρ' t' → Lay g os' H' v z → Go g os H os' H' → Q v H') noX → r xs H Q
/-- .. that makes a new container -/
def CaF (g : G) (r : List V → Hp → VK → Prop) (f : List D → M D) : Prop := ∀ (os : List Addr) (σ : L2.St) (H : Hp) (ρ : List Sl) (t : Pn) (xs : List V) (ds : List D) (Q : VK), Amb g os σ H ρ t → LayA g os H xs ds →
  (f ds ρ t).post (fun z ρ' t' => ∀ p H' os', Amb g (p :: os') σ H' ρ' t' → Own g (p :: os') H' p z → (p ∉ mo g os' ∧ H p = none) → NOw σ ρ' p → Go g os H (p :: os') H' → Q (.ref p) H') noX → r xs H Q
section
variable {X : Cx} {g : G}
theorem ca_w {r : List V → Hp → VK → Prop} {f : List D → M D} {h : M (List D)} (hs : CaS g r f) : ∀ σ H Q, tD g (mb h f) σ H Q → tCB r (aD g h) σ H Q := fun σ H Q q => by
  obtain ⟨os, ρ, t, A, q⟩ := q
  exact ⟨os, ρ, t, A, post_mono (post_bind q) (fun ds ρ1 t1 q1 vs H1 os1 A1 l1 s1 => hs os1 σ H1 ρ1 t1 vs ds Q A1 l1 (post_mono q1 (fun z ρ2 t2 q2 w H2 os2 A2 l2 s2 => q2 w H2 os2 A2 l2 (s1.trans s2)) fun _ _ _ _ h => h)) fun _ _ _ _ h => h⟩
theorem caF_w {r : List V → Hp → VK → Prop} {f : List D → M D} {h : M (List D)} (hs : CaF g r f) : ∀ σ H Q, fD g (mb h f) σ H Q → tCB r (aD g h) σ H Q := fun σ H Q q => by
  obtain ⟨os, ρ, t, A, q⟩ := q
  exact ⟨os, ρ, t, A, post_mono (post_bind q) (fun ds ρ1 t1 q1 vs H1 os1 A1 l1 s1 => hs os1 σ H1 ρ1 t1 vs ds Q A1 l1 (post_mono q1 (fun z ρ2 t2 q2 w H2 os2 A2 l2 n2 w2 s2 => q2 w H2 os2 A2 l2 ⟨n2.1, s1.none A1 n2.2⟩ w2 (s1.trans s2)) fun _ _ _ _ h => h)) fun _ _ _ _ h => h⟩
theorem se_callB {x : Str} {id : String} {p pos : Pos} {e : Expr} {es : List Expr} {r : List V → Hp → VK → Prop} {f : List D → M D} {h : M (List D)} (fx : Fx X g) (hc : CallR X (.builtin id) r) (hs : CaS g r f) (hg : Gl X x) (hm : g.c.mg x = none) (hv : bootBuiltins x = some (.builtin id)) (ha : SA X g (e :: es) h)
    (hn : x ≠ "__name__" := by decide) (hdb : (x == ("__debug__" : Str)) = false := by decide) (he : starEach (e :: es) X.env = (false, eval e X.env) :: starEach es X.env := by rfl) (hpl : (backTo pos (starEach es X.env)).any (·.1) = false := by rfl) :
    SE X g (.Call (.Name x p) (e :: es) [] pos) (mb h f) := PE.imp (pe_callB hc hg (by rw [fx.m]; exact hm) hv ha hn hdb he hpl) (ca_w hs)
theorem sf_callB {x : Str} {id : String} {p pos : Pos} {e : Expr} {es : List Expr} {r : List V → Hp → VK → Prop} {f : List D → M D} {h : M (List D)} (fx : Fx X g) (hc : CallR X (.builtin id) r) (hs : CaF g r f) (hg : Gl X x) (hm : g.c.mg x = none) (hv : bootBuiltins x = some (.builtin id)) (ha : SA X g (e :: es) h)
    (hn : x ≠ "__name__" := by decide) (hdb : (x == ("__debug__" : Str)) = false := by decide) (he : starEach (e :: es) X.env = (false, eval e X.env) :: starEach es X.env := by rfl) (hpl : (backTo pos (starEach es X.env)).any (·.1) = false := by rfl) :
    SF X g (.Call (.Name x p) (e :: es) [] pos) (mb h f) := PE.imp (pe_callB hc hg (by rw [fx.m]; exact hm) hv ha hn hdb he hpl) (caF_w hs)
theorem se_callT {x : Str} {id : String} {p pos : Pos} {e : Expr} {es : List Expr} {r : List V → Hp → VK → Prop} {f : List D → M D} {h : M (List D)} (fx : Fx X g) (hc : CallR X (.type id) r) (hs : CaS g r f) (hg : Gl X x) (hm : g.c.mg x = none) (hv : bootBuiltins x = some (.type id)) (ha : SA X g (e :: es) h)
    (hn : x ≠ "__name__" := by decide) (hdb : (x == ("__debug__" : Str)) = false := by decide) (he : starEach (e :: es) X.env = (false, eval e X.env) :: starEach es X.env := by rfl) (hpl : (backTo pos (starEach es X.env)).any (·.1) = false := by rfl) :
    SE X g (.Call (.Name x p) (e :: es) [] pos) (mb h f) := PE.imp (pe_callTy hc hg (by rw [fx.m]; exact hm) hv ha hn hdb he hpl) (ca_w hs)
theorem sf_callT {x : Str} {id : String} {p pos : Pos} {e : Expr} {es : List Expr} {r : List V → Hp → VK → Prop} {f : List D → M D} {h : M (List D)} (fx : Fx X g) (hc : CallR X (.type id) r) (hs : CaF g r f) (hg : Gl X x) (hm : g.c.mg x = none) (hv : bootBuiltins x = some (.type id)) (ha : SA X g (e :: es) h)
    (hn : x ≠ "__name__" := by decide) (hdb : (x == ("__debug__" : Str)) = false := by decide) (he : starEach (e :: es) X.env = (false, eval e X.env) :: starEach es X.env := by rfl) (hpl : (backTo pos (starEach es X.env)).any (·.1) = false := by rfl) :
    SF X g (.Call (.Name x p) (e :: es) [] pos) (mb h f) := PE.imp (pe_callTy hc hg (by rw [fx.m]; exact hm) hv ha hn hdb he hpl) (caF_w hs)
/-! len -/
def dlen : List D → M D
  | [.str s] => if s.length ≤ lim then mr (.int s.length) else mx
  | [.lst xs] => mr (.int xs.length)
  | [.tup xs] => mr (.int xs.length)
  | [.dct ks _] => mr (.int ks.length)
  | _ => mx
def rLenX (c : Ct) : List V → Hp → VK → Prop := fun xs H Q => (∃ x n, xs = [x] ∧ LenV c.K x H n ∧ Q (.int n) H) ∨ (∃ a kvs, xs = [V.ref a] ∧ H a = some (.dK kvs) ∧ Q (.int kvs.length) H) ∨
  ∃ a ts kd, xs = [V.ref a] ∧ H a = some (tdO c.w a ts) ∧ LdA c H (ts.map fun q => V.ref q.2.1) kd ∧ ts.map (·.1) = kd.map nk ∧ (kd.all fun d => decide (kkind d = some true)) = true ∧ Q (.int ts.length) H
theorem cr_len {c : Ct} (hc : c.K = X.K) (hw : c.w = X.w) : CallR X (.builtin "len") (rLenX c) := by
  intro pins s σ H xs us Q I r h
  rcases h with h | h | ⟨a, ts, kd, rfl, h1, h2, h3, h4, q⟩
  · exact call_len pins s σ H xs us Q I r (by rw [← hc]; exact h)
  · exact call_lenD pins s σ H xs us Q I r h
  · obtain ⟨u, rfl, rx⟩ := vals1 r
    cases rx
    rw [hw] at h1
    obtain ⟨k1, k2, ys, k3, k4⟩ := td_dict I h1 (tup_keys I hc h2 h3 h4)
    have hl : ts.length = ys.length := Paired.length k3
    have hz := line63
    refine call_len_dictH k2 k4 (by omega) ⟨.int ts.length, H, I.tok _, ⟨_, by rw [hl]⟩, q⟩
theorem ca_len : CaS g (rLenX g.c) dlen := by
  intro os σ H ρ t xs ds Q A l q
  cases l with
  | nil => exact q.elim
  | cons l a => cases a with
    | cons _ _ => cases l <;> exact q.elim
    | nil => cases l with
      | str s =>
        simp only [dlen] at q
        rcases post_if q with ⟨c, q⟩ | ⟨_, q⟩
        · exact .inl ⟨_, s.length, rfl, ⟨lim_le c, rfl⟩, q _ H os A (.int _) Go.refl⟩
        · exact q.elim
      | @lst b xs ds hx ax => exact .inl ⟨_, xs.length, rfl, .inl ⟨xs, SqL.of (msk_le _ _ hx), rfl⟩, by rw [ax.len]; exact q _ H os A (.int _) Go.refl⟩
      | @tup b xs ds hx ax => exact .inl ⟨_, xs.length, rfl, .inr ⟨xs, Lay.seqT hx, rfl⟩, by rw [ax.len]; exact q _ H os A (.int _) Go.refl⟩
      | @dct b kvs kd vd h1 h2 h3 =>
        have e := h2.len
        rw [List.length_map] at e
        exact .inr (.inl ⟨b, kvs, rfl, msk_le _ _ h1, by rw [e]; exact q _ H os A (.int _) Go.refl⟩)
      | @dctT b ts kd vd h1 h2 h3 h4 h5 =>
        have e := h2.len
        rw [List.length_map] at e
        exact .inr (.inr ⟨b, ts, kd, rfl, msk_le _ _ h1, LdA.same msk_le h2, h3, h4, by rw [e]; exact q _ H os A (.int _) Go.refl⟩)
      | _ => exact q.elim
theorem boot_len' : bootBuiltins "len" = some (.builtin "len") := PySem.boot_len
theorem se_len {p pos : Pos} {e : Expr} {h : M D} (fx : Fx X g) (hg : Gl X "len") (hm : g.c.mg "len" = none) (he : SE X g e h) (hst : starEach [e] X.env = (false, eval e X.env) :: starEach [] X.env := by rfl) : SE X g (.Call (.Name "len" p) [e] [] pos) (mb (acons h anil) dlen) :=
  se_callB fx (cr_len fx.k.symm fx.w.symm) ca_len hg hm boot_len' (sa_cons he sa_nil hst) (by decide) (by decide) hst
/-! int, abs, min, max -/
def dint : List D → M D
  | [.int i] => mr (.int i)
  | [.bl b] => mr (.int (if b then 1 else 0))
  | _ => mx
theorem ca_int : CaS g (fun xs H Q => (∃ i, xs = [.int i] ∧ Q (.int i) H) ∨ ∃ k, xs = [.bl k] ∧ Q (.int (if k then 1 else 0)) H) dint := by
  intro os σ H ρ t xs ds Q A l q
  cases l with
  | nil => exact q.elim
  | cons l a => cases a with
    | cons _ _ => cases l <;> exact q.elim
    | nil => cases l with
      | int i => exact .inl ⟨i, rfl, q _ H os A (.int _) Go.refl⟩
      | bl b => exact .inr ⟨b, rfl, q _ H os A (.int _) Go.refl⟩
      | _ => exact q.elim
theorem se_intC {p pos : Pos} {e : Expr} {h : M D} (fx : Fx X g) (hg : Gl X "int") (hm : g.c.mg "int" = none) (he : SE X g e h) (hst : starEach [e] X.env = (false, eval e X.env) :: starEach [] X.env := by rfl) : SE X g (.Call (.Name "int" p) [e] [] pos) (mb (acons h anil) dint) :=
  se_callT fx call_int1 ca_int hg hm PyProof.Rows.boot_int (sa_cons he sa_nil hst) (by decide) (by decide) hst
def dabs : List D → M D
  | [.int i] => mr (.int (if i < 0 then -i else i))
  | _ => mx
theorem ca_abs : CaS g (fun xs H Q => ∃ i, xs = [.int i] ∧ Q (.int (if i < 0 then -i else i)) H) dabs := by
  intro os σ H ρ t xs ds Q A l q
  cases l with
  | nil => exact q.elim
  | cons l a => cases a with
    | cons _ _ => cases l <;> exact q.elim
    | nil => cases l with
      | int i => exact ⟨i, rfl, q _ H os A (.int _) Go.refl⟩
      | _ => exact q.elim
theorem se_abs {p pos : Pos} {e : Expr} {h : M D} (fx : Fx X g) (hg : Gl X "abs") (hm : g.c.mg "abs" = none) (he : SE X g e h) (hst : starEach [e] X.env = (false, eval e X.env) :: starEach [] X.env := by rfl) : SE X g (.Call (.Name "abs" p) [e] [] pos) (mb (acons h anil) dabs) :=
  se_callB fx call_abs ca_abs hg hm PyProof.Rows.boot_abs (sa_cons he sa_nil hst) (by decide) (by decide) hst
def dmin2 : List D → M D
  | [.int i, .int j] => mr (.int (if j < i then j else i))
  | _ => mx
def dmax2 : List D → M D
  | [.int i, .int j] => mr (.int (if j > i then j else i))
  | _ => mx
theorem two_ints {os : List Addr} {H : Hp} {xs : List V} {ds : List D} (l : LayA g os H xs ds) : (∃ i j, xs = [.int i, .int j] ∧ ds = [.int i, .int j]) ∨ (dmin2 ds = mx ∧ dmax2 ds = mx) := by
  cases l with
  | nil => exact .inr ⟨rfl, rfl⟩
  | cons l a => cases a with
    | nil => exact .inr ⟨by cases l <;> rfl, by cases l <;> rfl⟩
    | cons l2 a2 => cases a2 with
      | cons _ _ => exact .inr ⟨by cases l <;> first | rfl | (cases l2 <;> rfl), by cases l <;> first | rfl | (cases l2 <;> rfl)⟩
      | nil => cases l with
        | int i => cases l2 with
          | int j => exact .inl ⟨i, j, rfl, rfl⟩
          | _ => exact .inr ⟨rfl, rfl⟩
        | _ => exact .inr ⟨rfl, rfl⟩
theorem ca_min2 : CaS g (fun xs H Q => ∃ i j, xs = [.int i, .int j] ∧ Q (.int (if j < i then j else i)) H) dmin2 := by
  intro os σ H ρ t xs ds Q A l q
  rcases two_ints l with ⟨i, j, rfl, rfl⟩ | ⟨e, _⟩
  · exact ⟨i, j, rfl, q _ H os A (.int _) Go.refl⟩
  · rw [e] at q; exact q.elim
theorem ca_max2 : CaS g (fun xs H Q => ∃ i j, xs = [.int i, .int j] ∧ Q (.int (if j > i then j else i)) H) dmax2 := by
  intro os σ H ρ t xs ds Q A l q
  rcases two_ints l with ⟨i, j, rfl, rfl⟩ | ⟨_, e⟩
  · exact ⟨i, j, rfl, q _ H os A (.int _) Go.refl⟩
  · rw [e] at q; exact q.elim
theorem se_min2 {p pos : Pos} {a b : Expr} {h : M (List D)} (fx : Fx X g) (hg : Gl X "min") (hm : g.c.mg "min" = none) (ha : SA X g [a, b] h) (he : starEach (a :: [b]) X.env = (false, eval a X.env) :: starEach [b] X.env := by rfl) (hpl : (backTo pos (starEach [b] X.env)).any (·.1) = false := by rfl) :
    SE X g (.Call (.Name "min" p) [a, b] [] pos) (mb h dmin2) := se_callB fx (call_min2 fx.c) ca_min2 hg hm (by decide +kernel) ha (by decide) (by decide) he hpl
theorem se_max2 {p pos : Pos} {a b : Expr} {h : M (List D)} (fx : Fx X g) (hg : Gl X "max") (hm : g.c.mg "max" = none) (ha : SA X g [a, b] h) (he : starEach (a :: [b]) X.env = (false, eval a X.env) :: starEach [b] X.env := by rfl) (hpl : (backTo pos (starEach [b] X.env)).any (·.1) = false := by rfl) :
    SE X g (.Call (.Name "max" p) [a, b] [] pos) (mb h dmax2) := se_callB fx (call_max2 fx.c) ca_max2 hg hm (by decide +kernel) ha (by decide) (by decide) he hpl
/-! list(x), tuple(x) of lists and tuples -/
def dlist : List D → M D
  | [.lst xs] => mr (.lst xs)
  | [.tup xs] => mr (.lst xs)
  | _ => mx
theorem ca_list : CaF g (fun xs H Q => ∃ p ys, xs = [.ref p] ∧ (SqL g.c.K H p ys ∨ SqT g.c.K H p ys) ∧ ∀ l, H l = none → Q (.ref l) (upd H l (.lst ys))) dlist := by
  intro os σ H ρ t xs ds Q A l q
  cases l with
  | nil => exact q.elim
  | cons l a => cases a with
    | cons _ _ => cases l <;> exact q.elim
    | nil =>
      have fin : ∀ {p : Addr} {ys : List V} {es : List D}, (SqL g.c.K H p ys ∨ SqT g.c.K H p ys) → LayA g os H ys es → (∀ p H' os', Amb g (p :: os') σ H' ρ t → Own g (p :: os') H' p (.lst es) → (p ∉ mo g os' ∧ H p = none) → NOw σ ρ p → Go g os H (p :: os') H' → Q (.ref p) H') →
          ∃ p' ys', [V.ref p] = [.ref p'] ∧ (SqL g.c.K H p' ys' ∨ SqT g.c.K H p' ys') ∧ ∀ l, H l = none → Q (.ref l) (upd H l (.lst ys')) := fun {p ys es} hs ha hq =>
        ⟨p, ys, rfl, hs, fun l hl => by
          obtain ⟨A2, n2, w2, s2⟩ := own_new (o := .lst ys) A hl
          exact hq l _ os A2 ⟨ys, upd_same, LdA.same (Go.s s2) ha⟩ ⟨n2, hl⟩ w2 s2⟩
      cases l with
      | lst hx ax => exact fin (.inl (SqL.of (msk_le _ _ hx))) ax q
      | tup hx ax => exact fin (.inr (Lay.seqT hx)) ax q
      | _ => exact q.elim
theorem sf_listC {p pos : Pos} {e : Expr} {h : M D} (fx : Fx X g) (hg : Gl X "list") (hm : g.c.mg "list" = none) (he : SE X g e h) (hst : starEach [e] X.env = (false, eval e X.env) :: starEach [] X.env := by rfl) : SF X g (.Call (.Name "list" p) [e] [] pos) (mb (acons h anil) dlist) :=
  sf_callT fx (by have := call_list_of (X := X); rw [fx.k] at this; exact this) ca_list hg hm PyProof.Rows.boot_list (sa_cons he sa_nil hst) (by decide) (by decide) hst
def dtuple : List D → M D
  | [.lst xs] => mr (.tup xs)
  | [.tup xs] => mr (.tup xs)
  | _ => mx
theorem ca_tuple : CaS g (fun xs H Q => ∃ p ys, xs = [.ref p] ∧ ((SqL g.c.K H p ys ∧ ∀ l, H l = none → Q (.ref l) (upd H l (.tup ys))) ∨ (SqT g.c.K H p ys ∧ Q (.ref p) H))) dtuple := by
  intro os σ H ρ t xs ds Q A l q
  cases l with
  | nil => exact q.elim
  | cons l a => cases a with
    | cons _ _ => cases l <;> exact q.elim
    | nil => cases l with
      | @lst b xs es hx ax =>
        refine ⟨b, xs, rfl, .inl ⟨SqL.of (msk_le _ _ hx), fun p hp => ?_⟩⟩
        obtain ⟨A2, h2, s2⟩ := lay_new (o := .tup xs) A hp
        exact q _ _ os A2 (.tup (SqT.of h2) (LdA.same (Go.s s2) ax)) s2
      | @tup b xs es hx ax => exact ⟨b, xs, rfl, .inr ⟨Lay.seqT hx, q _ H os A (.tup hx ax) Go.refl⟩⟩
      | _ => exact q.elim
theorem se_tupleC {p pos : Pos} {e : Expr} {h : M D} (fx : Fx X g) (hg : Gl X "tuple") (hm : g.c.mg "tuple" = none) (he : SE X g e h) (hst : starEach [e] X.env = (false, eval e X.env) :: starEach [] X.env := by rfl) : SE X g (.Call (.Name "tuple" p) [e] [] pos) (mb (acons h anil) dtuple) :=
  se_callT fx (by have := call_tuple_of (X := X); rw [fx.k] at this; exact this) ca_tuple hg hm PyProof.Rows.boot_tuple (sa_cons he sa_nil hst) (by decide) (by decide) hst
/-! all, any of truth values -/
def bools : List D → Option (List Bool)
  | [] => some []
  | .bl b :: ds => (bools ds).map (b :: ·)
  | _ => none
theorem bools_lay {c : Ct} {H : Hp} : ∀ {vs : List V} {ds : List D}, LdA c H vs ds → ∀ {bs : List Bool}, bools ds = some bs → vs = bs.map V.bl
  | _, _, .nil, bs, e => by cases e; rfl
  | _, _, .cons l a, bs, e => by
    cases l with
    | bl b =>
      obtain ⟨cs, e1, e2⟩ := Option.map_eq_some_iff.mp e
      subst e2
      rw [List.map_cons, bools_lay a e1]
    | _ => cases e
def dall : List D → M D
  | [.lst xs] => match bools xs with
    | some bs => mr (.bl (bs.all id))
    | none => mx
  | _ => mx
def dany : List D → M D
  | [.lst xs] => match bools xs with
    | some bs => mr (.bl (bs.any id))
    | none => mx
  | _ => mx
theorem ca_all : CaS g (rAll g.c.K) dall := by
  intro os σ H ρ t xs ds Q A l q
  cases l with
  | nil => exact q.elim
  | cons l a => cases a with
    | cons _ _ => cases l <;> exact q.elim
    | nil => cases l with
      | @lst b xs es hx ax =>
        simp only [dall] at q
        cases e : bools es with
        | none => simp only [e] at q; exact q.elim
        | some bs =>
          simp only [e] at q
          refine ⟨b, bs, rfl, ?_, q _ H os A (.bl _) Go.refl⟩
          rw [← bools_lay ax e]; exact SqL.of (msk_le _ _ hx)
      | _ => exact q.elim
theorem ca_any : CaS g (rAny g.c.K) dany := by
  intro os σ H ρ t xs ds Q A l q
  cases l with
  | nil => exact q.elim
  | cons l a => cases a with
    | cons _ _ => cases l <;> exact q.elim
    | nil => cases l with
      | @lst b xs es hx ax =>
        simp only [dany] at q
        cases e : bools es with
        | none => simp only [e] at q; exact q.elim
        | some bs =>
          simp only [e] at q
          refine ⟨b, bs, rfl, ?_, q _ H os A (.bl _) Go.refl⟩
          rw [← bools_lay ax e]; exact SqL.of (msk_le _ _ hx)
      | _ => exact q.elim
theorem se_all {p pos : Pos} {e : Expr} {h : M D} (fx : Fx X g) (hg : Gl X "all") (hm : g.c.mg "all" = none) (he : SE X g e h) (hst : starEach [e] X.env = (false, eval e X.env) :: starEach [] X.env := by rfl) : SE X g (.Call (.Name "all" p) [e] [] pos) (mb (acons h anil) dall) :=
  se_callB fx (by have := cr_all (X := X) fx.c; rw [fx.k] at this; exact this) ca_all hg hm (by decide +kernel) (sa_cons he sa_nil hst) (by decide) (by decide) hst
theorem se_any {p pos : Pos} {e : Expr} {h : M D} (fx : Fx X g) (hg : Gl X "any") (hm : g.c.mg "any" = none) (he : SE X g e h) (hst : starEach [e] X.env = (false, eval e X.env) :: starEach [] X.env := by rfl) : SE X g (.Call (.Name "any" p) [e] [] pos) (mb (acons h anil) dany) :=
  se_callB fx (by have := cr_any (X := X) fx.c; rw [fx.k] at this; exact this) ca_any hg hm (by decide +kernel) (sa_cons he sa_nil hst) (by decide) (by decide) hst
end
end DL

set_option Elab.async false
set_option linter.all false
set_option maxRecDepth 100000
set_option maxHeartbeats 1000000
namespace DL
open PySem PySem.Spec PyProof.Rows L2
/-! ### slices -/
def oD (g : G) (f : M (Option Int)) : TO := fun σ H Q => ∃ os ρ t, Amb g os σ H ρ t ∧
  (f ρ t).post (fun d ρ' t' => ∀ H' os', Amb g os' σ H' ρ' t' → Go g os H os' H' → Q d H') noX
abbrev SO (X : Cx) (g : G) (e : Option Expr) (f : M (Option Int)) : Prop := PO X e (oD g f)
def osome (f : M D) : M (Option Int) := mb f fun d => match d with
  | .int i => mr (some i)
  | _ => mx
def cutD (xs : List D) (lo hi : Option Int) : List D := (xs.drop (HT.sIx xs.length 0 lo)).take (HT.sIx xs.length xs.length hi - HT.sIx xs.length 0 lo)
/-- x[lo:hi] -/
def dsl (x : D) (lo hi : Option Int) : M D := match x with
  | .lst xs => mr (.lst (cutD xs lo hi))
  | .tup xs => if ¬ (HT.sIx xs.length 0 lo = 0 ∧ HT.sIx xs.length xs.length hi = xs.length) then mr (.tup (cutD xs lo hi)) else mx
  | .str s => if s.length ≤ lim then mr (.str (cutS s lo hi)) else mx
  | _ => mx
def esl (f : M D) (lo hi : M (Option Int)) : M D := mb f fun x => mb lo fun l => mb hi fun h => dsl x l h
section
variable {X : Cx} {g : G}
theorem so_none : SO X g none (mr none) := ⟨fun pins s σ H Q I q => (po_none (X := X)).run pins s σ H Q I (by
  obtain ⟨os, ρ, t, A, q⟩ := q
  exact q H os A Go.refl)⟩
theorem so_some {e : Expr} {f : M D} (h : SE X g e f) : SO X g (some e) (osome f) := ⟨fun pins s σ H Q I q => (po_some h).run pins s σ H Q I (by
  obtain ⟨os, ρ, t, A, q⟩ := q
  refine ⟨os, ρ, t, A, post_mono (post_bind q) (fun d ρ1 t1 q1 v H1 os1 A1 l1 s1 => ?_) fun _ _ _ _ h => h⟩
  cases l1 with
  | int i => exact ⟨i, rfl, q1 H1 os1 A1 s1⟩
  | _ => exact q1.elim)⟩
theorem LdA.cut {c : Ct} {H : Hp} {vs : List V} {ds : List D} (a : LdA c H vs ds) (lo hi : Option Int) : LdA c H (cutV vs lo hi) (cutD ds lo hi) := by
  unfold cutV cutD
  rw [a.len]
  exact LdA.take _ (LdA.drop _ a)
def RSl (K : PySem.W.Frag) : V → Option Int → Option Int → Hp → VK → Prop := fun x lo hi H Q => rSlL K x lo hi H Q ∨ rSlT K x lo hi H Q ∨ rSlS x lo hi H Q
theorem se_sl {e : Expr} {lo hi : Option Expr} {pos p2 : Pos} {f : M D} {fl fh : M (Option Int)} (fx : Fx X g) (he : SE X g e f) (hl : SO X g lo fl) (hh : SO X g hi fh) : SE X g (.Subscript e (.Slice lo hi none p2) pos) (esl f fl fh) :=
  PE.imp (pe_slice (r := RSl X.K) (sl_list.or (sl_tup.or sl_str)) he hl hh) fun σ H Q q => by
    rw [fx.k]
    obtain ⟨os, ρ, t, A, q⟩ := q
    refine ⟨os, ρ, t, A, post_mono (post_bind q) (fun d ρ1 t1 q1 v H1 os1 A1 l1 s1 => ?_) fun _ _ _ _ h => h⟩
    refine ⟨os1, ρ1, t1, A1, post_mono (post_bind q1) (fun i ρ2 t2 q2 H2 os2 A2 s2 => ?_) fun _ _ _ _ h => h⟩
    refine ⟨os2, ρ2, t2, A2, post_mono (post_bind q2) (fun j ρ3 t3 q3 H3 os3 A3 s3 => ?_) fun _ _ _ _ h => h⟩
    have s := (s1.trans s2).trans s3
    cases Ld.same (Go.s s3) (Ld.same (Go.s s2) l1) with
    | @lst a xs ds hx ax =>
      refine .inl ⟨a, xs, rfl, SqL.of (msk_le _ _ hx), fun p hp => ?_⟩
      obtain ⟨A4, h4, s4⟩ := lay_new (o := .lst (cutV xs i j)) A3 hp
      exact q3 _ _ os3 A4 (.lst h4 (LdA.same (Go.s s4) (ax.cut i j))) (s.trans s4)
    | @tup a xs ds hx ax =>
      simp only [dsl] at q3
      rcases post_if q3 with ⟨c, q3⟩ | ⟨_, q3⟩
      · refine .inr (.inl ⟨a, xs, rfl, Lay.seqT hx, by rw [ax.len]; exact c, fun p hp => ?_⟩)
        obtain ⟨A4, h4, s4⟩ := lay_new (o := .tup (cutV xs i j)) A3 hp
        exact q3 _ _ os3 A4 (.tup (SqT.of h4) (LdA.same (Go.s s4) (ax.cut i j))) (s.trans s4)
      · exact q3.elim
    | str z =>
      simp only [dsl] at q3
      rcases post_if q3 with ⟨c, q3⟩ | ⟨_, q3⟩
      · exact .inr (.inr ⟨z, rfl, lim_le c, q3 _ H3 os3 A3 (.str _) s⟩)
      · exact q3.elim
    | _ => exact q3.elim
/-- xs[::-1] of a list -/
def drev : D → M D
  | .lst xs => mr (.lst xs.reverse)
  | _ => mx
theorem se_revL {e : Expr} {p1 p2 p3 pos : Pos} {k} {f : M D} (fx : Fx X g) (he : SE X g e f) : SE X g (.Subscript e (.Slice none none (some (.UnaryOp .USub (.Constant (.int 1) k p1) p2)) p3) pos) (mb f drev) :=
  PE.imp (pe_revL he) fun σ H Q q => by
    obtain ⟨os, ρ, t, A, q⟩ := q
    refine ⟨os, ρ, t, A, post_mono (post_bind q) (fun d ρ1 t1 q1 v H1 os1 A1 l1 s1 => ?_) fun _ _ _ _ h => h⟩
    cases l1 with
    | @lst a xs ds hx ax =>
      refine ⟨a, xs, rfl, SqL.of (msk_le _ _ hx), fun p hp => ?_⟩
      obtain ⟨A4, h4, s4⟩ := lay_new (o := .lst xs.reverse) A1 hp
      exact q1 _ _ os1 A4 (.lst h4 (LdA.same (Go.s s4) ax.rev)) (s1.trans s4)
    | _ => exact q1.elim
/-! ### isinstance -/
def isT (T : String) : D → Option Bool := fun d => match T, d with
  | _, .obj _ _ _ => none
  | "int", .int _ => some true
  | "int", .bl _ => some true
  | "int", _ => some false
  | "bool", .bl _ => some true
  | "bool", _ => some false
  | "str", .str _ => some true
  | "str", _ => some false
  | "list", .lst _ => some true
  | "list", _ => some false
  | "tuple", .tup _ => some true
  | "tuple", _ => some false
  | "dict", .dct _ _ => some true
  | "dict", _ => some false
  | _, _ => none
def tyN : D → String
  | .non => "NoneType"
  | .bl _ => "bool"
  | .int _ => "int"
  | .str _ => "str"
  | .lst _ => "list"
  | .tup _ => "tuple"
  | .dct _ _ => "dict"
  | .obj _ _ _ => "?"
/-- built-in names that isinstance asks here -/
inductive Ask : String → Prop
  | int : Ask "int" | bool : Ask "bool" | str : Ask "str" | list : Ask "list" | tuple : Ask "tuple" | dict : Ask "dict"
theorem isT_kit {T : String} (h : Ask T) {d : D} {b : Bool} (e : isT T d = some b) : kitB (tyN d) T = some b := by
  cases h <;> cases d <;> first | (cases e; done) | (injection e with e; subst e; dsimp only [tyN]; decide +kernel)
theorem Ld.tyx {c : Ct} {H : Hp} {v : V} {d : D} (l : Ld c H v d) : (∃ n x ns, d = .obj n x ns) ∨ (∃ a xs, v = .ref a ∧ H a = some (tdO c.w a xs) ∧ tyN d = "dict") ∨ TyX c.K H v (.type (tyN d)) := by
  cases l with
  | non => exact .inr (.inr (.base .non))
  | bl b => exact .inr (.inr (.base (.bl b)))
  | int i => exact .inr (.inr (.base (.int i)))
  | str s => exact .inr (.inr (.base (.str s)))
  | lst h a => exact .inr (.inr (.base (.lst h)))
  | tup h a =>
    refine .inr (.inr ?_)
    rcases h with (h | ⟨ob, h⟩) | ⟨o, its, n, h1, h2, _⟩
    · exact .base (.tup h)
    · exact .fTuple h
    · exact .kTuple h1 h2
  | dct h a b => exact .inr (.inr (.base (.dK h)))
  | dctT h a e k b => exact .inr (.inl ⟨_, _, rfl, h, rfl⟩)
  | obj h cl a => exact .inl ⟨_, _, _, rfl⟩
def rIsiD (c : Ct) (T : String) : List V → Hp → VK → Prop := fun xs H Q => ∃ v d b, xs = [v, .ty T] ∧ Ld c H v d ∧ isT T d = some b ∧ Q (.bl b) H
theorem isT_obj {T : String} {n : Str} {x : List Str} {ns : List D} : isT T (.obj n x ns) = none := by
  unfold isT
  split <;> first | rfl | (rename_i z; cases z)
theorem cr_isiD {c : Ct} {T : String} (hc : c.K = X.K) (hw : c.w = X.w) (ha : Ask T) : CallR X (.builtin "isinstance") (rIsiD c T) := by
  intro pins s σ H xs us Q I r h
  obtain ⟨v, d, b, rfl, l, e, q⟩ := h
  obtain ⟨u1, u2, rfl, r1, r2⟩ := vals2 r
  cases (show u2 = Value.type T from r2)
  have k := isT_kit ha e
  rcases l.tyx with ⟨n, x, ns, rfl⟩ | ⟨a, ts, rfl, h1, h2⟩ | ty
  · rw [isT_obj] at e; cases e
  · cases r1
    rw [h2] at k
    rw [hw] at h1
    obtain ⟨_, _, _, ys, _, o, es, ep, h5, h6, _⟩ := td_of I h1
    exact PySem.W.kia_one PySem.W.kitx_dict I.kIn ⟨o, h5, h6.1⟩ (kit_ty k) (fun z => nomatch z) fun tk => ⟨.bl b, H, I.tok tk, rfl, q⟩
  · rw [hc] at ty
    obtain ⟨P, Z, p, hx⟩ := kit_of I r1 ty
    exact PySem.W.kia_one Z I.kIn p (kit_ty k) hx fun tk => ⟨.bl b, H, I.tok tk, rfl, q⟩
def eisi (T : String) (f : M D) : M D := mb f fun d => match isT T d with
  | some b => mr (.bl b)
  | none => mx
theorem se_isi {e : Expr} {T : String} {x : Str} {p p2 pos : Pos} {f : M D} (fx : Fx X g) (ha : Ask T) (hg : Gl X "isinstance") (hm : g.c.mg "isinstance" = none) (hT : PE X (.Name x p2) (tC (.ty T))) (he : SE X g e f)
    (hst : starEach [e, .Name x p2] X.env = (false, eval e X.env) :: starEach [.Name x p2] X.env := by rfl) (hst2 : starEach [.Name x p2] X.env = (false, eval (.Name x p2) X.env) :: starEach [] X.env := by rfl)
    (hpl : (backTo pos (starEach [.Name x p2] X.env)).any (·.1) = false := by rfl) : SE X g (.Call (.Name "isinstance" p) [e, .Name x p2] [] pos) (eisi T f) :=
  PE.imp (pe_callB (cr_isiD (c := g.c) fx.k.symm fx.w.symm ha) hg (by rw [fx.m]; exact hm) PyProof.Rows.boot_isinstance (pa_cons he (pa_cons hT pa_nil hst2) hst) (by decide) (by decide) hst hpl) fun σ H Q q => by
    obtain ⟨os, ρ, t, A, q⟩ := q
    refine ⟨os, ρ, t, A, post_mono (post_bind q) (fun d ρ1 t1 q1 v H1 os1 A1 l1 s1 => ?_) fun _ _ _ _ h => h⟩
    cases e : isT T d with
    | none => simp only [e] at q1; exact q1.elim
    | some b =>
      simp only [e] at q1
      exact ⟨v, d, b, rfl, Ld.same msk_le l1, e, q1 _ H1 os1 A1 (.bl _) s1⟩
/-- isinstance(x, (list, tuple)) -/
def isRow : D → Option Bool
  | .lst _ => some true
  | .tup _ => some true
  | .obj _ _ _ => none
  | _ => some false
def kit2 (n a b : String) : Option Bool := match kitB n a with | some true => some true | some false => (match kitB n b with | some true => some true | some false => some false | none => none) | none => none
theorem kit_2 {K : PySem.W.Frag} {n a b : String} {r : Bool} (h : kit2 n a b = some r) : PySem.W.kitAny K (.type n) [.type a, .type b] = some r := by
  unfold kit2 at h
  cases ha : kitB n a with
  | none => rw [ha] at h; cases h
  | some x =>
    rw [ha] at h
    refine kitAny_cons (kit_ty ha) (fun e => ?_) (fun e => ?_)
    · subst e
      cases hb : kitB n b with
      | none => rw [hb] at h; cases h
      | some y =>
        rw [hb] at h
        refine kitAny_cons (kit_ty hb) (fun e => ?_) (fun e => ?_)
        · subst e
          rw [← Option.some.inj h]
          exact kitAny_nil
        · subst e
          exact (Option.some.inj h).symm
    · subst e
      exact (Option.some.inj h).symm
inductive Ask2 : String → String → Prop
  | lt : Ask2 "list" "tuple" | tl : Ask2 "tuple" "list"
theorem isRow_kit {S T : String} (h : Ask2 S T) {d : D} {b : Bool} (e : isRow d = some b) : kit2 (tyN d) S T = some b := by
  cases h <;> cases d <;> first | (cases e; done) | (injection e with e; subst e; dsimp only [tyN]; decide +kernel)
def rIsiD2 (c : Ct) (S T : String) : List V → Hp → VK → Prop := fun xs H Q => ∃ v tp d b, xs = [v, .ref tp] ∧ H tp = some (.tup [.ty S, .ty T]) ∧ Ld c H v d ∧ isRow d = some b ∧ Q (.bl b) H
theorem cr_isiD2 {c : Ct} {S T : String} (hc : c.K = X.K) (hw : c.w = X.w) (ha : Ask2 S T) : CallR X (.builtin "isinstance") (rIsiD2 c S T) := by
  intro pins s σ H xs us Q I r h
  obtain ⟨v, tp, d, b, rfl, hT, l, e, q⟩ := h
  have k := kit_2 (K := X.K) (isRow_kit ha e)
  rcases l.tyx with ⟨n, x, ns, rfl⟩ | ⟨a, ts, rfl, h1, h2⟩ | ty
  · cases e
  · obtain ⟨u1, u2, rfl, r1, r2⟩ := vals2 r
    cases r1
    cases (show u2 = Value.ref tp from r2)
    rw [h2] at k
    rw [hw] at h1
    obtain ⟨_, _, _, ys, _, o, es, ep, h5, h6, _⟩ := td_of I h1
    obtain ⟨_, its, rv, o2, g1, g2, n, g3⟩ := (show ObjOk X.prog X.w H s.heap tp (.tup [.ty S, .ty T]) from I.hok tp _ hT)
    have e3 := ClsV.all (cs := [.ty S, .ty T]) (us := [.type S, .type T]) (.cons (.ty _) (.cons (.ty _) .nil)) rv
    subst e3
    obtain ⟨oc, od, dt, sl⟩ := o2
    simp only at g2 g3
    subst g2 g3
    exact PySem.W.kia_tup PySem.W.kitx_dict I.kIn ⟨o, h5, h6.1⟩ g1 k (fun z => nomatch z) fun tk => ⟨.bl b, H, I.tok tk, rfl, q⟩
  · rw [hc] at ty
    exact call_isiT pins s σ H _ us Q I r ⟨v, tp, [.ty S, .ty T], _, [.type S, .type T], b, rfl, hT, .cons (.ty _) (.cons (.ty _) .nil), ty, k, q⟩
def eisr (f : M D) : M D := mb f fun d => match isRow d with
  | some b => mr (.bl b)
  | none => mx
theorem se_isr {e : Expr} {S T : String} {x y : Str} {p p2 p3 p4 pos : Pos} {x1} {f : M D} (fx : Fx X g) (ha : Ask2 S T) (hg : Gl X "isinstance") (hm : g.c.mg "isinstance" = none) (hS : PE X (.Name x p2) (tC (.ty S))) (hT : PE X (.Name y p3) (tC (.ty T))) (he : SE X g e f)
    (hst : starEach [e, .Tuple [.Name x p2, .Name y p3] x1 p4] X.env = (false, eval e X.env) :: starEach [.Tuple [.Name x p2, .Name y p3] x1 p4] X.env := by rfl)
    (hst2 : starEach [.Tuple [.Name x p2, .Name y p3] x1 p4] X.env = (false, eval (.Tuple [.Name x p2, .Name y p3] x1 p4) X.env) :: starEach [] X.env := by rfl)
    (hst3 : starEach [.Name x p2, .Name y p3] X.env = (false, eval (.Name x p2) X.env) :: starEach [.Name y p3] X.env := by rfl) (hst4 : starEach [.Name y p3] X.env = (false, eval (.Name y p3) X.env) :: starEach [] X.env := by rfl)
    (hpl : (backTo pos (starEach [.Tuple [.Name x p2, .Name y p3] x1 p4] X.env)).any (·.1) = false := by rfl) : SE X g (.Call (.Name "isinstance" p) [e, .Tuple [.Name x p2, .Name y p3] x1 p4] [] pos) (eisr f) :=
  PE.imp (pe_callB (cr_isiD2 (c := g.c) fx.k.symm fx.w.symm ha) hg (by rw [fx.m]; exact hm) PyProof.Rows.boot_isinstance (pa_cons he (pa_cons (pe_tup (pa_cons hS (pa_cons hT pa_nil hst4) hst3)) pa_nil hst2) hst) (by decide) (by decide) hst hpl) fun σ H Q q => by
    obtain ⟨os, ρ, t, A, q⟩ := q
    refine ⟨os, ρ, t, A, post_mono (post_bind q) (fun d ρ1 t1 q1 v H1 os1 A1 l1 s1 => ?_) fun _ _ _ _ h => h⟩
    refine ⟨(by show 2 ≤ sizeLine; decide), fun p hp => ?_⟩
    obtain ⟨A4, h4, s4⟩ := lay_new (o := .tup [.ty S, .ty T]) A1 hp
    cases e : isRow d with
    | none => simp only [e] at q1; exact q1.elim
    | some b =>
      simp only [e] at q1
      exact ⟨v, p, d, b, rfl, upd_same, Ld.same msk_le (Ld.same (Go.s s4) l1), e, q1 _ _ os1 A4 (.bl _) (s1.trans s4)⟩
end
end DL

set_option Elab.async false
set_option linter.all false
set_option maxRecDepth 100000
set_option maxHeartbeats 1000000
namespace DL
open PySem PySem.Spec PyProof.Rows L2
/-! ### statements -/
section
variable {g : G} {os : List Addr} {σ : L2.St} {H : Hp} {ρ : List Sl} {t : Pn}
theorem get_set {α : Type} {l : List α} {i j : Nat} {a b : α} (h : (l.set i a)[j]? = some b) : (i = j ∧ i < l.length ∧ b = a) ∨ (i ≠ j ∧ l[j]? = some b) := by
  by_cases e : i = j
  · subst e
    by_cases hl : i < l.length
    · rw [List.getElem?_set_self hl] at h
      exact .inl ⟨rfl, hl, (Option.some.inj h).symm⟩
    · rw [List.getElem?_eq_none (by rw [List.length_set]; omega)] at h; cases h
  · rw [List.getElem?_set_ne e] at h
    exact .inr ⟨e, h⟩
/-- a slot takes a value: sx says of it what is known -/
theorem Amb.put (A : Amb g os σ H ρ t) (i : Nat) (v : V) (sx : Sl) (h : SlOk g os H (some (some v)) sx) (hn : ∀ d, sx = .ow d → ∀ p, v = .ref p → NOw σ ρ p) : Amb g os (σ.set i (some v)) H (ρ.set i sx) t where
  len := by rw [List.length_set, List.length_set]; exact A.len
  sl := fun j s e => by
    rcases get_set e with ⟨rfl, hl, rfl⟩ | ⟨ne, e⟩
    · rw [List.getElem?_set_self (by rw [← A.len]; exact hl)]
      exact h
    · rw [List.getElem?_set_ne ne]
      exact A.sl j s e
  dis := fun j k d e a ne h1 h2 h3 h4 => by
    rcases get_set h1 with ⟨rfl, hl, e1⟩ | ⟨n1, h1⟩ <;> rcases get_set h2 with ⟨rfl, hl2, e2⟩ | ⟨n2, h2⟩
    · exact ne rfl
    · rw [List.getElem?_set_self (by rw [← A.len]; exact hl)] at h3
      rw [List.getElem?_set_ne n2] at h4
      exact hn d e1.symm a (Option.some.inj (Option.some.inj h3)) k e h2 h4
    · rw [List.getElem?_set_self (by rw [← A.len]; exact hl2)] at h4
      rw [List.getElem?_set_ne n1] at h3
      exact hn e e2.symm a (Option.some.inj (Option.some.inj h4)) j d h1 h3
    · rw [List.getElem?_set_ne n1] at h3
      rw [List.getElem?_set_ne n2] at h4
      exact A.dis j k d e a ne h1 h2 h3 h4
  pres := A.pres
  new := A.new
  live := A.live
  slf := A.slf
  o0 := A.o0
  pen := A.pen
theorem Amb.putI (A : Amb g os σ H ρ t) {i : Nat} {v : V} {d : D} (l : Lay g os H v d) : Amb g os (σ.set i (some v)) H (ρ.set i (.im d)) t :=
  A.put i v (.im d) ⟨v, rfl, l⟩ fun _ z => by cases z
theorem Amb.putO {p : Addr} (A : Amb g (p :: os) σ H ρ t) {i : Nat} {d : D} (l : Own g (p :: os) H p d) (n : NOw σ ρ p) : Amb g (p :: os) (σ.set i (some (.ref p))) H (ρ.set i (.ow d)) t :=
  A.put i _ (.ow d) ⟨p, rfl, List.mem_cons_self, l⟩ fun _ _ q z => by
    cases z
    exact n
end
def sq (f k : M Fl) : M Fl := mb f fun fl => match fl with
  | .nx => k
  | .rt d => mr (.rt d)
  | .bk => mr .bk
  | .ct => mr .ct
def sret (f : M D) : M Fl := mb f fun d => mr (.rt d)
def sif (c : M Bool) (f h : M Fl) : M Fl := mb c fun b => if b = true then f else h
def asg (i : Nat) (f : M D) : M Fl := mb f fun d ρ t => .ok .nx (ρ.set i (.im d)) t
def asgO (i : Nat) (f : M D) : M Fl := mb f fun d ρ t => .ok .nx (ρ.set i (.ow d)) t
section
variable {X : Cx} {g : G}
theorem ss_cons {st : Stmt} {rest : List Stmt} {f k : M Fl} (h1 : SS X g st f) (h2 : SSs X g rest k) : SSs X g (st :: rest) (sq f k) :=
  PSs.imp (pss_cons h1 h2) fun Dn σ H q => by
    obtain ⟨os, ρ, t, A, q⟩ := q
    refine ⟨os, ρ, t, A, post_mono (post_bind q) (fun fl ρ1 t1 q1 => ?_) fun _ _ _ _ h => h⟩
    cases fl with
    | nx => exact fun σ' H' os' A' s' => ⟨os', ρ1, t1, A', post_mono q1 (fun _ _ _ h => sQ.base s' h) fun _ _ _ _ h => h⟩
    | rt d => exact q1
    | bk => exact q1
    | ct => exact q1
theorem ss_one {st : Stmt} {f : M Fl} (h1 : SS X g st f) : SSs X g [st] f := pss_one h1
theorem ss_nil : SSs X g [] (mr .nx) := PSs.imp pss_nil fun Dn σ H q => by
  obtain ⟨os, ρ, t, A, q⟩ := q
  exact q σ H os A (Same.refl _)
theorem ss_pass {pos : Pos} : SS X g (.Pass pos) (mr .nx) := PS.imp ps_pass fun Dn σ H q => by
  obtain ⟨os, ρ, t, A, q⟩ := q
  exact q σ H os A (Same.refl _)
theorem ss_break {pos : Pos} : SS X g (.Break pos) (mr .bk) := PS.imp ps_break fun Dn σ H q => by
  obtain ⟨os, ρ, t, A, q⟩ := q
  exact q σ H os A (Same.refl _)
theorem ss_cont {pos : Pos} : SS X g (.Continue pos) (mr .ct) := PS.imp ps_continue fun Dn σ H q => by
  obtain ⟨os, ρ, t, A, q⟩ := q
  exact q σ H os A (Same.refl _)
theorem ss_ret {e : Expr} {pos : Pos} {f : M D} (he : SE X g e f) : SS X g (.Return (some e) pos) (sret f) := PS.imp (ps_ret he) fun Dn σ H q => by
  obtain ⟨os, ρ, t, A, q⟩ := q
  exact ⟨os, ρ, t, A, post_mono (post_bind q) (fun d ρ1 t1 q1 v H1 os1 A1 l1 s1 => q1 v σ H1 os1 A1 l1 s1) fun _ _ _ _ h => h⟩
theorem ss_retN {pos : Pos} : SS X g (.Return none pos) (mr (.rt .non)) := PS.imp ps_retN fun Dn σ H q => by
  obtain ⟨os, ρ, t, A, q⟩ := q
  exact q .non σ H os A .non (Same.refl _)
theorem ss_expr {e : Expr} {pos : Pos} {f : M D} (he : SE X g e f) (hs : swapsWith e none pos.line X.env = pure false := by rfl) : SS X g (.Expr e pos) (mb f fun _ => mr .nx) := PS.imp (ps_expr he hs) fun Dn σ H q => by
  obtain ⟨os, ρ, t, A, q⟩ := q
  exact ⟨os, ρ, t, A, post_mono (post_bind q) (fun d ρ1 t1 q1 v H1 os1 A1 l1 s1 => q1 σ H1 os1 A1 s1) fun _ _ _ _ h => h⟩
theorem ss_if {c : Expr} {a b : List Stmt} {pos : Pos} {k : M Bool} {f h : M Fl} (hc : ST X g c k) (ha : SSs X g a f) (hb : SSs X g b h) : SS X g (.If c a b pos) (sif k f h) :=
  PS.imp (ps_if hc ha hb) fun Dn σ H q => by
    obtain ⟨os, ρ, t, A, q⟩ := q
    refine ⟨os, ρ, t, A, post_mono (post_bind q) (fun b ρ1 t1 q1 H1 os1 A1 s1 => ?_) fun _ _ _ _ h => h⟩
    rcases post_if q1 with ⟨c, q1⟩ | ⟨c, q1⟩
    · rw [if_pos c]; exact ⟨os1, ρ1, t1, A1, post_mono q1 (fun _ _ _ h => sQ.base s1 h) fun _ _ _ _ h => h⟩
    · rw [if_neg c]; exact ⟨os1, ρ1, t1, A1, post_mono q1 (fun _ _ _ h => sQ.base s1 h) fun _ _ _ _ h => h⟩
/-- a statement that these data never come to -/
theorem ss_never {st : Stmt} : SS X g st mx := PS.imp ps_never fun Dn σ H q => by
  obtain ⟨os, ρ, t, A, q⟩ := q
  exact q
theorem ss_set {i : Nat} {x : Str} {e : Expr} {pos pos' : Pos} {f : M D} (fx : Fx X g) (hi : X.N[i]? = some x) (hx : Loc X.env.scope x) (he : SE X g e f) (hs : swapsWith e (some (.Name x pos')) pos.line X.env = pure false := by rfl)
    (hf : X.fn x = true ∨ X.env.scope.names.lookup x = some .local := by first | exact .inl rfl | exact .inr rfl | assumption) : SS X g (.Assign [.Name x pos'] e pos) (asg i f) :=
  PS.imp (ps_set fx.n hi hx he hs hf) fun Dn σ H q => by
    obtain ⟨os, ρ, t, A, q⟩ := q
    exact ⟨os, ρ, t, A, post_mono (post_bind q) (fun d ρ1 t1 q1 v H1 os1 A1 l1 s1 => q1 _ H1 os1 (A1.putI l1) s1) fun _ _ _ _ h => h⟩
theorem ss_setO {i : Nat} {x : Str} {e : Expr} {pos pos' : Pos} {f : M D} (fx : Fx X g) (hi : X.N[i]? = some x) (hx : Loc X.env.scope x) (he : SF X g e f) (hs : swapsWith e (some (.Name x pos')) pos.line X.env = pure false := by rfl)
    (hf : X.fn x = true ∨ X.env.scope.names.lookup x = some .local := by first | exact .inl rfl | exact .inr rfl | assumption) : SS X g (.Assign [.Name x pos'] e pos) (asgO i f) :=
  PS.imp (ps_set fx.n hi hx he hs hf) fun Dn σ H q => by
    obtain ⟨os, ρ, t, A, q⟩ := q
    exact ⟨os, ρ, t, A, post_mono (post_bind q) (fun d ρ1 t1 q1 p H1 os1 A1 o1 n1 w1 s1 => q1 _ H1 (p :: os1) (A1.putO o1 w1) s1) fun _ _ _ _ h => h⟩
/-- the name's container stays as it is from now on -/
def frz (i : Nat) : M Fl := fun ρ t => match ρ[i]? with
  | some (.ow d) => .ok .nx (ρ.set i (.im d)) t
  | _ => .ok .nx ρ t
theorem Amb.freeze' {os : List Addr} {σ : L2.St} {H : Hp} {ρ : List Sl} {t : Pn} (A : Amb g os σ H ρ t) {i : Nat} {d : D} {a : Addr} (e : ρ[i]? = some (.ow d)) (h1 : σ[i]? = some (some (.ref a))) : ∃ os', Amb g os' σ H (ρ.set i (.im d)) t ∧ Same (hd g os H) (hd g os' H) ∧ ∀ b, b ∈ os' ↔ b ∈ os ∧ b ≠ a := by
  obtain ⟨a', h1', h2, h3⟩ := A.sl i _ e
  rw [h1] at h1'
  cases h1'
  have sub : ∀ b ∈ mo g (os.filter (· ≠ a)), b ∈ mo g os := fun b hb => by
    rcases List.mem_append.mp hb with z | z
    · exact List.mem_append_left _ z
    · exact List.mem_append_right _ (List.mem_filter.mp z).1
  have le : Same (hd g os H) (hd g (os.filter (· ≠ a)) H) := msk_sub sub
  have out : a ∉ mo g (os.filter (· ≠ a)) := fun z => by
    rcases List.mem_append.mp z with z | z
    · obtain ⟨o, e0⟩ := A.o0 a z
      rw [A.new a h2] at e0; cases e0
    · have := (List.mem_filter.mp z).2
      simp at this
  have hi : i < ρ.length := (List.getElem?_eq_some_iff.mp e).1
  refine ⟨os.filter (· ≠ a), ⟨by rw [List.length_set]; exact A.len, fun j s es => ?_, fun j k d1 e1 b ne z1 z2 z3 => ?_, A.pres, fun b hb => A.new b (List.mem_filter.mp hb).1, fun b hb => A.live b (sub b hb), A.slf, A.o0, A.pen⟩, le, fun b => by rw [List.mem_filter]; simp⟩
  · rcases get_set es with ⟨rfl, _, rfl⟩ | ⟨nj, es⟩
    · refine ⟨.ref a, h1, ?_⟩
      have at_ : ∀ {o : HO}, H a = some o → hd g (os.filter (· ≠ a)) H a = some o := fun {o} z => by rw [show hd g (os.filter (· ≠ a)) H a = H a from msk_out out]; exact z
      cases d with
      | lst ds => obtain ⟨vs, k1, k2⟩ := h3; exact .lst (at_ k1) (LdA.same le k2)
      | dct kd vd =>
        rcases h3 with ⟨kvs, k1, k2, k3⟩ | ⟨xs, k1, k2, k3, k4, k5, _⟩
        · exact .dct (at_ k1) (LdA.same le k2) (LdA.same le k3)
        · exact .dctT (at_ k1) (LdA.same le k2) k3 k4 (LdA.same le k5)
      | _ => exact h3.elim
    · have q := A.sl j s es
      cases s with
      | un => trivial
      | im d => obtain ⟨v, h1, h2⟩ := q; exact ⟨v, h1, Ld.same le h2⟩
      | bo d => obtain ⟨a, h1, h2, h3, h4⟩ := q; exact ⟨a, h1, h2.same le (fun _ z => z), h3, h4⟩
      | ow d' =>
        obtain ⟨b, k1, k2, k3⟩ := q
        refine ⟨b, k1, List.mem_filter.mpr ⟨k2, ?_⟩, k3.same le fun _ z => z⟩
        have : b ≠ a := fun z => A.dis i j d d' a nj e es h1 (by rw [k1, z])
        simpa using this
      | pn => exact q
      | sf ns vs => obtain ⟨x, C, dx, fs, h1, h2, h3, h4, h5⟩ := q; exact ⟨x, C, dx, fs, h1, h2, h3, h4, LdA.same le h5⟩
  · rcases get_set z1 with ⟨_, _, w⟩ | ⟨n1, z1⟩
    · cases w
    · rcases get_set z2 with ⟨_, _, w⟩ | ⟨n2, z2⟩
      · cases w
      · exact A.dis j k d1 e1 b ne z1 z2 z3
theorem Amb.freeze {os : List Addr} {σ : L2.St} {H : Hp} {ρ : List Sl} {t : Pn} (A : Amb g os σ H ρ t) {i : Nat} {d : D} (e : ρ[i]? = some (.ow d)) : ∃ os', Amb g os' σ H (ρ.set i (.im d)) t ∧ Same (hd g os H) (hd g os' H) := by
  obtain ⟨a, h1, h2, h3⟩ := A.sl i _ e
  obtain ⟨os', A', le, _⟩ := A.freeze' e h1
  exact ⟨os', A', le⟩
theorem ss_frz (i : Nat) {st : List Stmt} {f : M Fl} (h : SSs X g st f) : SSs X g st (sq (frz i) f) := PSs.imp h fun Dn σ H q => by
  obtain ⟨os, ρ, t, A, q⟩ := q
  unfold sq mb frz at q
  cases e : ρ[i]? with
  | none => simp only [e] at q; exact ⟨os, ρ, t, A, q⟩
  | some s =>
    simp only [e] at q
    cases s with
    | ow d =>
      obtain ⟨os', A', le⟩ := A.freeze e
      exact ⟨os', _, t, A', post_mono q (fun _ _ _ h => sQ.base le h) fun _ _ _ _ h => h⟩
    | _ => exact ⟨os, ρ, t, A, q⟩
end
end DL

set_option Elab.async false
set_option linter.all false
set_option maxRecDepth 100000
set_option maxHeartbeats 1000000
namespace DL
open PySem PySem.Spec PyProof.Rows L2
/-! ### targets -/
/-- what a target does with a datum: only the slots of is change -/
def gD (g : G) (is : List Nat) (f : D → M Unit) : TG := fun v σ H Q => ∃ os ρ t d, Amb g os σ H ρ t ∧ Lay g os H v d ∧
  (f d ρ t).post (fun _ ρ' t' => ∀ σ', Amb g os σ' H ρ' t' → (∀ j, j ∉ is → σ'[j]? = σ[j]?) → σ'.length = σ.length → Q σ' H) noX
def gsD (g : G) (is : List Nat) (f : List D → M Unit) : TGs := fun vs σ H Q => ∃ os ρ t ds, Amb g os σ H ρ t ∧ LayA g os H vs ds ∧
  (f ds ρ t).post (fun _ ρ' t' => ∀ σ', Amb g os σ' H ρ' t' → (∀ j, j ∉ is → σ'[j]? = σ[j]?) → σ'.length = σ.length → Q σ' H) noX
abbrev SG (X : Cx) (g : G) (tg : Expr) (is : List Nat) (f : D → M Unit) : Prop := PG X tg (gD g is f)
abbrev SGs (X : Cx) (g : G) (tgs : List Expr) (is : List Nat) (f : List D → M Unit) : Prop := PGs X tgs (gsD g is f)
def gname (i : Nat) : D → M Unit := fun d ρ t => .ok () (ρ.set i (.im d)) t
def gnil : List D → M Unit := fun ds => match ds with
  | [] => mr ()
  | _ => mx
def gcons (f : D → M Unit) (h : List D → M Unit) : List D → M Unit := fun ds => match ds with
  | d :: r => mb (f d) fun _ => h r
  | [] => mx
def gtup (n : Nat) (f : List D → M Unit) : D → M Unit := fun d => match d with
  | .tup ds => if ds.length = n then f ds else mx
  | .lst ds => if ds.length = n then f ds else mx
  | _ => mx
section
variable {X : Cx} {g : G}
theorem PG.imp {tg : Expr} {t t' : TG} (h : PG X tg t) (w : ∀ v σ H Q, t' v σ H Q → t v σ H Q) : PG X tg t' := ⟨fun pins s σ H v u Q I r q => h.run pins s σ H v u Q I r (w v σ H Q q)⟩
theorem PGs.imp {tg : List Expr} {t t' : TGs} (h : PGs X tg t) (w : ∀ v σ H Q, t' v σ H Q → t v σ H Q) : PGs X tg t' := ⟨fun pins s σ H v u Q I r q => h.run pins s σ H v u Q I r (w v σ H Q q)⟩
theorem PG.or {tg : Expr} {t t' : TG} (h : PG X tg t) (h' : PG X tg t') : PG X tg (fun v σ H Q => t v σ H Q ∨ t' v σ H Q) := ⟨fun pins s σ H v u Q I r q => q.elim (h.run pins s σ H v u Q I r) (h'.run pins s σ H v u Q I r)⟩
theorem sg_name {i : Nat} {x : Str} {pos : Pos} (fx : Fx X g) (hi : X.N[i]? = some x) (hx : Loc X.env.scope x) (hf : X.fn x = true ∨ X.env.scope.names.lookup x = some .local := by first | exact .inl rfl | exact .inr rfl | assumption) : SG X g (.Name x pos) [i] (gname i) :=
  PG.imp (pg_name fx.n hi hx hf) fun v σ H Q q => by
    obtain ⟨os, ρ, t, d, A, l, q⟩ := q
    exact q _ (A.putI l) (fun j hj => List.getElem?_set_ne (fun e => hj (by rw [e]; exact List.mem_singleton.mpr rfl))) (List.length_set ..)
theorem sg_nil : SGs X g [] [] gnil := PGs.imp pgs_nil fun v σ H Q q => by
  obtain ⟨os, ρ, t, ds, A, l, q⟩ := q
  cases l with
  | nil => exact ⟨rfl, q σ A (fun _ _ => rfl) rfl⟩
  | cons _ _ => exact q.elim
theorem sg_cons {e : Expr} {es : List Expr} {is js : List Nat} {f : D → M Unit} {h : List D → M Unit} (h1 : SG X g e is f) (h2 : SGs X g es js h) (hs : (assignEach (e :: es) X.env).map (·.2) = assign e X.env :: (assignEach es X.env).map (·.2) := by rfl) : SGs X g (e :: es) (is ++ js) (gcons f h) :=
  PGs.imp (pgs_cons h1 h2 hs) fun v σ H Q q => by
    obtain ⟨os, ρ, t, ds, A, l, q⟩ := q
    cases l with
    | nil => exact q.elim
    | @cons v vs d ds l a =>
      refine ⟨v, vs, rfl, os, ρ, t, d, A, l, post_mono (post_bind q) (fun _ ρ1 t1 q1 σ1 A1 k1 n1 => ?_) fun _ _ _ _ h => h⟩
      exact ⟨os, ρ1, t1, ds, A1, a, post_mono q1 (fun _ ρ2 t2 q2 σ2 A2 k2 n2 => q2 σ2 A2 (fun j hj => (k2 j fun z => hj (List.mem_append_right _ z)).trans (k1 j fun z => hj (List.mem_append_left _ z))) (n2.trans n1)) fun _ _ _ _ h => h⟩
theorem sg_tup {es : List Expr} {k : Nat} {pos : Pos} {is : List Nat} {n : Nat} {f : List D → M Unit} (fx : Fx X g) (h : SGs X g es is f) (hn : (assignEach es X.env).length = n := by rfl) (hst : (assignEach es X.env).findIdx? (·.1) = none := by rfl) : SG X g (.Tuple es k pos) is (gtup n f) :=
  PG.imp (PG.or (pg_tup fx.c h hn hst) (pg_lst fx.c h hn hst)) fun v σ H Q q => by
    obtain ⟨os, ρ, t, d, A, l, q⟩ := q
    cases l with
    | @tup a xs ds hx ax =>
      simp only [gtup] at q
      rcases post_if q with ⟨c, q⟩ | ⟨_, q⟩
      · exact .inl ⟨a, xs, rfl, by rw [fx.k]; exact Lay.seqT hx, by rw [ax.len]; exact c, os, ρ, t, ds, A, ax, q⟩
      · exact q.elim
    | @lst a xs ds hx ax =>
      simp only [gtup] at q
      rcases post_if q with ⟨c, q⟩ | ⟨_, q⟩
      · exact .inr ⟨a, xs, rfl, SqL.of (msk_le _ _ hx), by rw [ax.len]; exact c, os, ρ, t, ds, A, ax, q⟩
      · exact q.elim
    | _ => exact q.elim
def sasg (f : M D) (h : D → M Unit) : M Fl := mb f fun d => mb (h d) fun _ => mr .nx
theorem ss_asg {tg e : Expr} {pos : Pos} {is : List Nat} {f : M D} {h : D → M Unit} (he : SE X g e f) (hg : SG X g tg is h) (hs : swapsWithSole [tg] e pos.line X.env = pure false := by rfl) (hw : swappedStores [tg] e X.env = pure none := by rfl)
    (h1 : (assignEach [tg] X.env).map (·.2) = [assign tg X.env] := by rfl) : SS X g (.Assign [tg] e pos) (sasg f h) :=
  PS.imp (ps_asg he hg hs hw h1) fun Dn σ H q => by
    obtain ⟨os, ρ, t, A, q⟩ := q
    refine ⟨os, ρ, t, A, post_mono (post_bind q) (fun d ρ1 t1 q1 v H1 os1 A1 l1 s1 => ?_) fun _ _ _ _ h => h⟩
    exact ⟨os1, ρ1, t1, d, A1, l1, post_mono (post_bind q1) (fun _ ρ2 t2 q2 σ2 A2 k2 n2 => q2 σ2 H1 os1 A2 s1) fun _ _ _ _ h => h⟩
/-! x, y = a, b -/
def spar (i j : Nat) (h : M (List D)) : M Fl := mb h fun ds => match ds with
  | [a, b] => fun ρ t => .ok .nx ((ρ.set i (.im a)).set j (.im b)) t
  | _ => mx
theorem ss_par {i j : Nat} {x y : Str} {a b : Expr} {px py pt pos : Pos} {kt k2 pt2} {h : M (List D)} (fx : Fx X g) (hi : X.N[i]? = some x) (hj : X.N[j]? = some y) (hij : i ≠ j) (hx : X.env.scope.names.lookup x = some .local) (hy : X.env.scope.names.lookup y = some .local) (ha : SA X g [a, b] h)
    (hw : swappedStores [.Tuple [.Name x px, .Name y py] kt pt] (.Tuple [a, b] k2 pt2) X.env = pure (some [x, y])) (hs : swapsWithSole [.Tuple [.Name x px, .Name y py] kt pt] (.Tuple [a, b] k2 pt2) pos.line X.env = pure false := by rfl) :
    SS X g (.Assign [.Tuple [.Name x px, .Name y py] kt pt] (.Tuple [a, b] k2 pt2) pos) (spar i j h) :=
  PS.imp (ps_par fx.c fx.n hi hj hij hx hy ha hw hs) fun Dn σ H q => by
    obtain ⟨os, ρ, t, A, q⟩ := q
    refine ⟨os, ρ, t, A, post_mono (post_bind q) (fun ds ρ1 t1 q1 vs H1 os1 A1 l1 s1 => ?_) fun _ _ _ _ h => h⟩
    match ds, l1, q1 with
    | [d, e], .cons l (.cons l2 .nil), q1 => exact ⟨_, _, rfl, q1 _ H1 os1 ((A1.putI l).putI l2) s1⟩
    | [], _, q1 => exact q1.elim
    | [_], _, q1 => exact q1.elim
    | _ :: _ :: _ :: _, _, q1 => exact q1.elim
/-- the second a container of its own -/
def sparO (i j : Nat) (f h : M D) : M Fl := mb f fun a => mb h fun b => fun ρ t => .ok .nx ((ρ.set i (.im a)).set j (.ow b)) t
theorem ss_parO {i j : Nat} {x y : Str} {a b : Expr} {px py pt pos : Pos} {kt k2 pt2} {f h : M D} (fx : Fx X g) (hi : X.N[i]? = some x) (hj : X.N[j]? = some y) (hij : i ≠ j) (hx : X.env.scope.names.lookup x = some .local) (hy : X.env.scope.names.lookup y = some .local) (ha : SE X g a f) (hb : SF X g b h)
    (hw : swappedStores [.Tuple [.Name x px, .Name y py] kt pt] (.Tuple [a, b] k2 pt2) X.env = pure (some [x, y])) (hs : swapsWithSole [.Tuple [.Name x px, .Name y py] kt pt] (.Tuple [a, b] k2 pt2) pos.line X.env = pure false := by rfl)
    (hst : starEach [a, b] X.env = (false, eval a X.env) :: starEach [b] X.env := by rfl) (hst2 : starEach [b] X.env = (false, eval b X.env) :: starEach [] X.env := by rfl) :
    SS X g (.Assign [.Tuple [.Name x px, .Name y py] kt pt] (.Tuple [a, b] k2 pt2) pos) (sparO i j f h) :=
  PS.imp (ps_par fx.c fx.n hi hj hij hx hy (pa_cons ha (pa_cons hb pa_nil hst2) hst) hw hs) fun Dn σ H q => by
    obtain ⟨os, ρ, t, A, q⟩ := q
    refine ⟨os, ρ, t, A, post_mono (post_bind q) (fun d ρ1 t1 q1 v H1 os1 A1 l1 s1 => ?_) fun _ _ _ _ h => h⟩
    refine ⟨os1, ρ1, t1, A1, post_mono (post_bind q1) (fun e ρ2 t2 q2 p H2 os2 A2 o2 n2 w2 s2 => ?_) fun _ _ _ _ h => h⟩
    have A3 := A2.putI (i := i) (Ld.same (Go.s s2) l1)
    refine ⟨v, .ref p, rfl, q2 _ H2 (p :: os2) (A3.putO o2 fun k z e1 e2 => ?_) (s1.trans s2)⟩
    rcases get_set e1 with ⟨_, _, w⟩ | ⟨nk, e1⟩
    · cases w
    · rw [List.getElem?_set_ne nk] at e2
      exact w2 k z e1 e2
end
/-! ### what is walked -/
/-- J gives the data ds, whatever is done to what is hidden -/
def Wk (g : G) (os0 : List Addr) (H0 : Hp) (J : It) (ds : List D) : Prop := ∀ (i : Nat) (os : List Addr) (H : Hp), Same (hd g os0 H0) (hd g os H) → (∀ a ∈ mo g os, ∃ o, H a = some o) →
  (i = ds.length → J.stop i H) ∧ ∀ d, ds[i]? = some d → J.go i H ∧ ∀ x H', J.yld i H x H' → Same H H' ∧ Lay g os H' x d
def iD (g : G) (it : M (List D)) : TI := fun σ H R => ∃ os ρ t, Amb g os σ H ρ t ∧
  (it ρ t).post (fun ds ρ' t' => ∀ J H' os', Amb g os' σ H' ρ' t' → Go g os H os' H' → Wk g os' H' J ds → R J H') noX
abbrev SI (X : Cx) (g : G) (tg e : Expr) (it : M (List D)) : Prop := PI X tg e (iD g it)
section
variable {X : Cx} {g : G}
theorem PI.imp {tg e : Expr} {t t' : TI} (h : PI X tg e t) (w : ∀ σ H R, t' σ H R → t σ H R) : PI X tg e t' := ⟨fun pins s σ H R I q => h.run pins s σ H R I (w σ H R q)⟩
theorem PI.or {tg e : Expr} {t t' : TI} (h : PI X tg e t) (h' : PI X tg e t') : PI X tg e (fun σ H R => t σ H R ∨ t' σ H R) := ⟨fun pins s σ H R I q => q.elim (h.run pins s σ H R I) (h'.run pins s σ H R I)⟩
theorem wk_list {os : List Addr} {H : Hp} {a : Addr} {xs : List V} {ds : List D} (h : hd g os H a = some (.lst xs)) (ax : LayA g os H xs ds) : Wk g os H (Itl g.c.K a) ds := fun i os' H' s lv => by
  have h' := msk_le _ _ (s _ _ h)
  refine ⟨fun e => ⟨xs, SqL.of h', by rw [ax.len]; omega⟩, fun d e => ?_⟩
  obtain ⟨v, e1, e2⟩ := ax.get' e
  exact ⟨⟨xs, v, SqL.of h', e1⟩, fun x H2 y => by
    obtain ⟨rfl, y⟩ := y
    have := y xs (SqL.of h')
    rw [e1] at this
    cases this
    exact ⟨Same.refl _, Ld.same s e2⟩⟩
theorem wk_tup {os : List Addr} {H : Hp} {a : Addr} {xs : List V} {ds : List D} (h : SqT g.c.K (hd g os H) a xs) (ax : LayA g os H xs ds) : Wk g os H (Itt g.c.K a) ds := fun i os' H' s lv => by
  have h' := Lay.seqT (seqT_same s h)
  refine ⟨fun e => ⟨xs, h', by rw [ax.len]; omega⟩, fun d e => ?_⟩
  obtain ⟨v, e1, e2⟩ := ax.get' e
  exact ⟨⟨xs, v, h', e1⟩, fun x H2 y => by
    obtain ⟨rfl, y⟩ := y
    have := y xs h'
    rw [e1] at this
    cases this
    exact ⟨Same.refl _, Ld.same s e2⟩⟩
def chars (s : Str) : List D := s.cps.toList.map fun c => .str ⟨#[c]⟩
/-- the items of a list, a tuple, a text -/
def items : D → M (List D)
  | .lst ds => mr ds
  | .tup ds => mr ds
  | .str s => mr (chars s)
  | _ => mx
theorem wk_str {os : List Addr} {H : Hp} {z : Str} : Wk g os H (Its z) (chars z) := fun i os' H' s lv => by
  have hl : (chars z).length = z.cps.size := by simp [chars]
  refine ⟨fun e => (walk_str (z := z)).stops H' trivial |> fun q => by rw [e, hl]; exact q, fun d e => ?_⟩
  have hi : i < z.cps.size := by rw [← hl]; exact (List.getElem?_eq_some_iff.mp e).1
  refine ⟨walk_str.goes i H' hi trivial, fun x H2 y => ?_⟩
  obtain ⟨rfl, c, e1, rfl⟩ := walk_str.yields i H' x H2 hi trivial y
  refine ⟨Same.refl _, ?_⟩
  have : (chars z)[i]? = some (.str ⟨#[c]⟩) := by
    unfold chars
    rw [List.getElem?_map, Array.getElem?_toList, e1]; rfl
  rw [this] at e
  cases e
  exact .str _
theorem si_seq {tg e : Expr} {f : M D} (fx : Fx X g) (he : SE X g e f) : SI X g tg e (mb f items) :=
  PI.imp (PI.or (pi_list he) (PI.or (pi_tup he) (pi_str he))) fun σ H R q => by
    rw [fx.k]
    obtain ⟨os, ρ, t, A, q⟩ := q
    have q := post_bind q
    cases ef : f ρ t with
    | ok d ρ1 t1 =>
      rw [ef] at q
      have q : (items d ρ1 t1).post _ _ := q
      have mk : ∀ {Q : VK}, (∀ v H1 os1, Amb g os1 σ H1 ρ1 t1 → Lay g os1 H1 v d → Go g os H os1 H1 → Q v H1) → tD g f σ H Q := fun {Q} h => ⟨os, ρ, t, A, by rw [ef]; exact h⟩
      cases d with
      | lst ds => exact .inl (mk fun v H1 os1 A1 l1 s1 => by
          cases l1 with
          | @lst a xs _ hx ax => exact ⟨a, rfl, ⟨xs, SqL.of (msk_le _ _ hx)⟩, q _ H1 os1 A1 s1 (wk_list hx ax)⟩)
      | tup ds => exact .inr (.inl (mk fun v H1 os1 A1 l1 s1 => by
          cases l1 with
          | @tup a xs _ hx ax => exact ⟨a, rfl, ⟨xs, Lay.seqT hx⟩, q _ H1 os1 A1 s1 (wk_tup hx ax)⟩))
      | str z => exact .inr (.inr (mk fun v H1 os1 A1 l1 s1 => by
          cases l1
          exact ⟨z, rfl, q _ H1 os1 A1 s1 wk_str⟩))
      | _ => exact q.elim
    | ex c ns vs t' => rw [ef] at q; exact q.elim
    | bad => rw [ef] at q; exact q.elim
def rng (lo : Int) (n : Nat) : List D := (List.range n).map fun (i : Nat) => .int (lo + i)
theorem wk_rng {os : List Addr} {H : Hp} {lo : Int} {n : Nat} : Wk g os H (Itr lo n) (rng lo n) := fun i os' H' s lv => by
  have hl : (rng lo n).length = n := by simp [rng]
  refine ⟨fun e => by rw [e, hl]; exact Nat.le_refl _, fun d e => ?_⟩
  have hi : i < n := by rw [← hl]; exact (List.getElem?_eq_some_iff.mp e).1
  refine ⟨hi, fun x H2 y => ?_⟩
  obtain ⟨rfl, rfl⟩ := y
  have : (rng lo n)[i]? = some (.int (lo + i)) := by
    unfold rng
    rw [List.getElem?_map, List.getElem?_range hi]; rfl
  rw [this] at e
  cases e
  exact ⟨Same.refl _, .int _⟩
def drng1 : List D → M (List D)
  | [.int j] => if -(2 ^ 62) ≤ j ∧ j < 2 ^ 62 then mr (rng 0 j.toNat) else mx
  | _ => mx
def drng2 : List D → M (List D)
  | [.int i, .int j] => if -(2 ^ 62) ≤ i ∧ i < 2 ^ 62 ∧ -(2 ^ 62) ≤ j ∧ j < 2 ^ 62 then mr (rng i (j - i).toNat) else mx
  | _ => mx
theorem si_range1 {tg a : Expr} {p pos : Pos} {f : M (List D)} (fx : Fx X g) (hg : Gl X "range") (hm : g.c.mg "range" = none) (ha : SA X g [a] f) (hs : starEach [a] X.env = [(false, eval a X.env)] := by rfl) : SI X g tg (.Call (.Name "range" p) [a] [] pos) (mb f drng1) :=
  PI.imp (pi_range1 hg (by rw [fx.m]; exact hm) ha hs) fun σ H R q => by
    obtain ⟨os, ρ, t, A, q⟩ := q
    refine ⟨os, ρ, t, A, post_mono (post_bind q) (fun ds ρ1 t1 q1 vs H1 os1 A1 l1 s1 => ?_) fun _ _ _ _ h => h⟩
    cases l1 with
    | nil => exact q1.elim
    | cons l a => cases a with
      | cons _ _ => cases l <;> exact q1.elim
      | nil => cases l with
        | int j =>
          simp only [drng1] at q1
          rcases post_if q1 with ⟨c, q1⟩ | ⟨_, q1⟩
          · exact ⟨j, rfl, c.1, c.2, q1 _ H1 os1 A1 s1 wk_rng⟩
          · exact q1.elim
        | _ => exact q1.elim
/-! ### for -/
def forD (tgt : D → M Unit) (body : M Fl) : List D → M Fl
  | [] => mr .nx
  | d :: ds => mb (tgt d) fun _ => mb body fun fl => match fl with
    | .nx => forD tgt body ds
    | .ct => forD tgt body ds
    | .bk => mr .nx
    | .rt r => mr (.rt r)
def sfor (it : M (List D)) (tgt : D → M Unit) (body : M Fl) : M Fl := mb it (forD tgt body)
theorem ss_for {tg iter : Expr} {body : List Stmt} {pos : Pos} {it : M (List D)} {is : List Nat} {tgt : D → M Unit} {f : M Fl} (fx : Fx X g) (hi : SI X g tg iter it) (hg : SG X g tg is tgt) (hb : SSs X g body f) (hs : ∀ x, foldedSetIterable iter X.env x = pure x := by intro _; rfl) :
    SS X g (.For tg iter body [] pos) (sfor it tgt f) :=
  PS.imp (ps_for fx.p fx.c hi hg hb hs) fun Dn σ H q => by
    obtain ⟨os, ρ, t, A, q⟩ := q
    refine ⟨os, ρ, t, A, post_mono (post_bind q) (fun ds ρ1 t1 q1 J H1 os1 A1 s1 wk => ?_) fun _ _ _ _ h => h⟩
    refine ⟨fun i m σ' H' => m = ds.length - i ∧ i ≤ ds.length ∧ ∃ os' ρ' t', Amb g os' σ' H' ρ' t' ∧ Same (hd g os1 H1) (hd g os' H') ∧ (forD tgt f (ds.drop i) ρ' t').post (sQ g Dn (hd g os' H')) noX, ⟨ds.length, by simp, Nat.zero_le _, os1, ρ1, t1, A1, Same.refl _, by rw [List.drop_zero]; exact post_mono q1 (fun _ _ _ h => sQ.base s1 h) fun _ _ _ _ h => h⟩, ?_⟩
    rintro i m σ2 H2 ⟨rfl, hi, os2, ρ2, t2, A2, s2, q2⟩
    obtain ⟨w1, w2⟩ := wk i os2 H2 s2 A2.live
    by_cases hlt : i < ds.length
    · obtain ⟨go, yl⟩ := w2 ds[i] (List.getElem?_eq_getElem hlt)
      rw [List.drop_eq_getElem_cons hlt] at q2
      refine .inr ⟨go, fun σ' H' => ∃ os' ρ' t', Amb g os' σ' H' ρ' t' ∧ Same (hd g os1 H1) (hd g os' H') ∧ (forD tgt f (ds.drop (i + 1)) ρ' t').post (sQ g Dn (hd g os' H')) noX, fun σ' H' ⟨os', ρ', t', a, b, c⟩ => ⟨ds.length - (i + 1), by omega, rfl, hlt, os', ρ', t', a, b, c⟩, fun x H3 y => ?_⟩
      obtain ⟨s3, l3⟩ := yl x H3 y
      refine ⟨os2, ρ2, t2, ds[i], A2.same s3, l3, post_mono (post_bind q2) (fun _ ρ4 t4 q4 σ4 A4 k4 n4 => ?_) fun _ _ _ _ h => h⟩
      have s5 := s2.trans (hd_same (g := g) (os := os2) s3)
      have st : ∀ σ' H' os' ρ' t', Amb g os' σ' H' ρ' t' → Same (hd g os2 H3) (hd g os' H') → (forD tgt f (ds.drop (i + 1)) ρ' t').post (sQ g Dn (hd g os2 H2)) noX →
          ∃ os' ρ' t', Amb g os' σ' H' ρ' t' ∧ Same (hd g os1 H1) (hd g os' H') ∧ (forD tgt f (ds.drop (i + 1)) ρ' t').post (sQ g Dn (hd g os' H')) noX := fun σ' H' os' ρ' t' a b c =>
        ⟨os', ρ', t', a, s5.trans b, post_mono c (fun _ _ _ h => sQ.base ((hd_same (g := g) (os := os2) s3).trans b) h) fun _ _ _ _ h => h⟩
      refine ⟨os2, ρ4, t4, A4, post_mono (post_bind q4) (fun fl ρ5 t5 q5 => ?_) fun _ _ _ _ h => h⟩
      cases fl with
      | nx => exact fun σ' H' os' A' s' => st σ' H' os' ρ5 t5 A' s' q5
      | ct => exact fun σ' H' os' A' s' => st σ' H' os' ρ5 t5 A' s' q5
      | bk => exact fun σ' H' os' A' s' => q5 σ' H' os' A' ((hd_same (g := g) (os := os2) s3).trans s')
      | rt d => exact fun v σ' H' os' A' l' s' => q5 v σ' H' os' A' l' ((hd_same (g := g) (os := os2) s3).trans s')
    · have e : i = ds.length := by omega
      subst e
      rw [List.drop_length] at q2
      exact .inl ⟨w1 rfl, q2 σ2 H2 os2 A2 (Same.refl _)⟩
end
end DL

set_option Elab.async false
set_option linter.all false
set_option maxRecDepth 100000
set_option maxHeartbeats 1000000
namespace DL
open PySem PySem.Spec PyProof.Rows L2
/-! ### the state behind an expression: the slots as they were -/
section
variable {g : G} {os os' : List Addr} {σ σ' : L2.St} {H H' : Hp} {ρ ρ' : List Sl} {t t' : Pn}
theorem Go.sub (s : Go g os H os' H') : ∀ b ∈ mo g os, b ∈ mo g os' := fun b h => by
  rcases List.mem_append.mp h with z | z
  · exact List.mem_append_left _ z
  · exact List.mem_append_right _ (s.k b z).1
theorem Go.base (s : Go g os H os' H') : Go g os H os H' :=
  ⟨s.s.trans (msk_sub s.sub), fun b h => ⟨h, (s.k b h).2⟩, s.x⟩
theorem Go.back (s : Go g os H os' H') : Same (hd g os' H') (hd g os H') := msk_sub s.sub
theorem Amb.go (A : Amb g os σ H ρ t) (s : Go g os H os' H') (A' : Amb g os' σ' H' ρ' t') : Amb g os σ H' ρ t' :=
  A.step s.base.s (fun a h o e => (s.k a h).2 o e) (fun b o e ho => by
    by_cases h : b ∈ mo g os
    · rcases List.mem_append.mp h with z | z
      · obtain ⟨o0, e0⟩ := A.o0 b z
        have := A.pres b o0 e0 ho
        rw [e] at this
        cases this
        exact A'.pres b o e0 ho
      · exact (s.k b z).2 o e
    · exact msk_le _ _ (s.s b o (by rw [show hd g os H b = H b from msk_out h]; exact e))) (fun a h => A'.live a (List.mem_append_left _ h)) s.x A'.pen
/-- an owned object that no name owns takes another form -/
theorem Amb.write (A : Amb g os σ H ρ t) {a : Addr} {o : HO} (ha : a ∈ os) (n : NOw σ ρ a) : Amb g os σ (upd H a o) ρ t := by
  have hm : a ∈ mo g os := List.mem_append_right _ ha
  have out : ∀ b, H b = none → False ∨ b ≠ a := fun b h => .inr fun z => by
    obtain ⟨o, e⟩ := A.live a hm
    rw [← z, h] at e; cases e
  have nO : ∀ b ∈ g.O, b ≠ a := fun b h z => by
    obtain ⟨o, e⟩ := A.o0 b h
    rw [z, A.new a ha] at e; cases e
  have s : Same (hd g os H) (hd g os (upd H a o)) := by rw [show hd g os (upd H a o) = hd g os H from msk_upd hm]; exact Same.refl _
  refine ⟨A.len, fun i sx e => ?_, A.dis, fun b o' e ho => ?_, A.new, fun b hb => ?_, A.slf, A.o0, fun p l n e => ?_⟩
  · have q := A.sl i sx e
    cases sx with
    | un => trivial
    | im d => obtain ⟨v, h1, h2⟩ := q; exact ⟨v, h1, Ld.same s h2⟩
    | bo d =>
      obtain ⟨b, h1, h2, h3, h4⟩ := q
      exact ⟨b, h1, h2.same s (fun o' z => by rw [upd_ne fun w => by rw [w, A.new a ha] at h3; cases h3]; exact z), h3, h4⟩
    | ow d =>
      obtain ⟨b, h1, h2, h3⟩ := q
      exact ⟨b, h1, h2, h3.same s fun o' z => by rw [upd_ne fun w => n i d e (by rw [h1, w])]; exact z⟩
    | pn => exact q
    | sf ns vs => obtain ⟨x, C, dx, fs, h1, h2, h3, h4, h5⟩ := q; exact ⟨x, C, dx, fs, h1, h2, by rw [upd_ne (nO _ (A.slf _ _ _ h1))]; exact h3, h4, LdA.same s h5⟩
  · have := A.pres b o' e ho
    rw [upd_ne fun w => by rw [w, A.new a ha] at e; cases e]
    exact this
  · by_cases z : b = a
    · exact ⟨o, by rw [z]; exact upd_same⟩
    · obtain ⟨o', e⟩ := A.live b hb
      exact ⟨o', by rw [upd_ne z]; exact e⟩
  · obtain ⟨q, h1, h2⟩ := A.pen p l n e
    exact ⟨⟨by rw [upd_ne (nO _ h1)]; exact q.d, by rw [upd_ne fun w => by obtain ⟨o, e⟩ := h2.2; rw [w, A.new a ha] at e; cases e]; exact q.l, q.k0, q.z0, q.len⟩, h1, h2⟩
/-- names of no account -/
def unS (ρ : List Sl) : List Nat → List Sl
  | [] => ρ
  | v :: vs => (unS ρ vs).set v .un
theorem Amb.wipe (A : Amb g os σ H ρ t) : ∀ vs : List Nat, Amb g os (wipe σ vs) H (unS ρ vs) t
  | [] => A
  | v :: vs => by
    have B := A.wipe vs
    refine ⟨by rw [wipe.eq_2, unS, List.length_set, List.length_set]; exact B.len, fun i sx e => ?_, fun i j d e a ne h1 h2 h3 h4 => ?_, B.pres, B.new, B.live, B.slf, B.o0, B.pen⟩
    · rcases get_set e with ⟨rfl, _, rfl⟩ | ⟨n, e⟩
      · trivial
      · rw [wipe.eq_2, List.getElem?_set_ne n]
        exact B.sl i sx e
    · rw [wipe.eq_2] at h3 h4
      rcases get_set h1 with ⟨_, _, w⟩ | ⟨n1, h1⟩
      · cases w
      · rcases get_set h2 with ⟨_, _, w⟩ | ⟨n2, h2⟩
        · cases w
        · rw [List.getElem?_set_ne n1] at h3
          rw [List.getElem?_set_ne n2] at h4
          exact B.dis i j d e a ne h1 h2 h3 h4
theorem wipe_len : ∀ (vs : List Nat), (L2.wipe σ vs).length = σ.length
  | [] => rfl
  | v :: vs => by rw [wipe.eq_2, List.length_set]; exact wipe_len vs
theorem wipe_get : ∀ (vs : List Nat) (j : Nat), (L2.wipe σ vs)[j]? = if j ∈ vs then (if j < σ.length then some none else none) else σ[j]?
  | [], j => by rw [wipe.eq_1]; simp
  | v :: vs, j => by
    rw [wipe.eq_2]
    by_cases e : v = j
    · subst e
      rw [List.getElem?_set_self', if_pos List.mem_cons_self]
      by_cases hl : v < σ.length
      · rw [List.getElem?_eq_getElem (by rw [wipe_len]; exact hl), if_pos hl]; rfl
      · rw [List.getElem?_eq_none (by rw [wipe_len]; omega), if_neg hl]; rfl
    · rw [List.getElem?_set_ne e, wipe_get vs j]
      by_cases h : j ∈ vs
      · rw [if_pos h, if_pos (List.mem_cons_of_mem _ h)]
      · rw [if_neg h, if_neg (fun z => by rcases List.mem_cons.mp z with z | z; exact e z.symm; exact h z)]
theorem wipe_eq {σ2 : L2.St} {vs is : List Nat} (hs : ∀ j ∈ is, j ∈ vs) (hl : σ2.length = (L2.wipe σ vs).length) (h : ∀ j, j ∉ is → σ2[j]? = (L2.wipe σ vs)[j]?) : L2.wipe σ2 vs = L2.wipe σ vs := by
  rw [wipe_len] at hl
  apply List.ext_getElem?
  intro j
  rw [wipe_get, wipe_get, hl]
  by_cases e : j ∈ vs
  · rw [if_pos e, if_pos e]
  · rw [if_neg e, if_neg e, h j fun z => e (hs j z), wipe_get, if_neg e]
end
/-! ### tests of a comprehension -/
section
variable {X : Cx} {g : G}
theorem PTs.imp {es : List Expr} {t t' : TT} (h : PTs X es t) (w : ∀ σ H Q, t' σ H Q → t σ H Q) : PTs X es t' := ⟨fun pins s σ H Q I q => h.run pins s σ H Q I (w σ H Q q)⟩
end
/-! ### list comprehensions -/
def lcGo (tgt : D → M Unit) (tst : M Bool) (el : M D) (vs : List Nat) (ρ : List Sl) : List D → List D → Pn → Ou (List D)
  | [], acc, t => .ok acc ρ t
  | d :: ds, acc, t => ((tgt d) (unS ρ vs) t).bind fun _ ρ1 t1 => (tst ρ1 t1).bind fun b ρ2 t2 =>
    if b = true then (el ρ2 t2).bind fun y _ t3 => if acc.length < lim then lcGo tgt tst el vs ρ ds (acc ++ [y]) t3 else .bad
    else lcGo tgt tst el vs ρ ds acc t2
def lcD (it : M (List D)) (tgt : D → M Unit) (tst : M Bool) (el : M D) (vs : List Nat) : M D := mb it fun ds ρ t => (lcGo tgt tst el vs ρ ds [] t).bind fun acc ρ' t' => .ok (.lst acc) ρ' t'
section
variable {X : Cx} {g : G}
theorem sf_lc {elt tg iter : Expr} {ifs : List Expr} {scope : Scope} {own : List (Str × Nat)} {pos : Pos} {it : M (List D)} {is : List Nat} {tgt : D → M Unit} {tst : M Bool} {el : M D} (fx : Fx X g) (hi : SI X g tg iter it) (ok : BlkOk X.N X.env.scope scope own)
    (hg : ∀ (s : Shared) (H : Hp) (C : Addr) (cl : List (Str × Addr)) (fp : List Addr), SG (X.blk s H scope (compEnvC scope cl C X.env) fp) g tg is tgt)
    (ht : ∀ (s : Shared) (H : Hp) (C : Addr) (cl : List (Str × Addr)) (fp : List Addr), PTs (X.blk s H scope (compEnvC scope cl C X.env) fp) ifs (bD g tst))
    (he : ∀ (s : Shared) (H : Hp) (C : Addr) (cl : List (Str × Addr)) (fp : List Addr), SE (X.blk s H scope (compEnvC scope cl C X.env) fp) g elt el)
    (hv : ∀ j ∈ is, j ∈ own.map (·.2) := by decide) (hs : ∀ (x : Value), foldedSetIterable iter X.env x = pure x := by intro _; rfl) :
    SF X g (.ListComp elt [⟨tg, iter, ifs, 0⟩] scope pos) (lcD it tgt tst el (own.map (·.2))) :=
  PE.imp (pe_lc fx.c fx.n hi ok hg ht he hs) fun σ H Q q => by
    obtain ⟨os, ρ, t, A, q⟩ := q
    refine ⟨os, ρ, t, A, post_mono (post_bind q) (fun ds ρ1 t1 q1 J H1 os1 A1 s1 wk => ?_) fun _ _ _ _ h => h⟩
    intro Da hD
    obtain ⟨A2, n2, w2, s2⟩ := own_new (o := HO.lst []) A1 hD
    have ff : ∀ b ∈ os1, b ≠ Da := fun b hb z => by
      obtain ⟨o, e⟩ := A1.live b (List.mem_append_right _ hb)
      rw [z, hD] at e; cases e
    generalize hvs : own.map (·.2) = vs at *
    refine ⟨fun i m H' => m = ds.length - i ∧ i ≤ ds.length ∧ ∃ t' acc accv, Amb g (Da :: os1) σ H' ρ1 t' ∧ H' Da = some (.lst accv) ∧ LayA g (Da :: os1) H' accv acc ∧ Go g os1 H1 (Da :: os1) H' ∧
      (lcGo tgt tst el vs ρ1 (ds.drop i) acc t').post (fun acc ρ' t' => ∀ p H' os', Amb g (p :: os') σ H' ρ' t' → Own g (p :: os') H' p (.lst acc) → (p ∉ mo g os' ∧ H p = none) → NOw σ ρ' p → Go g os H (p :: os') H' → Q (.ref p) H') noX,
      ⟨ds.length, by simp, Nat.zero_le _, t1, [], [], A2, upd_same, .nil, s2, by rw [List.drop_zero]; exact post_bind q1⟩, ?_⟩
    rintro i m H2 ⟨rfl, hi, t2, acc, accv, A2, h2, l2, s2, q2⟩
    obtain ⟨wz, wy⟩ := wk i _ H2 s2.s A2.live
    by_cases hlt : i < ds.length
    · obtain ⟨go, yl⟩ := wy ds[i] (List.getElem?_eq_getElem hlt)
      rw [List.drop_eq_getElem_cons hlt] at q2
      refine .inr ⟨go, fun H' => ∃ t' acc accv, Amb g (Da :: os1) σ H' ρ1 t' ∧ H' Da = some (.lst accv) ∧ LayA g (Da :: os1) H' accv acc ∧ Go g os1 H1 (Da :: os1) H' ∧
          (lcGo tgt tst el vs ρ1 (ds.drop (i + 1)) acc t').post (fun acc ρ' t' => ∀ p H' os', Amb g (p :: os') σ H' ρ' t' → Own g (p :: os') H' p (.lst acc) → (p ∉ mo g os' ∧ H p = none) → NOw σ ρ' p → Go g os H (p :: os') H' → Q (.ref p) H') noX,
        fun H' ⟨t', acc, accv, a, b, c, d, e⟩ => ⟨ds.length - (i + 1), by omega, rfl, hlt, t', acc, accv, a, b, c, d, e⟩, fun x H3 y => ?_⟩
      obtain ⟨s3, l3⟩ := yl x H3 y
      have q2 := post_bind (show (((tgt ds[i]) (unS ρ1 vs) t2).bind _).post _ _ from q2)
      have A3 := (A2.same s3).wipe vs
      refine ⟨_, unS ρ1 vs, t2, ds[i], A3, l3, post_mono q2 (fun _ ρ4 t4 q4 σ4 A4 k4 n4 => ?_) fun _ _ _ _ h => h⟩
      refine ⟨wipe_eq hv n4 k4, _, ρ4, t4, A4, post_mono (post_bind q4) (fun b ρ5 t5 q5 H5 os5 A5 s5 => ?_) fun _ _ _ _ h => h⟩
      have g5 := (Go.same (g := g) (os := Da :: os1) s3).trans s5
      by_cases hb : b = true
      · show ite (b = true) _ _
        rw [if_pos hb] at q5 ⊢
        refine ⟨os5, ρ5, t5, A5, post_mono (post_bind q5) (fun d ρ6 t6 q6 u H6 os6 A6 l6 s6 => ?_) fun _ _ _ _ h => h⟩
        have g6 := g5.trans s6
        have B := A2.go g6 A6
        have h6 := (g6.k Da List.mem_cons_self).2 _ h2
        by_cases hc : acc.length < lim
        · rw [if_pos hc] at q6
          refine ⟨accv, h6, by rw [l2.len]; exact Nat.lt_of_lt_of_le hc (by decide), t6, acc ++ [d], accv ++ [u], B.write List.mem_cons_self w2, upd_same, ?_, ?_, q6⟩
          · have hm : hd g (Da :: os1) (upd H6 Da (.lst (accv ++ [u]))) = hd g (Da :: os1) H6 := msk_upd (List.mem_append_right _ List.mem_cons_self)
            show LdA g.c (hd g (Da :: os1) (upd H6 Da (.lst (accv ++ [u])))) _ _
            rw [hm]
            exact LdA.app (LdA.same g6.base.s l2) (.cons (Ld.same g6.back l6) .nil)
          · have g7 := s2.trans g6.base
            refine ⟨?_, fun b hb => ⟨(g7.k b hb).1, fun o e => by rw [upd_ne (ff b hb)]; exact (g7.k b hb).2 o e⟩, fun x C dx e o z => ?_⟩
            · rw [show hd g (Da :: os1) (upd H6 Da (.lst (accv ++ [u]))) = hd g (Da :: os1) H6 from msk_upd (List.mem_append_right _ List.mem_cons_self)]
              exact g7.s
            · rw [upd_ne fun w => by rw [w, hD] at z; cases z]
              exact g7.x x C dx e o z
        · rw [if_neg hc] at q6; exact q6.elim
      · show ite (b = true) _ _
        rw [if_neg hb] at q5 ⊢
        exact ⟨t5, acc, accv, A2.go g5 A5, (g5.k Da List.mem_cons_self).2 _ h2, LdA.same g5.base.s l2, s2.trans g5.base, q5⟩
    · have e : i = ds.length := by omega
      subst e
      rw [List.drop_length] at q2
      exact .inl ⟨wz rfl, q2 Da H2 os1 A2 ⟨accv, h2, l2⟩ ⟨n2, s1.none A1 hD⟩ w2 (s1.trans s2)⟩
theorem ts_nil : PTs X [] (bD g (mr true)) := PTs.imp pts_nil fun σ H Q q => by
  obtain ⟨os, ρ, t, A, q⟩ := q
  exact q H os A Go.refl
theorem ts_one {e : Expr} {f : M Bool} (h : ST X g e f) : PTs X [e] (bD g f) := pts_one h
end
end DL

set_option Elab.async false
set_option linter.all false
set_option maxRecDepth 100000
set_option maxHeartbeats 1000000
namespace DL
open PySem PySem.Spec PyProof.Rows L2
/-! ### the pen -/
theorem pn_c {l : Addr} {n : Str} {t : Pn} : valV (pnL l n t) (Sum.inr "cells") = some (.ref l) := valV_pos rfl
theorem pn_k {l : Addr} {n : Str} {t : Pn} (h : ¬ (("cells" : Str) = n)) : valV (pnL l n t) (Sum.inr n) = some (.int t.k) := by
  unfold pnL
  rw [valV_neg (fun e => h (Sum.inr.inj e)), valV_pos rfl]
theorem pn_z {l : Addr} {n : Str} {t : Pn} (h : ¬ (n = ("left" : Str))) : valV (pnL l n t) (Sum.inr "left") = some (.int t.z) := by
  unfold pnL
  rw [valV_neg (fun e => absurd (Sum.inr.inj e) (by decide +kernel)), valV_neg (fun e => h (Sum.inr.inj e)), valV_pos rfl]
theorem put_k {l : Addr} {n : Str} {t : Pn} (h1 : ¬ (("cells" : Str) = n)) (h2 : ¬ (n = ("left" : Str))) (y : Int) : putK (pnL l n t) (Sum.inr n) (.int y) = pnL l n { t with k := y } := by
  have h3 : ¬ (("left" : Str) = n) := fun e => h2 e.symm
  simp [pnL, putK, h1, h3]
theorem put_z {l : Addr} {n : Str} {t : Pn} (h2 : ¬ (n = ("left" : Str))) (y : Int) : putK (pnL l n t) (Sum.inr "left") (.int y) = pnL l n { t with z := y } := by
  have h1 : ¬ (("cells" : Str) = "left") := by decide +kernel
  simp [pnL, putK, h1, h2]
section
variable {g : G} {os : List Addr} {σ : L2.St} {H : Hp} {ρ : List Sl} {t : Pn}
theorem Amb.penS (A : Amb g os σ H ρ t) {p l : Addr} {n : Str} {t' : Pn} (e : g.pen = some (p, l, n)) (hs : g.slf = none) (hc : t'.cells = t.cells) (hk : 0 ≤ t'.k) (hz : 0 ≤ t'.z) :
    Amb g os σ (upd H p (.dK (pnL l n t'))) ρ t' ∧ Go g os H os (upd H p (.dK (pnL l n t'))) := by
  obtain ⟨q, h1, h2, h3⟩ := A.pen p l n e
  have hm : p ∈ mo g os := List.mem_append_left _ h1
  have hp : ∀ b ∈ os, b ≠ p := fun b hb z => by
    obtain ⟨o, e⟩ := A.o0 p h1
    rw [← z, A.new b hb] at e; cases e
  have s : Same (hd g os H) (hd g os (upd H p (.dK (pnL l n t')))) := by rw [show hd g os (upd H p (.dK (pnL l n t'))) = hd g os H from msk_upd hm]; exact Same.refl _
  refine ⟨A.step s (fun b hb o z => by rw [upd_ne (hp b hb)]; exact z) (fun b o z ho => by rw [upd_ne (ho.1 p l n e)]; exact z) (fun b hb => ?_) (fun x C dx e2 => by rw [hs] at e2; cases e2) fun p' l' n' e' => ?_,
    s, fun b hb => ⟨hb, fun o z => by rw [upd_ne (hp b hb)]; exact z⟩, fun x C dx e2 => by rw [hs] at e2; cases e2⟩
  · by_cases z : b = p
    · exact ⟨_, by rw [z]; exact upd_same⟩
    · obtain ⟨o, e'⟩ := A.live b (List.mem_append_left _ hb)
      exact ⟨o, by rw [upd_ne z]; exact e'⟩
  · rw [e] at e'
    cases e'
    refine ⟨⟨upd_same, ?_, hk, hz, by rw [hc]; exact q.len⟩, h1, h2, h3⟩
    rw [upd_ne (ne_of q.d q.l (by intro z; cases z)).symm, hc]
    exact q.l
end
def pget (r : Pn → D) (i : Nat) : M D := fun ρ t => match ρ[i]? with
  | some .pn => .ok (r t) ρ t
  | _ => .bad
def pput (w : Pn → Int → Pn) (i : Nat) (f : M D) : M Fl := mb f fun d => match d with
  | .int y => fun ρ t => match ρ[i]? with
    | some .pn => if 0 ≤ y then .ok .nx ρ (w t y) else .bad
    | _ => .bad
  | _ => mx
abbrev rC (t : Pn) : D := .lst (t.cells.map D.int)
abbrev rK (t : Pn) : D := .int t.k
abbrev rZ (t : Pn) : D := .int t.z
abbrev wK (t : Pn) (y : Int) : Pn := { t with k := y }
abbrev wZ (t : Pn) (y : Int) : Pn := { t with z := y }
theorem ldA_ints {c : Ct} {H : Hp} : ∀ ns : List Int, LdA c H (ns.map V.int) (ns.map D.int)
  | [] => .nil
  | n :: ns => .cons (.int n) (ldA_ints ns)
section
variable {X : Cx} {g : G}
/-- the counter's name -/
def PenN (g : G) (n : Str) : Prop := g.slf = none ∧ ∀ p l m, g.pen = some (p, l, m) → m = n
theorem se_pC {i : Nat} {x : Str} {pos pos' : Pos} {j pp} (fx : Fx X g) (h : PE X (.Name x pos) (tVar i)) : SE X g (.Subscript (.Name x pos) (.Constant (.str "cells") j pp) pos') (pget rC i) :=
  PE.imp (pe_dget fx.u1 h pe_str (fun _ _ => rfl)) fun σ H Q q => by
    obtain ⟨os, ρ, t, A, q⟩ := q
    unfold pget at q
    cases e : ρ[i]? with
    | none => rw [e] at q; exact q.elim
    | some s =>
      rw [e] at q
      cases s with
      | pn =>
        obtain ⟨p, l, n, h1, h2⟩ := A.sl i _ e
        obtain ⟨pa, m1, m2, o, m3⟩ := A.pen p l _ h1
        have dg := DGet.k (k := Sum.inr "cells") pa.d
        rw [pn_c] at dg
        refine ⟨_, h2, p, _, rfl, dg, q _ H os A ?_ Go.refl⟩
        refine .lst ?_ (ldA_ints _)
        rw [show hd g os H l = H l from msk_out fun z => ?_]
        · exact pa.l
        · rcases List.mem_append.mp z with z | z
          · exact m2 z
          · rw [A.new l z] at m3; cases m3
      | _ => exact q.elim
theorem se_pK {i : Nat} {x n : Str} {pos pos' : Pos} {j pp} (fx : Fx X g) (pn : PenN g n) (hn : ¬ (("cells" : Str) = n)) (h : PE X (.Name x pos) (tVar i)) : SE X g (.Subscript (.Name x pos) (.Constant (.str n) j pp) pos') (pget rK i) :=
  PE.imp (pe_dget fx.u1 h pe_str (fun _ _ => rfl)) fun σ H Q q => by
    obtain ⟨os, ρ, t, A, q⟩ := q
    unfold pget at q
    cases e : ρ[i]? with
    | none => rw [e] at q; exact q.elim
    | some s =>
      rw [e] at q
      cases s with
      | pn =>
        obtain ⟨p, l, m, h1, h2⟩ := A.sl i _ e
        obtain rfl := pn.2 p l m h1
        obtain ⟨pa, m1, m2, o, m3⟩ := A.pen p l _ h1
        have dg := DGet.k (k := Sum.inr m) pa.d
        rw [pn_k hn] at dg
        exact ⟨_, h2, p, _, rfl, dg, q _ H os A (.int _) Go.refl⟩
      | _ => exact q.elim
theorem se_pZ {i : Nat} {x n : Str} {pos pos' : Pos} {j pp} (fx : Fx X g) (pn : PenN g n) (hn : ¬ (n = ("left" : Str))) (h : PE X (.Name x pos) (tVar i)) : SE X g (.Subscript (.Name x pos) (.Constant (.str "left") j pp) pos') (pget rZ i) :=
  PE.imp (pe_dget fx.u1 h pe_str (fun _ _ => rfl)) fun σ H Q q => by
    obtain ⟨os, ρ, t, A, q⟩ := q
    unfold pget at q
    cases e : ρ[i]? with
    | none => rw [e] at q; exact q.elim
    | some s =>
      rw [e] at q
      cases s with
      | pn =>
        obtain ⟨p, l, m, h1, h2⟩ := A.sl i _ e
        obtain rfl := pn.2 p l m h1
        obtain ⟨pa, m1, m2, o, m3⟩ := A.pen p l _ h1
        have dg := DGet.k (k := Sum.inr "left") pa.d
        rw [pn_z hn] at dg
        exact ⟨_, h2, p, _, rfl, dg, q _ H os A (.int _) Go.refl⟩
      | _ => exact q.elim
theorem ss_pK {i : Nat} {x n : Str} {pos pos' pos2 : Pos} {j pp} {e : Expr} {f : M D} (fx : Fx X g) (pn : PenN g n) (hn : ¬ (("cells" : Str) = n)) (hn2 : ¬ (n = ("left" : Str))) (h : PE X (.Name x pos) (tVar i)) (he : SE X g e f)
    (hs : swapsWith e (some (.Subscript (.Name x pos) (.Constant (.str n) j pp) pos')) pos2.line X.env = pure false := by rfl) : SS X g (.Assign [.Subscript (.Name x pos) (.Constant (.str n) j pp) pos'] e pos2) (pput wK i f) :=
  PS.imp (ps_dput fx.u1 h pe_str he hs) fun Dn σ H q => by
    obtain ⟨os, ρ, t, A, q⟩ := q
    refine ⟨os, ρ, t, A, post_mono (post_bind q) (fun d ρ1 t1 q1 v H1 os1 A1 l1 s1 => ?_) fun _ _ _ _ h => h⟩
    cases l1 with
    | int y =>
      simp only at q1
      cases e : ρ1[i]? with
      | none => rw [e] at q1; exact q1.elim
      | some s =>
        rw [e] at q1
        cases s with
        | pn =>
          obtain ⟨p, l, m, h1, h2⟩ := A1.sl i _ e
          obtain rfl := pn.2 p l m h1
          obtain ⟨pa, m1, m2, o, m3⟩ := A1.pen p l _ h1
          have dp := DPut.k (k := Sum.inr m) (v := .int y) pa.d (by show 3 < sizeLine; decide)
          rw [put_k hn hn2] at dp
          by_cases hy : 0 ≤ y
          · simp only [if_pos hy] at q1
            obtain ⟨B, s2⟩ := A1.penS (t' := wK t1 y) h1 pn.1 rfl hy pa.z0
            exact ⟨_, h2, p, _, rfl, dp, q1 σ _ os1 B (s1.trans s2).s⟩
          · simp only [if_neg hy] at q1
            exact q1.elim
        | _ => exact q1.elim
    | _ => exact q1.elim
theorem ss_pZ {i : Nat} {x n : Str} {pos pos' pos2 : Pos} {j pp} {e : Expr} {f : M D} (fx : Fx X g) (pn : PenN g n) (hn2 : ¬ (n = ("left" : Str))) (h : PE X (.Name x pos) (tVar i)) (he : SE X g e f)
    (hs : swapsWith e (some (.Subscript (.Name x pos) (.Constant (.str "left") j pp) pos')) pos2.line X.env = pure false := by rfl) : SS X g (.Assign [.Subscript (.Name x pos) (.Constant (.str "left") j pp) pos'] e pos2) (pput wZ i f) :=
  PS.imp (ps_dput fx.u1 h pe_str he hs) fun Dn σ H q => by
    obtain ⟨os, ρ, t, A, q⟩ := q
    refine ⟨os, ρ, t, A, post_mono (post_bind q) (fun d ρ1 t1 q1 v H1 os1 A1 l1 s1 => ?_) fun _ _ _ _ h => h⟩
    cases l1 with
    | int y =>
      simp only at q1
      cases e : ρ1[i]? with
      | none => rw [e] at q1; exact q1.elim
      | some s =>
        rw [e] at q1
        cases s with
        | pn =>
          obtain ⟨p, l, m, h1, h2⟩ := A1.sl i _ e
          obtain rfl := pn.2 p l m h1
          obtain ⟨pa, m1, m2, o, m3⟩ := A1.pen p l _ h1
          have dp := DPut.k (k := Sum.inr "left") (v := .int y) pa.d (by show 3 < sizeLine; decide)
          rw [put_z hn2] at dp
          by_cases hy : 0 ≤ y
          · simp only [if_pos hy] at q1
            obtain ⟨B, s2⟩ := A1.penS (t' := wZ t1 y) h1 pn.1 rfl pa.k0 hy
            exact ⟨_, h2, p, _, rfl, dp, q1 σ _ os1 B (s1.trans s2).s⟩
          · simp only [if_neg hy] at q1
            exact q1.elim
        | _ => exact q1.elim
    | _ => exact q1.elim
end
/-! ### a name's own container, read for a moment -/
def peekB (i : Nat) (f : M Bool) : M Bool := fun ρ t => match ρ[i]? with
  | some (.ow d) => (f (ρ.set i (.im d)) t).bind fun b _ t' => .ok b ρ t'
  | _ => f ρ t
def peekS (i : Nat) (f : M D) : M D := fun ρ t => match ρ[i]? with
  | some (.ow d) => (f (ρ.set i (.im d)) t).bind fun b _ t' => if isS b = true then .ok b ρ t' else .bad
  | _ => f ρ t
section
variable {X : Cx} {g : G}
theorem Amb.peek {os : List Addr} {σ : L2.St} {H : Hp} {ρ : List Sl} {t : Pn} (A : Amb g os σ H ρ t) {i : Nat} {d : D} (e : ρ[i]? = some (.ow d)) : ∃ os', Amb g os' σ H (ρ.set i (.im d)) t ∧ ∀ os1 H1 σ1 ρ1 t1, Amb g os1 σ1 H1 ρ1 t1 → Go g os' H os1 H1 → Amb g os σ H1 ρ t1 ∧ Go g os H os H1 := by
  obtain ⟨a, h1, h2, h3⟩ := A.sl i _ e
  obtain ⟨os', A', hos⟩ : ∃ os', Amb g os' σ H (ρ.set i (.im d)) t ∧ ∀ b, b ∈ os' ↔ b ∈ os ∧ b ≠ a := by
    obtain ⟨os', A', _, z⟩ := A.freeze' e h1
    exact ⟨os', A', z⟩
  refine ⟨os', A', fun os1 H1 σ1 ρ1 t1 A1 s1 => ?_⟩
  have sub : ∀ b ∈ mo g os', b ∈ mo g os := fun b hb => by
    rcases List.mem_append.mp hb with z | z
    · exact List.mem_append_left _ z
    · exact List.mem_append_right _ ((hos b).mp z).1
  have vis : a ∉ mo g os' := fun z => by
    rcases List.mem_append.mp z with z | z
    · obtain ⟨o, e0⟩ := A.o0 a z
      rw [A.new a h2] at e0; cases e0
    · exact ((hos a).mp z).2 rfl
  have kp : ∀ b ∈ os, ∀ o, H b = some o → H1 b = some o := fun b hb o z => by
    by_cases hba : b = a
    · rw [hba] at z ⊢
      exact msk_le _ _ (s1.s a o (by rw [show hd g os' H a = H a from msk_out vis]; exact z))
    · exact (s1.k b ((hos b).mpr ⟨hb, hba⟩)).2 o z
  have s : Same (hd g os H) (hd g os H1) := msk_same fun b o hb z => msk_le _ _ (s1.s b o (by rw [show hd g os' H b = H b from msk_out fun w => hb (sub b w)]; exact z))
  have G1 : Go g os H os H1 := ⟨s, fun b hb => ⟨hb, kp b hb⟩, s1.x⟩
  refine ⟨A.step s kp (fun b o z ho => ?_) (fun b hb => A1.live b (List.mem_append_left _ hb)) s1.x A1.pen, G1⟩
  by_cases h : b ∈ mo g os
  · rcases List.mem_append.mp h with w | w
    · obtain ⟨o0, e0⟩ := A.o0 b w
      have := A.pres b o0 e0 ho
      rw [z] at this
      cases this
      exact A1.pres b o e0 ho
    · exact kp b w o z
  · exact msk_le _ _ (s b o (by rw [show hd g os H b = H b from msk_out h]; exact z))
theorem st_peek (i : Nat) {e : Expr} {f : M Bool} (h : ST X g e f) : ST X g e (peekB i f) := PT.imp h fun σ H Q q => by
  obtain ⟨os, ρ, t, A, q⟩ := q
  unfold peekB at q
  cases e : ρ[i]? with
  | none => simp only [e] at q; exact ⟨os, ρ, t, A, q⟩
  | some s =>
    simp only [e] at q
    cases s with
    | ow d =>
      obtain ⟨os', A', k⟩ := A.peek e
      refine ⟨os', _, t, A', post_mono (post_bind q) (fun b ρ1 t1 q1 H1 os1 A1 s1 => ?_) fun _ _ _ _ h => h⟩
      obtain ⟨B, s2⟩ := k os1 H1 σ ρ1 t1 A1 s1
      exact q1 H1 os B s2
    | _ => exact ⟨os, ρ, t, A, q⟩
theorem se_peek (i : Nat) {e : Expr} {f : M D} (h : SE X g e f) : SE X g e (peekS i f) := PE.imp h fun σ H Q q => by
  obtain ⟨os, ρ, t, A, q⟩ := q
  unfold peekS at q
  cases e : ρ[i]? with
  | none => simp only [e] at q; exact ⟨os, ρ, t, A, q⟩
  | some s =>
    simp only [e] at q
    cases s with
    | ow d =>
      obtain ⟨os', A', k⟩ := A.peek e
      refine ⟨os', _, t, A', post_mono (post_bind q) (fun b ρ1 t1 q1 v H1 os1 A1 l1 s1 => ?_) fun _ _ _ _ h => h⟩
      obtain ⟨B, s2⟩ := k os1 H1 σ ρ1 t1 A1 s1
      by_cases hb : isS b = true
      · rw [if_pos hb] at q1
        refine q1 v H1 os B ?_ s2
        cases l1 with
        | non => exact .non
        | bl b => exact .bl b
        | int b => exact .int b
        | str b => exact .str b
        | _ => cases hb
      · rw [if_neg hb] at q1; exact q1.elim
    | _ => exact ⟨os, ρ, t, A, q⟩
end
end DL

set_option Elab.async false
set_option linter.all false
set_option maxRecDepth 100000
set_option maxHeartbeats 1000000
namespace DL
open PySem PySem.Spec PyProof.Rows L2
/-! ### containers of one's own that change -/
/-- what a dict of tuples holds behind d[k] = v -/
def stT (xs : List (NestedKey × Addr × V)) (n : NestedKey) (b : Addr) (v : V) : List (NestedKey × Addr × V) :=
  if (xs.find? fun x => decide (x.1 = n)).isSome = true then xs.map (fun x => if x.1 = n then (x.1, x.2.1, v) else x) else xs ++ [(n, b, v)]
theorem pt3_map {xs : List (NestedKey × Addr × V)} {ys : List (NestedKey × Addr × Value)} {n : NestedKey} {v : V} {u : Value} (h : PT3 xs ys) (r : RelV v u) : PT3 (xs.map fun x => if x.1 = n then (x.1, x.2.1, v) else x) (ys.map (putAt n u)) := by
  induction h with
  | nil => exact .nil
  | @cons x y xs ys e t ih =>
    refine .cons ?_ ih
    obtain ⟨e1, e2, e3⟩ := e
    by_cases z : x.1 = n
    · have z2 : y.1 = n := by rw [← e1]; exact z
      simp only [putAt, if_pos z, if_pos z2]
      exact ⟨e1, e2, r⟩
    · have z2 : ¬ y.1 = n := by rw [← e1]; exact z
      simp only [putAt, if_neg z, if_neg z2]
      exact ⟨e1, e2, e3⟩
theorem pt3_app {xs : List (NestedKey × Addr × V)} {ys : List (NestedKey × Addr × Value)} {n : NestedKey} {b : Addr} {v : V} {u : Value} (h : PT3 xs ys) (r : RelV v u) : PT3 (xs ++ [(n, b, v)]) (ys ++ [(n, b, u)]) := by
  induction h with
  | nil => exact .cons ⟨rfl, rfl, r⟩ .nil
  | cons e t ih => exact .cons e ih
theorem pt3_st {xs : List (NestedKey × Addr × V)} {ys : List (NestedKey × Addr × Value)} (n : NestedKey) (b : Addr) {v : V} {u : Value} (h : PT3 xs ys) (r : RelV v u) : PT3 (stT xs n b v) (storedH ys n b u) := by
  unfold stT storedH
  rw [pt3_some h n]
  split
  · exact pt3_map h r
  · exact pt3_app h r
theorem pt3_len {xs : List (NestedKey × Addr × V)} {ys : List (NestedKey × Addr × Value)} (h : PT3 xs ys) : xs.length = ys.length := h.length
theorem st_len {xs : List (NestedKey × Addr × V)} {n : NestedKey} {b : Addr} {v : V} : (stT xs n b v).length ≤ xs.length + 1 := by
  unfold stT
  split
  · rw [List.length_map]; omega
  · rw [List.length_append]; exact Nat.le_refl _
section
variable {c : Ct} {X : Cx} {pins : List (Addr × Obj)} {σ : L2.St} {H : Hp} {s : Shared}
theorem td_written {a b : Addr} {n : NestedKey} {xs : List (NestedKey × Addr × V)} {ys : List (NestedKey × Addr × Value)} {v : V} {u : Value} {h' : Heap} {t' : Nat} (I : Inv X pins σ H s) (hm : Mut (H a)) (ha : (a == sysModules) = false) (hl : xs.length < sizeLine) (p : PT3 xs ys) (r : RelV v u)
    (hd : h'.DictOfH (nestedKind X.prog X.w) a (storedH ys n b u)) (hs : Heap.SameBut a s.heap h') : Inv X pins σ (upd H a (tdO X.w a (stT xs n b v))) ⟨h', s.gens, s.drawn, t', s.os⟩ := by
  obtain ⟨o, es, ep, h1, h2, h3, h4, h5, h6⟩ := hd
  have p2 := pt3_st n b p r
  refine d_write I hm hs ⟨o, h1⟩ ⟨⟨Nat.le_trans st_len hl, ha, by rw [pt3_keys p2]; exact h6, _, p2, o, es, ep, h1, h2, h3, h4⟩, ⟨o, h1⟩, ?_⟩
  rintro k1 k2 ⟨q1, q2, q3, zs, q4, o', es', ep', q5, q6⟩ hh
  exact ⟨q1, q2, q3, zs, q4, o', es', ep', hh _ q5, q6⟩
/-- d[k] = v for a tuple k -/
def rSetT (c : Ct) : TSet := fun o i v H Q => ∃ a d, o = .ref a ∧ Ld c H i d ∧ kkind d = some true ∧ ∀ b, i = .ref b →
  (H a = some (.dK []) ∧ Q (upd H a (tdO c.w a [(nk d, b, v)]))) ∨
  ∃ xs kd, H a = some (tdO c.w a xs) ∧ LdA c H (xs.map fun q => V.ref q.2.1) kd ∧ xs.map (·.1) = kd.map nk ∧ (kd.all fun d => decide (kkind d = some true)) = true ∧ xs.length < sizeLine ∧ Q (upd H a (tdO c.w a (stT xs (nk d) b v)))
theorem set_td (hc : c.K = X.K) (hw : c.w = X.w) (hu : X.A.units + 60 < cLine) : PSet X (rSetT c) := by
  intro pins s σ H o i v ov iv u Q I ro ri rv h
  obtain ⟨a, d, rfl, h1, h2, h3⟩ := h
  cases ro
  obtain ⟨b, rfl, hb⟩ := tup_key I hc h1 h2
  cases ri
  have hr : (nestedKind X.prog X.w).room X.A.in1 := by show X.A.units + 1 + 8 < cLine; omega
  rcases h3 b rfl with ⟨e, q⟩ | ⟨xs, kd, e, k1, k2, k3, k4, q⟩
  · obtain ⟨m1, m2⟩ := dk_td I e
    refine wpAny_setItem_heap hr hb m2 (fun h' hd hs => ⟨_, ?_, q⟩) (Nat.zero_le _)
    rw [hw]
    exact td_written (xs := []) I (by rw [e]; trivial) m1 (by decide) .nil rv hd hs
  · rw [hw] at e
    obtain ⟨m1, m2, ys, m3, m4⟩ := td_dict I e (tup_keys I hc k1 k2 k3)
    refine wpAny_setItem_heap hr hb m4 (fun h' hd hs => ⟨_, ?_, q⟩) (by rw [← pt3_len m3]; exact m1)
    rw [hw]
    exact td_written I (by rw [e]; trivial) m2 k4 m3 rv hd hs
/-- the same when a comprehension stores it -/
theorem d_dictSetT {E : Value → Shared → Prop} {D0 b : Addr} {n : NestedKey} {v : V} {r : Value} {xs : List (NestedKey × Addr × V)} {ys : List (NestedKey × Addr × Value)} {Q : Unit → Shared → Prop} (hu : X.A.units + 60 < cLine) (I : Inv X pins σ H s) (hm : Mut (H D0)) (ha : (D0 == sysModules) = false)
    (hl : xs.length < sizeLine) (p : PT3 xs ys) (hd : s.heap.DictOfH (nestedKind X.prog X.w) D0 ys) (hb : (nestedKind X.prog X.w).is s.heap n b) (rv : RelV v r) (q : ∀ s', Inv X pins σ (upd H D0 (tdO X.w D0 (stT xs n b v))) s' → Q () s') : wpAny (model X.prog X.w) X.A (dictSet D0 (.ref b) r) Q E s :=
  wpAny_dictSet_heap (show (nestedKind X.prog X.w).room X.A from by show X.A.units + 8 < cLine; omega) hb hd (fun h' hd hs => q _ (td_written I hm ha hl p rv hd hs)) (by rw [← pt3_len p]; omega)
end
end DL

set_option Elab.async false
set_option linter.all false
set_option maxRecDepth 100000
set_option maxHeartbeats 1000000
namespace DL
open PySem PySem.Spec PyProof.Rows L2
/-! ### a dict comprehension that stores as told -/
abbrev Stp := Hp → Addr → V → V → (Hp → Prop) → Prop
def tDR (St : Stp) (wi : TI) (g : TG) (tt : TT) (tk tv : TE) (vs : List Nat) : TE := fun σ H Q =>
  wi σ H fun J H1 => ∀ D0 : Addr, H1 D0 = none → ∃ W : Nat → Nat → Hp → Prop, (∃ m, W 0 m (upd H1 D0 (.dK []))) ∧ ∀ (i m : Nat) (H : Hp), W i m H →
    (J.stop i H ∧ Q (.ref D0) H) ∨ (J.go i H ∧ ∃ Nx : Hp → Prop, (∀ H' : Hp, Nx H' → ∃ m', m' < m ∧ W (i + 1) m' H') ∧
      ∀ (x : V) (H' : Hp), J.yld i H x H' → g x (wipe σ vs) H' fun σ2 H2 => wipe σ2 vs = wipe σ vs ∧ tt σ2 H2 fun b H3 =>
        if b = true then tk σ2 H3 fun y H4 => tv σ2 H4 fun z H5 => St H5 D0 y z Nx else Nx H3)
/-- the model's store does what is told -/
def StOk (X : Cx) (St : Stp) : Prop := ∀ (X' : Cx), X'.prog = X.prog → X'.w = X.w → X'.K = X.K → X'.A = X.A → ∀ (pins : List (Addr × Obj)) (σ : L2.St) (H : Hp) (s : Shared) (D0 : Addr) (y z : V) (u r : Value) (Nx : Hp → Prop), Inv X' pins σ H s → RelV y u → RelV z r →
  St H D0 y z Nx → wpAny (model X.prog X.w) X.A (dictSet D0 u r) (fun _ s' => ∃ H', Inv X' pins σ H' s' ∧ Nx H') (fun _ _ => False) s
section
variable {X : Cx}
theorem pe_dcR {kx vx tg iter : Expr} {ifs : List Expr} {scope : Scope} {own : List (Str × Nat)} {pos : Pos} {wi : TI} {g : TG} {tt : TT} {tk tv : TE} {St : Stp} (hc : X.calm = true) (hN : X.N.Nodup) (hi : PI X tg iter wi) (ok : BlkOk X.N X.env.scope scope own)
    (hg : ∀ (s : Shared) (H : Hp) (C : Addr) (cl : List (Str × Addr)) (fp : List Addr), PG (X.blk s H scope (compEnvC scope cl C X.env) fp) tg g)
    (ht : ∀ (s : Shared) (H : Hp) (C : Addr) (cl : List (Str × Addr)) (fp : List Addr), PTs (X.blk s H scope (compEnvC scope cl C X.env) fp) ifs tt)
    (hk : ∀ (s : Shared) (H : Hp) (C : Addr) (cl : List (Str × Addr)) (fp : List Addr), PE (X.blk s H scope (compEnvC scope cl C X.env) fp) kx tk)
    (he : ∀ (s : Shared) (H : Hp) (C : Addr) (cl : List (Str × Addr)) (fp : List Addr), PE (X.blk s H scope (compEnvC scope cl C X.env) fp) vx tv)
    (hs : ∀ (x : Value), foldedSetIterable iter X.env x = pure x) (hSt : StOk X St) : PE X (.DictComp kx vx [⟨tg, iter, ifs, 0⟩] scope pos) (tDR St wi g tt tk tv (own.map (·.2))) := by
  refine ⟨fun pins s σ H Q I h => ?_⟩
  rw [arm_eval_DictComp]
  refine wpAny_comprehension_free rfl hs (closure_ok fun y hy e => Or.casesOn (ok.free y hy e) (fun k => I.ok.has y.1 (.inl k)) fun k => I.ok.has y.1 (.inr k)) ok.kind (fun y hy e => by rw [ok.uniq y hy, e]) ?_
  generalize hvs : own.map (·.2) = vs at h
  refine thn (hi.run pins s σ H _ I h) fun xv s1 hx => thn hx fun itv s2 h2 => ?_
  obtain ⟨it, fp, tn, J, H2, rfl, I2, T, st2, f2, q⟩ := h2
  refine wpAny_newObj_type (newEnv_comp ?_) (Nat.zero_le _)
  have hDn : H2 s2.heap.objs.size = none := HOk.fresh I2.hok (Nat.le_refl _)
  obtain ⟨W, ⟨m0, w0⟩, turn⟩ := q _ hDn
  have I3 : Inv X pins σ (upd H2 s2.heap.objs.size (.dK [])) ⟨s2.heap.push { cls := .type "dict", data := .dict #[] }, s2.gens, s2.drawn, s2.toks, s2.os⟩ :=
    Inv.laid I2 (fun b o e => Heap.get?_push_of_some _ e) (Nat.le_refl _) (dk_empty s2.heap (Inv.big I2))
  generalize hD0 : s2.heap.objs.size = D0 at *
  generalize hs3 : (⟨s2.heap.push { cls := .type "dict", data := .dict #[] }, s2.gens, s2.drawn, s2.toks, s2.os⟩ : Shared) = s3 at *
  have h3 : s3.heap = s2.heap.push { cls := .type "dict", data := .dict #[] } := by rw [← hs3]
  have hm : pushCells (s3.heap.push { cls := .type "dict", data := .dict #[] }) scope.names = pushCells (s3.heap.push { cls := .type "dict", data := .dict #[] }) scope.names := rfl
  have sz : ∀ b ∈ fp, b < s2.heap.objs.size := fun b hb => by
    obtain ⟨o, e, _⟩ := T.obj 0 s2.heap st2 b hb
    exact Heap.lt_size e
  have f3 : ∀ b ∈ fp, FpOk X pins (upd H2 D0 (.dK [])) b ∧ b < s3.heap.objs.size := fun b hb => by
    have hlt := sz b hb
    refine ⟨⟨?_, (f2 b hb).2⟩, ?_⟩
    · rw [upd_ne (by rw [← hD0]; exact Nat.ne_of_lt hlt)]
      exact (f2 b hb).1
    · rw [h3, Heap.size_push]; exact Nat.lt_succ_of_lt hlt
  have st3 : tn 0 s3.heap := T.keep 0 s2.heap s3.heap st2 fun b _ o e => by rw [h3]; exact Heap.get?_push_of_some _ e
  have I4 := block_start I3 ok hN f3
  rw [hvs] at I4
  have pg := hg s3 (upd H2 D0 (.dK [])) s3.heap.objs.size (cellsFrom (s3.heap.objs.size + 1) scope.names (cloFrom X.env.cells scope.names [])) fp
  have pt := ht s3 (upd H2 D0 (.dK [])) s3.heap.objs.size (cellsFrom (s3.heap.objs.size + 1) scope.names (cloFrom X.env.cells scope.names [])) fp
  have pk := hk s3 (upd H2 D0 (.dK [])) s3.heap.objs.size (cellsFrom (s3.heap.objs.size + 1) scope.names (cloFrom X.env.cells scope.names [])) fp
  have pe := he s3 (upd H2 D0 (.dK [])) s3.heap.objs.size (cellsFrom (s3.heap.objs.size + 1) scope.names (cloFrom X.env.cells scope.names [])) fp
  have nfp : ∀ b ∈ fp, (upd H2 D0 (.dK [])) b = none := fun b hb => (f3 b hb).1.1
  have st4 : tn 0 (pushCells (s3.heap.push { cls := .type "dict", data := .dict #[] }) scope.names) := T.keep 0 s3.heap _ st3 fun b _ o e => pushCells_keeps _ _ _ _ (Heap.get?_push_of_some _ e)
  have cL : (compEnvC scope (cellsFrom (s3.heap.objs.size + 1) scope.names (cloFrom X.env.cells scope.names [])) s3.heap.objs.size X.env).locals = s3.heap.objs.size := rfl
  refine (fun loop => codeAny_compStart_dict loop (T.self _ 0 _ _ _ st4 loop)) ?_
  have nf : ∀ {H' : Hp} {s' : Shared} {σ' : L2.St}, Inv (X.blk s3 (upd H2 D0 (.dK [])) scope (compEnvC scope (cellsFrom (s3.heap.objs.size + 1) scope.names (cloFrom X.env.cells scope.names [])) s3.heap.objs.size X.env) fp) [] σ' H' s' → (∀ b ∈ fp, H' b = none) →
      ∀ b ∈ fp, FpOk (X.blk s3 (upd H2 D0 (.dK [])) scope (compEnvC scope (cellsFrom (s3.heap.objs.size + 1) scope.names (cloFrom X.env.cells scope.names [])) s3.heap.objs.size X.env) fp) [] H' b := fun I' n' b hb =>
    ⟨n' b hb, (I'.ok.exf b hb).1, I'.ok.exfs b hb, .inl hb, (I'.ok.exf b hb).2, fun p hp => by cases hp⟩
  refine compLoop_anyD (fun m s' => ∃ i H', Inv (X.blk s3 (upd H2 D0 (.dK [])) scope (compEnvC scope (cellsFrom (s3.heap.objs.size + 1) scope.names (cloFrom X.env.cells scope.names [])) s3.heap.objs.size X.env) fp) [] (wipe σ vs) H' s' ∧ tn i s'.heap ∧ (∀ b ∈ fp, H' b = none) ∧ W i m H') ?_ m0 ⟨0, _, I4, st4, nfp, w0⟩
  rintro m s5 ⟨i, H5, I5, st5, n5, w5⟩
  rcases turn i m H5 w5 with ⟨stp, qq⟩ | ⟨go, Nx, hNx, step⟩
  · refine thnF (T.done (X.blk s3 (upd H2 D0 (.dK [])) scope (compEnvC scope (cellsFrom (s3.heap.objs.size + 1) scope.names (cloFrom X.env.cells scope.names [])) s3.heap.objs.size X.env) fp) rfl rfl rfl hc i [] s5 _ H5 (fun _ _ => False) I5 (nf I5 n5) st5 stp) fun r s6 hr => ?_
    obtain ⟨rfl, I6⟩ := hr
    have I7 : Inv X pins σ H5 s6 := Inv.call' I3 I6.os I6.base I6.hok I6.bare fun b hb => ⟨(f3 b hb).1.2.2.2.1, (f3 b hb).1.2.1, (f3 b hb).1.2.2.2.2.1, (f3 b hb).1.2.2.2.2.2⟩
    have nC : H5 s3.heap.objs.size = none := I6.free
    obtain ⟨mm, hn, _⟩ := I6.loc
    obtain ⟨f0, f1, f2', f3', f4, f5⟩ := Inv.fpOk (H' := H5) I3 (Nat.le_refl _) nC
    exact ⟨mm, hn, fun h'' sb => ⟨.ref D0, H5, Inv.turned I7 (fun b o hb e => (sb.2 b hb).trans e) f0 f1 f3' f4 f5, rfl, qq⟩⟩
  · refine thnF (T.item (X.blk s3 (upd H2 D0 (.dK [])) scope (compEnvC scope (cellsFrom (s3.heap.objs.size + 1) scope.names (cloFrom X.env.cells scope.names [])) s3.heap.objs.size X.env) fp) rfl rfl rfl hc i [] s5 _ H5 (fun _ _ => False) I5 (nf I5 n5) st5 go) fun r s6 hr => ?_
    obtain ⟨u, rfl, h6⟩ := hr
    refine thnF h6 fun _ s7 h7 => ?_
    obtain ⟨x, H7, I7, r7, y7, st7, n7⟩ := h7
    have I7' := Inv.pinned I7 (nf I7 n7) (T.obj (i + 1) s7.heap st7)
    refine thnF (pg.run ([] ++ pinsAt fp s7.heap) s7 _ H7 x u _ I7' r7 (step x H7 y7)) fun _ s8 h8 => ?_
    obtain ⟨σ8, H8, I8, hw8, q8⟩ := h8
    refine thnF (pt.run ([] ++ pinsAt fp s7.heap) s8 σ8 H8 _ I8 q8) fun b s9 h9 => ?_
    obtain ⟨H9, I9, q9⟩ := h9
    have fin : ∀ {s' : Shared} {H' : Hp}, Inv (X.blk s3 (upd H2 D0 (.dK [])) scope (compEnvC scope (cellsFrom (s3.heap.objs.size + 1) scope.names (cloFrom X.env.cells scope.names [])) s3.heap.objs.size X.env) fp) ([] ++ pinsAt fp s7.heap) σ8 H' s' → Nx H' →
        ∃ m', m' < m ∧ ∃ i H', Inv (X.blk s3 (upd H2 D0 (.dK [])) scope (compEnvC scope (cellsFrom (s3.heap.objs.size + 1) scope.names (cloFrom X.env.cells scope.names [])) s3.heap.objs.size X.env) fp) [] (wipe σ vs) H' s' ∧ tn i s'.heap ∧ (∀ b ∈ fp, H' b = none) ∧ W i m' H' := fun {s' H'} I' nx => by
      obtain ⟨m', hm, w'⟩ := hNx H' nx
      have pin' : ∀ b ∈ fp, ∀ o, s7.heap.get? b = some o → s'.heap.get? b = some o ∧ H' b = none := fun b hb o e =>
        let z := I'.pin (b, o) (List.mem_append_right _ (List.mem_append_right [] (mem_pinsAt hb e)))
        ⟨z.1, z.2.1⟩
      have hl : (wipe σ vs).length = σ8.length := by rw [← hw8]; exact wipe_length σ8 vs
      refine ⟨m', hm, i + 1, H', Inv.weak (Inv.unpinned I') hl (fun j v e => (wipe_some (by rw [hw8]; exact e)).1), T.keep (i + 1) s7.heap s'.heap st7 (fun b hb o e => (pin' b hb o e).1), fun b hb => ?_, w'⟩
      obtain ⟨o, e, _⟩ := T.obj (i + 1) s7.heap st7 b hb
      exact (pin' b hb o e).2
    cases b with
    | false => exact fin I9 q9
    | true =>
      refine thnF (pk.run ([] ++ pinsAt fp s7.heap) s9 σ8 H9 _ I9 q9) fun kv s10 h10 => ?_
      obtain ⟨y, H10, I10, r10, q10⟩ := h10
      refine thnF (pe.run ([] ++ pinsAt fp s7.heap) s10 σ8 H10 _ I10 q10) fun vv s11 h11 => ?_
      obtain ⟨z, H11, I11, r11, q11⟩ := h11
      refine thnF (hSt (X.blk s3 (upd H2 D0 (.dK [])) scope (compEnvC scope (cellsFrom (s3.heap.objs.size + 1) scope.names (cloFrom X.env.cells scope.names [])) s3.heap.objs.size X.env) fp) rfl rfl rfl rfl _ _ _ _ _ _ _ _ _ _ I11 r10 r11 q11) fun _ s12 h12 => ?_
      obtain ⟨H12, I12, nx⟩ := h12
      exact fin I12 nx
end
end DL

set_option Elab.async false
set_option linter.all false
set_option maxRecDepth 100000
set_option maxHeartbeats 1000000
namespace DL
open PySem PySem.Spec PyProof.Rows L2
/-! ### d[k] = v -/
def hasK (kd : List D) (n : NestedKey) : Bool := kd.any fun k => decide (nk k = n)
def dmapV (n : NestedKey) (v : D) : List D → List D → List D
  | k0 :: ks, v0 :: vs => (if nk k0 = n then v else v0) :: dmapV n v ks vs
  | _, vs => vs
def dputK (kd : List D) (k : D) : List D := if hasK kd (nk k) = true then kd else kd ++ [k]
def dputV (kd vd : List D) (k v : D) : List D := if hasK kd (nk k) = true then dmapV (nk k) v kd vd else vd ++ [v]
section
variable {c : Ct} {H : Hp}
theorem has_k : ∀ {kvs : List (Key × V)} {kd : List D}, LdA c H (kvs.map fun q => kV q.1) kd → ∀ {k : Key} {d : D}, Ld c H (kV k) d → (kvs.any fun kv => decide (kv.1 = k)) = hasK kd (nk d)
  | [], _, .nil, _, _, _ => rfl
  | q :: kvs, _, .cons h0 a, k, d, h => by
    have ih := has_k a h
    unfold hasK at ih ⊢
    rw [List.any_cons, List.any_cons, ih]
    congr 1
    exact decide_eq_decide.mpr (nk_inj h0 h).symm
theorem map_k : ∀ {kvs : List (Key × V)} {kd vd : List D}, LdA c H (kvs.map fun q => kV q.1) kd → LdA c H (kvs.map (·.2)) vd → ∀ {k : Key} {d : D}, Ld c H (kV k) d → ∀ {z : V} {e : D}, Ld c H z e →
    LdA c H ((kvs.map fun kv => if kv.1 = k then (kv.1, z) else kv).map fun q => kV q.1) kd ∧ LdA c H ((kvs.map fun kv => if kv.1 = k then (kv.1, z) else kv).map (·.2)) (dmapV (nk d) e kd vd)
  | [], _, _, .nil, .nil, _, _, _, _, _, _ => ⟨.nil, .nil⟩
  | q :: kvs, _, _, .cons h0 a, .cons h1 b, k, d, h, z, e, hz => by
    obtain ⟨i1, i2⟩ := map_k a b h hz
    by_cases w : q.1 = k
    · simp only [List.map_cons, if_pos w, dmapV, if_pos ((nk_inj h0 h).mpr w)]
      exact ⟨.cons h0 i1, .cons hz i2⟩
    · simp only [List.map_cons, if_neg w, dmapV, if_neg (fun x => w ((nk_inj h0 h).mp x))]
      exact ⟨.cons h0 i1, .cons h1 i2⟩
theorem put_kd {kvs : List (Key × V)} {kd vd : List D} (a : LdA c H (kvs.map fun q => kV q.1) kd) (b : LdA c H (kvs.map (·.2)) vd) {k : Key} {d : D} (h : Ld c H (kV k) d) {z : V} {e : D} (hz : Ld c H z e) :
    LdA c H ((putK kvs k z).map fun q => kV q.1) (dputK kd d) ∧ LdA c H ((putK kvs k z).map (·.2)) (dputV kd vd d e) := by
  unfold putK dputK dputV
  rw [has_k a h]
  split
  · exact map_k a b h hz
  · rw [List.map_append, List.map_append]
    exact ⟨LdA.app a (.cons h .nil), LdA.app b (.cons hz .nil)⟩
theorem has_t : ∀ {xs : List (NestedKey × Addr × V)} {kd : List D}, xs.map (·.1) = kd.map nk → ∀ n : NestedKey, (xs.find? fun x => decide (x.1 = n)).isSome = hasK kd n
  | [], [], _, _ => rfl
  | [], _ :: _, e, _ => by cases e
  | _ :: _, [], e, _ => by cases e
  | x :: xs, k :: kd, e, n => by
    rw [List.map_cons, List.map_cons] at e
    obtain ⟨e1, e2⟩ := List.cons.inj e
    have ih := has_t e2 n
    unfold hasK at ih ⊢
    rw [List.any_cons, List.find?_cons, e1]
    by_cases z : nk k = n
    · rw [decide_eq_true z]; rfl
    · rw [decide_eq_false z, ← ih]; rfl
theorem map_t : ∀ {xs : List (NestedKey × Addr × V)} {kd vd : List D}, xs.map (·.1) = kd.map nk → LdA c H (xs.map fun q => V.ref q.2.1) kd → LdA c H (xs.map (·.2.2)) vd → ∀ {n : NestedKey} {z : V} {e : D}, Ld c H z e →
    LdA c H ((xs.map fun x => if x.1 = n then (x.1, x.2.1, z) else x).map fun q => V.ref q.2.1) kd ∧ (xs.map fun x => if x.1 = n then (x.1, x.2.1, z) else x).map (·.1) = kd.map nk ∧ LdA c H ((xs.map fun x => if x.1 = n then (x.1, x.2.1, z) else x).map (·.2.2)) (dmapV n e kd vd)
  | [], _, _, e, .nil, .nil, _, _, _, _ => ⟨.nil, e, .nil⟩
  | x :: xs, _, _, e, .cons h0 a, .cons h1 b, n, z, d, hz => by
    rw [List.map_cons, List.map_cons] at e
    obtain ⟨e1, e2⟩ := List.cons.inj e
    obtain ⟨i1, i2, i3⟩ := map_t e2 a b (n := n) hz
    by_cases w : x.1 = n
    · simp only [List.map_cons, if_pos w, dmapV, if_pos (e1.symm.trans w)]
      exact ⟨.cons h0 i1, by rw [← e1, i2], .cons hz i3⟩
    · simp only [List.map_cons, if_neg w, dmapV, if_neg (fun q => w (e1.trans q))]
      exact ⟨.cons h0 i1, by rw [← e1, i2], .cons h1 i3⟩
theorem put_td {xs : List (NestedKey × Addr × V)} {kd vd : List D} (e : xs.map (·.1) = kd.map nk) (a : LdA c H (xs.map fun q => V.ref q.2.1) kd) (b : LdA c H (xs.map (·.2.2)) vd) {d : D} {p : Addr} (h : Ld c H (.ref p) d) {z : V} {u : D} (hz : Ld c H z u) :
    LdA c H ((stT xs (nk d) p z).map fun q => V.ref q.2.1) (dputK kd d) ∧ (stT xs (nk d) p z).map (·.1) = (dputK kd d).map nk ∧ LdA c H ((stT xs (nk d) p z).map (·.2.2)) (dputV kd vd d u) := by
  unfold stT dputK dputV
  rw [has_t e]
  split
  · exact map_t e a b hz
  · rw [List.map_append, List.map_append, List.map_append, List.map_append, e]
    exact ⟨LdA.app a (.cons h .nil), rfl, LdA.app b (.cons hz .nil)⟩
theorem all_put {kd : List D} {k : D} {b : Bool} (h : (kd.all fun d => decide (kkind d = some b)) = true) (hk : kkind k = some b) : ((dputK kd k).all fun d => decide (kkind d = some b)) = true := by
  unfold dputK
  split
  · exact h
  · rw [List.all_append, h]; simp [hk]
theorem stT_ne {xs : List (NestedKey × Addr × V)} {n : NestedKey} {b : Addr} {v : V} : stT xs n b v ≠ [] := by
  unfold stT
  split
  · rename_i h
    intro e
    have : xs = [] := List.map_eq_nil_iff.mp e
    rw [this] at h
    cases h
  · simp
end
/-- the stores of the layer below, as one -/
def rSetU (c : Ct) : TSet := fun o i v H Q => (∃ a kvs k, o = .ref a ∧ i = kV k ∧ H a = some (.dK kvs) ∧ kvs.length < sizeLine ∧ Q (upd H a (.dK (putK kvs k v)))) ∨ rSetT c o i v H Q ∨ rSetL o i v H Q
section
variable {X : Cx} {g : G}
theorem set_u (fx : Fx X g) : PSet X (rSetU g.c) := by
  intro pins s σ H o i v ov iv u Q I ro ri rv h
  rcases h with ⟨a, kvs, k, rfl, rfl, h1, h2, q⟩ | h | h
  · exact set_dict fx.u1 pins s σ H _ _ v ov iv u Q I ro ri rv ⟨a, _, rfl, DPut.k h1 h2, q⟩
  · exact set_td fx.k.symm fx.w.symm (by have := fx.u; omega) pins s σ H o i v ov iv u Q I ro ri rv h
  · exact set_list pins s σ H o i v ov iv u Q I ro ri rv h
theorem put_dct {os : List Addr} {H : Hp} {a : Addr} {kd vd : List D} {k d : D} {y z : V} (ha : a ∈ os) (hl : Own g os H a (.dct kd vd)) (ly : Lay g os H y k) (lz : Lay g os H z d) (sk : sameKind kd k = true) (hn : kd.length < lim) {Q : Hp → Prop}
    (q : ∀ o, Own g os (upd H a o) a (.dct (dputK kd k) (dputV kd vd k d)) → Q (upd H a o)) :
    (∃ kvs k', y = kV k' ∧ H a = some (.dK kvs) ∧ kvs.length < sizeLine ∧ Q (upd H a (.dK (putK kvs k' z)))) ∨ rSetT g.c (.ref a) y z H Q := by
  have hm : a ∈ mo g os := List.mem_append_right _ ha
  have hh : ∀ o, hd g os (upd H a o) = hd g os H := fun o => msk_upd hm
  unfold sameKind at sk
  cases ek : kkind k with
  | none => rw [ek] at sk; cases sk
  | some b =>
    simp only [ek] at sk
    have one : b = true → H a = some (.dK []) → kd = [] → vd = [] → rSetT g.c (.ref a) y z H Q := fun hb h1 hkd hvd => by
      subst hb
      refine ⟨a, k, rfl, Ld.same msk_le ly, ek, fun p hp => .inl ⟨h1, q _ (.inr ⟨[(nk k, p, z)], upd_same, ?_, ?_, ?_, ?_, by simp⟩)⟩⟩
      · show LdA g.c (hd g os (upd H a _)) _ _
        rw [hh, hkd]; rw [hp] at ly; exact .cons ly .nil
      · rw [hkd]; rfl
      · exact all_put sk ek
      · show LdA g.c (hd g os (upd H a _)) _ _
        rw [hh, hkd, hvd]; exact .cons lz .nil
    rcases hl with ⟨kvs, h1, h2, h3⟩ | ⟨xs, h1, h2, h3, h4, h5, h6⟩
    · cases b with
      | false =>
        obtain ⟨k', rfl⟩ := kkind_f ly ek
        obtain ⟨p1, p2⟩ := put_kd h2 h3 ly lz
        refine .inl ⟨kvs, k', rfl, h1, ?_, q _ (.inl ⟨_, upd_same, ?_, ?_⟩)⟩
        · have := h2.len
          rw [List.length_map] at this
          rw [this]
          exact Nat.lt_of_lt_of_le hn (by decide)
        · show LdA g.c (hd g os (upd H a _)) _ _
          rw [hh]; exact p1
        · show LdA g.c (hd g os (upd H a _)) _ _
          rw [hh]; exact p2
      | true =>
        rcases all_f h2 sk with e | e
        · subst e
          have e0 : kvs = [] := by
            cases kvs with
            | nil => rfl
            | cons _ _ => cases h2
          subst e0
          cases h3
          exact .inr (one rfl h1 rfl rfl)
        · cases e
    · have eb : b = true := by
        cases kd with
        | nil => cases xs with
          | nil => exact absurd rfl h6
          | cons _ _ => cases h3
        | cons k0 kd =>
          rw [List.all_cons, Bool.and_eq_true] at sk h4
          exact Option.some.inj ((of_decide_eq_true sk.1).symm.trans (of_decide_eq_true h4.1))
      subst eb
      refine .inr ⟨a, k, rfl, Ld.same msk_le ly, ek, fun p hp => .inr ⟨xs, kd, h1, LdA.same msk_le h2, h3, h4, ?_, ?_⟩⟩
      · have := h2.len
        rw [List.length_map] at this
        rw [this]
        exact Nat.lt_of_lt_of_le hn (by decide)
      · rw [hp] at ly
        obtain ⟨p1, p2, p3⟩ := put_td h3 h2 h5 ly lz
        refine q _ (.inr ⟨_, upd_same, ?_, p2, all_put h4 ek, ?_, stT_ne⟩)
        · show LdA g.c (hd g os (upd H a _)) _ _
          rw [hh]; exact p1
        · show LdA g.c (hd g os (upd H a _)) _ _
          rw [hh]; exact p3
/-- a name's own container takes another form -/
theorem Amb.writeS {os : List Addr} {σ : L2.St} {H : Hp} {ρ : List Sl} {t : Pn} (A : Amb g os σ H ρ t) {i : Nat} {d d' : D} {a : Addr} {o : HO} (e : ρ[i]? = some (.ow d)) (ea : σ[i]? = some (some (.ref a))) (hw : Own g os (upd H a o) a d') :
    Amb g os σ (upd H a o) (ρ.set i (.ow d')) t ∧ Same (hd g os H) (hd g os (upd H a o)) := by
  obtain ⟨a', h1, h2, _⟩ := A.sl i _ e
  rw [ea] at h1
  cases h1
  have hi : i < ρ.length := (List.getElem?_eq_some_iff.mp e).1
  have B : Amb g os σ H (ρ.set i .un) t := by
    refine ⟨by rw [List.length_set]; exact A.len, fun j s es => ?_, fun j k d1 e1 b ne z1 z2 => ?_, A.pres, A.new, A.live, A.slf, A.o0, A.pen⟩
    · rcases get_set es with ⟨rfl, _, rfl⟩ | ⟨nj, es⟩
      · trivial
      · exact A.sl j s es
    · rcases get_set z1 with ⟨_, _, w⟩ | ⟨n1, z1⟩
      · cases w
      · rcases get_set z2 with ⟨_, _, w⟩ | ⟨n2, z2⟩
        · cases w
        · exact A.dis j k d1 e1 b ne z1 z2
  have nw : NOw σ (ρ.set i .un) a := fun j dj z1 z2 => by
    rcases get_set z1 with ⟨_, _, w⟩ | ⟨n1, z1⟩
    · cases w
    · exact A.dis i j d dj a n1 e z1 ea z2
  have C := B.write (o := o) h2 nw
  have F := C.put i (.ref a) (.ow d') ⟨a, rfl, h2, hw⟩ fun _ _ p hp => by cases hp; exact nw
  rw [List.set_set] at F
  have es : σ.set i (some (.ref a)) = σ := by
    apply List.ext_getElem?
    intro j
    by_cases z : i = j
    · subst z
      rw [List.getElem?_set_self (by rw [← A.len]; exact hi), ea]
    · rw [List.getElem?_set_ne z]
  rw [es] at F
  refine ⟨F, ?_⟩
  rw [show hd g os (upd H a o) = hd g os H from msk_upd (List.mem_append_right _ h2)]
  exact Same.refl _
/-- x[k] = v for a name of one's own container -/
def isOw : Option Sl → Bool
  | some (.ow _) => true
  | _ => false
theorem isOw_ok {s : Option Sl} (h : isOw s = true) : ∃ d, s = some (.ow d) := by
  cases s with
  | none => cases h
  | some s => cases s <;> first | exact ⟨_, rfl⟩ | cases h
def dsput (i : Nat) (v k : D) : M Fl := fun ρ t => match ρ[i]? with
  | some (.ow (.dct kd vd)) => if sameKind kd k = true ∧ kd.length < lim then .ok .nx (ρ.set i (.ow (.dct (dputK kd k) (dputV kd vd k v)))) t else .bad
  | some (.ow (.lst ds)) => match k with
    | .int j => match ixN ds.length j with
      | some n => .ok .nx (ρ.set i (.ow (.lst (ds.set n v)))) t
      | none => .bad
    | _ => .bad
  | _ => .bad
def sput (i : Nat) (fv fk : M D) : M Fl := mb fv fun v ρ t => if isOw ρ[i]? = true then mb fk (fun k => dsput i v k) ρ t else .bad
theorem ss_put {i : Nat} {x : Str} {e ek : Expr} {px ps pos : Pos} {fv fk : M D} (fx : Fx X g) (hx : PE X (.Name x px) (tVar i)) (he : SE X g e fv) (hk : SE X g ek fk)
    (ha : ∀ v, assign (.Subscript (.Name x px) ek ps) X.env v = (do
      let ov ← holding [v] (eval (.Name x px) X.env)
      let iv ← holding [v, ov] (eval ek X.env)
      standAt ps
      holding [v, ov, iv] (setItem ov iv v)
      release [v, ov, iv] []) := by intro _; rfl)
    (hs : swapsWithSole [.Subscript (.Name x px) ek ps] e pos.line X.env = pure false := by rfl)
    (hw : swappedStores [.Subscript (.Name x px) ek ps] e X.env = pure none := by rfl) (h1 : (assignEach [.Subscript (.Name x px) ek ps] X.env).map (·.2) = [assign (.Subscript (.Name x px) ek ps) X.env] := by rfl) :
    SS X g (.Assign [.Subscript (.Name x px) ek ps] e pos) (sput i fv fk) :=
  PS.imp (ps_asg he (pg_sub hx hk (set_u fx) ha) hs hw h1) fun Dn σ H q => by
    obtain ⟨os, ρ, t, A, q⟩ := q
    refine ⟨os, ρ, t, A, post_mono (post_bind q) (fun v ρ1 t1 q1 vv H1 os1 A1 l1 s1 => ?_) fun _ _ _ _ h => h⟩
    by_cases hi : isOw ρ1[i]? = true
    · rw [if_pos hi] at q1
      obtain ⟨d1, e1⟩ := isOw_ok hi
      obtain ⟨a, ha, _, _⟩ := A1.sl i _ e1
      refine ⟨_, ha, os1, ρ1, t1, A1, post_mono (post_bind q1) (fun k ρ2 t2 q2 y H2 os2 A2 l2 s2 => ?_) fun _ _ _ _ h => h⟩
      unfold dsput at q2
      have lv := Ld.same s2.s l1
      cases e2 : ρ2[i]? with
      | none => simp only [e2] at q2; exact q2.elim
      | some s =>
        cases s with
        | ow d =>
          obtain ⟨a2, ha2, m2, ow⟩ := A2.sl i _ e2
          rw [ha] at ha2
          cases ha2
          cases d with
          | dct kd vd =>
            simp only [e2] at q2
            by_cases c : sameKind kd k = true ∧ kd.length < lim
            · rw [if_pos c] at q2
              rcases put_dct m2 ow l2 lv c.1 c.2 (Q := fun H4 => Dn.nx σ H4) (fun o w => by
                obtain ⟨B, s3⟩ := A2.writeS e2 ha w
                exact q2 σ _ os2 B ((s1.trans s2).s.trans s3)) with ⟨kvs, k', rfl, h1, h2, h3⟩ | h
              · exact .inl ⟨a, kvs, k', rfl, rfl, h1, h2, h3⟩
              · exact .inr (.inl h)
            · rw [if_neg c] at q2; exact q2.elim
          | lst ds =>
            simp only [e2] at q2
            cases l2 with
            | int j =>
              simp only at q2
              cases ej : ixN ds.length j with
              | none => simp only [ej] at q2; exact q2.elim
              | some n =>
                simp only [ej] at q2
                obtain ⟨vs, h1, h2⟩ := ow
                refine .inr (.inr ⟨a, vs, j, n, rfl, rfl, h1, by rw [h2.len]; exact ej, ?_⟩)
                obtain ⟨B, s3⟩ := A2.writeS (o := .lst (vs.set n vv)) (d' := .lst (ds.set n v)) e2 ha ⟨_, upd_same, by
                  show LdA g.c (hd g os2 (upd H2 a _)) _ _
                  rw [show hd g os2 (upd H2 a (.lst (vs.set n vv))) = hd g os2 H2 from msk_upd (List.mem_append_right _ m2)]
                  exact LdA.set h2 lv n⟩
                exact q2 σ _ os2 B ((s1.trans s2).s.trans s3)
            | _ => exact q2.elim
          | _ => simp only [e2] at q2; exact q2.elim
        | _ => simp only [e2] at q2; exact q2.elim
    · rw [if_neg hi] at q1; exact q1.elim
/-! x.append(e) -/
def isOwL : Option Sl → Bool
  | some (.ow (.lst _)) => true
  | _ => false
theorem isOwL_ok {s : Option Sl} (h : isOwL s = true) : ∃ ds, s = some (.ow (.lst ds)) := by
  cases s with
  | none => cases h
  | some s => cases s with
    | ow d => cases d <;> first | exact ⟨_, rfl⟩ | cases h
    | _ => cases h
def sapp (i : Nat) (f : M D) : M Fl := fun ρ t => if isOwL ρ[i]? = true then mb f (fun v ρ t => match ρ[i]? with
  | some (.ow (.lst ds)) => if ds.length < lim then .ok .nx (ρ.set i (.ow (.lst (ds ++ [v])))) t else .bad
  | _ => .bad) ρ t else .bad
theorem ss_append {i : Nat} {x : Str} {e : Expr} {px ap cp pos : Pos} {f : M D} (hx : PE X (.Name x px) (tVar i)) (he : SE X g e f)
    (hab : attributeBase (.Name x px) "append" X.env (eval (.Name x px) X.env) = eval (.Name x px) X.env := by rfl)
    (h1 : ((((backTo cp (starEach [e] X.env)).all fun x => !x.1) && (backToKw cp (keywordEach [] X.env)).all fun x => x.1.isSome) && decide ((([e] : List Expr).length + ([] : List (Option Str × Expr)).length + if ([] : List (Option Str × Expr)).isEmpty = true then 0 else 1) < 30)) = true := by rfl)
    (h2 : (ap.endLine == cp.line) = true := by rfl) (h3 : starEach (e :: []) X.env = (false, eval e X.env) :: starEach [] X.env := by rfl) (h4 : ((backTo cp (starEach [] X.env)).any fun x => x.1) = false := by rfl)
    (hs : swapsWith (.Call (.Attribute (.Name x px) "append" ap) [e] [] cp) none pos.line X.env = pure false := by rfl) :
    SS X g (.Expr (.Call (.Attribute (.Name x px) "append" ap) [e] [] cp) pos) (sapp i f) :=
  PS.imp (ps_expr (pe_bm PySem.F.plainAttrs_list PySem.F.slot_list_append PySem.F.type_list_append mt_append hx (pa_cons he pa_nil h3) hab h1 h2 h3 h4) hs) fun Dn σ H q => by
    obtain ⟨os, ρ, t, A, q⟩ := q
    unfold sapp at q
    by_cases hi : isOwL ρ[i]? = true
    · rw [if_pos hi] at q
      obtain ⟨d1, e1⟩ := isOwL_ok hi
      obtain ⟨a, ha, m, vs0, hv0, _⟩ := A.sl i _ e1
      refine ⟨_, ha, ?_, os, ρ, t, A, post_mono (post_bind q) (fun v ρ1 t1 q1 y H1 os1 A1 l1 s1 => ?_) fun _ _ _ _ h => h⟩
      · exact .inl ⟨rfl, vs0, SqL.of hv0⟩
      · cases e2 : ρ1[i]? with
        | none => simp only [e2] at q1; exact q1.elim
        | some s =>
          cases s with
          | ow d =>
            obtain ⟨a2, ha2, m2, ow⟩ := A1.sl i _ e2
            rw [ha] at ha2
            cases ha2
            cases d with
            | lst ds =>
              simp only [e2] at q1
              by_cases c : ds.length < lim
              · rw [if_pos c] at q1
                obtain ⟨vs, h1, h2⟩ := ow
                refine ⟨a, vs, y, rfl, rfl, h1, by rw [h2.len]; exact Nat.lt_of_lt_of_le c (by decide), ?_⟩
                obtain ⟨B, s3⟩ := A1.writeS (o := .lst (vs ++ [y])) (d' := .lst (ds ++ [v])) e2 ha ⟨_, upd_same, by
                  show LdA g.c (hd g os1 (upd H1 a _)) _ _
                  rw [show hd g os1 (upd H1 a (.lst (vs ++ [y]))) = hd g os1 H1 from msk_upd (List.mem_append_right _ m2)]
                  exact LdA.app h2 (.cons l1 .nil)⟩
                exact q1 σ _ os1 B (s1.s.trans s3)
              · rw [if_neg c] at q1; exact q1.elim
            | _ => simp only [e2] at q1; exact q1.elim
          | _ => simp only [e2] at q1; exact q1.elim
    · rw [if_neg hi] at q; exact q.elim
end
end DL

set_option Elab.async false
set_option linter.all false
set_option maxRecDepth 100000
set_option maxHeartbeats 1000000
namespace DL
open PySem PySem.Spec PyProof.Rows L2
/-! ### dict comprehensions -/
def stD (c : Ct) : Stp := fun H D0 y z Nx => (∃ kvs k', y = kV k' ∧ H D0 = some (.dK kvs) ∧ kvs.length < sizeLine ∧ Nx (upd H D0 (.dK (putK kvs k' z)))) ∨ rSetT c (.ref D0) y z H Nx
theorem st_ok {X : Cx} {g : G} (fx : Fx X g) : StOk X (stD g.c) := by
  intro X' hp hw hK hA pins σ H s D0 y z u r Nx I ry rz h
  rw [← hp, ← hw, ← hA]
  have hu : X'.A.units + 60 < cLine := by rw [hA]; have := fx.u; omega
  rcases h with ⟨kvs, k', rfl, h1, h2, q⟩ | ⟨a, d, e, h1, h2, h3⟩
  · exact d_dictSet I h1 h2 ry rz fun s' I' => ⟨_, I', q⟩
  · cases e
    have hc : g.c.K = X'.K := by rw [hK]; exact fx.k.symm
    have hw' : g.c.w = X'.w := by rw [hw]; exact fx.w.symm
    obtain ⟨b, rfl, hb⟩ := tup_key I hc h1 h2
    cases ry
    rcases h3 b rfl with ⟨e, q⟩ | ⟨xs, kd, e, k1, k2, k3, k4, q⟩
    · obtain ⟨m1, m2⟩ := dk_td I e
      refine d_dictSetT (xs := []) hu I (by rw [e]; trivial) m1 (by decide) .nil m2 hb rz fun s' I' => ⟨_, I', ?_⟩
      rw [hw'] at q
      exact q
    · rw [hw'] at e
      obtain ⟨m1, m2, ys, m3, m4⟩ := td_dict I e (tup_keys I hc k1 k2 k3)
      refine d_dictSetT hu I (by rw [e]; trivial) m2 k4 m3 m4 hb rz fun s' I' => ⟨_, I', ?_⟩
      rw [hw'] at q
      exact q
def dcGo (tgt : D → M Unit) (tst : M Bool) (ek ev : M D) (vs : List Nat) (ρ : List Sl) : List D → List D → List D → Pn → Ou (List D × List D)
  | [], kd, vd, t => .ok (kd, vd) ρ t
  | d :: ds, kd, vd, t => ((tgt d) (unS ρ vs) t).bind fun _ ρ1 t1 => (tst ρ1 t1).bind fun b ρ2 t2 =>
    if b = true then (ek ρ2 t2).bind fun k ρ3 t3 => (ev ρ3 t3).bind fun v _ t4 => if sameKind kd k = true ∧ kd.length < lim then dcGo tgt tst ek ev vs ρ ds (dputK kd k) (dputV kd vd k v) t4 else .bad
    else dcGo tgt tst ek ev vs ρ ds kd vd t2
def dcD (it : M (List D)) (tgt : D → M Unit) (tst : M Bool) (ek ev : M D) (vs : List Nat) : M D := mb it fun ds ρ t => (dcGo tgt tst ek ev vs ρ ds [] [] t).bind fun r ρ' t' => .ok (.dct r.1 r.2) ρ' t'
section
variable {X : Cx} {g : G}
theorem st_dct {os : List Addr} {H : Hp} {a : Addr} {kd vd : List D} {k d : D} {y z : V} (ha : a ∈ os) (hl : Own g os H a (.dct kd vd)) (ly : Lay g os H y k) (lz : Lay g os H z d) (sk : sameKind kd k = true) (hn : kd.length < lim) {Q : Hp → Prop}
    (q : ∀ o, Own g os (upd H a o) a (.dct (dputK kd k) (dputV kd vd k d)) → Q (upd H a o)) : stD g.c H a y z Q := put_dct ha hl ly lz sk hn q
theorem sf_dc {kx vx tg iter : Expr} {ifs : List Expr} {scope : Scope} {own : List (Str × Nat)} {pos : Pos} {it : M (List D)} {is : List Nat} {tgt : D → M Unit} {tst : M Bool} {ek ev : M D} (fx : Fx X g) (hi : SI X g tg iter it) (ok : BlkOk X.N X.env.scope scope own)
    (hg : ∀ (s : Shared) (H : Hp) (C : Addr) (cl : List (Str × Addr)) (fp : List Addr), SG (X.blk s H scope (compEnvC scope cl C X.env) fp) g tg is tgt)
    (ht : ∀ (s : Shared) (H : Hp) (C : Addr) (cl : List (Str × Addr)) (fp : List Addr), PTs (X.blk s H scope (compEnvC scope cl C X.env) fp) ifs (bD g tst))
    (hk : ∀ (s : Shared) (H : Hp) (C : Addr) (cl : List (Str × Addr)) (fp : List Addr), SE (X.blk s H scope (compEnvC scope cl C X.env) fp) g kx ek)
    (he : ∀ (s : Shared) (H : Hp) (C : Addr) (cl : List (Str × Addr)) (fp : List Addr), SE (X.blk s H scope (compEnvC scope cl C X.env) fp) g vx ev)
    (hv : ∀ j ∈ is, j ∈ own.map (·.2) := by decide) (hs : ∀ (x : Value), foldedSetIterable iter X.env x = pure x := by intro _; rfl) :
    SF X g (.DictComp kx vx [⟨tg, iter, ifs, 0⟩] scope pos) (dcD it tgt tst ek ev (own.map (·.2))) :=
  PE.imp (pe_dcR fx.c fx.n hi ok hg ht hk he hs (st_ok fx)) fun σ H Q q => by
    obtain ⟨os, ρ, t, A, q⟩ := q
    refine ⟨os, ρ, t, A, post_mono (post_bind q) (fun ds ρ1 t1 q1 J H1 os1 A1 s1 wk => ?_) fun _ _ _ _ h => h⟩
    intro Da hD
    obtain ⟨A2, n2, w2, s2⟩ := own_new (o := HO.dK []) A1 hD
    have ff : ∀ b ∈ os1, b ≠ Da := fun b hb z => by
      obtain ⟨o, e⟩ := A1.live b (List.mem_append_right _ hb)
      rw [z, hD] at e; cases e
    generalize hvs : own.map (·.2) = vs at *
    refine ⟨fun i m H' => m = ds.length - i ∧ i ≤ ds.length ∧ ∃ t' kd vd, Amb g (Da :: os1) σ H' ρ1 t' ∧ Own g (Da :: os1) H' Da (.dct kd vd) ∧ Go g os1 H1 (Da :: os1) H' ∧
      (dcGo tgt tst ek ev vs ρ1 (ds.drop i) kd vd t').post (fun r ρ' t' => ∀ p H' os', Amb g (p :: os') σ H' ρ' t' → Own g (p :: os') H' p (.dct r.1 r.2) → (p ∉ mo g os' ∧ H p = none) → NOw σ ρ' p → Go g os H (p :: os') H' → Q (.ref p) H') noX,
      ⟨ds.length, by simp, Nat.zero_le _, t1, [], [], A2, .inl ⟨[], upd_same, .nil, .nil⟩, s2, by rw [List.drop_zero]; exact post_bind q1⟩, ?_⟩
    rintro i m H2 ⟨rfl, hi, t2, kd, vd, A2, o2, s2, q2⟩
    obtain ⟨wz, wy⟩ := wk i _ H2 s2.s A2.live
    by_cases hlt : i < ds.length
    · obtain ⟨go, yl⟩ := wy ds[i] (List.getElem?_eq_getElem hlt)
      rw [List.drop_eq_getElem_cons hlt] at q2
      refine .inr ⟨go, fun H' => ∃ t' kd vd, Amb g (Da :: os1) σ H' ρ1 t' ∧ Own g (Da :: os1) H' Da (.dct kd vd) ∧ Go g os1 H1 (Da :: os1) H' ∧
          (dcGo tgt tst ek ev vs ρ1 (ds.drop (i + 1)) kd vd t').post (fun r ρ' t' => ∀ p H' os', Amb g (p :: os') σ H' ρ' t' → Own g (p :: os') H' p (.dct r.1 r.2) → (p ∉ mo g os' ∧ H p = none) → NOw σ ρ' p → Go g os H (p :: os') H' → Q (.ref p) H') noX,
        fun H' ⟨t', kd, vd, a, b, c, d⟩ => ⟨ds.length - (i + 1), by omega, rfl, hlt, t', kd, vd, a, b, c, d⟩, fun x H3 y => ?_⟩
      obtain ⟨s3, l3⟩ := yl x H3 y
      have q2 := post_bind (show (((tgt ds[i]) (unS ρ1 vs) t2).bind _).post _ _ from q2)
      have A3 := (A2.same s3).wipe vs
      refine ⟨_, unS ρ1 vs, t2, ds[i], A3, l3, post_mono q2 (fun _ ρ4 t4 q4 σ4 A4 k4 n4 => ?_) fun _ _ _ _ h => h⟩
      refine ⟨wipe_eq hv n4 k4, _, ρ4, t4, A4, post_mono (post_bind q4) (fun b ρ5 t5 q5 H5 os5 A5 s5 => ?_) fun _ _ _ _ h => h⟩
      have g5 := (Go.same (g := g) (os := Da :: os1) s3).trans s5
      by_cases hb : b = true
      · show ite (b = true) _ _
        rw [if_pos hb] at q5 ⊢
        refine ⟨os5, ρ5, t5, A5, post_mono (post_bind q5) (fun k ρ6 t6 q6 u H6 os6 A6 l6 s6 => ?_) fun _ _ _ _ h => h⟩
        refine ⟨os6, ρ6, t6, A6, post_mono (post_bind q6) (fun d ρ7 t7 q7 v H7 os7 A7 l7 s7 => ?_) fun _ _ _ _ h => h⟩
        have g7 := (g5.trans s6).trans s7
        have B := A2.go g7 A7
        have o7 : Own g (Da :: os1) H7 Da (.dct kd vd) := o2.same g7.base.s (g7.k Da List.mem_cons_self).2
        have lk : Lay g (Da :: os1) H7 u k := Ld.same g7.back (Ld.same s7.s l6)
        by_cases hc : sameKind kd k = true ∧ kd.length < lim
        · rw [if_pos hc] at q7
          show stD g.c H7 Da u v _
          refine st_dct List.mem_cons_self o7 lk (Ld.same g7.back l7) hc.1 hc.2 fun o w => ⟨t7, _, _, B.write List.mem_cons_self w2, w, ?_, q7⟩
          have g8 := s2.trans g7.base
          refine ⟨?_, fun b hb => ⟨(g8.k b hb).1, fun o' e => by rw [upd_ne (ff b hb)]; exact (g8.k b hb).2 o' e⟩, fun x C dx e o' z => ?_⟩
          · rw [show hd g (Da :: os1) (upd H7 Da o) = hd g (Da :: os1) H7 from msk_upd (List.mem_append_right _ List.mem_cons_self)]
            exact g8.s
          · rw [upd_ne fun w => by rw [w, hD] at z; cases z]
            exact g8.x x C dx e o' z
        · rw [if_neg hc] at q7; exact q7.elim
      · show ite (b = true) _ _
        rw [if_neg hb] at q5 ⊢
        exact ⟨t5, kd, vd, A2.go g5 A5, o2.same g5.base.s (g5.k Da List.mem_cons_self).2, s2.trans g5.base, q5⟩
    · have e : i = ds.length := by omega
      subst e
      rw [List.drop_length] at q2
      exact .inl ⟨wz rfl, q2 Da H2 os1 A2 o2 ⟨n2, s1.none A1 hD⟩ w2 (s1.trans s2)⟩
end
/-! ### range(a, b), zip, enumerate -/
section
variable {X : Cx} {g : G}
theorem si_range2 {tg a b : Expr} {p pos : Pos} {f : M (List D)} (fx : Fx X g) (hg : Gl X "range") (hm : g.c.mg "range" = none) (ha : SA X g [a, b] f) (hs : starEach [a, b] X.env = [(false, eval a X.env), (false, eval b X.env)] := by rfl) (hs2 : starEach [b] X.env = [(false, eval b X.env)] := by rfl) :
    SI X g tg (.Call (.Name "range" p) [a, b] [] pos) (mb f drng2) :=
  PI.imp (pi_range2 hg (by rw [fx.m]; exact hm) ha hs hs2) fun σ H R q => by
    obtain ⟨os, ρ, t, A, q⟩ := q
    refine ⟨os, ρ, t, A, post_mono (post_bind q) (fun ds ρ1 t1 q1 vs H1 os1 A1 l1 s1 => ?_) fun _ _ _ _ h => h⟩
    cases l1 with
    | nil => exact q1.elim
    | cons l a => cases a with
      | nil => cases l <;> exact q1.elim
      | cons l2 a => cases a with
        | cons _ _ => cases l <;> cases l2 <;> exact q1.elim
        | nil => cases l with
          | int i => cases l2 with
            | int j =>
              simp only [drng2] at q1
              rcases post_if q1 with ⟨c, q1⟩ | ⟨_, q1⟩
              · exact ⟨i, j, rfl, ⟨c.1, c.2.1, c.2.2.1, c.2.2.2⟩, q1 _ H1 os1 A1 s1 wk_rng⟩
              · exact q1.elim
            | _ => exact q1.elim
          | _ => cases l2 <;> exact q1.elim
def enumL : Nat → List D → List D
  | _, [] => []
  | n, d :: ds => .tup [.int n, d] :: enumL (n + 1) ds
theorem enumL_get : ∀ (ds : List D) (n i : Nat), (enumL n ds)[i]? = (ds[i]?).map fun d => .tup [.int ((n + i : Nat) : Int), d]
  | [], n, i => by simp [enumL]
  | d :: ds, n, 0 => by simp [enumL]
  | d :: ds, n, i + 1 => by
    have := enumL_get ds (n + 1) i
    simp only [enumL, List.getElem?_cons_succ]
    rw [this, show n + 1 + i = n + (i + 1) by omega]
theorem enumL_len : ∀ (ds : List D) (n : Nat), (enumL n ds).length = ds.length
  | [], _ => rfl
  | d :: ds, n => congrArg Nat.succ (enumL_len ds (n + 1))
def denum : List D → M (List D)
  | [.lst ds] => mr (enumL 0 ds)
  | _ => mx
theorem wk_enum {os : List Addr} {H : Hp} {a : Addr} {xs : List V} {ds : List D} (h : hd g os H a = some (.lst xs)) (ax : LayA g os H xs ds) : Wk g os H (Ite g.c.K a) (enumL 0 ds) := fun i os' H' s lv => by
  have h' := msk_le _ _ (s _ _ h)
  refine ⟨fun e => ⟨xs, SqL.of h', by rw [ax.len, ← enumL_len ds 0]; omega⟩, fun d e => ?_⟩
  rw [enumL_get] at e
  cases ed : ds[i]? with
  | none => rw [ed] at e; cases e
  | some d0 =>
    rw [ed] at e
    cases e
    obtain ⟨v, e1, e2⟩ := ax.get' ed
    refine ⟨⟨xs, v, SqL.of h', e1⟩, fun x H2 y => ?_⟩
    obtain ⟨T, x0, rfl, hT, rfl, y⟩ := y
    have := y xs (SqL.of h')
    rw [e1] at this
    cases this
    have sm : Same H' (upd H' T (.tup [V.int (i : Int), v])) := same_upd hT
    refine ⟨sm, ?_⟩
    have nT : T ∉ mo g os' := fun z => by
      obtain ⟨o, e⟩ := lv T z
      rw [hT] at e; cases e
    refine .tup (SqT.of (by rw [show hd g os' (upd H' T (.tup [V.int (i : Int), v])) T = upd H' T (.tup [V.int (i : Int), v]) T from msk_out nT]; exact upd_same)) ?_
    refine .cons ?_ (.cons (Ld.same (hd_same sm) (Ld.same s e2)) .nil)
    rw [Nat.zero_add]
    exact .int _
theorem si_enum {e : Expr} {p pos tpos : Pos} {elts : List Expr} {kk : Nat} {f : M (List D)} (fx : Fx X g) (hg : Gl X "enumerate") (hm : g.c.mg "enumerate" = none) (ha : SA X g [e] f) (hs : starEach [e] X.env = [(false, eval e X.env)] := by rfl) :
    SI X g (.Tuple elts kk tpos) (.Call (.Name "enumerate" p) [e] [] pos) (mb f denum) :=
  PI.imp (pi_enum hg (by rw [fx.m]; exact hm) ha hs) fun σ H R q => by
    obtain ⟨os, ρ, t, A, q⟩ := q
    refine ⟨os, ρ, t, A, post_mono (post_bind q) (fun ds ρ1 t1 q1 vs H1 os1 A1 l1 s1 => ?_) fun _ _ _ _ h => h⟩
    cases l1 with
    | nil => exact q1.elim
    | cons l a => cases a with
      | cons _ _ => cases l <;> exact q1.elim
      | nil => cases l with
        | @lst b xs es hx ax =>
          rw [fx.k]
          exact ⟨b, xs, rfl, SqL.of (msk_le _ _ hx), q1 _ H1 os1 A1 s1 (wk_enum hx ax)⟩
        | _ => exact q1.elim
end
end DL

set_option Elab.async false
set_option linter.all false
set_option maxRecDepth 100000
set_option maxHeartbeats 1000000
namespace DL
open PySem PySem.Spec PyProof.Rows L2
/-! ### defs and calls -/
def pn0 : Pn := ⟨[], 0, 0⟩
/-- slots at the entry -/
def ent (n : Nat) (ss : List Sl) : List Sl := ss ++ List.replicate (n - ss.length) .un
/-- what a body gives -/
def runD (f : M Fl) (ρ : List Sl) (t : Pn) : Ou D := (f ρ t).bind fun fl ρ' t' => match fl with
  | .nx => .ok .non ρ' t'
  | .rt d => .ok d ρ' t'
  | _ => .bad
/-- what __init__ makes -/
def runI (f : M Fl) (ρ : List Sl) (t : Pn) : Ou (List Str × List D) := (f ρ t).bind fun fl ρ' t' => match fl with
  | .nx => match (ρ'[0]? : Option Sl) with
    | some (Sl.sf ns vs) => .ok (ns, vs) ρ' t'
    | _ => .bad
  | _ => .bad
/-- what defs do with data -/
def fn0 (np n : Nat) (fM : M Fl) (ds : List D) : Ou D := if ds.length = np then runD fM (ent n (ds.map .im)) pn0 else .bad
def fnP (np n : Nat) (fM : M Fl) (ds : List D) (t : Pn) : Ou D := if ds.length + 1 = np then runD fM (ent n (.pn :: ds.map .im)) t else .bad
def fnI (np n : Nat) (fM : M Fl) (ds : List D) : Ou (List Str × List D) := if ds.length + 1 = np then runI fM (ent n (.sf [] [] :: ds.map .im)) pn0 else .bad
def keep (O : List Addr) (H H' : Hp) : Prop := ∀ b ∈ O, ∀ o, H b = some o → H' b = some o
/-- the promise of a def of data -/
def sp0 (c : Ct) (fn : List D → Ou D) : Sp := fun vs H Q _ => ∃ (O : List Addr) (ds : List D), LdA c (msk O H) vs ds ∧ (∀ a ∈ O, ∃ o, H a = some o) ∧
  (fn ds).post (fun d _ _ => ∀ v H', Ld c (msk O H') v d → Same (msk O H) (msk O H') → keep O H H' → Q v H') noX
/-- .. whose first argument is the law's pen -/
def spP (c : Ct) (n : Str) (fn : List D → Pn → Ou D) : Sp := fun vs H Q _ => ∃ (O : List Addr) (p l : Addr) (t : Pn) (us : List V) (ds : List D), vs = .ref p :: us ∧ LdA c (msk O H) us ds ∧ (∀ a ∈ O, ∃ o, H a = some o) ∧ PenAt H p l n t ∧ p ∈ O ∧ l ∉ O ∧
  (fn ds t).post (fun d _ t' => ∀ v H', Ld c (msk O H') v d → Same (msk O H) (msk O H') → (∀ b ∈ O, b ≠ p → ∀ o, H b = some o → H' b = some o) → PenAt H' p l n t' → Q v H') noX
/-- .. of __init__ -/
def spI (c : Ct) (n : Str) (fn : List D → Ou (List Str × List D)) : Sp := fun vs H Q _ => ∃ (O : List Addr) (x C dx : Addr) (us : List V) (ds : List D), vs = .ref x :: us ∧ ClsOf c n C ∧ LdA c (msk (x :: O) H) us ds ∧ (∀ a ∈ O, ∃ o, H a = some o) ∧ x ∉ O ∧ H x = some (.ins C dx []) ∧
  (fn ds).post (fun r _ _ => ∀ H', Ld c (msk O H') (.ref x) (.obj n r.1 r.2) → Same (msk (x :: O) H) (msk O H') → keep O H H' → Q .non H') noX
section
variable {c : Ct} {g : G} {os : List Addr} {σ : L2.St} {H : Hp} {ρ : List Sl} {t : Pn}
theorem ent_len {n : Nat} {ss : List Sl} {vs : List V} {N : List Str} (hn : N.length = n) (h : ss.length = vs.length) : (ent n ss).length = (L2.start N vs).length := by
  unfold ent L2.start
  rw [List.length_append, List.length_append, List.length_replicate, List.length_replicate, List.length_map, hn, h]
theorem start_get {N : List Str} {vs : List V} {i : Nat} {v : V} (h : vs[i]? = some v) : (L2.start N vs)[i]? = some (some v) := by
  unfold L2.start
  rw [List.getElem?_append_left (by rw [List.length_map]; exact (List.getElem?_eq_some_iff.mp h).1), List.getElem?_map, h]; rfl
theorem ent_get {n : Nat} {ss : List Sl} {i : Nat} {s : Sl} (h : (ent n ss)[i]? = some s) : ss[i]? = some s ∨ s = .un := by
  unfold ent at h
  by_cases z : i < ss.length
  · rw [List.getElem?_append_left z] at h; exact .inl h
  · rw [List.getElem?_append_right (by omega)] at h
    exact .inr (List.eq_of_mem_replicate (List.mem_of_getElem? h))
/-- the state at the entry -/
theorem amb_ent {N : List Str} {n : Nat} {vs : List V} {ss : List Sl} (hn : N.length = n) (h0 : g.H0 = H) (hl : ss.length = vs.length) (hs : ∀ (i : Nat) (s : Sl) (v : V), ss[i]? = some s → vs[i]? = some v → SlOk g [] H (some (some v)) s ∧ ∀ d, s ≠ .ow d) (lv : ∀ a ∈ g.O, ∃ o, H a = some o) (sf : ∀ x C dx, g.slf = some (x, C, dx) → x ∈ g.O) (pn : PenOk g H t) :
    Amb g [] (L2.start N vs) H (ent n ss) t where
  len := ent_len hn hl
  sl := fun i s e => by
    rcases ent_get e with h | rfl
    · obtain ⟨v, hv⟩ : ∃ v, vs[i]? = some v := ⟨_, List.getElem?_eq_getElem (by rw [← hl]; exact (List.getElem?_eq_some_iff.mp h).1)⟩
      rw [start_get hv]
      exact (hs i s v h hv).1
    · trivial
  dis := fun i j d e a ne h1 h2 h3 h4 => by
    rcases ent_get h1 with h | h
    · obtain ⟨v, hv⟩ : ∃ v, vs[i]? = some v := ⟨_, List.getElem?_eq_getElem (by rw [← hl]; exact (List.getElem?_eq_some_iff.mp h).1)⟩
      exact (hs i _ v h hv).2 d rfl
    · cases h
  pres := by rw [h0]; exact Pres.refl
  new := fun a ha => by cases ha
  live := fun a ha => lv a (by simpa [mo] using ha)
  slf := sf
  o0 := fun a ha => by rw [h0]; exact lv a ha
  pen := pn
theorem LdA.im {B : Hp} {vs : List V} {ds : List D} (a : LdA c B vs ds) {i : Nat} {s : Sl} {v : V} (h : (ds.map Sl.im)[i]? = some s) (hv : vs[i]? = some v) : ∃ d, s = .im d ∧ Ld c B v d := by
  rw [List.getElem?_map] at h
  cases e : ds[i]? with
  | none => rw [e] at h; cases h
  | some d =>
    rw [e] at h
    cases h
    obtain ⟨v', e1, e2⟩ := a.get' e
    rw [hv] at e1
    cases e1
    exact ⟨d, rfl, e2⟩
theorem mo_nil : mo g [] = g.O := List.append_nil _
end
/-- the layer's context of a body -/
abbrev bX (P : Program) (w : World) (K : PySem.W.Frag) (mg : Str → Option Value) (base : Heap) (N : List Str) (q : Str) (sc : Scope) (f : Addr) (cdv : Value) (A : Around) (outer : List Env) (s : Shared) (H : Hp) (E : XK) : Cx := (cxOf CX0 P w K mg base N q sc f cdv A outer s H E).nox
section
variable {c : Ct} {P : Program} {base : Heap} {x q : Str} {params : Arguments} {body : List Stmt} {scope : Scope} {dvs : List V} {kws : List (Str × V)} {f : Addr} {fd : FuncData} {N ps : List Str} {k : Nat}
theorem fx_of {g : G} {cdv : Value} {A : Around} {outer : List Env} {s : Shared} {H : Hp} {E : XK} (S : FnScope N ps scope) (hr : Room k (A.deeper (envOfC q scope s.heap.objs.size f cdv))) (hg : g.c = c) : Fx (bX P c.w c.K c.mg base N q scope f cdv A outer s H E) g :=
  ⟨by rw [hg]; rfl, by rw [hg]; rfl, by rw [hg]; rfl, by have := hr.un; show (A.deeper (envOfC q scope s.heap.objs.size f cdv)).units + 65 < cLine; omega, rfl, S.nd, PassesOwn.never⟩
/-- a def of data does what its body tells -/
theorem ok_0 (F : FunD c.K x q params body scope dvs kws f fd) (S : FnScope N ps scope) {fM : M Fl}
    (hb : ∀ (cdv : Value) (A : Around) (outer : List Env) (s : Shared) (H : Hp) (E : XK) (g : G), Room k (A.deeper (envOfC q scope s.heap.objs.size f cdv)) → g.c = c → Fx (bX P c.w c.K c.mg base N q scope f cdv A outer s H E) g → SSs (bX P c.w c.K c.mg base N q scope f cdv A outer s H E) g body fM) :
    FnOk P c.w c.K c.mg base CX0 (k + 1) f fd ps (sp0 c (fn0 ps.length N.length fM)) := by
  refine F.ok S (fun vs H Q E h => ?_) (fun cdv A outer s H vs Q E hr h => ?_)
  · obtain ⟨O, ds, l, _, p⟩ := h
    unfold fn0 at p
    by_cases e : ds.length = ps.length
    · rw [l.len]; exact e
    · rw [if_neg e] at p; exact p.elim
  · obtain ⟨O, ds, l, lv, p⟩ := h
    unfold fn0 at p
    by_cases e : ds.length = ps.length
    · rw [if_pos e] at p
      let g : G := ⟨c, none, none, O, H⟩
      refine ⟨_, PSs.nox (hb cdv A outer s H E g hr rfl (fx_of S hr rfl)), [], ent N.length (ds.map .im), pn0, ?_, ?_⟩
      · refine amb_ent rfl rfl (by rw [List.length_map, l.len]) (fun i s v h1 h2 => ?_) lv (fun _ _ _ e => by cases e) fun _ _ _ e => by cases e
        obtain ⟨d, rfl, ld⟩ := LdA.im l h1 h2
        refine ⟨⟨v, rfl, ?_⟩, fun _ z => by cases z⟩
        show Ld c (msk (mo g []) H) v d
        rw [mo_nil]; exact ld
      · refine post_mono (post_bind p) (fun fl ρ' t' h => ?_) fun _ _ _ _ h => h
        have fin : ∀ {v : V} {d : D} {σ' : L2.St} {H' : Hp} {os' : List Addr}, Amb g os' σ' H' ρ' t' → Lay g os' H' v d → Same (hd g [] H) (hd g os' H') → (∀ v H', Ld c (msk O H') v d → Same (msk O H) (msk O H') → keep O H H' → Q v H') → Q v H' := fun {v d σ' H' os'} A' l' s' h => by
          have sub : Same (hd g os' H') (msk O H') := msk_sub fun b hb => List.mem_append_left _ hb
          refine h v H' (Ld.same sub l') ?_ fun b hb o z => ?_
          · have : hd g [] H = msk O H := by show msk (mo g []) H = _; rw [mo_nil]
            rw [this] at s'
            exact s'.trans sub
          · exact A'.pres b o z ⟨fun _ _ _ e => (by cases e), fun _ _ _ e => (by cases e)⟩
        cases fl with
        | nx => exact fun σ' H' os' A' s' => fin A' .non s' h
        | rt d => exact fun v σ' H' os' A' l' s' => fin A' l' s' h
        | bk => exact h.elim
        | ct => exact h.elim
    · rw [if_neg e] at p; exact p.elim
/-- a def that draws does what its body tells -/
theorem ok_P {nc : Str} (F : FunD c.K x q params body scope dvs kws f fd) (S : FnScope N ps scope) {fM : M Fl}
    (hb : ∀ (cdv : Value) (A : Around) (outer : List Env) (s : Shared) (H : Hp) (E : XK) (g : G), Room k (A.deeper (envOfC q scope s.heap.objs.size f cdv)) → g.c = c → PenN g nc → Fx (bX P c.w c.K c.mg base N q scope f cdv A outer s H E) g → SSs (bX P c.w c.K c.mg base N q scope f cdv A outer s H E) g body fM) :
    FnOk P c.w c.K c.mg base CX0 (k + 1) f fd ps (spP c nc (fnP ps.length N.length fM)) := by
  refine F.ok S (fun vs H Q E h => ?_) (fun cdv A outer s H vs Q E hr h => ?_)
  · obtain ⟨O, p, l, t, us, ds, rfl, la, _, _, _, _, q⟩ := h
    unfold fnP at q
    by_cases e : ds.length + 1 = ps.length
    · rw [List.length_cons, la.len]; exact e
    · rw [if_neg e] at q; exact q.elim
  · obtain ⟨O, p, l, t, us, ds, rfl, la, lv, pa, hp, hl, q⟩ := h
    unfold fnP at q
    by_cases e : ds.length + 1 = ps.length
    · rw [if_pos e] at q
      let g : G := ⟨c, some (p, l, nc), none, O, H⟩
      have lm : hd g [] H = msk O H := by show msk (mo g []) H = _; rw [mo_nil]
      refine ⟨_, PSs.nox (hb cdv A outer s H E g hr rfl ⟨rfl, fun _ _ _ e => by cases e; rfl⟩ (fx_of S hr rfl)), [], ent N.length (.pn :: ds.map .im), t, ?_, ?_⟩
      · refine amb_ent rfl rfl (by rw [List.length_cons, List.length_cons, List.length_map, la.len]) (fun i s v h1 h2 => ?_) lv (fun _ _ _ e => by cases e) fun p' l' n' e => by
          cases e
          exact ⟨pa, hp, hl, _, pa.l⟩
        cases i with
        | zero =>
          cases h1
          cases h2
          exact ⟨⟨p, l, nc, rfl, rfl⟩, fun _ z => by cases z⟩
        | succ i =>
          obtain ⟨d, rfl, ld⟩ := LdA.im la (by simpa using h1) (by simpa using h2)
          refine ⟨⟨v, rfl, ?_⟩, fun _ z => by cases z⟩
          show Ld c (hd g [] H) v d
          rw [lm]; exact ld
      · refine post_mono (post_bind q) (fun fl ρ' t' h => ?_) fun _ _ _ _ h => h
        have fin : ∀ {v : V} {d : D} {σ' : L2.St} {H' : Hp} {os' : List Addr}, Amb g os' σ' H' ρ' t' → Lay g os' H' v d → Same (hd g [] H) (hd g os' H') → (∀ v H', Ld c (msk O H') v d → Same (msk O H) (msk O H') → (∀ b ∈ O, b ≠ p → ∀ o, H b = some o → H' b = some o) → PenAt H' p l nc t' → Q v H') → Q v H' := fun {v d σ' H' os'} A' l' s' h => by
          have sub : Same (hd g os' H') (msk O H') := msk_sub fun b hb => List.mem_append_left _ hb
          refine h v H' (Ld.same sub l') ?_ (fun b hb ne o z => ?_) (A'.pen p l nc rfl).1
          · rw [lm] at s'
            exact s'.trans sub
          · exact A'.pres b o z ⟨fun _ _ _ e => (by cases e; exact ne), fun _ _ _ e => (by cases e)⟩
        cases fl with
        | nx => exact fun σ' H' os' A' s' => fin A' .non s' h
        | rt d => exact fun v σ' H' os' A' l' s' => fin A' l' s' h
        | bk => exact h.elim
        | ct => exact h.elim
    · rw [if_neg e] at q; exact q.elim
/-- __init__ makes what its body tells -/
theorem ok_I {n : Str} (F : FunD c.K x q params body scope dvs kws f fd) (S : FnScope N ps scope) {fM : M Fl}
    (hb : ∀ (cdv : Value) (A : Around) (outer : List Env) (s : Shared) (H : Hp) (E : XK) (g : G), Room k (A.deeper (envOfC q scope s.heap.objs.size f cdv)) → g.c = c → (∀ x C dx, g.slf = some (x, C, dx) → ClsOf c n C) → g.pen = none → Fx (bX P c.w c.K c.mg base N q scope f cdv A outer s H E) g → SSs (bX P c.w c.K c.mg base N q scope f cdv A outer s H E) g body fM) :
    FnOk P c.w c.K c.mg base CX0 (k + 1) f fd ps (spI c n (fnI ps.length N.length fM)) := by
  refine F.ok S (fun vs H Q E h => ?_) (fun cdv A outer s H vs Q E hr h => ?_)
  · obtain ⟨O, x, C, dx, us, ds, rfl, _, la, _, _, _, q⟩ := h
    unfold fnI at q
    by_cases e : ds.length + 1 = ps.length
    · rw [List.length_cons, la.len]; exact e
    · rw [if_neg e] at q; exact q.elim
  · obtain ⟨O, x, C, dx, us, ds, rfl, hC, la, lv, nx, hx, q⟩ := h
    unfold fnI at q
    by_cases e : ds.length + 1 = ps.length
    · rw [if_pos e] at q
      let g : G := ⟨c, none, some (x, C, dx), x :: O, H⟩
      have lm : hd g [] H = msk (x :: O) H := by show msk (mo g []) H = _; rw [mo_nil]
      refine ⟨_, PSs.nox (hb cdv A outer s H E g hr rfl (fun _ _ _ e => by cases e; exact hC) rfl (fx_of S hr rfl)), [], ent N.length (.sf [] [] :: ds.map .im), pn0, ?_, ?_⟩
      · refine amb_ent rfl rfl (by rw [List.length_cons, List.length_cons, List.length_map, la.len]) (fun i s v h1 h2 => ?_) (fun a ha => ?_) (fun _ _ _ e => by cases e; exact List.mem_cons_self) fun _ _ _ e => by cases e
        · cases i with
          | zero =>
            cases h1
            cases h2
            exact ⟨⟨x, C, dx, [], rfl, rfl, hx, rfl, .nil⟩, fun _ z => by cases z⟩
          | succ i =>
            obtain ⟨d, rfl, ld⟩ := LdA.im la (by simpa using h1) (by simpa using h2)
            refine ⟨⟨v, rfl, ?_⟩, fun _ z => by cases z⟩
            show Ld c (hd g [] H) v d
            rw [lm]; exact ld
        · rcases List.mem_cons.mp ha with rfl | ha
          · exact ⟨_, hx⟩
          · exact lv a ha
      · refine post_mono (post_bind q) (fun fl ρ' t' h => ?_) fun _ _ _ _ h => h
        cases fl with
        | nx =>
          intro σ' H' os' A' s'
          simp only at h
          cases e0 : ρ'[0]? with
          | none => rw [e0] at h; exact h.elim
          | some sl =>
            rw [e0] at h
            cases sl with
            | sf ns vs =>
              obtain ⟨x', C', dx', fs, g1, g2, g3, g4, g5⟩ := A'.sl 0 _ e0
              cases g1
              have sub : Same (hd g os' H') (msk O H') := msk_sub fun b hb => List.mem_append_left _ (List.mem_cons_of_mem _ hb)
              refine h H' ?_ ?_ fun b hb o z => ?_
              · subst g4
                exact .obj (by rw [msk_out nx]; exact g3) hC (LdA.same sub g5)
              · rw [lm] at s'
                exact s'.trans sub
              · exact A'.pres b o z ⟨fun _ _ _ e => (by cases e), fun _ _ _ e => (by cases e; exact fun w => nx (w ▸ hb))⟩
            | _ => exact h.elim
        | rt d => exact h.elim
        | bk => exact h.elim
        | ct => exact h.elim
    · rw [if_neg e] at q; exact q.elim
end
end DL

set_option Elab.async false
set_option linter.all false
set_option maxRecDepth 100000
set_option maxHeartbeats 1000000
namespace DL
open PySem PySem.Spec PyProof.Rows L2
/-! ### calls, objects -/
def call0 (fn : List D → Ou D) (ds : List D) : M D := fun ρ t => (fn ds).bind fun d _ _ => .ok d ρ t
def callP (fn : List D → Pn → Ou D) (ds : List D) : M D := fun ρ t => (fn ds t).bind fun d _ t' => .ok d ρ t'
def callI (n : Str) (fn : List D → Ou (List Str × List D)) (ds : List D) : M D := fun ρ t => (fn ds).bind fun r _ _ => .ok (.obj n r.1 r.2) ρ t
/-- a def that stands -/
structure ClD (P : Program) (base : Heap) (c : Ct) (k : Nat) (x : Str) (ps : List Str) (sp : Sp) (dd : List D) : Prop where
  ex : ∃ (f : Addr) (fd : FuncData) (dvs : List V) (ds : List Value), FnOk P c.w c.K c.mg base CX0 k f fd ps sp ∧ c.mg x = some (.ref f) ∧ PySem.W.keepIn c.K (.ref f) = true ∧ Binds c.K fd ps ds ∧ Vals dvs ds ∧ ∀ B, LdA c B dvs dd
/-- a class that makes objects -/
structure ClI (P : Program) (base : Heap) (c : Ct) (k : Nat) (x : Str) (ps : List Str) (sp : Sp) (dd : List D) : Prop where
  ex : ∃ (f C : Addr) (fd : FuncData) (dvs : List V) (ds : List Value), Mk c.K C f ∧ FnOk P c.w c.K c.mg base CX0 k f fd ps sp ∧ c.mg x = some (.ref C) ∧ Binds c.K fd ps ds ∧ Vals dvs ds ∧ ∀ B, LdA c B dvs dd
/-- a property -/
structure ClR (P : Program) (base : Heap) (c : Ct) (k : Nat) (n f : Str) (fn : List D → Ou D) : Prop where
  ex : ∃ (C p q : Addr) (fd : FuncData) (ps : List Str), ClsOf c n C ∧ Cls c.K C ∧ PropOf c.K C f p q ∧ FnOk P c.w c.K c.mg base CX0 k q fd ps (sp0 c fn) ∧ Binds c.K fd ps []
/-- a method -/
structure ClM (P : Program) (base : Heap) (c : Ct) (k : Nat) (n m : Str) (sp : Sp) (dd : List D) : Prop where
  ex : ∃ (C f : Addr) (fd : FuncData) (ps : List Str) (dvs : List V) (ds : List Value), ClsOf c n C ∧ Cls c.K C ∧ Meth c.K C m f ∧ FnOk P c.w c.K c.mg base CX0 k f fd ps sp ∧ Binds c.K fd ps ds ∧ Vals dvs ds ∧ ∀ B, LdA c B dvs dd
theorem ClD.mono {P : Program} {base : Heap} {c : Ct} {j k : Nat} {x : Str} {ps : List Str} {sp : Sp} {dd : List D} (h : ClD P base c j x ps sp dd) (l : j ≤ k) : ClD P base c k x ps sp dd := by
  obtain ⟨f, fd, dvs, ds, a, b⟩ := h.ex
  exact ⟨f, fd, dvs, ds, a.mono l, b⟩
section
variable {g : G} {os : List Addr} {σ : L2.St} {H H' : Hp} {ρ : List Sl} {t t' : Pn}
theorem Amb.kept (A : Amb g os σ H ρ t) (s : Same (hd g os H) (hd g os H')) (k : keep (mo g os) H H') : Amb g os σ H' ρ t ∧ Go g os H os H' := by
  have kk : ∀ b o, H b = some o → H' b = some o := fun b o z => by
    by_cases h : b ∈ mo g os
    · exact k b h o z
    · exact msk_le _ _ (s b o (by rw [show hd g os H b = H b from msk_out h]; exact z))
  exact ⟨A.same kk, Go.same kk⟩
theorem call_0 {fn : List D → Ou D} {vs : List V} {ds : List D} {Q : VK} {E : XK} (A : Amb g os σ H ρ t) (l : LayA g os H vs ds)
    (q : (call0 fn ds ρ t).post (fun d ρ' t' => ∀ v H' os', Amb g os' σ H' ρ' t' → Lay g os' H' v d → Go g os H os' H' → Q v H') noX) : sp0 g.c fn vs H Q E :=
  ⟨mo g os, ds, l, A.live, post_mono (post_bind q) (fun d _ _ q1 v H' l' s' k' => by
    obtain ⟨B, go⟩ := A.kept s' k'
    exact q1 v H' os B l' go) fun _ _ _ _ h => h⟩
theorem call_P {n : Str} {fn : List D → Pn → Ou D} {vs : List V} {ds : List D} {Q : VK} {E : XK} (pn : PenN g n) {p l : Addr} {m : Str} (hp : g.pen = some (p, l, m)) (A : Amb g os σ H ρ t) (la : LayA g os H vs ds)
    (q : (callP fn ds ρ t).post (fun d ρ' t' => ∀ v H' os', Amb g os' σ H' ρ' t' → Lay g os' H' v d → Go g os H os' H' → Q v H') noX) : spP g.c n fn (.ref p :: vs) H Q E := by
  obtain rfl := pn.2 p l m hp
  obtain ⟨pa, m1, m2, o, m3⟩ := A.pen p l m hp
  have nl : l ∉ mo g os := fun z => by
    rcases List.mem_append.mp z with z | z
    · exact m2 z
    · rw [A.new l z] at m3; cases m3
  refine ⟨mo g os, p, l, t, vs, ds, rfl, la, A.live, pa, List.mem_append_left _ m1, nl, post_mono (post_bind q) (fun d _ t' q1 v H' l' s' k' pa' => ?_) fun _ _ _ _ h => h⟩
  have np : ∀ b ∈ os, b ≠ p := fun b hb z => by
    obtain ⟨o, e⟩ := A.o0 p m1
    rw [← z, A.new b hb] at e; cases e
  have kk : ∀ b o, H b = some o → b ≠ p → H' b = some o := fun b o z ne => by
    by_cases h : b ∈ mo g os
    · exact k' b h ne o z
    · exact msk_le _ _ (s' b o (by rw [msk_out h]; exact z))
  refine q1 v H' os (A.step s' (fun b hb o z => kk b o z (np b hb)) (fun b o z ho => kk b o z (ho.1 p l m hp)) (fun b hb => ?_) (fun x C dx e => by rw [pn.1] at e; cases e) fun p' l' n' e => ?_) l' ⟨s', fun b hb => ⟨hb, fun o z => kk b o z (np b hb)⟩, fun x C dx e => by rw [pn.1] at e; cases e⟩
  · by_cases z : b = p
    · exact ⟨_, by rw [z]; exact pa'.d⟩
    · obtain ⟨o, e⟩ := A.live b (List.mem_append_left _ hb)
      exact ⟨o, kk b o e z⟩
  · rw [hp] at e
    cases e
    exact ⟨pa', m1, m2, o, m3⟩
end
section
variable {X : Cx} {g : G} {k : Nat}
theorem fnok {P : Program} {base : Heap} {f : Addr} {fd : FuncData} {ps : List Str} {sp : Sp} (fx : Fx X g) (h : FnOk X.prog g.c.w g.c.K g.c.mg X.base CX0 k f fd ps sp) : FnOk X.prog X.w X.K X.mg X.base CX0 k f fd ps sp := by
  rw [fx.w, fx.k, fx.m]; exact h
theorem se_call0 {x : Str} {ps : List Str} {fn : List D → Ou D} {dd : List D} {p pos : Pos} {e : Expr} {es : List Expr} {h : M (List D)} (fx : Fx X g) (cl : ClD X.prog X.base g.c k x ps (sp0 g.c fn) dd) (hr : Room k X.A) (hg : Gl X x) (ha : SA X g (e :: es) h)
    (hdb : (x == ("__debug__" : Str)) = false := by decide) (hs : starEach (e :: es) X.env = (false, eval e X.env) :: starEach es X.env := by rfl) (hpl : (backTo pos (starEach es X.env)).any (·.1) = false := by rfl) :
    SE X g (.Call (.Name x p) (e :: es) [] pos) (mb h fun ds => call0 fn (ds ++ dd)) := by
  obtain ⟨f, fd, dvs, dss, F, hm, hk, hb, hd, hl⟩ := cl.ex
  refine PE.imp (pe_call (fnok (P := X.prog) (base := X.base) fx F) hr hg (by rw [fx.m]; exact hm) (by rw [fx.k]; exact hk) (by rw [fx.k]; exact hb) hd pass0 ha hdb hs hpl) fun σ H Q q => ?_
  obtain ⟨os, ρ, t, A, q⟩ := q
  exact ⟨os, ρ, t, A, post_mono (post_bind q) (fun ds ρ1 t1 q1 vs H1 os1 A1 l1 s1 => call_0 A1 (LdA.app l1 (hl _)) (post_mono q1 (fun d ρ2 t2 q2 v H2 os2 A2 l2 s2 => q2 v H2 os2 A2 l2 (s1.trans s2)) fun _ _ _ _ h => h)) fun _ _ _ _ h => h⟩
theorem se_call00 {x : Str} {ps : List Str} {fn : List D → Ou D} {dd : List D} {p pos : Pos} (fx : Fx X g) (cl : ClD X.prog X.base g.c k x ps (sp0 g.c fn) dd) (hr : Room k X.A) (hg : Gl X x) (hdb : (x == ("__debug__" : Str)) = false := by decide) :
    SE X g (.Call (.Name x p) [] [] pos) (call0 fn dd) := by
  obtain ⟨f, fd, dvs, dss, F, hm, hk, hb, hd, hl⟩ := cl.ex
  refine PE.imp (pe_call0 (fnok (P := X.prog) (base := X.base) fx F) hr hg (by rw [fx.m]; exact hm) (by rw [fx.k]; exact hk) (by rw [fx.k]; exact hb) hd pass0 hdb) fun σ H Q q => ?_
  obtain ⟨os, ρ, t, A, q⟩ := q
  exact call_0 (E := E0) A (hl _) q
def penc (i : Nat) (f : M D) : M D := fun ρ t => match ρ[i]? with
  | some .pn => f ρ t
  | _ => .bad
theorem se_callP {x n : Str} {i : Nat} {y : Str} {py : Pos} {ps : List Str} {fn : List D → Pn → Ou D} {p pos : Pos} {es : List Expr} {h : M (List D)} (fx : Fx X g) (pn : PenN g n) (cl : ClD X.prog X.base g.c k x ps (spP g.c n fn) []) (hr : Room k X.A) (hg : Gl X x) (hy : PE X (.Name y py) (tVar i)) (ha : SA X g es h)
    (hdb : (x == ("__debug__" : Str)) = false := by decide) (hs : starEach (.Name y py :: es) X.env = (false, eval (.Name y py) X.env) :: starEach es X.env := by rfl) (hpl : (backTo pos (starEach es X.env)).any (·.1) = false := by rfl) :
    SE X g (.Call (.Name x p) (.Name y py :: es) [] pos) (penc i (mb h (callP fn))) := by
  obtain ⟨f, fd, dvs, dss, F, hm, hk, hb, hd, hl⟩ := cl.ex
  refine PE.imp (pe_call (fnok (P := X.prog) (base := X.base) fx F) hr hg (by rw [fx.m]; exact hm) (by rw [fx.k]; exact hk) (by rw [fx.k]; exact hb) hd pass0 (pa_cons hy ha hs) hdb hs hpl) fun σ H Q q => ?_
  obtain ⟨os, ρ, t, A, q⟩ := q
  unfold penc at q
  cases e : ρ[i]? with
  | none => rw [e] at q; exact q.elim
  | some s =>
    rw [e] at q
    cases s with
    | pn =>
      obtain ⟨p0, l0, m0, h1, h2⟩ := A.sl i _ e
      have hdv : dvs = [] := by
        have := hl (msk [] H)
        cases this
        rfl
      subst hdv
      refine ⟨_, h2, os, ρ, t, A, post_mono (post_bind q) (fun ds ρ1 t1 q1 vs H1 os1 A1 l1 s1 => ?_) fun _ _ _ _ h => h⟩
      show spP g.c n fn (.ref p0 :: (vs ++ [])) H1 Q E0
      rw [List.append_nil]
      exact call_P pn h1 A1 l1 (post_mono q1 (fun d ρ2 t2 q2 v H2 os2 A2 l2 s2 => q2 v H2 os2 A2 l2 (s1.trans s2)) fun _ _ _ _ h => h)
    | _ => exact q.elim
theorem make_w {x : Str} {fn : List D → Ou (List Str × List D)} {C : Addr} {os : List Addr} {σ : L2.St} {H : Hp} {ρ : List Sl} {t : Pn} {vs : List V} {ds : List D} {Q : VK} {E : XK} (hC : ClsOf g.c x C) (A : Amb g os σ H ρ t) (l : LayA g os H vs ds)
    (q : (callI x fn ds ρ t).post (fun d ρ' t' => ∀ v H' os', Amb g os' σ H' ρ' t' → Lay g os' H' v d → Go g os H os' H' → Q v H') noX) :
    ∀ (y dx : Addr), H y = none → H dx = none → dx ≠ y → spI g.c x fn (.ref y :: vs) (upd (upd H dx (.own y)) y (.ins C dx [])) (fun v H2 => v = .non ∧ Q (.ref y) H2) E := fun y dx hy hdx ne => by
  have up : ∀ b o, H b = some o → upd (upd H dx (.own y)) y (.ins C dx []) b = some o := fun b o e => by
    rw [upd_ne (ne_of_none e hy), upd_ne (ne_of_none e hdx)]; exact e
  have ny : y ∉ mo g os := A.fresh hy
  refine ⟨mo g os, y, C, dx, vs, ds, rfl, hC, LdA.same (fun b o e => ?_) l, fun a ha => ?_, ny, upd_same, post_mono (post_bind q) (fun r _ _ q1 H' l' s' k' => ⟨rfl, ?_⟩) fun _ _ _ _ h => h⟩
  · by_cases hb : b ∈ mo g os
    · rw [show hd g os H b = none from msk_in hb] at e; cases e
    · rw [show hd g os H b = H b from msk_out hb] at e
      have nb : b ∉ y :: mo g os := fun z => by
        rcases List.mem_cons.mp z with z | z
        · rw [z, hy] at e; cases e
        · exact hb z
      rw [msk_out nb]
      exact up b o e
  · obtain ⟨o, e⟩ := A.live a ha
    exact ⟨o, up a o e⟩
  · have sm : Same (hd g os H) (hd g os H') := fun b o e => by
      by_cases hb : b ∈ mo g os
      · rw [show hd g os H b = none from msk_in hb] at e; cases e
      · rw [show hd g os H b = H b from msk_out hb] at e
        have nb : b ∉ y :: mo g os := fun z => by
          rcases List.mem_cons.mp z with z | z
          · rw [z, hy] at e; cases e
          · exact hb z
        exact s' b o (by rw [msk_out nb]; exact up b o e)
    obtain ⟨B, go⟩ := A.kept sm (fun b hb o z => k' b hb o (up b o z))
    exact q1 _ H' os B l' go
theorem se_make {x : Str} {ps : List Str} {fn : List D → Ou (List Str × List D)} {dd : List D} {p pos : Pos} {e : Expr} {es : List Expr} {h : M (List D)} (fx : Fx X g) (cl : ClI X.prog X.base g.c k x ps (spI g.c x fn) dd) (hr : Room (k + 1) X.A) (hg : Gl X x) (ha : SA X g (e :: es) h)
    (hdb : (x == ("__debug__" : Str)) = false := by decide) (hs : starEach (e :: es) X.env = (false, eval e X.env) :: starEach es X.env := by rfl) (hpl : (backTo pos (starEach es X.env)).any (·.1) = false := by rfl) :
    SE X g (.Call (.Name x p) (e :: es) [] pos) (mb h fun ds => callI x fn (ds ++ dd)) := by
  obtain ⟨f, C, fd, dvs, dss, mk, F, hm, hb, hd, hl⟩ := cl.ex
  refine PE.imp (pe_make (by rw [fx.k]; exact mk) (fnok (P := X.prog) (base := X.base) fx F) hr hg (by rw [fx.m]; exact hm) (by rw [fx.k]; exact hb) hd pass0 ha hdb hs hpl) fun σ H Q q => ?_
  obtain ⟨os, ρ, t, A, q⟩ := q
  exact ⟨os, ρ, t, A, post_mono (post_bind q) (fun ds ρ1 t1 q1 vs H1 os1 A1 l1 s1 => make_w hm A1 (LdA.app l1 (hl _)) (post_mono q1 (fun d ρ2 t2 q2 v H2 os2 A2 l2 s2 => q2 v H2 os2 A2 l2 (s1.trans s2)) fun _ _ _ _ h => h)) fun _ _ _ _ h => h⟩
/-! fields -/
def FldOk (c : Ct) (n f : Str) : Prop := ∀ C, ClsOf c n C → Cls c.K C ∧ NoAttr c.K C f
def dlk (ns : List Str) (vs : List D) (f : Str) : Option D := match ns, vs with
  | n :: ns, v :: vs => if f = n then some v else dlk ns vs f
  | _, _ => none
def dfld (cs : List Str) (f : Str) : D → M D
  | .obj n ns vs => if cs.contains n = true then match dlk ns vs f with
    | some d => mr d
    | none => mx else mx
  | _ => mx
theorem look_f {c : Ct} {H : Hp} {f : Str} : ∀ {fs : List (Str × V)} {vd : List D}, LdA c H (fs.map (·.2)) vd → ∀ {d : D}, dlk (fs.map (·.1)) vd f = some d → ∃ v, fs.lookup f = some v ∧ Ld c H v d
  | [], _, .nil, d, h => by cases h
  | q :: fs, _, .cons l a, d, h => by
    obtain ⟨n, v⟩ := q
    rw [List.map_cons, dlk] at h
    by_cases e : f = n
    · rw [if_pos e] at h
      cases h
      exact ⟨v, by rw [List.lookup_cons, show (f == n) = true from beq_iff_eq.mpr e], l⟩
    · rw [if_neg e] at h
      obtain ⟨v', h1, h2⟩ := look_f a h
      exact ⟨v', by rw [List.lookup_cons, show (f == n) = false from beq_eq_false_iff_ne.mpr e]; exact h1, h2⟩
theorem se_fld {e : Expr} {f : Str} {pos : Pos} {h : M D} (fx : Fx X g) (cs : List Str) (he : SE X g e h) (hf : ∀ n ∈ cs, FldOk g.c n f) (hab : attributeBase e f X.env (eval e X.env) = eval e X.env := by rfl) : SE X g (.Attribute e f pos) (mb h (dfld cs f)) :=
  PE.imp (pe_fld he hab) fun σ H Q q => by
    obtain ⟨os, ρ, t, A, q⟩ := q
    refine ⟨os, ρ, t, A, post_mono (post_bind q) (fun d ρ1 t1 q1 v H1 os1 A1 l1 s1 => ?_) fun _ _ _ _ h => h⟩
    cases l1 with
    | @obj a C dx fs n vd h1 h2 h3 =>
      simp only [dfld] at q1
      rcases post_if q1 with ⟨c, q1⟩ | ⟨_, q1⟩
      · cases el : dlk (fs.map (·.1)) vd f with
        | none => simp only [el] at q1; exact q1.elim
        | some d =>
          simp only [el] at q1
          obtain ⟨v, k1, k2⟩ := look_f h3 el
          obtain ⟨k3, k4⟩ := hf n (by simpa using c) C h2
          exact ⟨a, C, dx, fs, v, rfl, msk_le _ _ h1, by rw [fx.k]; exact k3, by rw [fx.k]; exact k4, k1, q1 v H1 os1 A1 k2 s1⟩
      · exact q1.elim
    | _ => exact q1.elim
def isSf : Sl → Bool
  | .sf _ _ => true
  | _ => false
def sfld (i : Nat) (f : Str) (h : M D) : M Fl := mb h fun d ρ t => match ρ[i]? with
  | some (Sl.sf ns vs) => if ns.contains f = false ∧ ns.length < 100 ∧ (ρ.set i .un).any isSf = false then .ok .nx (ρ.set i (.sf (ns ++ [f]) (vs ++ [d]))) t else .bad
  | _ => .bad
theorem putF_new {f : Str} {v : V} : ∀ {fs : List (Str × V)}, f ∉ fs.map (·.1) → putF f v fs = fs ++ [(f, v)]
  | [], _ => rfl
  | q :: fs, h => by
    obtain ⟨n, u⟩ := q
    rw [List.map_cons] at h
    have h1 : ¬ n = f := fun e => h (by rw [e]; exact List.mem_cons_self)
    have ih := putF_new (f := f) (v := v) (fs := fs) fun z => h (List.mem_cons_of_mem _ z)
    rw [List.cons_append, ← ih]
    simp [putF, h1]
theorem ss_fld {i : Nat} {x n f : Str} {px pos pos' : Pos} {e : Expr} {h : M D} (fx : Fx X g) (hs : ∀ x C dx, g.slf = some (x, C, dx) → ClsOf g.c n C) (hp : g.pen = none) (hf : FldOk g.c n f) (hx : PE X (.Name x px) (tVar i)) (he : SE X g e h)
    (hsw : swapsWith e (some (.Attribute (.Name x px) f pos')) pos.line X.env = pure false := by rfl) : SS X g (.Assign [.Attribute (.Name x px) f pos'] e pos) (sfld i f h) :=
  PS.imp (ps_fld hx he hsw) fun Dn σ H q => by
    obtain ⟨os, ρ, t, A, q⟩ := q
    refine ⟨os, ρ, t, A, post_mono (post_bind q) (fun d ρ1 t1 q1 v H1 os1 A1 l1 s1 => ?_) fun _ _ _ _ h => h⟩
    cases e1 : ρ1[i]? with
    | none => rw [e1] at q1; exact q1.elim
    | some sl =>
      rw [e1] at q1
      cases sl with
      | sf ns vs =>
        by_cases hc : ns.contains f = false ∧ ns.length < 100 ∧ (ρ1.set i .un).any isSf = false
        · simp only [if_pos hc] at q1
          obtain ⟨y, C, dx, fs, g1, g2, g3, g4, g5⟩ := A1.sl i _ e1
          obtain ⟨k3, k4⟩ := hf C (hs _ _ _ g1)
          have hy : y ∈ g.O := A1.slf _ _ _ g1
          have hm : y ∈ mo g os1 := List.mem_append_left _ hy
          have nf : f ∉ fs.map (·.1) := by
            rw [g4]
            intro z
            have := hc.1
            rw [List.contains_iff_mem.mpr z] at this
            cases this
          refine ⟨_, g2, y, C, dx, fs, rfl, g3, by rw [fx.k]; exact k3, by rw [fx.k]; exact k4, by have := congrArg List.length g4; have h2 := hc.2.1; rw [List.length_map] at this; omega, ?_⟩
          rw [putF_new nf]
          have sh : hd g os1 (upd H1 y (.ins C dx (fs ++ [(f, v)]))) = hd g os1 H1 := msk_upd hm
          have ne : ∀ b ∈ os1, b ≠ y := fun b hb z => by
            obtain ⟨o, e⟩ := A1.o0 y hy
            rw [← z, A1.new b hb] at e; cases e
          refine q1 σ _ os1 ⟨?_, fun j s es => ?_, fun j k d1 e1' b nj z1 z2 => ?_, fun b o z ho => ?_, A1.new, fun b hb => ?_, A1.slf, A1.o0, fun p l n' e => by rw [hp] at e; cases e⟩ ?_
          · rw [List.length_set]; exact A1.len
          · rcases get_set es with ⟨rfl, _, rfl⟩ | ⟨nj, es⟩
            · refine ⟨y, C, dx, fs ++ [(f, v)], g1, g2, upd_same, by rw [List.map_append, g4]; rfl, ?_⟩
              show LdA g.c (hd g os1 _) _ _
              rw [sh, List.map_append]
              exact LdA.app g5 (.cons l1 .nil)
            · have q := A1.sl j s es
              have sm : Same (hd g os1 H1) (hd g os1 (upd H1 y (.ins C dx (fs ++ [(f, v)])))) := by rw [sh]; exact Same.refl _
              cases s with
              | un => trivial
              | im d => obtain ⟨v, h1, h2⟩ := q; exact ⟨v, h1, Ld.same sm h2⟩
              | bo d => obtain ⟨a, h1, h2, h3, h4⟩ := q; exact ⟨a, h1, h2.same sm (fun o z => by rw [upd_ne (h4.2 _ _ _ g1)]; exact z), h3, h4⟩
              | ow d => obtain ⟨a, h1, h2, h3⟩ := q; exact ⟨a, h1, h2, h3.same sm fun o z => by rw [upd_ne (ne a h2)]; exact z⟩
              | pn => exact q
              | sf ns' vs' =>
                have := hc.2.2
                rw [List.any_eq_false] at this
                exact absurd rfl (this (.sf ns' vs') (List.mem_of_getElem? (i := j) (by rw [List.getElem?_set_ne nj]; exact es)))
          · rcases get_set z1 with ⟨_, _, w⟩ | ⟨n1, z1⟩
            · cases w
            · rcases get_set z2 with ⟨_, _, w⟩ | ⟨n2, z2⟩
              · cases w
              · exact A1.dis j k d1 e1' b nj z1 z2
          · rw [upd_ne (ho.2 _ _ _ g1)]; exact A1.pres b o z ho
          · by_cases z : b = y
            · exact ⟨_, by rw [z]; exact upd_same⟩
            · obtain ⟨o, e⟩ := A1.live b hb
              exact ⟨o, by rw [upd_ne z]; exact e⟩
          · rw [sh]; exact s1.s
        · simp only [if_neg hc] at q1; exact q1.elim
      | _ => exact q1.elim
end
end DL

set_option Elab.async false
set_option linter.all false
set_option maxRecDepth 100000
set_option maxHeartbeats 1000000
namespace DL
open PySem PySem.Spec PyProof.Rows L2
/-! ### properties, methods -/
section
variable {X : Cx} {g : G} {k : Nat}
def dprop (n : Str) (fn : List D → Ou D) : D → M D
  | .obj m ns vs => if m = n then call0 fn [.obj m ns vs] else mx
  | _ => mx
theorem cls_one {c : Ct} {n : Str} {C C' : Addr} (h : ClsOf c n C) (h' : ClsOf c n C') : C = C' := by
  unfold ClsOf at h h'
  rw [h] at h'
  cases h'
  rfl
theorem se_prop {n f : Str} {fn : List D → Ou D} {e : Expr} {pos : Pos} {h : M D} (fx : Fx X g) (cl : ClR X.prog X.base g.c k n f fn) (hr : Room (k + 1) X.A) (he : SE X g e h) (hab : attributeBase e f X.env (eval e X.env) = eval e X.env := by rfl) :
    SE X g (.Attribute e f pos) (mb h (dprop n fn)) := by
  obtain ⟨C, p, q0, fd, ps, hC, hcl, hpr, F, hb⟩ := cl.ex
  refine PE.imp (pe_prop he (by rw [fx.k]; exact hcl) (by rw [fx.k]; exact hpr) (fnok (P := X.prog) (base := X.base) fx F) hr (by rw [fx.k]; exact hb) .nil pass0 hab) fun σ H Q q => ?_
  obtain ⟨os, ρ, t, A, q⟩ := q
  refine ⟨os, ρ, t, A, post_mono (post_bind q) (fun d ρ1 t1 q1 v H1 os1 A1 l1 s1 => ?_) fun _ _ _ _ h => h⟩
  cases l1 with
  | @obj a C' dx fs m vd h1 h2 h3 =>
    simp only [dprop] at q1
    rcases post_if q1 with ⟨e0, q4⟩ | ⟨_, q4⟩
    · subst e0
      obtain rfl := cls_one hC h2
      refine ⟨a, dx, fs, rfl, msk_le _ _ h1, call_0 (E := E0) A1 (.cons (.obj h1 h2 h3) .nil) (post_mono q4 (fun d ρ2 t2 q2 v H2 os2 A2 l2 s2 => q2 v H2 os2 A2 l2 (s1.trans s2)) fun _ _ _ _ h => h)⟩
    · exact q4.elim
  | _ => exact q1.elim
def dmeth (n m : Str) (fn : List D → Ou D) (dd : List D) (h : M (List D)) : D → M D
  | .obj n' ns vs => if n' = n ∧ ns.contains m = false then mb h fun ds => call0 fn (.obj n' ns vs :: (ds ++ dd)) else mx
  | _ => mx
theorem look_none {m : Str} : ∀ {fs : List (Str × V)}, (fs.map (·.1)).contains m = false → fs.lookup m = none
  | [], _ => rfl
  | q :: fs, h => by
    obtain ⟨n, v⟩ := q
    rw [List.map_cons, List.contains_cons, Bool.or_eq_false_iff] at h
    rw [List.lookup_cons, h.1]
    exact look_none h.2
theorem se_meth {n m : Str} {fn : List D → Ou D} {dd : List D} {o e : Expr} {es : List Expr} {pos apos : Pos} {ho : M D} {h : M (List D)} {pl : Sem Bool} (fx : Fx X g) (cl : ClM X.prog X.base g.c k n m (sp0 g.c fn) dd) (hr : Room k X.A) (he : SE X g o ho) (ha : SA X g (e :: es) h)
    (hs : starEach (e :: es) X.env = (false, eval e X.env) :: starEach es X.env := by rfl) (hpl : (backTo pos (starEach es X.env)).any (·.1) = false := by rfl)
    (hev : eval (.Call (.Attribute o m apos) (e :: es) [] pos) X.env = (do
      let ov ← eval o X.env
      standAt apos.atName
      let (f, first) ← holding [ov] (getMethod ov m pl)
      callWith pos f first (backTo pos (starEach (e :: es) X.env)) (backToKw pos (keywordEach [] X.env))) := by rfl) :
    SE X g (.Call (.Attribute o m apos) (e :: es) [] pos) (mb ho (dmeth n m fn dd h)) := by
  obtain ⟨C, f, fd, ps, dvs, dss, hC, hcl, hme, F, hb, hd, hl⟩ := cl.ex
  refine PE.imp (pe_meth he (by rw [fx.k]; exact hcl) (by rw [fx.k]; exact hme) (fnok (P := X.prog) (base := X.base) fx F) hr (by rw [fx.k]; exact hb) hd pass0 ha hs hpl hev) fun σ H Q q => ?_
  obtain ⟨os, ρ, t, A, q⟩ := q
  refine ⟨os, ρ, t, A, post_mono (post_bind q) (fun d ρ1 t1 q1 v H1 os1 A1 l1 s1 => ?_) fun _ _ _ _ h => h⟩
  cases l1 with
  | @obj a C' dx fs n' vd h1 h2 h3 =>
    simp only [dmeth] at q1
    rcases post_if q1 with ⟨⟨e0, hm⟩, q4⟩ | ⟨_, q4⟩
    · subst e0
      obtain rfl := cls_one hC h2
      refine ⟨a, dx, fs, rfl, msk_le _ _ h1, look_none hm, os1, ρ1, t1, A1, post_mono (post_bind q4) (fun ds ρ2 t2 q2 vs H2 os2 A2 l2 s2 => ?_) fun _ _ _ _ h => h⟩
      exact call_0 (E := E0) A2 (.cons (Ld.same s2.s (.obj h1 h2 h3)) (LdA.app l2 (hl _))) (post_mono q2 (fun d ρ3 t3 q3 v H3 os3 A3 l3 s3 => q3 v H3 os3 A3 l3 ((s1.trans s2).trans s3)) fun _ _ _ _ h => h)
    · exact q4.elim
  | _ => exact q1.elim
/-! ### zip -/
def zipL : List D → List D → List D
  | a :: as, b :: bs => .tup [a, b] :: zipL as bs
  | _, _ => []
theorem zipL_get : ∀ (as bs : List D) (i : Nat) (d : D), (zipL as bs)[i]? = some d → ∃ a b, as[i]? = some a ∧ bs[i]? = some b ∧ d = .tup [a, b]
  | [], _, i, d, h => by simp [zipL] at h
  | _ :: _, [], i, d, h => by simp [zipL] at h
  | a :: as, b :: bs, 0, d, h => by simp [zipL] at h; exact ⟨a, b, rfl, rfl, h.symm⟩
  | a :: as, b :: bs, i + 1, d, h => by
    simp only [zipL, List.getElem?_cons_succ] at h
    exact zipL_get as bs i d h
theorem zipL_len : ∀ (as bs : List D), (zipL as bs).length = min as.length bs.length
  | [], _ => by simp [zipL]
  | _ :: _, [] => by simp [zipL]
  | a :: as, b :: bs => by
    simp only [zipL, List.length_cons, zipL_len as bs]
    omega
def dzip : List D → M (List D)
  | [.lst a, .lst b] => mr (zipL a b)
  | [.tup a, .tup b] => mr (zipL a b)
  | _ => mx
theorem wk_zip {os : List Addr} {H : Hp} {J : It} {as bs : List D} {xs ys : List V} (ax : LayA g os H xs as) (ay : LayA g os H ys bs)
    (hstop : ∀ i os' H', Same (hd g os H) (hd g os' H') → (xs.length ≤ i ∨ ys.length ≤ i) → J.stop i H')
    (hgo : ∀ i os' H' x y, Same (hd g os H) (hd g os' H') → xs[i]? = some x → ys[i]? = some y → J.go i H' ∧ ∀ v H2, J.yld i H' v H2 → ∃ T, v = .ref T ∧ H' T = none ∧ H2 = upd H' T (.tup [x, y])) : Wk g os H J (zipL as bs) := fun i os' H' s lv => by
  refine ⟨fun e => hstop i os' H' s ?_, fun d e => ?_⟩
  · rw [zipL_len] at e
    rw [ax.len, ay.len]
    omega
  · obtain ⟨a, b, ea, eb, rfl⟩ := zipL_get as bs i d e
    obtain ⟨x, e1, l1⟩ := ax.get' ea
    obtain ⟨y, e2, l2⟩ := ay.get' eb
    obtain ⟨h1, h2⟩ := hgo i os' H' x y s e1 e2
    refine ⟨h1, fun v H2 yl => ?_⟩
    obtain ⟨T, rfl, hT, rfl⟩ := h2 v H2 yl
    have sm : Same H' (upd H' T (.tup [x, y])) := same_upd hT
    refine ⟨sm, ?_⟩
    have nT : T ∉ mo g os' := fun z => by
      obtain ⟨o, e⟩ := lv T z
      rw [hT] at e; cases e
    refine .tup (SqT.of (by rw [show hd g os' (upd H' T (.tup [x, y])) T = upd H' T (.tup [x, y]) T from msk_out nT]; exact upd_same)) ?_
    exact .cons (Ld.same (hd_same sm) (Ld.same s l1)) (.cons (Ld.same (hd_same sm) (Ld.same s l2)) .nil)
theorem si_zip {e e2 : Expr} {p pos tpos : Pos} {elts : List Expr} {kk : Nat} {f : M (List D)} (fx : Fx X g) (hg : Gl X "zip") (hm : g.c.mg "zip" = none) (ha : SA X g [e, e2] f) (hs : starEach [e, e2] X.env = (false, eval e X.env) :: starEach [e2] X.env := by rfl) (hpl : ((backTo pos (starEach [e2] X.env)).any fun x => x.1) = false := by rfl) :
    SI X g (.Tuple elts kk tpos) (.Call (.Name "zip" p) [e, e2] [] pos) (mb f dzip) :=
  PI.imp (RZ.pi_zipA hg (by rw [fx.m]; exact hm) ha hs hpl) fun σ H R q => by
    obtain ⟨os, ρ, t, A, q⟩ := q
    refine ⟨os, ρ, t, A, post_mono (post_bind q) (fun ds ρ1 t1 q1 vs H1 os1 A1 l1 s1 => ?_) fun _ _ _ _ h => h⟩
    cases l1 with
    | nil => exact q1.elim
    | cons l a => cases a with
      | nil => cases l <;> exact q1.elim
      | cons l2 a => cases a with
        | cons _ _ => cases l <;> cases l2 <;> exact q1.elim
        | nil => cases l with
          | @lst a xs as hx ax => cases l2 with
            | @lst b ys bs hy ay =>
              rw [fx.k]
              refine ⟨a, b, xs, ys, rfl, .inl ⟨SqL.of (msk_le _ _ hx), SqL.of (msk_le _ _ hy), q1 _ H1 os1 A1 s1 (wk_zip ax ay (fun i os' H' s h => ⟨xs, ys, SqL.of (msk_le _ _ (s _ _ hx)), SqL.of (msk_le _ _ (s _ _ hy)), h⟩) fun i os' H' x y s e1 e2 => ?_)⟩⟩
              have hx' : SqL g.c.K H' a xs := SqL.of (msk_le _ _ (s _ _ hx))
              have hy' : SqL g.c.K H' b ys := SqL.of (msk_le _ _ (s _ _ hy))
              refine ⟨⟨xs, ys, x, y, hx', hy', e1, e2⟩, fun v H2 yl => ?_⟩
              obtain ⟨T, x', y', rfl, hT, rfl, k1, k2⟩ := yl
              have := k1 xs hx'
              rw [e1] at this
              cases this
              have := k2 ys hy'
              rw [e2] at this
              cases this
              exact ⟨T, rfl, hT, rfl⟩
            | _ => exact q1.elim
          | @tup a xs as hx ax => cases l2 with
            | @tup b ys bs hy ay =>
              rw [fx.k]
              refine ⟨a, b, xs, ys, rfl, .inr ⟨Lay.seqT hx, Lay.seqT hy, q1 _ H1 os1 A1 s1 (wk_zip ax ay (fun i os' H' s h => ⟨xs, ys, Lay.seqT (seqT_same s hx), Lay.seqT (seqT_same s hy), h⟩) fun i os' H' x y s e1 e2 => ?_)⟩⟩
              have hx' : SqT g.c.K H' a xs := Lay.seqT (seqT_same s hx)
              have hy' : SqT g.c.K H' b ys := Lay.seqT (seqT_same s hy)
              refine ⟨⟨xs, ys, x, y, hx', hy', e1, e2⟩, fun v H2 yl => ?_⟩
              obtain ⟨T, x', y', rfl, hT, rfl, k1, k2⟩ := yl
              have := k1 xs hx'
              rw [e1] at this
              cases this
              have := k2 ys hy'
              rw [e2] at this
              cases this
              exact ⟨T, rfl, hT, rfl⟩
            | _ => exact q1.elim
          | _ => cases l2 <;> exact q1.elim
end
end DL

set_option Elab.async false
set_option linter.all false
set_option maxRecDepth 100000
set_option maxHeartbeats 1000000
namespace DL
open PySem PySem.Spec PyProof.Rows L2
/-! ### sorted -/
section
variable {X : Cx} {g : G}
theorem each_of_vals : ∀ {bs : List (V × PyData)} {us : List Value}, Vals (bs.map (·.1)) us → PySem.W.EachIs (fun u b => RelV b.1 u) us bs
  | [], [], _ => .nil
  | b :: bs, u :: us, .cons r t => .cons r (each_of_vals t)
theorem vals_of_each : ∀ {bs : List (V × PyData)} {us : List Value}, PySem.W.EachIs (fun u b => RelV b.1 u) us bs → Vals (bs.map (·.1)) us
  | [], [], _ => .nil
  | b :: bs, u :: us, .cons r t => .cons r (vals_of_each t)
theorem each_reads {pins : List (Addr × Obj)} {σ : L2.St} {H : Hp} {s : Shared} (I : Inv X pins σ H s) : ∀ {bs : List (V × PyData)} {us : List Value}, (∀ b ∈ bs, Dp X.K H b.1 b.2) → PySem.W.EachIs (fun u b => RelV b.1 u) us bs →
    PySem.W.EachIs (fun u b => ∃ as, Reads s.heap u b.2 as) us bs
  | [], [], _, _ => .nil
  | b :: bs, u :: us, h, .cons r t => .cons (Dp.reads I b.2 b.1 u (h b (List.mem_cons_self ..)) r) (each_reads I (fun c hc => h c (List.mem_cons_of_mem _ hc)) t)
/-- sorted(xs) of data of one form -/
def rSortD (K : PySem.W.Frag) : List V → Hp → VK → Prop := fun vs H Q => ∃ (a : Addr) (bs : List (V × PyData)), vs = [V.ref a] ∧ SqL K H a (bs.map (·.1)) ∧ (∀ b ∈ bs, Dp K H b.1 b.2) ∧ PySem.W.AllAlike (bs.map (·.2)) ∧ PySem.W.Sortable (bs.map (·.2)) ∧ (∀ b ∈ bs, b.2.depth ≤ 60) ∧
  ∀ p, H p = none → Q (.ref p) (upd H p (.lst ((bs.mergeSort (PySem.W.dataLe false (·.2))).map (·.1))))
theorem cr_sortD (hu : X.A.units + 64 < cLine) : CallR X (.builtin "sorted") (rSortD X.K) := by
  intro pins s σ H vs us Q I r h
  obtain ⟨a, bs, rfl, hs, hd, hal, hk, hde, q⟩ := h
  obtain ⟨its, rv, hl, hz⟩ := I.list hs
  rw [Vals.ref1 r]
  have hl1 := rv.length
  rw [List.length_map] at hl1
  have e1 := each_of_vals rv
  have hzb : bs.length ≤ sizeLine := by rw [List.length_map] at hz; exact hz
  refine PySem.W.sorted_data (enc := fun b : V × PyData => b.2) hl.isList e1 (each_reads I hd e1) hal hk hzb (fun b hb => ?_) fun out h1 h2 => ?_
  · have := hde b hb
    omega
  · obtain ⟨ep, he'⟩ := PyProof.Rows.sortedAll_at s.heap its out.toArray
    have hlen : ((bs.mergeSort (PySem.W.dataLe false (·.2))).map (·.1)).length ≤ sizeLine := by rw [List.length_map, List.length_mergeSort]; exact hzb
    exact ⟨.ref _, upd H (s.heap.objs.size + 1) (.lst _), I.laid (t' := s.toks) (fun _ _ => PyProof.Rows.sortedAll_old) (Nat.le_succ _) ⟨hlen, out, ep, vals_of_each h2, he'⟩, rfl, q _ (I.hok.fresh (Nat.le_succ _))⟩
def dsle (a b : D) : Bool := PySem.W.dataLe false toP a b
def alikes : List D → Bool := fun ds => ds.all fun d => ds.all fun e => PySem.W.alike (toP d) (toP e)
def sortable : List D → Bool := fun ds => (ds.all fun d => match d with
  | .tup (_ :: _) => true
  | _ => false) || ds.all fun d => match d with
  | .bl _ => true
  | .int _ => true
  | .str _ => true
  | .lst _ => true
  | _ => false
def dsort : List D → M D
  | [.lst ds] => if plains 59 ds = true ∧ alikes ds = true ∧ sortable ds = true then mr (.lst (ds.mergeSort dsle)) else mx
  | _ => mx
theorem zip_fst : ∀ {c : Ct} {H : Hp} {vs : List V} {ds : List D}, LdA c H vs ds → (vs.zip ds).map (·.1) = vs ∧ (vs.zip ds).map (·.2) = ds ∧ ∀ p ∈ vs.zip ds, Ld c H p.1 p.2
  | _, _, _, _, .nil => ⟨rfl, rfl, fun p h => by cases h⟩
  | c, H, _, _, .cons l a => by
    obtain ⟨h1, h2, h3⟩ := zip_fst a
    refine ⟨?_, ?_, fun p hp => ?_⟩
    · rw [List.zip_cons_cons, List.map_cons, h1]
    · rw [List.zip_cons_cons, List.map_cons, h2]
    · rw [List.zip_cons_cons] at hp
      rcases List.mem_cons.mp hp with rfl | hp
      · exact l
      · exact h3 p hp
theorem ldA_of {c : Ct} {H : Hp} : ∀ (ps : List (V × D)), (∀ p ∈ ps, Ld c H p.1 p.2) → LdA c H (ps.map (·.1)) (ps.map (·.2))
  | [], _ => .nil
  | p :: ps, h => .cons (h p List.mem_cons_self) (ldA_of ps fun q hq => h q (List.mem_cons_of_mem _ hq))
theorem toPs_map : ∀ ds : List D, toPs ds = ds.map toP
  | [] => rfl
  | d :: ds => by rw [toPs, List.map_cons, toPs_map ds]
theorem plains_mem : ∀ {n : Nat} {ds : List D}, plains n ds = true → ∀ d ∈ ds, plain n d = true
  | n, d :: ds, h, e, he => by
    have h' : (plain n d && plains n ds) = true := h
    rw [Bool.and_eq_true] at h'
    rcases List.mem_cons.mp he with rfl | he
    · exact h'.1
    · exact plains_mem h'.2 e he
theorem ca_sort : CaF g (rSortD g.c.K) dsort := by
  intro os σ H ρ t xs ds Q A l q
  cases l with
  | nil => exact q.elim
  | cons l a => cases a with
    | cons _ _ => cases l <;> exact q.elim
    | nil => cases l with
      | @lst b vs es hx ax =>
        simp only [dsort] at q
        rcases post_if q with ⟨⟨c1, c2, c3⟩, q⟩ | ⟨_, q⟩
        · obtain ⟨z1, z2, z3⟩ := zip_fst ax
          have m1 : ((vs.zip es).map fun p => (p.1, toP p.2)).map (·.1) = vs := by rw [List.map_map]; exact z1
          have m2 : ((vs.zip es).map fun p => (p.1, toP p.2)).map (·.2) = es.map toP := by
            rw [List.map_map, ← z2, List.map_map, z2]; rfl
          refine ⟨b, (vs.zip es).map fun p => (p.1, toP p.2), rfl, by rw [m1]; exact SqL.of (msk_le _ _ hx), fun p hp => ?_, ?_, ?_, fun p hp => ?_, fun p hp => ?_⟩
          · obtain ⟨r, hr, rfl⟩ := List.mem_map.mp hp
            have hd : r.2 ∈ es := by rw [← z2]; exact List.mem_map_of_mem hr
            exact Ld.dp (Ld.same msk_le (z3 r hr)) (plains_mem c1 _ hd)
          · rw [m2]
            intro d hd d' hd'
            obtain ⟨x, hx', rfl⟩ := List.mem_map.mp hd
            obtain ⟨y, hy', rfl⟩ := List.mem_map.mp hd'
            unfold alikes at c2
            exact (List.all_eq_true.mp ((List.all_eq_true.mp c2) x hx')) y hy'
          · rw [m2]
            unfold sortable at c3
            rcases (Bool.or_eq_true _ _).mp c3 with h | h
            · left
              intro d hd
              obtain ⟨x, hx', rfl⟩ := List.mem_map.mp hd
              have := (List.all_eq_true.mp h) x hx'
              cases x with
              | tup ts => cases ts with
                | nil => cases this
                | cons y ys => exact ⟨toP y, toPs ys, rfl⟩
              | _ => cases this
            · right
              intro d hd
              obtain ⟨x, hx', rfl⟩ := List.mem_map.mp hd
              have := (List.all_eq_true.mp h) x hx'
              cases x with
              | bl b => exact ⟨fun e => by simp [toP] at e, fun _ e => by simp [toP] at e⟩
              | int b => exact ⟨fun e => by simp [toP] at e, fun _ e => by simp [toP] at e⟩
              | str b => exact ⟨fun e => by simp [toP] at e, fun _ e => by simp [toP] at e⟩
              | lst b => exact ⟨fun e => by simp [toP] at e, fun _ e => by simp [toP] at e⟩
              | _ => cases this
          · obtain ⟨r, hr, rfl⟩ := List.mem_map.mp hp
            have hd : r.2 ∈ es := by rw [← z2]; exact List.mem_map_of_mem hr
            have := (plain_lay (plains_mem c1 _ hd)).2
            show (toP r.2).depth ≤ 60
            omega
          · obtain ⟨A2, n2, w2, s2⟩ := own_new (o := .lst ((((vs.zip es).map fun p => (p.1, toP p.2)).mergeSort (PySem.W.dataLe false (·.2))).map (·.1))) A hp
            refine q p _ os A2 ⟨_, upd_same, ?_⟩ ⟨n2, hp⟩ w2 s2
            have e1 : ((vs.zip es).mergeSort fun x y => dsle x.2 y.2).map (fun p => (p.1, toP p.2)) = ((vs.zip es).map fun p => (p.1, toP p.2)).mergeSort (PySem.W.dataLe false (·.2)) := List.map_mergeSort fun _ _ _ _ => rfl
            have e2 := List.map_mergeSort (f := fun p : V × D => p.2) (l := vs.zip es) (r := fun x y => dsle x.2 y.2) (s := dsle) fun _ _ _ _ => rfl
            rw [z2] at e2
            have lay : LdA g.c (hd g os H) ((((vs.zip es).map fun p => (p.1, toP p.2)).mergeSort (PySem.W.dataLe false (·.2))).map (·.1)) (es.mergeSort dsle) := by
              rw [← e1, List.map_map, ← e2]
              exact ldA_of _ fun p hp => z3 p ((List.mergeSort_perm _ _).mem_iff.mp hp)
            exact LdA.same (Go.s s2) lay
        · exact q.elim
      | _ => exact q.elim
theorem sf_sort {p pos : Pos} {e : Expr} {h : M (List D)} (fx : Fx X g) (hg : Gl X "sorted") (hm : g.c.mg "sorted" = none) (ha : SA X g [e] h) (he : starEach (e :: []) X.env = (false, eval e X.env) :: starEach [] X.env := by rfl) (hpl : (backTo pos (starEach [] X.env)).any (·.1) = false := by rfl) :
    SF X g (.Call (.Name "sorted" p) [e] [] pos) (mb h dsort) :=
  PE.imp (pe_callB (cr_sortD fx.u64) hg (by rw [fx.m]; exact hm) (by decide +kernel) ha (by decide) (by decide) he hpl) (by rw [fx.k]; exact caF_w ca_sort)
/-! ### t.index(z) of texts -/
def strL : List D → Option (List Str)
  | [] => some []
  | .str s :: ds => match strL ds with
    | some r => some (s :: r)
    | none => none
  | _ => none
theorem strs_ok {c : Ct} {H : Hp} : ∀ {vs : List V} {ds : List D} {ss : List Str}, LdA c H vs ds → strL ds = some ss → vs = ss.map V.str
  | _, [], ss, .nil, h => by cases h; rfl
  | _, d :: ds, ss, .cons l a, h => by
    cases d with
    | str s =>
      cases l
      simp only [strL] at h
      cases e : strL ds with
      | none => rw [e] at h; cases h
      | some r =>
        rw [e] at h
        cases h
        rw [strs_ok a e]
        rfl
    | _ => cases h
def dtix (d : D) : List D → M D
  | [.str z] => match d with
    | .tup ds => match strL ds with
      | some ss => if z ∈ ss then mr (.int (ss.idxOf z : Nat)) else mx
      | none => mx
    | _ => mx
  | _ => mx
/-- a tuple of the module -/
def KTup (c : Ct) (x : Str) (ds : List D) : Prop := ∃ p o, c.mg x = some (.ref p) ∧ c.K.lookup p = some o ∧ o.cls = .type "tuple" ∧ o.dict = none ∧ ∃ xs, (∀ H, SqT c.K H p xs) ∧ ∀ H, LdA c H xs ds
theorem se_tix {x : Str} {e : Expr} {px ap cp : Pos} {ds : List D} {h : M (List D)} (fx : Fx X g) (hg : Gl X x) (hk : KTup g.c x ds) (ha : SA X g [e] h) (hd : (x == ("__debug__" : Str)) = false := by decide)
    (hab : attributeBase (.Name x px) "index" X.env (eval (.Name x px) X.env) = eval (.Name x px) X.env := by rfl)
    (h1 : ((((backTo cp (starEach [e] X.env)).all fun x => !x.1) && (backToKw cp (keywordEach [] X.env)).all fun x => x.1.isSome) && decide ((([e] : List Expr).length + ([] : List (Option Str × Expr)).length + if ([] : List (Option Str × Expr)).isEmpty = true then 0 else 1) < 30)) = true := by rfl)
    (h2 : (ap.endLine == cp.line) = true := by rfl) (h3 : starEach (e :: []) X.env = (false, eval e X.env) :: starEach [] X.env := by rfl) (h4 : ((backTo cp (starEach [] X.env)).any fun x => x.1) = false := by rfl) :
    SE X g (.Call (.Attribute (.Name x px) "index" ap) [e] [] cp) (mb h (dtix (.tup ds))) := by
  obtain ⟨p, o, k1, k2, k3, k4, xs, k5, k6⟩ := hk
  refine PE.imp (pe_bm PySem.F.plainAttrs_tuple PySem.F.slot_tuple_index PySem.F.type_tuple_index mt_tup_index (pe_glob hg (by rw [fx.m]; exact k1) (v := .ref p) rfl hd) ha hab h1 h2 h3 h4) fun σ H Q q => ?_
  obtain ⟨os, ρ, t, A, q⟩ := q
  refine ⟨by rw [fx.k]; exact .inr (.inl ⟨rfl, o, k2, k3, k4⟩), os, ρ, t, A, post_mono (post_bind q) (fun es ρ1 t1 q1 vs H1 os1 A1 l1 s1 => ?_) fun _ _ _ _ h => h⟩
  cases l1 with
  | nil => exact q1.elim
  | cons l a => cases a with
    | cons _ _ => cases l <;> exact q1.elim
    | nil => cases l with
      | str z =>
        simp only [dtix] at q1
        cases es : strL ds with
        | none => simp only [es] at q1; exact q1.elim
        | some ss =>
          simp only [es] at q1
          rcases post_if q1 with ⟨c, q1⟩ | ⟨_, q1⟩
          · have ev := strs_ok (k6 H1) es
            subst ev
            have hl := List.idxOf_lt_length_of_mem c
            refine ⟨p, ss, z, ss.idxOf z, rfl, rfl, by rw [fx.k]; exact k5 H1, ?_, fun m hm e => ?_, q1 _ H1 os1 A1 (.int _) s1⟩
            · rw [List.getElem?_eq_getElem hl, List.getElem_idxOf]
            · have hlt : m < ss.length := Nat.lt_trans hm hl
              rw [List.getElem?_eq_getElem hlt] at e
              have nn := List.not_of_lt_findIdx (p := (· == z)) (xs := ss) hm
              rw [Option.some.inj e] at nn
              simp at nn
          · exact q1.elim
      | _ => exact q1.elim
end
end DL

set_option Elab.async false
set_option linter.all false
set_option maxRecDepth 100000
set_option maxHeartbeats 1000000
namespace DL
open PySem PySem.Spec PyProof.Rows L2
section
variable {X : Cx} {g : G}
/-! ### powers, signs -/
def dpow : D → D → M D
  | .int i, .int j => if 0 ≤ j ∧ j ≤ 64 ∧ 0 ≤ i ∧ i ≤ 64 then mr (.int (i ^ j.toNat)) else mx
  | _, _ => mx
theorem os_pow : OpS g (rI CPow fun i j => .int (i ^ j.toNat)) dpow := by
  intro os σ H ρ t x y d e Q A lx ly q
  cases lx with
  | int i => cases ly with
    | int j =>
      rcases post_if q with ⟨c, q⟩ | ⟨_, q⟩
      · exact ⟨i, j, rfl, rfl, ⟨by omega, by omega, by omega⟩, q _ H os A (.int _) Go.refl⟩
      · exact q.elim
    | _ => exact q.elim
  | _ => exact q.elim
theorem se_pow {a b : Expr} {pos : Pos} {f h : M D} (ha : SE X g a f) (hb : SE X g b h) : SE X g (.BinOp a .Pow b pos) (e2 dpow f h) := PE.imp (pe_op op_pow ha hb) (op_w os_pow)
def dneg : D → M D
  | .int i => mr (.int (-i))
  | _ => mx
theorem se_neg {a : Expr} {pos : Pos} {f : M D} (ha : SE X g a f) : SE X g (.UnaryOp .USub a pos) (mb f dneg) := PE.imp (pe_un un_neg ha) fun σ H Q q => by
  obtain ⟨os, ρ, t, A, q⟩ := q
  refine ⟨os, ρ, t, A, post_mono (post_bind q) (fun d ρ1 t1 q1 v H1 os1 A1 l1 s1 => ?_) fun _ _ _ _ h => h⟩
  cases l1 with
  | int i => exact ⟨i, rfl, q1 _ H1 os1 A1 (.int _) s1⟩
  | _ => exact q1.elim
end
/-! ### what the module's names hold -/
def scal : Value → D → Bool
  | .none, .non => true
  | .bool b, .bl c => b == c
  | .int i _, .int j => decide (i = j)
  | .str s _, .str t => decide (s = t)
  | _, _ => false
def all2 (f : Value → D → Bool) : List Value → List D → Bool
  | [], [] => true
  | v :: vs, d :: ds => f v d && all2 f vs ds
  | _, _ => false
def kTup (K : PySem.W.Frag) (f : Value → D → Bool) : Value → D → Bool
  | .ref a, .tup ds => match K.lookup a with
    | some ⟨.type T, _, .seq its _, _⟩ => decide (T = "tuple") && decide (its.size ≤ sizeLine) && all2 f its.toList ds
    | _ => false
  | _, _ => false
def kLd : Nat → PySem.W.Frag → Value → D → Bool
  | 0, _, u, d => scal u d
  | n + 1, K, u, d => scal u d || kTup K (kLd n K) u d
theorem scal_ok {c : Ct} {u : Value} {d : D} (h : scal u d = true) : ∃ v, RelV v u ∧ ∀ H, Ld c H v d := by
  unfold scal at h
  split at h
  · exact ⟨.non, rfl, fun _ => .non⟩
  · cases (beq_iff_eq.mp h)
    exact ⟨.bl _, rfl, fun _ => .bl _⟩
  · cases (of_decide_eq_true h)
    exact ⟨.int _, ⟨_, rfl⟩, fun _ => .int _⟩
  · cases (of_decide_eq_true h)
    exact ⟨.str _, ⟨_, rfl⟩, fun _ => .str _⟩
  · cases h
theorem all2_ok {c : Ct} {f : Value → D → Bool} (hf : ∀ u d, f u d = true → ∃ v, RelV v u ∧ ∀ H, Ld c H v d) : ∀ (us : List Value) (ds : List D), all2 f us ds = true → ∃ vs, Vals vs us ∧ ∀ H, LdA c H vs ds
  | [], [], _ => ⟨[], .nil, fun _ => .nil⟩
  | u :: us, d :: ds, h => by
    have h' : (f u d && all2 f us ds) = true := h
    rw [Bool.and_eq_true] at h'
    obtain ⟨v, h1, h2⟩ := hf u d h'.1
    obtain ⟨vs, h3, h4⟩ := all2_ok hf us ds h'.2
    exact ⟨v :: vs, .cons h1 h3, fun H => .cons (h2 H) (h4 H)⟩
  | [], _ :: _, h => by cases h
  | _ :: _, [], h => by cases h
theorem kTup_ok {c : Ct} {f : Value → D → Bool} (hf : ∀ u d, f u d = true → ∃ v, RelV v u ∧ ∀ H, Ld c H v d) {u : Value} {d : D} (h : kTup c.K f u d = true) : ∃ v, RelV v u ∧ ∀ H, Ld c H v d := by
  unfold kTup at h
  split at h
  · rename_i a ds
    split at h
    · rename_i T od its m osl q
      rw [Bool.and_eq_true, Bool.and_eq_true] at h
      obtain ⟨⟨h1, h2⟩, h3⟩ := h
      obtain ⟨xs, h4, h5⟩ := all2_ok hf _ _ h3
      exact ⟨.ref a, rfl, fun H => .tup (.inr ⟨_, its, m, q, congrArg Value.type (of_decide_eq_true h1), rfl, of_decide_eq_true h2, h4⟩) (h5 H)⟩
    · cases h
  · cases h
theorem kLd_ok {c : Ct} : ∀ (n : Nat) (u : Value) (d : D), kLd n c.K u d = true → ∃ v, RelV v u ∧ ∀ H, Ld c H v d
  | 0, u, d, h => scal_ok h
  | n + 1, u, d, h => by
    have h' : (scal u d || kTup c.K (kLd n c.K) u d) = true := h
    rcases (Bool.or_eq_true _ _).mp h' with h | h
    · exact scal_ok h
    · exact kTup_ok (kLd_ok n) h
/-- a name of the module holds a datum -/
def KD (c : Ct) (x : Str) (d : D) : Prop := ∃ u v, c.mg x = some u ∧ RelV v u ∧ ∀ H, Ld c H v d
end DL

set_option Elab.async false
set_option linter.all false
set_option maxRecDepth 100000
set_option maxHeartbeats 1000000
namespace DL
open PySem PySem.Spec PyProof.Rows L2
section
variable {X : Cx} {g : G}
/-! ### a test that is an if -/
def bifE (k : M Bool) (f h : M Bool) : M Bool := mb k fun b => if b = true then f else h
theorem st_if {c a b : Expr} {pos : Pos} {k f h : M Bool} (hc : ST X g c k) (ha : ST X g a f) (hb : ST X g b h) : ST X g (.IfExp c a b pos) (bifE k f h) := by
  refine ⟨fun pins s σ H Q I q => ?_⟩
  rw [arm_isTrue_IfExp]
  obtain ⟨os, ρ, t, A, q⟩ := q
  refine wpAny_bind (thn (hc.run pins s σ H (fun b H1 => (b = true ∧ bD g f σ H1 Q) ∨ (b = false ∧ bD g h σ H1 Q)) I ⟨os, ρ, t, A, post_mono (post_bind q) (fun b ρ1 t1 q1 H1 os1 A1 s1 => ?_) fun _ _ _ _ h => h⟩) fun b s1 h1 => ?_)
  · have mk : ∀ {m : M Bool}, (m ρ1 t1).post (fun b ρ' t' => ∀ H' os', Amb g os' σ H' ρ' t' → Go g os H os' H' → Q b H') noX → bD g m σ H1 Q := fun {m} z => ⟨os1, ρ1, t1, A1, post_mono z (fun b ρ2 t2 q2 H2 os2 A2 s2 => q2 H2 os2 A2 (s1.trans s2)) fun _ _ _ _ h => h⟩
    rcases post_if q1 with ⟨hb, q1⟩ | ⟨hb, q1⟩
    · exact .inl ⟨hb, mk q1⟩
    · exact .inr ⟨by simpa using hb, mk q1⟩
  · obtain ⟨H1, I1, ⟨rfl, z⟩ | ⟨rfl, z⟩⟩ := h1
    · rw [if_pos rfl]; exact ha.run pins s1 σ H1 Q I1 z
    · rw [if_neg Bool.false_ne_true]; exact hb.run pins s1 σ H1 Q I1 z
/-! ### x = [.. for ..] -/
theorem lc_w {is : List Nat} {it : M (List D)} {tgt : D → M Unit} {tst : M Bool} {el : M D} {vs : List Nat} (hv : ∀ j ∈ is, j ∈ vs) : ∀ σ H Q, fD g (lcD it tgt tst el vs) σ H Q → tLc (iD g it) (gD g is tgt) (bD g tst) (tD g el) vs σ H Q := fun σ H Q q => by
    obtain ⟨os, ρ, t, A, q⟩ := q
    refine ⟨os, ρ, t, A, post_mono (post_bind q) (fun ds ρ1 t1 q1 J H1 os1 A1 s1 wk => ?_) fun _ _ _ _ h => h⟩
    intro Da hD
    obtain ⟨A2, n2, w2, s2⟩ := own_new (o := HO.lst []) A1 hD
    have ff : ∀ b ∈ os1, b ≠ Da := fun b hb z => by
      obtain ⟨o, e⟩ := A1.live b (List.mem_append_right _ hb)
      rw [z, hD] at e; cases e
    refine ⟨fun i m H' => m = ds.length - i ∧ i ≤ ds.length ∧ ∃ t' acc accv, Amb g (Da :: os1) σ H' ρ1 t' ∧ H' Da = some (.lst accv) ∧ LayA g (Da :: os1) H' accv acc ∧ Go g os1 H1 (Da :: os1) H' ∧
      (lcGo tgt tst el vs ρ1 (ds.drop i) acc t').post (fun acc ρ' t' => ∀ p H' os', Amb g (p :: os') σ H' ρ' t' → Own g (p :: os') H' p (.lst acc) → (p ∉ mo g os' ∧ H p = none) → NOw σ ρ' p → Go g os H (p :: os') H' → Q (.ref p) H') noX,
      ⟨ds.length, by simp, Nat.zero_le _, t1, [], [], A2, upd_same, .nil, s2, by rw [List.drop_zero]; exact post_bind q1⟩, ?_⟩
    rintro i m H2 ⟨rfl, hi, t2, acc, accv, A2, h2, l2, s2, q2⟩
    obtain ⟨wz, wy⟩ := wk i _ H2 s2.s A2.live
    by_cases hlt : i < ds.length
    · obtain ⟨go, yl⟩ := wy ds[i] (List.getElem?_eq_getElem hlt)
      rw [List.drop_eq_getElem_cons hlt] at q2
      refine .inr ⟨go, fun H' => ∃ t' acc accv, Amb g (Da :: os1) σ H' ρ1 t' ∧ H' Da = some (.lst accv) ∧ LayA g (Da :: os1) H' accv acc ∧ Go g os1 H1 (Da :: os1) H' ∧
          (lcGo tgt tst el vs ρ1 (ds.drop (i + 1)) acc t').post (fun acc ρ' t' => ∀ p H' os', Amb g (p :: os') σ H' ρ' t' → Own g (p :: os') H' p (.lst acc) → (p ∉ mo g os' ∧ H p = none) → NOw σ ρ' p → Go g os H (p :: os') H' → Q (.ref p) H') noX,
        fun H' ⟨t', acc, accv, a, b, c, d, e⟩ => ⟨ds.length - (i + 1), by omega, rfl, hlt, t', acc, accv, a, b, c, d, e⟩, fun x H3 y => ?_⟩
      obtain ⟨s3, l3⟩ := yl x H3 y
      have q2 := post_bind (show (((tgt ds[i]) (unS ρ1 vs) t2).bind _).post _ _ from q2)
      have A3 := (A2.same s3).wipe vs
      refine ⟨_, unS ρ1 vs, t2, ds[i], A3, l3, post_mono q2 (fun _ ρ4 t4 q4 σ4 A4 k4 n4 => ?_) fun _ _ _ _ h => h⟩
      refine ⟨wipe_eq hv n4 k4, _, ρ4, t4, A4, post_mono (post_bind q4) (fun b ρ5 t5 q5 H5 os5 A5 s5 => ?_) fun _ _ _ _ h => h⟩
      have g5 := (Go.same (g := g) (os := Da :: os1) s3).trans s5
      by_cases hb : b = true
      · show ite (b = true) _ _
        rw [if_pos hb] at q5 ⊢
        refine ⟨os5, ρ5, t5, A5, post_mono (post_bind q5) (fun d ρ6 t6 q6 u H6 os6 A6 l6 s6 => ?_) fun _ _ _ _ h => h⟩
        have g6 := g5.trans s6
        have B := A2.go g6 A6
        have h6 := (g6.k Da List.mem_cons_self).2 _ h2
        by_cases hc : acc.length < lim
        · rw [if_pos hc] at q6
          refine ⟨accv, h6, by rw [l2.len]; exact Nat.lt_of_lt_of_le hc (by decide), t6, acc ++ [d], accv ++ [u], B.write List.mem_cons_self w2, upd_same, ?_, ?_, q6⟩
          · have hm : hd g (Da :: os1) (upd H6 Da (.lst (accv ++ [u]))) = hd g (Da :: os1) H6 := msk_upd (List.mem_append_right _ List.mem_cons_self)
            show LdA g.c (hd g (Da :: os1) (upd H6 Da (.lst (accv ++ [u])))) _ _
            rw [hm]
            exact LdA.app (LdA.same g6.base.s l2) (.cons (Ld.same g6.back l6) .nil)
          · have g7 := s2.trans g6.base
            refine ⟨?_, fun b hb => ⟨(g7.k b hb).1, fun o e => by rw [upd_ne (ff b hb)]; exact (g7.k b hb).2 o e⟩, fun x C dx e o z => ?_⟩
            · rw [show hd g (Da :: os1) (upd H6 Da (.lst (accv ++ [u]))) = hd g (Da :: os1) H6 from msk_upd (List.mem_append_right _ List.mem_cons_self)]
              exact g7.s
            · rw [upd_ne fun w => by rw [w, hD] at z; cases z]
              exact g7.x x C dx e o z
        · rw [if_neg hc] at q6; exact q6.elim
      · show ite (b = true) _ _
        rw [if_neg hb] at q5 ⊢
        exact ⟨t5, acc, accv, A2.go g5 A5, (g5.k Da List.mem_cons_self).2 _ h2, LdA.same g5.base.s l2, s2.trans g5.base, q5⟩
    · have e : i = ds.length := by omega
      subst e
      rw [List.drop_length] at q2
      exact .inl ⟨wz rfl, q2 Da H2 os1 A2 ⟨accv, h2, l2⟩ ⟨n2, s1.none A1 hD⟩ w2 (s1.trans s2)⟩
theorem ss_lcO {i : Nat} {y : Str} {py : Pos} {elt tg iter : Expr} {ifs : List Expr} {scope : Scope} {own : List (Str × Nat)} {pos spos : Pos} {it : M (List D)} {is : List Nat} {tgt : D → M Unit} {tst : M Bool} {el : M D} (fx : Fx X g) (hy : X.N[i]? = some y) (hl : X.env.scope.names.lookup y = some .local)
    (hsw : swapsWith (.ListComp elt [⟨tg, iter, ifs, 0⟩] scope pos) (some (.Name y py)) spos.line X.env = pure true) (hi : SI X g tg iter it) (ok : BlkOk X.N X.env.scope scope own)
    (hg : ∀ (s : Shared) (H : Hp) (C : Addr) (cl : List (Str × Addr)) (fp : List Addr), SG (X.blk s H scope (compEnvC scope cl C X.env) fp) g tg is tgt)
    (ht : ∀ (s : Shared) (H : Hp) (C : Addr) (cl : List (Str × Addr)) (fp : List Addr), PTs (X.blk s H scope (compEnvC scope cl C X.env) fp) ifs (bD g tst))
    (he : ∀ (s : Shared) (H : Hp) (C : Addr) (cl : List (Str × Addr)) (fp : List Addr), SE (X.blk s H scope (compEnvC scope cl C X.env) fp) g elt el)
    (hv : ∀ j ∈ is, j ∈ own.map (·.2) := by decide) (hs : ∀ (x : Value), foldedSetIterable iter X.env x = pure x := by intro _; rfl) :
    SS X g (.Assign [.Name y py] (.ListComp elt [⟨tg, iter, ifs, 0⟩] scope pos) spos) (asgO i (lcD it tgt tst el (own.map (·.2)))) :=
  PS.imp (ps_setLc fx.c fx.n hy hl hsw hi ok hg ht he hs) fun Dn σ H q => by
    obtain ⟨os, ρ, t, A, q⟩ := q
    exact lc_w hv σ H _ ⟨os, ρ, t, A, post_mono (post_bind q) (fun d ρ1 t1 q1 p H1 os1 A1 o1 n1 w1 s1 => q1 _ H1 (p :: os1) (A1.putO o1 w1) s1) fun _ _ _ _ h => h⟩
theorem ss_lc {i : Nat} {y : Str} {py : Pos} {elt tg iter : Expr} {ifs : List Expr} {scope : Scope} {own : List (Str × Nat)} {pos spos : Pos} {it : M (List D)} {is : List Nat} {tgt : D → M Unit} {tst : M Bool} {el : M D} (fx : Fx X g) (hy : X.N[i]? = some y) (hl : X.env.scope.names.lookup y = some .local)
    (hsw : swapsWith (.ListComp elt [⟨tg, iter, ifs, 0⟩] scope pos) (some (.Name y py)) spos.line X.env = pure true) (hi : SI X g tg iter it) (ok : BlkOk X.N X.env.scope scope own)
    (hg : ∀ (s : Shared) (H : Hp) (C : Addr) (cl : List (Str × Addr)) (fp : List Addr), SG (X.blk s H scope (compEnvC scope cl C X.env) fp) g tg is tgt)
    (ht : ∀ (s : Shared) (H : Hp) (C : Addr) (cl : List (Str × Addr)) (fp : List Addr), PTs (X.blk s H scope (compEnvC scope cl C X.env) fp) ifs (bD g tst))
    (he : ∀ (s : Shared) (H : Hp) (C : Addr) (cl : List (Str × Addr)) (fp : List Addr), SE (X.blk s H scope (compEnvC scope cl C X.env) fp) g elt el)
    (hv : ∀ j ∈ is, j ∈ own.map (·.2) := by decide) (hs : ∀ (x : Value), foldedSetIterable iter X.env x = pure x := by intro _; rfl) :
    SS X g (.Assign [.Name y py] (.ListComp elt [⟨tg, iter, ifs, 0⟩] scope pos) spos) (asg i (lcD it tgt tst el (own.map (·.2)))) :=
  PS.imp (ps_setLc fx.c fx.n hy hl hsw hi ok hg ht he hs) fun Dn σ H q => by
    obtain ⟨os, ρ, t, A, q⟩ := q
    exact lc_w hv σ H _ ⟨os, ρ, t, A, post_mono (post_bind q) (fun d ρ1 t1 q1 p H1 os1 A1 o1 n1 w1 s1 => q1 _ H1 os1 ((A1.drop w1).putI (own_lay o1 n1.1)) (s1.drop A n1.2).s) fun _ _ _ _ h => h⟩
/-! ### [..] * n -/
def drep : D → D → M D
  | .lst xs, .int k => if 0 ≤ k ∧ k ≤ 1000 ∧ xs.length ≤ 1000 then mr (.lst (List.replicate k.toNat xs).flatten) else mx
  | _, _ => mx
theorem LdA.rep {c : Ct} {H : Hp} {vs : List V} {ds : List D} (a : LdA c H vs ds) : ∀ n : Nat, LdA c H (List.replicate n vs).flatten (List.replicate n ds).flatten
  | 0 => .nil
  | n + 1 => by
    rw [List.replicate_succ, List.replicate_succ, List.flatten_cons, List.flatten_cons]
    exact LdA.app a (LdA.rep a n)
theorem os_rep : OpS g rRep drep := by
  intro os σ H ρ t x y d e Q A lx ly q
  cases lx with
  | @lst a xs ds hx ax => cases ly with
    | int k =>
      rcases post_if q with ⟨c, q⟩ | ⟨_, q⟩
      · have hl := ax.len
        refine ⟨a, k, xs, rfl, rfl, msk_le _ _ hx, by omega, by omega, ?_, fun p hp => ?_⟩
        · have h1 : k.toNat ≤ 1000 := by omega
          have h2 : xs.length ≤ 1000 := by omega
          have := Nat.mul_le_mul h2 h1
          exact Nat.le_trans this (by decide)
        · obtain ⟨A1, h1, s1⟩ := lay_new (o := .lst (List.replicate k.toNat xs).flatten) A hp
          exact q _ _ os A1 (.lst h1 (LdA.same (Go.s s1) (LdA.rep ax _))) s1
      · exact q.elim
    | _ => exact q.elim
  | _ => cases ly <;> exact q.elim
theorem se_rep {a b : Expr} {pos : Pos} {f h : M D} (ha : SE X g a f) (hb : SE X g b h) : SE X g (.BinOp a .Mult b pos) (e2 drep f h) := PE.imp (pe_op op_rep ha hb) (op_w os_rep)
end
end DL

set_option Elab.async false
set_option linter.all false
set_option maxRecDepth 100000
set_option maxHeartbeats 1000000
namespace DL
open PySem PySem.Spec PyProof.Rows L2
/-! ### the law -/
/-- the promise of the def that makes the pen -/
def spPen (K : PySem.W.Frag) (n : Str) : Sp := fun vs H Q _ => ∃ (a : Addr) (ns : List Int), vs = [.ref a] ∧ SqL K H a (ns.map V.int) ∧ ns.length ≤ 63 ∧ ∀ (p l : Addr) (H' : Hp), Same H H' → PenAt H' p l n ⟨ns, 0, 0⟩ → Q (.ref p) H'
def spLaw (K : PySem.W.Frag) : Sp := fun vs H Q _ => ∃ (a : Addr) (ns : List Int), vs = [.ref a] ∧ SqL K H a (ns.map V.int) ∧ ns.length ≤ 63 ∧ ∀ H', Q (.bl true) H'
theorem SSs.any {X : Cx} {c : Ct} {n : Str} {rest : List Stmt} {fM : M Fl} (h : ∀ g, g.c = c → PenN g n → Fx X g → SSs X g rest fM) : PSs X rest (fun Dn σ H => ∃ g, g.c = c ∧ PenN g n ∧ Fx X g ∧ sD g fM Dn σ H) :=
  ⟨fun pins s σ H Dn I ⟨g, h1, h2, h3, q⟩ => (h g h1 h2 h3).run pins s σ H Dn I q⟩
def rho0 (n : Nat) : List Sl := .un :: .pn :: List.replicate (n - 2) .un
section
variable {c : Ct} {P : Program} {base : Heap} {x q : Str} {params : Arguments} {body : List Stmt} {scope : Scope} {f : Addr} {fd : FuncData} {N : List Str} {k : Nat} {n : Str}
theorem ok_L (F : FunD c.K x q params body scope [] [] f fd) (S : FnScope N ["_law_script"] scope) (hn : 2 ≤ N.length) {fM : M Fl} {st : Stmt} {rest : List Stmt} (hbd : body = st :: rest)
    (h0 : ∀ (cdv : Value) (A : Around) (outer : List Env) (s : Shared) (H : Hp) (E : XK), Room k (A.deeper (envOfC q scope s.heap.objs.size f cdv)) →
      PS (bX P c.w c.K c.mg base N q scope f cdv A outer s H E) st (tAsg (tCall (spPen c.K n) [] E0 (fun σ H Q => ∃ v, σ[0]? = some (some v) ∧ Q [v] H)) (gName 1)))
    (hr : ∀ (cdv : Value) (A : Around) (outer : List Env) (s : Shared) (H : Hp) (E : XK) (g : G), Room k (A.deeper (envOfC q scope s.heap.objs.size f cdv)) → g.c = c → PenN g n → Fx (bX P c.w c.K c.mg base N q scope f cdv A outer s H E) g →
      SSs (bX P c.w c.K c.mg base N q scope f cdv A outer s H E) g rest fM)
    (hM : ∀ ns : List Int, ns.length ≤ 63 → (fM (rho0 N.length) ⟨ns, 0, 0⟩).post (fun fl _ _ => fl = .rt (.bl true)) noX) :
    FnOk P c.w c.K c.mg base CX0 (k + 1) f fd ["_law_script"] (spLaw c.K) := by
  subst hbd
  refine F.ok S (fun vs H Q E h => ?_) (fun cdv A outer s H vs Q E hroom h => ?_)
  · obtain ⟨a, ns, rfl, _⟩ := h
    rfl
  · obtain ⟨a, ns, rfl, hS, hl, hq⟩ := h
    refine ⟨_, PSs.nox (pss_cons (h0 cdv A outer s H E hroom) (SSs.any fun g h1 h2 h3 => hr cdv A outer s H E g hroom h1 h2 h3)), ?_⟩
    refine ⟨.ref a, rfl, a, ns, rfl, hS, hl, fun p l H' sm pa => ?_⟩
    let g : G := ⟨c, some (p, l, n), none, [p], H'⟩
    have np : p ≠ l := ne_of pa.d pa.l (by intro z; cases z)
    refine ⟨g, rfl, ⟨rfl, fun _ _ _ e => by cases e; rfl⟩, fx_of S hroom rfl, [], rho0 N.length, ⟨ns, 0, 0⟩, ?_, ?_⟩
    · have hlen : (L2.start N [V.ref a]).length = N.length := by
        unfold L2.start
        rw [List.length_append, List.length_map, List.length_replicate]
        show 1 + (N.length - 1) = N.length
        omega
      refine ⟨?_, fun i sx e => ?_, fun i j d e b ne h1 h2 h3 h4 => ?_, Pres.refl, (fun b hb => by cases hb), fun b hb => ?_, (fun _ _ _ e => by cases e), fun b hb => ?_, fun p' l' n' e => ?_⟩
      · rw [List.length_set, hlen]
        show (List.replicate (N.length - 2) Sl.un).length + 1 + 1 = N.length
        rw [List.length_replicate]
        omega
      · match i, e with
        | 0, e => cases e; trivial
        | 1, e =>
          cases e
          refine ⟨p, l, n, rfl, ?_⟩
          rw [List.getElem?_set_self (by rw [hlen]; omega)]
        | i + 2, e =>
          have : (List.replicate (N.length - 2) Sl.un)[i]? = some sx := e
          rw [List.eq_of_mem_replicate (List.mem_of_getElem? this)]
          trivial
      · match i, h1 with
        | 0, h1 => cases h1
        | 1, h1 => cases h1
        | i + 2, h1 =>
          have : (List.replicate (N.length - 2) Sl.un)[i]? = some (.ow d) := h1
          have := List.eq_of_mem_replicate (List.mem_of_getElem? this)
          cases this
      · have : b ∈ [p] := by
          have h := hb
          rw [show mo g [] = [p] from List.append_nil _] at h
          exact h
        rw [List.mem_singleton.mp this]
        exact ⟨_, pa.d⟩
      · rw [List.mem_singleton.mp hb]
        exact ⟨_, pa.d⟩
      · cases e
        exact ⟨pa, List.mem_singleton.mpr rfl, fun z => np (List.mem_singleton.mp z).symm, _, pa.l⟩
    · refine post_mono (hM ns hl) (fun fl ρ' t' e => ?_) fun _ _ _ _ h => h
      subst e
      intro v σ' H2 os' A' l' s'
      cases l'
      exact hq H2
end
end DL

set_option Elab.async false
set_option linter.all false
set_option maxRecDepth 100000
set_option maxHeartbeats 4000000
namespace K61
open PySem PySem.Spec PyProof.Rows L2 DL
def top (i : Nat) : Stmt := PySem.Challenge.pw_treeshed_k61_sums_and_cells.main.body.getD i (.Pass ⟨0, 0, 0, 0⟩)
structure Tx (mg : Str → Option Value) : Prop where
  abs_ : mg "abs" = none
  all_ : mg "all" = none
  any_ : mg "any" = none
  bool_ : mg "bool" = none
  dict_ : mg "dict" = none
  enumerate_ : mg "enumerate" = none
  int_ : mg "int" = none
  isinstance_ : mg "isinstance" = none
  len_ : mg "len" = none
  list_ : mg "list" = none
  min_ : mg "min" = none
  range_ : mg "range" = none
  sorted_ : mg "sorted" = none
  str_ : mg "str" = none
  tuple_ : mg "tuple" = none
  zip_ : mg "zip" = none
structure Fs (c : Ct) : Prop where
  Plan_gone : FldOk c "Plan" "gone"
  Plan_alike : FldOk c "Plan" "alike"
  Plan_unlike : FldOk c "Plan" "unlike"
  Plan_tidy : FldOk c "Plan" "tidy"
  Plan__told_flags : FldOk c "Plan" "_told_flags"
  Rule_root : FldOk c "Rule" "root"
  Rule_others : FldOk c "Rule" "others"
  Caser_plan : FldOk c "Caser" "plan"
  Caser_told_flags : FldOk c "Caser" "told_flags"
  Caser_rule : FldOk c "Caser" "rule"
  Caser_triples : FldOk c "Caser" "triples"
theorem ff1_Plan_gone {c : Ct} (h : Fs c) : FldOk c "Plan" "gone" := h.Plan_gone
theorem ff1_Plan_alike {c : Ct} (h : Fs c) : FldOk c "Plan" "alike" := h.Plan_alike
theorem ff1_Plan_unlike {c : Ct} (h : Fs c) : FldOk c "Plan" "unlike" := h.Plan_unlike
theorem ff1_Plan_tidy {c : Ct} (h : Fs c) : FldOk c "Plan" "tidy" := h.Plan_tidy
theorem ff1_Plan__told_flags {c : Ct} (h : Fs c) : FldOk c "Plan" "_told_flags" := h.Plan__told_flags
theorem ff1_Rule_root {c : Ct} (h : Fs c) : FldOk c "Rule" "root" := h.Rule_root
theorem ff1_Rule_others {c : Ct} (h : Fs c) : FldOk c "Rule" "others" := h.Rule_others
theorem ff1_Caser_plan {c : Ct} (h : Fs c) : FldOk c "Caser" "plan" := h.Caser_plan
theorem ff1_Caser_told_flags {c : Ct} (h : Fs c) : FldOk c "Caser" "told_flags" := h.Caser_told_flags
theorem ff1_Caser_rule {c : Ct} (h : Fs c) : FldOk c "Caser" "rule" := h.Caser_rule
theorem ff1_Caser_triples {c : Ct} (h : Fs c) : FldOk c "Caser" "triples" := h.Caser_triples
theorem ff_gone {c : Ct} (h : Fs c) : ∀ n ∈ (["Plan"] : List Str), FldOk c n "gone" := fun n hn => by
  simp only [List.mem_cons, List.not_mem_nil, or_false] at hn
  rcases hn with rfl
  · exact h.Plan_gone
theorem ff_alike {c : Ct} (h : Fs c) : ∀ n ∈ (["Plan"] : List Str), FldOk c n "alike" := fun n hn => by
  simp only [List.mem_cons, List.not_mem_nil, or_false] at hn
  rcases hn with rfl
  · exact h.Plan_alike
theorem ff_unlike {c : Ct} (h : Fs c) : ∀ n ∈ (["Plan"] : List Str), FldOk c n "unlike" := fun n hn => by
  simp only [List.mem_cons, List.not_mem_nil, or_false] at hn
  rcases hn with rfl
  · exact h.Plan_unlike
theorem ff_tidy {c : Ct} (h : Fs c) : ∀ n ∈ (["Plan"] : List Str), FldOk c n "tidy" := fun n hn => by
  simp only [List.mem_cons, List.not_mem_nil, or_false] at hn
  rcases hn with rfl
  · exact h.Plan_tidy
theorem ff__told_flags {c : Ct} (h : Fs c) : ∀ n ∈ (["Plan"] : List Str), FldOk c n "_told_flags" := fun n hn => by
  simp only [List.mem_cons, List.not_mem_nil, or_false] at hn
  rcases hn with rfl
  · exact h.Plan__told_flags
theorem ff_root {c : Ct} (h : Fs c) : ∀ n ∈ (["Rule"] : List Str), FldOk c n "root" := fun n hn => by
  simp only [List.mem_cons, List.not_mem_nil, or_false] at hn
  rcases hn with rfl
  · exact h.Rule_root
theorem ff_others {c : Ct} (h : Fs c) : ∀ n ∈ (["Rule"] : List Str), FldOk c n "others" := fun n hn => by
  simp only [List.mem_cons, List.not_mem_nil, or_false] at hn
  rcases hn with rfl
  · exact h.Rule_others
theorem ff_plan {c : Ct} (h : Fs c) : ∀ n ∈ (["Caser"] : List Str), FldOk c n "plan" := fun n hn => by
  simp only [List.mem_cons, List.not_mem_nil, or_false] at hn
  rcases hn with rfl
  · exact h.Caser_plan
theorem ff_told_flags {c : Ct} (h : Fs c) : ∀ n ∈ (["Caser"] : List Str), FldOk c n "told_flags" := fun n hn => by
  simp only [List.mem_cons, List.not_mem_nil, or_false] at hn
  rcases hn with rfl
  · exact h.Caser_told_flags
theorem ff_rule {c : Ct} (h : Fs c) : ∀ n ∈ (["Caser"] : List Str), FldOk c n "rule" := fun n hn => by
  simp only [List.mem_cons, List.not_mem_nil, or_false] at hn
  rcases hn with rfl
  · exact h.Caser_rule
section
variable {P : Program} {base : Heap} {c : Ct}
def dl_BARE : List D := [.non, (.bl false)]
def d_BARE : D := .tup dl_BARE
def dl_WORSTS : List D := [(.str "right"), (.str "rule"), (.str "words"), (.str "clash")]
def d_WORSTS : D := .tup dl_WORSTS
def dl_EMPTY : List D := [(.int 0), (.int 0), (.int 0), (.int 0), (.bl true), (.bl true), (.bl false), (.bl false), (.bl false), (.str "right")]
def d_EMPTY : D := .tup dl_EMPTY
def dl_GONE : List D := [(.str "clash"), (.str "kept"), (.str "bare"), (.str "base")]
def d_GONE : D := .tup dl_GONE
def dl_ALIKE : List D := [(.str "take"), (.str "clash")]
def d_ALIKE : D := .tup dl_ALIKE
def dl_UNLIKE : List D := [(.str "clash"), (.str "one"), (.str "other")]
def d_UNLIKE : D := .tup dl_UNLIKE
def dl_FLAG_KEYS : List D := [(.tup [(.bl false), (.bl false), (.int 0)]), (.tup [(.bl false), (.bl false), (.int 1)]), (.tup [(.bl false), (.bl false), (.int 2)]), (.tup [(.bl false), (.bl true), (.int 0)]), (.tup [(.bl false), (.bl true), (.int 1)]), (.tup [(.bl false), (.bl true), (.int 2)]), (.tup [(.bl true), (.bl false), (.int 0)]), (.tup [(.bl true), (.bl false), (.int 1)]), (.tup [(.bl true), (.bl false), (.int 2)]), (.tup [(.bl true), (.bl true), (.int 0)]), (.tup [(.bl true), (.bl true), (.int 1)]), (.tup [(.bl true), (.bl true), (.int 2)])]
def d_FLAG_KEYS : D := .tup dl_FLAG_KEYS
abbrev s_penOf : Stmt := top 40
theorem sc_penOf : FnScope ["_law_script"] ["_law_script"] (defScope s_penOf) := ⟨rfl, rfl, rfl, by decide +kernel, rfl, by decide +kernel, by decide +kernel⟩
theorem ok_penOf {f : Addr} {fd : FuncData} (T : Tx c.mg) (F : FunD c.K "_law_pen_of" "_law_pen_of" (defArgs s_penOf) (defBody s_penOf) (defScope s_penOf) [] [] f fd) : FnOk P c.w c.K c.mg base CX0 1 f fd ["_law_script"] (spPen c.K "next") := by
  refine F.ok sc_penOf (fun vs H Q E h => ?_) (fun cdv A outer s H vs Q E hr h => ?_)
  · obtain ⟨a, ns, rfl, _⟩ := h
    rfl
  · obtain ⟨a, ns, rfl, hS, hl, k⟩ := h
    refine ⟨_, PSs.nox (pss_one (ps_ret (pe_disp
      (pps_cons pe_str (pe_callTy call_list_of (by rfl) T.list_ (by decide +kernel) (pa_cons (pe_slice sl_list (pv 0) po_none (po_some pe_int)) pa_nil))
        (pps_cons pe_str pe_int (pps_cons pe_str pe_int pps_nil))) (by rfl) (by rfl) (fun z => by cases z) (by decide)))), ?_⟩
    intro p hp
    have s0 : Same H (upd H p (.dK [])) := same_upd hp
    refine ⟨_, rfl, _, rfl, a, _, rfl, s0.seq hS, fun q hq => ?_⟩
    have np : p ≠ q := ne_of_none upd_same hq
    have hcut : cutV (ns.map V.int) none (some 63) = ns.map V.int := by
      show ((ns.map V.int).drop (HT.sIx (ns.map V.int).length 0 none)).take (HT.sIx (ns.map V.int).length (ns.map V.int).length (some ((63 : Nat) : Int)) - HT.sIx (ns.map V.int).length 0 none) = _
      rw [HT.sIx_none, HT.sIx_nat, List.drop_zero, List.take_of_length_le]
      rw [List.length_map]
      omega
    refine ⟨q, _, rfl, Or.inl (SqL.of upd_same), fun r hr' => ?_⟩
    have nq : p ≠ r := ne_of_none (by rw [upd_ne np]; exact upd_same) hr'
    refine ⟨by rw [upd_ne nq, upd_ne np]; exact upd_same, pnL r "next" ⟨ns, 0, 0⟩, rfl, (by show 3 ≤ 15; decide), ?_⟩
    rw [hcut]
    have s1 : Same H (upd (upd (upd H p (.dK [])) q (.lst (ns.map V.int))) r (.lst (ns.map V.int))) := (s0.trans (same_upd hq)).trans (same_upd (by rw [← hcut]; exact hr'))
    refine k p r _ (fun b o e => ?_) ⟨upd_same, by rw [upd_ne nq.symm]; exact upd_same, Int.le_refl _, Int.le_refl _, hl⟩
    rw [upd_ne (ne_of_none e hp)]
    exact s1 b o e
abbrev s_next_step : Stmt := top 3
abbrev N_next_step : List Str := ["plan", "there", "one_same", "other_same", "base", "one", "other"]
abbrev p_next_step : List Str := ["plan", "there", "one_same", "other_same"]
theorem sc_next_step : FnScope N_next_step p_next_step (defScope s_next_step) := ⟨rfl, rfl, rfl, by decide +kernel, rfl, by decide +kernel, by decide +kernel⟩
def m_next_step : M Fl := (sq (sasg (evar 1) (gtup 3 (gcons (gname 4) (gcons (gname 5) (gcons (gname 6) gnil))))) (sq (sif (btru (evar 2)) (sret (mr (D.str "other"))) (mr Fl.nx)) (sq (sif (btru (evar 3)) (sret (mr (D.str "one"))) (mr Fl.nx)) (sq (sif (band (bnot (btru (evar 5))) (bnot (btru (evar 6)))) (sret (eif (asB (e2 deq (mb (evar 0) (dfld ["Plan"] "alike")) (mr (D.str "clash")))) (mr (D.str "clash")) (mr (D.str "nothing")))) (mr Fl.nx)) (sq (sif (band (btru (evar 4)) (bnot (band (btru (evar 5)) (btru (evar 6))))) (sq (sif (asB (e2 deq (mb (evar 0) (dfld ["Plan"] "gone")) (mr (D.str "clash")))) (sret (mr (D.str "clash"))) (mr Fl.nx)) (sif (asB (e2 deq (mb (evar 0) (dfld ["Plan"] "gone")) (mr (D.str "kept")))) (sret (eif (btru (evar 5)) (mr (D.str "one")) (mr (D.str "other")))) (mr Fl.nx))) (mr Fl.nx)) (sret (mr (D.str "on"))))))))
def f_next_step : List D → Ou D := fn0 4 7 m_next_step
def dd_next_step : List D := []
theorem ok_next_step {f : Addr} {fd : FuncData} (T : Tx c.mg) (hF : Fs c)  (F : FunD c.K "next_step" "next_step" (defArgs s_next_step) (defBody s_next_step) (defScope s_next_step) [] [] f fd) : FnOk P c.w c.K c.mg base CX0 1 f fd p_next_step (sp0 c f_next_step) :=
  ok_0 (k := 0) F sc_next_step (fM := m_next_step) fun cdv A outer s H E g hr hg fx => by
    subst hg
    exact (ss_cons (ss_asg (se_var 1 (pv 1)) (sg_tup (n := 3) fx (sg_cons (sg_name (i := 4) fx rfl (by first | exact Or.inl rfl | exact Or.inr rfl)) (sg_cons (sg_name (i := 5) fx rfl (by first | exact Or.inl rfl | exact Or.inr rfl)) (sg_cons (sg_name (i := 6) fx rfl (by first | exact Or.inl rfl | exact Or.inr rfl)) sg_nil))))) (ss_cons (ss_if (st_val fx (se_var 2 (pv 2))) (ss_one (ss_ret se_str)) ss_nil) (ss_cons (ss_if (st_val fx (se_var 3 (pv 3))) (ss_one (ss_ret se_str)) ss_nil) (ss_cons (ss_if (st_w (sw_and (st_not (st_val fx (se_var 5 (pv 5)))) (sw_and1 (st_not (st_val fx (se_var 6 (pv 6))))))) (ss_one (ss_ret (se_if (st_cmp (cs_eq fx) (se_fld fx ["Plan"] (se_var 0 (pv 0)) (ff_alike hF)) se_str) se_str se_str))) ss_nil) (ss_cons (ss_if (st_w (sw_and (st_val fx (se_var 4 (pv 4))) (sw_and1 (st_not (st_w (sw_and (st_val fx (se_var 5 (pv 5))) (sw_and1 (st_val fx (se_var 6 (pv 6)))))))))) (ss_cons (ss_if (st_cmp (cs_eq fx) (se_fld fx ["Plan"] (se_var 0 (pv 0)) (ff_gone hF)) se_str) (ss_one (ss_ret se_str)) ss_nil) (ss_one (ss_if (st_cmp (cs_eq fx) (se_fld fx ["Plan"] (se_var 0 (pv 0)) (ff_gone hF)) se_str) (ss_one (ss_ret (se_if (st_val fx (se_var 5 (pv 5))) se_str se_str))) ss_nil))) ss_nil) (ss_one (ss_ret se_str)))))))
abbrev s_merged_value : Stmt := top 5
abbrev N_merged_value : List Str := ["plan", "base", "one", "other"]
abbrev p_merged_value : List Str := ["plan", "base", "one", "other"]
theorem sc_merged_value : FnScope N_merged_value p_merged_value (defScope s_merged_value) := ⟨rfl, rfl, rfl, by decide +kernel, rfl, by decide +kernel, by decide +kernel⟩
def m_merged_value : M Fl := (sq (sif (asB (e2 deq (evar 2) (evar 1))) (sret (evar 3)) (mr Fl.nx)) (sq (sif (asB (e2 deq (evar 3) (evar 1))) (sret (evar 2)) (mr Fl.nx)) (sq (sif (asB (e2 deq (evar 2) (evar 3))) (sret (eif (asB (e2 deq (mb (evar 0) (dfld ["Plan"] "alike")) (mr (D.str "clash")))) (mr (D.str "clash")) (evar 2))) (mr Fl.nx)) (sq (sif (asB (e2 deq (mb (evar 0) (dfld ["Plan"] "unlike")) (mr (D.str "clash")))) (sret (mr (D.str "clash"))) (mr Fl.nx)) (sret (eif (asB (e2 deq (mb (evar 0) (dfld ["Plan"] "unlike")) (mr (D.str "one")))) (evar 2) (evar 3)))))))
def f_merged_value : List D → Ou D := fn0 4 4 m_merged_value
def dd_merged_value : List D := []
theorem ok_merged_value {f : Addr} {fd : FuncData} (T : Tx c.mg) (hF : Fs c)  (F : FunD c.K "merged_value" "merged_value" (defArgs s_merged_value) (defBody s_merged_value) (defScope s_merged_value) [] [] f fd) : FnOk P c.w c.K c.mg base CX0 1 f fd p_merged_value (sp0 c f_merged_value) :=
  ok_0 (k := 0) F sc_merged_value (fM := m_merged_value) fun cdv A outer s H E g hr hg fx => by
    subst hg
    exact (ss_cons (ss_if (st_cmp (cs_eq fx) (se_var 2 (pv 2)) (se_var 1 (pv 1))) (ss_one (ss_ret (se_var 3 (pv 3)))) ss_nil) (ss_cons (ss_if (st_cmp (cs_eq fx) (se_var 3 (pv 3)) (se_var 1 (pv 1))) (ss_one (ss_ret (se_var 2 (pv 2)))) ss_nil) (ss_cons (ss_if (st_cmp (cs_eq fx) (se_var 2 (pv 2)) (se_var 3 (pv 3))) (ss_one (ss_ret (se_if (st_cmp (cs_eq fx) (se_fld fx ["Plan"] (se_var 0 (pv 0)) (ff_alike hF)) se_str) se_str (se_var 2 (pv 2))))) ss_nil) (ss_cons (ss_if (st_cmp (cs_eq fx) (se_fld fx ["Plan"] (se_var 0 (pv 0)) (ff_unlike hF)) se_str) (ss_one (ss_ret se_str)) ss_nil) (ss_one (ss_ret (se_if (st_cmp (cs_eq fx) (se_fld fx ["Plan"] (se_var 0 (pv 0)) (ff_unlike hF)) se_str) (se_var 2 (pv 2)) (se_var 3 (pv 3)))))))))
abbrev s_merged_cell : Stmt := top 4
abbrev N_merged_cell : List Str := ["plan", "cells", "base", "missing", "value", "one", "other", "cell"]
abbrev p_merged_cell : List Str := ["plan", "cells"]
theorem sc_merged_cell : FnScope N_merged_cell p_merged_cell (defScope s_merged_cell) := ⟨rfl, rfl, rfl, by decide +kernel, rfl, by decide +kernel, by decide +kernel⟩
def m_merged_cell : M Fl := (sq (asg 2 (eif (asB (enon (e2 dix (evar 1) (mr (D.int 0))))) (mr d_BARE) (e2 dix (evar 1) (mr (D.int 0))))) (sq (asg 3 (eif (asB (e2 deq (mb (evar 0) (dfld ["Plan"] "gone")) (mr (D.str "base")))) (evar 2) (mr d_BARE))) (sq (sasg (lcD (mb (esl (evar 1) (osome (mr (D.int 1))) (mr none)) items) (gname 7) (mr true) (eif (asB (enon (evar 7))) (evar 3) (evar 7)) [7]) (gtup 2 (gcons (gname 5) (gcons (gname 6) gnil)))) (sq (asg 4 (mb (acons (evar 0) (acons (e2 dix (evar 2) (mr (D.int 0))) (acons (e2 dix (evar 5) (mr (D.int 0))) (acons (e2 dix (evar 6) (mr (D.int 0))) anil)))) fun ds => call0 f_merged_value (ds ++ []))) (sq (sif (asB (e2 deq (evar 4) (mr (D.str "clash")))) (sret (mr D.non)) (mr Fl.nx)) (sret (etup (acons (evar 4) (acons (eif (asB (e2 deq (e2 dix (evar 5) (mr (D.int 1))) (e2 dix (evar 2) (mr (D.int 1))))) (e2 dix (evar 6) (mr (D.int 1))) (e2 dix (evar 5) (mr (D.int 1)))) anil)))))))))
def f_merged_cell : List D → Ou D := fn0 2 8 m_merged_cell
def dd_merged_cell : List D := []
theorem ok_merged_cell {f : Addr} {fd : FuncData} (T : Tx c.mg) (hF : Fs c) (k_BARE : KD c "BARE" d_BARE) (h_merged_value : ClD P base c 1 "merged_value" ["plan", "base", "one", "other"] (sp0 c f_merged_value) []) (F : FunD c.K "merged_cell" "merged_cell" (defArgs s_merged_cell) (defBody s_merged_cell) (defScope s_merged_cell) [] [] f fd) : FnOk P c.w c.K c.mg base CX0 2 f fd p_merged_cell (sp0 c f_merged_cell) :=
  ok_0 (k := 1) F sc_merged_cell (fM := m_merged_cell) fun cdv A outer s H E g hr hg fx => by
    subst hg
    exact (ss_cons (ss_set (i := 2) fx rfl (by first | exact Or.inl rfl | exact Or.inr rfl) (se_if (st_isN (se_ix fx (se_var 1 (pv 1)) se_int)) (se_glob fx (by rfl) k_BARE) (se_ix fx (se_var 1 (pv 1)) se_int))) (ss_cons (ss_set (i := 3) fx rfl (by first | exact Or.inl rfl | exact Or.inr rfl) (se_if (st_cmp (cs_eq fx) (se_fld fx ["Plan"] (se_var 0 (pv 0)) (ff_gone hF)) se_str) (se_var 2 (pv 2)) (se_glob fx (by rfl) k_BARE))) (ss_cons (ss_asg (se_of (sf_lc (own := [("cell", 7)]) fx (si_seq fx (se_sl fx (se_var 1 (pv 1)) (so_some se_int) so_none)) (blkOk_by (N := N_merged_cell) (sc := defScope s_merged_cell) (by decide +kernel)) (fun _ _ _ _ _ => (sg_name (i := 7) fx.blk rfl (by first | exact Or.inl rfl | exact Or.inr rfl))) (fun _ _ _ _ _ => ts_nil) (fun _ _ _ _ _ => (se_if (st_isN (se_var 7 (pv 7))) (se_var 3 (pv 3)) (se_var 7 (pv 7)))))) (sg_tup (n := 2) fx (sg_cons (sg_name (i := 5) fx rfl (by first | exact Or.inl rfl | exact Or.inr rfl)) (sg_cons (sg_name (i := 6) fx rfl (by first | exact Or.inl rfl | exact Or.inr rfl)) sg_nil)))) (ss_cons (ss_set (i := 4) fx rfl (by first | exact Or.inl rfl | exact Or.inr rfl) (se_call0 fx h_merged_value (hr.mono (by decide)) (by rfl) (sa_cons (se_var 0 (pv 0)) (sa_cons (se_ix fx (se_var 2 (pv 2)) se_int) (sa_cons (se_ix fx (se_var 5 (pv 5)) se_int) (sa_cons (se_ix fx (se_var 6 (pv 6)) se_int) sa_nil)))))) (ss_cons (ss_if (st_cmp (cs_eq fx) (se_var 4 (pv 4)) se_str) (ss_one (ss_ret se_non)) ss_nil) (ss_one (ss_ret (se_tup (sa_cons (se_var 4 (pv 4)) (sa_cons (se_if (st_cmp (cs_eq fx) (se_ix fx (se_var 5 (pv 5)) se_int) (se_ix fx (se_var 2 (pv 2)) se_int)) (se_ix fx (se_var 6 (pv 6)) se_int) (se_ix fx (se_var 5 (pv 5)) se_int)) sa_nil))))))))))
abbrev s_is_left_out : Stmt := top 6
abbrev N_is_left_out : List Str := ["plan", "root", "value", "children"]
abbrev p_is_left_out : List Str := ["plan", "root", "value", "children"]
theorem sc_is_left_out : FnScope N_is_left_out p_is_left_out (defScope s_is_left_out) := ⟨rfl, rfl, rfl, by decide +kernel, rfl, by decide +kernel, by decide +kernel⟩
def m_is_left_out : M Fl := (sret (eand (mb (evar 0) (dfld ["Plan"] "tidy")) (eand (enot (evar 1)) (eand (enon (evar 2)) (e2 deq (evar 3) (mr (D.int 0)))))))
def f_is_left_out : List D → Ou D := fn0 4 4 m_is_left_out
def dd_is_left_out : List D := []
theorem ok_is_left_out {f : Addr} {fd : FuncData} (T : Tx c.mg) (hF : Fs c)  (F : FunD c.K "is_left_out" "is_left_out" (defArgs s_is_left_out) (defBody s_is_left_out) (defScope s_is_left_out) [] [] f fd) : FnOk P c.w c.K c.mg base CX0 1 f fd p_is_left_out (sp0 c f_is_left_out) :=
  ok_0 (k := 0) F sc_is_left_out (fM := m_is_left_out) fun cdv A outer s H E g hr hg fx => by
    subst hg
    exact (ss_one (ss_ret (se_and fx (se_fld fx ["Plan"] (se_var 0 (pv 0)) (ff_tidy hF)) (se_and fx (se_not fx (se_var 1 (pv 1))) (se_and fx (se_isN (se_var 2 (pv 2))) (se_one (se_cmp (cs_eq fx) (se_var 3 (pv 3)) se_int)))))))
abbrev s_told_flag : Stmt := top 7
abbrev N_told_flag : List Str := ["flags", "root", "value", "children", "flag"]
abbrev p_told_flag : List Str := ["flags", "root", "value", "children", "flag"]
theorem sc_told_flag : FnScope N_told_flag p_told_flag (defScope s_told_flag) := ⟨rfl, rfl, rfl, by decide +kernel, rfl, by decide +kernel, by decide +kernel⟩
def m_told_flag : M Fl := (sret (eif (asB (enon (evar 0))) (evar 4) (e2 dix (evar 0) (etup (acons (evar 1) (acons (enno (evar 2)) (acons (mb (acons (mr (D.int 2)) (acons (evar 3) anil)) dmin2) anil)))))))
def f_told_flag : List D → Ou D := fn0 5 5 m_told_flag
def dd_told_flag : List D := []
theorem ok_told_flag {f : Addr} {fd : FuncData} (T : Tx c.mg) (hF : Fs c)  (F : FunD c.K "told_flag" "told_flag" (defArgs s_told_flag) (defBody s_told_flag) (defScope s_told_flag) [] [] f fd) : FnOk P c.w c.K c.mg base CX0 1 f fd p_told_flag (sp0 c f_told_flag) :=
  ok_0 (k := 0) F sc_told_flag (fM := m_told_flag) fun cdv A outer s H E g hr hg fx => by
    subst hg
    exact (ss_one (ss_ret (se_if (st_isN (se_var 0 (pv 0))) (se_var 4 (pv 4)) (se_ix fx (se_var 0 (pv 0)) (se_tup (sa_cons (se_var 1 (pv 1)) (sa_cons (se_noN (se_var 2 (pv 2))) (sa_cons (se_min2 fx (by rfl) T.min_ (sa_cons se_int (sa_cons (se_var 3 (pv 3)) sa_nil))) sa_nil))))))))
abbrev s_due_values : Stmt := top 8
abbrev N_due_values : List Str := ["base", "one", "other"]
abbrev p_due_values : List Str := ["base", "one", "other"]
theorem sc_due_values : FnScope N_due_values p_due_values (defScope s_due_values) := ⟨rfl, rfl, rfl, by decide +kernel, rfl, by decide +kernel, by decide +kernel⟩
def m_due_values : M Fl := (sq (sif (asB (e2 deq (evar 1) (evar 0))) (sret (etup (acons (evar 2) anil))) (mr Fl.nx)) (sq (sif (bor (asB (e2 deq (evar 2) (evar 0))) (asB (e2 deq (evar 2) (evar 1)))) (sret (etup (acons (evar 1) anil))) (mr Fl.nx)) (sret (etup (acons (evar 1) (acons (evar 2) anil))))))
def f_due_values : List D → Ou D := fn0 3 3 m_due_values
def dd_due_values : List D := []
theorem ok_due_values {f : Addr} {fd : FuncData} (T : Tx c.mg) (hF : Fs c)  (F : FunD c.K "due_values" "due_values" (defArgs s_due_values) (defBody s_due_values) (defScope s_due_values) [] [] f fd) : FnOk P c.w c.K c.mg base CX0 1 f fd p_due_values (sp0 c f_due_values) :=
  ok_0 (k := 0) F sc_due_values (fM := m_due_values) fun cdv A outer s H E g hr hg fx => by
    subst hg
    exact (ss_cons (ss_if (st_cmp (cs_eq fx) (se_var 1 (pv 1)) (se_var 0 (pv 0))) (ss_one (ss_ret (se_tup (sa_cons (se_var 2 (pv 2)) sa_nil)))) ss_nil) (ss_cons (ss_if (st_w (sw_or (st_cmp (cs_eq fx) (se_var 2 (pv 2)) (se_var 0 (pv 0))) (sw_or1 (st_cmp (cs_eq fx) (se_var 2 (pv 2)) (se_var 1 (pv 1)))))) (ss_one (ss_ret (se_tup (sa_cons (se_var 1 (pv 1)) sa_nil)))) ss_nil) (ss_one (ss_ret (se_tup (sa_cons (se_var 1 (pv 1)) (sa_cons (se_var 2 (pv 2)) sa_nil)))))))
abbrev s_sum_with : Stmt := top 12
abbrev N_sum_with : List Str := ["total", "case", "made", "bases", "ones", "others", "results", "all_one", "all_other", "some_one", "some_other", "some_both", "worst", "base", "one", "other", "one_same", "other_same", "alike_one", "alike_other", "both", "outcome"]
abbrev p_sum_with : List Str := ["total", "case"]
theorem sc_sum_with : FnScope N_sum_with p_sum_with (defScope s_sum_with) := ⟨rfl, rfl, rfl, by decide +kernel, rfl, by decide +kernel, by decide +kernel⟩
def m_sum_with : M Fl := (sq (sasg (evar 0) (gtup 10 (gcons (gname 3) (gcons (gname 4) (gcons (gname 5) (gcons (gname 6) (gcons (gname 7) (gcons (gname 8) (gcons (gname 9) (gcons (gname 10) (gcons (gname 11) (gcons (gname 12) gnil)))))))))))) (sq (sasg (evar 1) (gtup 9 (gcons (gname 13) (gcons (gname 14) (gcons (gname 15) (gcons (gname 16) (gcons (gname 17) (gcons (gname 18) (gcons (gname 19) (gcons (gname 20) (gcons (gname 21) gnil))))))))))) (sq (asg 2 (e2 (din false) (evar 21) (etup (acons (mr (D.str "tree")) (acons (mr (D.str "rule")) (acons (mr (D.str "words")) anil)))))) (sq (sif (band (asB (e2 (din false) (evar 21) (mr d_WORSTS))) (asB (e2 dgt (mb (acons (evar 21) anil) (dtix (.tup dl_WORSTS))) (mb (acons (evar 12) anil) (dtix (.tup dl_WORSTS)))))) (asg 12 (evar 21)) (mr Fl.nx)) (sret (etup (acons (mb (acons (mr (D.int 2)) (acons (e2 dadd (evar 3) (evar 13)) anil)) dmin2) (acons (mb (acons (mr (D.int 2)) (acons (e2 dadd (evar 4) (evar 14)) anil)) dmin2) (acons (mb (acons (mr (D.int 2)) (acons (e2 dadd (evar 5) (evar 15)) anil)) dmin2) (acons (mb (acons (mr (D.int 2)) (acons (e2 dadd (evar 6) (evar 2)) anil)) dmin2) (acons (eand (evar 7) (evar 16)) (acons (eand (evar 8) (evar 17)) (acons (eor (evar 9) (evar 18)) (acons (eor (evar 10) (evar 19)) (acons (eor (evar 11) (evar 20)) (acons (evar 12) anil))))))))))))))))
def f_sum_with : List D → Ou D := fn0 2 22 m_sum_with
def dd_sum_with : List D := []
theorem ok_sum_with {f : Addr} {fd : FuncData} (T : Tx c.mg) (hF : Fs c) (k_WORSTS : KD c "WORSTS" d_WORSTS) (t_WORSTS : KTup c "WORSTS" dl_WORSTS) (F : FunD c.K "sum_with" "sum_with" (defArgs s_sum_with) (defBody s_sum_with) (defScope s_sum_with) [] [] f fd) : FnOk P c.w c.K c.mg base CX0 1 f fd p_sum_with (sp0 c f_sum_with) :=
  ok_0 (k := 0) F sc_sum_with (fM := m_sum_with) fun cdv A outer s H E g hr hg fx => by
    subst hg
    exact (ss_cons (ss_asg (se_var 0 (pv 0)) (sg_tup (n := 10) fx (sg_cons (sg_name (i := 3) fx rfl (by first | exact Or.inl rfl | exact Or.inr rfl)) (sg_cons (sg_name (i := 4) fx rfl (by first | exact Or.inl rfl | exact Or.inr rfl)) (sg_cons (sg_name (i := 5) fx rfl (by first | exact Or.inl rfl | exact Or.inr rfl)) (sg_cons (sg_name (i := 6) fx rfl (by first | exact Or.inl rfl | exact Or.inr rfl)) (sg_cons (sg_name (i := 7) fx rfl (by first | exact Or.inl rfl | exact Or.inr rfl)) (sg_cons (sg_name (i := 8) fx rfl (by first | exact Or.inl rfl | exact Or.inr rfl)) (sg_cons (sg_name (i := 9) fx rfl (by first | exact Or.inl rfl | exact Or.inr rfl)) (sg_cons (sg_name (i := 10) fx rfl (by first | exact Or.inl rfl | exact Or.inr rfl)) (sg_cons (sg_name (i := 11) fx rfl (by first | exact Or.inl rfl | exact Or.inr rfl)) (sg_cons (sg_name (i := 12) fx rfl (by first | exact Or.inl rfl | exact Or.inr rfl)) sg_nil)))))))))))) (ss_cons (ss_asg (se_var 1 (pv 1)) (sg_tup (n := 9) fx (sg_cons (sg_name (i := 13) fx rfl (by first | exact Or.inl rfl | exact Or.inr rfl)) (sg_cons (sg_name (i := 14) fx rfl (by first | exact Or.inl rfl | exact Or.inr rfl)) (sg_cons (sg_name (i := 15) fx rfl (by first | exact Or.inl rfl | exact Or.inr rfl)) (sg_cons (sg_name (i := 16) fx rfl (by first | exact Or.inl rfl | exact Or.inr rfl)) (sg_cons (sg_name (i := 17) fx rfl (by first | exact Or.inl rfl | exact Or.inr rfl)) (sg_cons (sg_name (i := 18) fx rfl (by first | exact Or.inl rfl | exact Or.inr rfl)) (sg_cons (sg_name (i := 19) fx rfl (by first | exact Or.inl rfl | exact Or.inr rfl)) (sg_cons (sg_name (i := 20) fx rfl (by first | exact Or.inl rfl | exact Or.inr rfl)) (sg_cons (sg_name (i := 21) fx rfl (by first | exact Or.inl rfl | exact Or.inr rfl)) sg_nil))))))))))) (ss_cons (ss_set (i := 2) fx rfl (by first | exact Or.inl rfl | exact Or.inr rfl) (se_cmp (cs_in fx) (se_var 21 (pv 21)) (se_tup (sa_cons se_str (sa_cons se_str (sa_cons se_str sa_nil)))))) (ss_cons (ss_if (st_w (sw_and (st_cmp (cs_in fx) (se_var 21 (pv 21)) (se_glob fx (by rfl) k_WORSTS)) (sw_and1 (st_cmp cs_gt (se_tix fx (by rfl) t_WORSTS (sa_cons (se_var 21 (pv 21)) sa_nil)) (se_tix fx (by rfl) t_WORSTS (sa_cons (se_var 12 (pv 12)) sa_nil)))))) (ss_one (ss_set (i := 12) fx rfl (by first | exact Or.inl rfl | exact Or.inr rfl) (se_var 21 (pv 21)))) ss_nil) (ss_one (ss_ret (se_tup (sa_cons (se_min2 fx (by rfl) T.min_ (sa_cons se_int (sa_cons (se_add fx (se_var 3 (pv 3)) (se_var 13 (pv 13))) sa_nil))) (sa_cons (se_min2 fx (by rfl) T.min_ (sa_cons se_int (sa_cons (se_add fx (se_var 4 (pv 4)) (se_var 14 (pv 14))) sa_nil))) (sa_cons (se_min2 fx (by rfl) T.min_ (sa_cons se_int (sa_cons (se_add fx (se_var 5 (pv 5)) (se_var 15 (pv 15))) sa_nil))) (sa_cons (se_min2 fx (by rfl) T.min_ (sa_cons se_int (sa_cons (se_add fx (se_var 6 (pv 6)) (se_var 2 (pv 2))) sa_nil))) (sa_cons (se_and fx (se_var 7 (pv 7)) (se_one (se_var 16 (pv 16)))) (sa_cons (se_and fx (se_var 8 (pv 8)) (se_one (se_var 17 (pv 17)))) (sa_cons (se_or fx (se_var 9 (pv 9)) (se_one (se_var 18 (pv 18)))) (sa_cons (se_or fx (se_var 10 (pv 10)) (se_one (se_var 19 (pv 19)))) (sa_cons (se_or fx (se_var 11 (pv 11)) (se_one (se_var 20 (pv 20)))) (sa_cons (se_var 12 (pv 12)) sa_nil)))))))))))))))))
abbrev s_is_same : Stmt := top 13
abbrev N_is_same : List Str := ["cell", "base", "all_same"]
abbrev p_is_same : List Str := ["cell", "base", "all_same"]
theorem sc_is_same : FnScope N_is_same p_is_same (defScope s_is_same) := ⟨rfl, rfl, rfl, by decide +kernel, rfl, by decide +kernel, by decide +kernel⟩
def m_is_same : M Fl := (sq (sif (asB (enon (evar 0))) (sret (enon (evar 1))) (mr Fl.nx)) (sret (eand (e2 deq (evar 0) (evar 1)) (evar 2))))
def f_is_same : List D → Ou D := fn0 3 3 m_is_same
def dd_is_same : List D := []
theorem ok_is_same {f : Addr} {fd : FuncData} (T : Tx c.mg) (hF : Fs c)  (F : FunD c.K "is_same" "is_same" (defArgs s_is_same) (defBody s_is_same) (defScope s_is_same) [] [] f fd) : FnOk P c.w c.K c.mg base CX0 1 f fd p_is_same (sp0 c f_is_same) :=
  ok_0 (k := 0) F sc_is_same (fM := m_is_same) fun cdv A outer s H E g hr hg fx => by
    subst hg
    exact (ss_cons (ss_if (st_isN (se_var 0 (pv 0))) (ss_one (ss_ret (se_isN (se_var 1 (pv 1))))) ss_nil) (ss_one (ss_ret (se_and fx (se_cmp (cs_eq fx) (se_var 0 (pv 0)) (se_var 1 (pv 1))) (se_one (se_var 2 (pv 2)))))))
abbrev s_value_in : Stmt := top 14
abbrev N_value_in : List Str := ["cell"]
abbrev p_value_in : List Str := ["cell"]
theorem sc_value_in : FnScope N_value_in p_value_in (defScope s_value_in) := ⟨rfl, rfl, rfl, by decide +kernel, rfl, by decide +kernel, by decide +kernel⟩
def m_value_in : M Fl := (sret (eif (asB (enon (evar 0))) (mr D.non) (e2 dix (evar 0) (mr (D.int 0)))))
def f_value_in : List D → Ou D := fn0 1 1 m_value_in
def dd_value_in : List D := []
theorem ok_value_in {f : Addr} {fd : FuncData} (T : Tx c.mg) (hF : Fs c)  (F : FunD c.K "value_in" "value_in" (defArgs s_value_in) (defBody s_value_in) (defScope s_value_in) [] [] f fd) : FnOk P c.w c.K c.mg base CX0 1 f fd p_value_in (sp0 c f_value_in) :=
  ok_0 (k := 0) F sc_value_in (fM := m_value_in) fun cdv A outer s H E g hr hg fx => by
    subst hg
    exact (ss_one (ss_ret (se_if (st_isN (se_var 0 (pv 0))) se_non (se_ix fx (se_var 0 (pv 0)) se_int))))
abbrev s_is_one_of : Stmt := top 37
abbrev N_is_one_of : List Str := ["value", "words"]
abbrev p_is_one_of : List Str := ["value", "words"]
theorem sc_is_one_of : FnScope N_is_one_of p_is_one_of (defScope s_is_one_of) := ⟨rfl, rfl, rfl, by decide +kernel, rfl, by decide +kernel, by decide +kernel⟩
def m_is_one_of : M Fl := (sret (eand (eisi "str" (evar 0)) (e2 (din false) (evar 0) (evar 1))))
def f_is_one_of : List D → Ou D := fn0 2 2 m_is_one_of
def dd_is_one_of : List D := []
theorem ok_is_one_of {f : Addr} {fd : FuncData} (T : Tx c.mg) (hF : Fs c)  (F : FunD c.K "is_one_of" "is_one_of" (defArgs s_is_one_of) (defBody s_is_one_of) (defScope s_is_one_of) [] [] f fd) : FnOk P c.w c.K c.mg base CX0 1 f fd p_is_one_of (sp0 c f_is_one_of) :=
  ok_0 (k := 0) F sc_is_one_of (fM := m_is_one_of) fun cdv A outer s H E g hr hg fx => by
    subst hg
    exact (ss_one (ss_ret (se_and fx (se_isi fx Ask.str (by rfl) T.isinstance_ (pe_bltn (v := .ty "str") (by rfl) (by rw [fx.m]; exact T.str_) (by decide +kernel) rfl) (se_var 0 (pv 0))) (se_one (se_cmp (cs_in fx) (se_var 0 (pv 0)) (se_var 1 (pv 1)))))))
abbrev s_are_flags : Stmt := top 38
abbrev N_are_flags : List Str := ["value", "key"]
abbrev p_are_flags : List Str := ["value"]
theorem sc_are_flags : FnScope N_are_flags p_are_flags (defScope s_are_flags) := ⟨rfl, rfl, rfl, by decide +kernel, rfl, by decide +kernel, by decide +kernel⟩
def m_are_flags : M Fl := (sq (sif (bor (bnot (btru (eisi "dict" (evar 0)))) (asB (e2 dne (mb (acons (evar 0) anil) dlen) (mb (acons (mr d_FLAG_KEYS) anil) dlen)))) (sret (mr (D.bl false))) (mr Fl.nx)) (sret (mb (acons (lcD (mb (mr d_FLAG_KEYS) items) (gname 1) (mr true) (eand (e2 (din false) (evar 1) (evar 0)) (eisi "bool" (e2 dix (evar 0) (evar 1)))) [1]) anil) dall)))
def f_are_flags : List D → Ou D := fn0 1 2 m_are_flags
def dd_are_flags : List D := []
theorem ok_are_flags {f : Addr} {fd : FuncData} (T : Tx c.mg) (hF : Fs c) (k_FLAG_KEYS : KD c "FLAG_KEYS" d_FLAG_KEYS) (F : FunD c.K "are_flags" "are_flags" (defArgs s_are_flags) (defBody s_are_flags) (defScope s_are_flags) [] [] f fd) : FnOk P c.w c.K c.mg base CX0 1 f fd p_are_flags (sp0 c f_are_flags) :=
  ok_0 (k := 0) F sc_are_flags (fM := m_are_flags) fun cdv A outer s H E g hr hg fx => by
    subst hg
    exact (ss_cons (ss_if (st_w (sw_or (st_not (st_val fx (se_isi fx Ask.dict (by rfl) T.isinstance_ (pe_bltn (v := .ty "dict") (by rfl) (by rw [fx.m]; exact T.dict_) (by decide +kernel) rfl) (se_var 0 (pv 0))))) (sw_or1 (st_cmp (cs_ne fx) (se_len fx (by rfl) T.len_ (se_var 0 (pv 0))) (se_len fx (by rfl) T.len_ (se_glob fx (by rfl) k_FLAG_KEYS)))))) (ss_one (ss_ret se_bl)) ss_nil) (ss_one (ss_ret (se_all fx (by rfl) T.all_ (se_of (sf_lc (own := [("key", 1)]) fx (si_seq fx (se_glob fx (by rfl) k_FLAG_KEYS)) (blkOk_by (N := N_are_flags) (sc := defScope s_are_flags) (by decide +kernel)) (fun _ _ _ _ _ => (sg_name (i := 1) fx.blk rfl (by first | exact Or.inl rfl | exact Or.inr rfl))) (fun _ _ _ _ _ => ts_nil) (fun _ _ _ _ _ => (se_and fx.blk (se_cmp (cs_in fx.blk) (se_var 1 (pv 1)) (se_var 0 (pv 0))) (se_one (se_isi fx.blk Ask.bool (by rfl) T.isinstance_ (pe_bltn (v := .ty "bool") (by rfl) (by rw [fx.m]; exact T.bool_) (by decide +kernel) rfl) (se_ix fx.blk (se_var 0 (pv 0)) (se_var 1 (pv 1)))))))))))))
abbrev s_Plan__init : Stmt := inClass (top 36) 0
abbrev N_Plan__init : List Str := ["self", "gone", "alike", "unlike", "tidy", "flags", "key"]
abbrev p_Plan__init : List Str := ["self", "gone", "alike", "unlike", "tidy", "flags"]
theorem sc_Plan__init : FnScope N_Plan__init p_Plan__init (defScope s_Plan__init) := ⟨rfl, rfl, rfl, by decide +kernel, rfl, by decide +kernel, by decide +kernel⟩
def m_Plan__init : M Fl := (sq (sif (bnot (btru (mb (acons (evar 1) (acons (mr d_GONE) anil)) fun ds => call0 f_is_one_of (ds ++ [])))) mx (mr Fl.nx)) (sq (sif (bnot (btru (mb (acons (evar 2) (acons (mr d_ALIKE) anil)) fun ds => call0 f_is_one_of (ds ++ [])))) mx (mr Fl.nx)) (sq (sif (bnot (btru (mb (acons (evar 3) (acons (mr d_UNLIKE) anil)) fun ds => call0 f_is_one_of (ds ++ [])))) mx (mr Fl.nx)) (sq (sif (bnot (btru (eisi "bool" (evar 4)))) mx (mr Fl.nx)) (sq (sif (band (asB (enno (evar 5))) (bnot (btru (mb (acons (evar 5) anil) fun ds => call0 f_are_flags (ds ++ []))))) mx (mr Fl.nx)) (sq (sfld 0 "gone" (evar 1)) (sq (sfld 0 "alike" (evar 2)) (sq (sfld 0 "unlike" (evar 3)) (sq (sfld 0 "tidy" (evar 4)) (sfld 0 "_told_flags" (eif (asB (enon (evar 5))) (mr D.non) (mb (acons (lcD (mb (mr d_FLAG_KEYS) items) (gname 6) (mr true) (etup (acons (evar 6) (acons (e2 dix (evar 5) (evar 6)) anil))) [6]) anil) dtuple))))))))))))
def f_Plan__init : List D → Ou (List Str × List D) := fnI 6 7 m_Plan__init
def dd_Plan__init : List D := [.non]
theorem ok_Plan__init {f : Addr} {fd : FuncData} (T : Tx c.mg) (hF : Fs c) (h_is_one_of : ClD P base c 1 "is_one_of" ["value", "words"] (sp0 c f_is_one_of) []) (k_GONE : KD c "GONE" d_GONE) (k_ALIKE : KD c "ALIKE" d_ALIKE) (k_UNLIKE : KD c "UNLIKE" d_UNLIKE) (h_are_flags : ClD P base c 1 "are_flags" ["value"] (sp0 c f_are_flags) []) (k_FLAG_KEYS : KD c "FLAG_KEYS" d_FLAG_KEYS) (F : FunD c.K "__init__" "Plan.__init__" (defArgs s_Plan__init) (defBody s_Plan__init) (defScope s_Plan__init) [.non] [] f fd) : FnOk P c.w c.K c.mg base CX0 2 f fd p_Plan__init (spI c "Plan" f_Plan__init) :=
  ok_I (k := 1) (n := "Plan") F sc_Plan__init (fM := m_Plan__init) fun cdv A outer s H E g hr hg hs hp fx => by
    subst hg
    exact (ss_cons (ss_if (st_not (st_val fx (se_call0 fx h_is_one_of (hr.mono (by decide)) (by rfl) (sa_cons (se_var 1 (pv 1)) (sa_cons (se_glob fx (by rfl) k_GONE) sa_nil))))) (ss_one ss_never) ss_nil) (ss_cons (ss_if (st_not (st_val fx (se_call0 fx h_is_one_of (hr.mono (by decide)) (by rfl) (sa_cons (se_var 2 (pv 2)) (sa_cons (se_glob fx (by rfl) k_ALIKE) sa_nil))))) (ss_one ss_never) ss_nil) (ss_cons (ss_if (st_not (st_val fx (se_call0 fx h_is_one_of (hr.mono (by decide)) (by rfl) (sa_cons (se_var 3 (pv 3)) (sa_cons (se_glob fx (by rfl) k_UNLIKE) sa_nil))))) (ss_one ss_never) ss_nil) (ss_cons (ss_if (st_not (st_val fx (se_isi fx Ask.bool (by rfl) T.isinstance_ (pe_bltn (v := .ty "bool") (by rfl) (by rw [fx.m]; exact T.bool_) (by decide +kernel) rfl) (se_var 4 (pv 4))))) (ss_one ss_never) ss_nil) (ss_cons (ss_if (st_w (sw_and (st_noN (se_var 5 (pv 5))) (sw_and1 (st_not (st_val fx (se_call0 fx h_are_flags (hr.mono (by decide)) (by rfl) (sa_cons (se_var 5 (pv 5)) sa_nil))))))) (ss_one ss_never) ss_nil) (ss_cons (ss_fld (i := 0) fx hs hp (ff1_Plan_gone hF) (pv 0) (se_var 1 (pv 1))) (ss_cons (ss_fld (i := 0) fx hs hp (ff1_Plan_alike hF) (pv 0) (se_var 2 (pv 2))) (ss_cons (ss_fld (i := 0) fx hs hp (ff1_Plan_unlike hF) (pv 0) (se_var 3 (pv 3))) (ss_cons (ss_fld (i := 0) fx hs hp (ff1_Plan_tidy hF) (pv 0) (se_var 4 (pv 4))) (ss_one (ss_fld (i := 0) fx hs hp (ff1_Plan__told_flags hF) (pv 0) (se_if (st_isN (se_var 5 (pv 5))) se_non (se_tupleC fx (by rfl) T.tuple_ (se_of (sf_lc (own := [("key", 6)]) fx (si_seq fx (se_glob fx (by rfl) k_FLAG_KEYS)) (blkOk_by (N := N_Plan__init) (sc := defScope s_Plan__init) (by decide +kernel)) (fun _ _ _ _ _ => (sg_name (i := 6) fx.blk rfl (by first | exact Or.inl rfl | exact Or.inr rfl))) (fun _ _ _ _ _ => ts_nil) (fun _ _ _ _ _ => (se_tup (sa_cons (se_var 6 (pv 6)) (sa_cons (se_ix fx.blk (se_var 5 (pv 5)) (se_var 6 (pv 6))) sa_nil)))))))))))))))))))
abbrev s_Plan_flags : Stmt := inClass (top 36) 2
abbrev N_Plan_flags : List Str := ["self", "key", "flag"]
abbrev p_Plan_flags : List Str := ["self"]
theorem sc_Plan_flags : FnScope N_Plan_flags p_Plan_flags (defScope s_Plan_flags) := ⟨rfl, rfl, rfl, by decide +kernel, rfl, by decide +kernel, by decide +kernel⟩
def m_Plan_flags : M Fl := (sret (eif (asB (enon (mb (evar 0) (dfld ["Plan"] "_told_flags")))) (mr D.non) (dcD (mb (mb (evar 0) (dfld ["Plan"] "_told_flags")) items) (gtup 2 (gcons (gname 1) (gcons (gname 2) gnil))) (mr true) (evar 1) (evar 2) [1, 2])))
def f_Plan_flags : List D → Ou D := fn0 1 3 m_Plan_flags
def dd_Plan_flags : List D := []
theorem ok_Plan_flags {f : Addr} {fd : FuncData} (T : Tx c.mg) (hF : Fs c)  (F : FunD c.K "flags" "Plan.flags" (defArgs s_Plan_flags) (defBody s_Plan_flags) (defScope s_Plan_flags) [] [] f fd) : FnOk P c.w c.K c.mg base CX0 1 f fd p_Plan_flags (sp0 c f_Plan_flags) :=
  ok_0 (k := 0) F sc_Plan_flags (fM := m_Plan_flags) fun cdv A outer s H E g hr hg fx => by
    subst hg
    exact (ss_one (ss_ret (se_if (st_isN (se_fld fx ["Plan"] (se_var 0 (pv 0)) (ff__told_flags hF))) se_non (se_of (sf_dc (own := [("key", 1), ("flag", 2)]) fx (si_seq fx (se_fld fx ["Plan"] (se_var 0 (pv 0)) (ff__told_flags hF))) (blkOk_by (N := N_Plan_flags) (sc := defScope s_Plan_flags) (by decide +kernel)) (fun _ _ _ _ _ => (sg_tup (n := 2) fx.blk (sg_cons (sg_name (i := 1) fx.blk rfl (by first | exact Or.inl rfl | exact Or.inr rfl)) (sg_cons (sg_name (i := 2) fx.blk rfl (by first | exact Or.inl rfl | exact Or.inr rfl)) sg_nil)))) (fun _ _ _ _ _ => ts_nil) (fun _ _ _ _ _ => (se_var 1 (pv 1))) (fun _ _ _ _ _ => (se_var 2 (pv 2))))))))
abbrev s_is_integer : Stmt := top 22
abbrev N_is_integer : List Str := ["value"]
abbrev p_is_integer : List Str := ["value"]
theorem sc_is_integer : FnScope N_is_integer p_is_integer (defScope s_is_integer) := ⟨rfl, rfl, rfl, by decide +kernel, rfl, by decide +kernel, by decide +kernel⟩
def m_is_integer : M Fl := (sret (eand (eisi "int" (evar 0)) (enot (eisi "bool" (evar 0)))))
def f_is_integer : List D → Ou D := fn0 1 1 m_is_integer
def dd_is_integer : List D := []
theorem ok_is_integer {f : Addr} {fd : FuncData} (T : Tx c.mg) (hF : Fs c)  (F : FunD c.K "is_integer" "is_integer" (defArgs s_is_integer) (defBody s_is_integer) (defScope s_is_integer) [] [] f fd) : FnOk P c.w c.K c.mg base CX0 1 f fd p_is_integer (sp0 c f_is_integer) :=
  ok_0 (k := 0) F sc_is_integer (fM := m_is_integer) fun cdv A outer s H E g hr hg fx => by
    subst hg
    exact (ss_one (ss_ret (se_and fx (se_isi fx Ask.int (by rfl) T.isinstance_ (pe_bltn (v := .ty "int") (by rfl) (by rw [fx.m]; exact T.int_) (by decide +kernel) rfl) (se_var 0 (pv 0))) (se_one (se_not fx (se_isi fx Ask.bool (by rfl) T.isinstance_ (pe_bltn (v := .ty "bool") (by rfl) (by rw [fx.m]; exact T.bool_) (by decide +kernel) rfl) (se_var 0 (pv 0))))))))
abbrev s_is_kind : Stmt := top 29
abbrev N_is_kind : List Str := ["value", "kept", "flag", "children"]
abbrev p_is_kind : List Str := ["value"]
theorem sc_is_kind : FnScope N_is_kind p_is_kind (defScope s_is_kind) := ⟨rfl, rfl, rfl, by decide +kernel, rfl, by decide +kernel, by decide +kernel⟩
def m_is_kind : M Fl := (sq (sif (bor (bnot (btru (eisr (evar 0)))) (asB (e2 dne (mb (acons (evar 0) anil) dlen) (mr (D.int 3))))) (sret (mr (D.bl false))) (mr Fl.nx)) (sq (sasg (evar 0) (gtup 3 (gcons (gname 1) (gcons (gname 2) (gcons (gname 3) gnil))))) (sret (eand (eisi "bool" (evar 1)) (eand (eisi "bool" (evar 2)) (eand (mb (acons (evar 3) anil) fun ds => call0 f_is_integer (ds ++ [])) (e3 dle dle (mr (D.int 0)) (evar 3) (mr (D.int 2)))))))))
def f_is_kind : List D → Ou D := fn0 1 4 m_is_kind
def dd_is_kind : List D := []
theorem ok_is_kind {f : Addr} {fd : FuncData} (T : Tx c.mg) (hF : Fs c) (h_is_integer : ClD P base c 1 "is_integer" ["value"] (sp0 c f_is_integer) []) (F : FunD c.K "is_kind" "is_kind" (defArgs s_is_kind) (defBody s_is_kind) (defScope s_is_kind) [] [] f fd) : FnOk P c.w c.K c.mg base CX0 2 f fd p_is_kind (sp0 c f_is_kind) :=
  ok_0 (k := 1) F sc_is_kind (fM := m_is_kind) fun cdv A outer s H E g hr hg fx => by
    subst hg
    exact (ss_cons (ss_if (st_w (sw_or (st_not (st_val fx (se_isr fx Ask2.tl (by rfl) T.isinstance_ (pe_bltn (v := .ty "tuple") (by rfl) (by rw [fx.m]; exact T.tuple_) (by decide +kernel) rfl) (pe_bltn (v := .ty "list") (by rfl) (by rw [fx.m]; exact T.list_) (by decide +kernel) rfl) (se_var 0 (pv 0))))) (sw_or1 (st_cmp (cs_ne fx) (se_len fx (by rfl) T.len_ (se_var 0 (pv 0))) se_int)))) (ss_one (ss_ret se_bl)) ss_nil) (ss_cons (ss_asg (se_var 0 (pv 0)) (sg_tup (n := 3) fx (sg_cons (sg_name (i := 1) fx rfl (by first | exact Or.inl rfl | exact Or.inr rfl)) (sg_cons (sg_name (i := 2) fx rfl (by first | exact Or.inl rfl | exact Or.inr rfl)) (sg_cons (sg_name (i := 3) fx rfl (by first | exact Or.inl rfl | exact Or.inr rfl)) sg_nil))))) (ss_one (ss_ret (se_and fx (se_isi fx Ask.bool (by rfl) T.isinstance_ (pe_bltn (v := .ty "bool") (by rfl) (by rw [fx.m]; exact T.bool_) (by decide +kernel) rfl) (se_var 1 (pv 1))) (se_and fx (se_isi fx Ask.bool (by rfl) T.isinstance_ (pe_bltn (v := .ty "bool") (by rfl) (by rw [fx.m]; exact T.bool_) (by decide +kernel) rfl) (se_var 2 (pv 2))) (se_and fx (se_call0 fx h_is_integer (hr.mono (by decide)) (by rfl) (sa_cons (se_var 3 (pv 3)) sa_nil)) (se_one (se_chain cs_le cs_le se_int (se_var 3 (pv 3)) se_int)))))))))
abbrev s_checked_kinds : Stmt := top 30
abbrev N_checked_kinds : List Str := ["side", "kinds", "found", "number", "kind"]
abbrev p_checked_kinds : List Str := ["side", "kinds"]
theorem sc_checked_kinds : FnScope N_checked_kinds p_checked_kinds (defScope s_checked_kinds) := ⟨rfl, rfl, rfl, by decide +kernel, rfl, by decide +kernel, by decide +kernel⟩
def m_checked_kinds : M Fl := (sq (asgO 2 (elst anil)) (sq (sfor (mb (acons (evar 1) anil) denum) (gtup 2 (gcons (gname 3) (gcons (gname 4) gnil))) (sq (sif (bor (bnot (btru (mb (acons (evar 4) anil) fun ds => call0 f_is_kind (ds ++ [])))) (peekB 2 (asB (e2 (din false) (mb (acons (evar 4) anil) dtuple) (evar 2))))) mx (mr Fl.nx)) (sapp 2 (mb (acons (evar 4) anil) dtuple)))) (sq (frz 2) (sret (mb (acons (mb (acons (evar 2) anil) dsort) anil) dtuple)))))
def f_checked_kinds : List D → Ou D := fn0 2 5 m_checked_kinds
def dd_checked_kinds : List D := []
theorem ok_checked_kinds {f : Addr} {fd : FuncData} (T : Tx c.mg) (hF : Fs c) (h_is_kind : ClD P base c 2 "is_kind" ["value"] (sp0 c f_is_kind) []) (F : FunD c.K "checked_kinds" "checked_kinds" (defArgs s_checked_kinds) (defBody s_checked_kinds) (defScope s_checked_kinds) [] [] f fd) : FnOk P c.w c.K c.mg base CX0 3 f fd p_checked_kinds (sp0 c f_checked_kinds) :=
  ok_0 (k := 2) F sc_checked_kinds (fM := m_checked_kinds) fun cdv A outer s H E g hr hg fx => by
    subst hg
    exact (ss_cons (ss_setO (i := 2) fx rfl (by first | exact Or.inl rfl | exact Or.inr rfl) (sf_lst sa_nil)) (ss_cons (ss_for fx (si_enum fx (by rfl) T.enumerate_ (sa_cons (se_var 1 (pv 1)) sa_nil)) (sg_tup (n := 2) fx (sg_cons (sg_name (i := 3) fx rfl (by first | exact Or.inl rfl | exact Or.inr rfl)) (sg_cons (sg_name (i := 4) fx rfl (by first | exact Or.inl rfl | exact Or.inr rfl)) sg_nil))) (ss_cons (ss_if (st_w (sw_or (st_not (st_val fx (se_call0 fx h_is_kind (hr.mono (by decide)) (by rfl) (sa_cons (se_var 4 (pv 4)) sa_nil)))) (sw_or1 (st_peek 2 (st_cmp (cs_in fx) (se_tupleC fx (by rfl) T.tuple_ (se_var 4 (pv 4))) (se_var 2 (pv 2))))))) (ss_one ss_never) ss_nil) (ss_one (ss_append (i := 2) (pv 2) (se_tupleC fx (by rfl) T.tuple_ (se_var 4 (pv 4))))))) (ss_frz 2 (ss_one (ss_ret (se_tupleC fx (by rfl) T.tuple_ (se_of (sf_sort fx (by rfl) T.sorted_ (sa_cons (se_var 2 (pv 2)) sa_nil)))))))))
abbrev s_Rule__init : Stmt := inClass (top 28) 0
abbrev N_Rule__init : List Str := ["self", "root", "others"]
abbrev p_Rule__init : List Str := ["self", "root", "others"]
theorem sc_Rule__init : FnScope N_Rule__init p_Rule__init (defScope s_Rule__init) := ⟨rfl, rfl, rfl, by decide +kernel, rfl, by decide +kernel, by decide +kernel⟩
def m_Rule__init : M Fl := (sq (sfld 0 "root" (mb (acons (mr (D.str "root")) (acons (evar 1) anil)) fun ds => call0 f_checked_kinds (ds ++ []))) (sfld 0 "others" (mb (acons (mr (D.str "others")) (acons (evar 2) anil)) fun ds => call0 f_checked_kinds (ds ++ []))))
def f_Rule__init : List D → Ou (List Str × List D) := fnI 3 3 m_Rule__init
def dd_Rule__init : List D := []
theorem ok_Rule__init {f : Addr} {fd : FuncData} (T : Tx c.mg) (hF : Fs c) (h_checked_kinds : ClD P base c 3 "checked_kinds" ["side", "kinds"] (sp0 c f_checked_kinds) []) (F : FunD c.K "__init__" "Rule.__init__" (defArgs s_Rule__init) (defBody s_Rule__init) (defScope s_Rule__init) [] [] f fd) : FnOk P c.w c.K c.mg base CX0 4 f fd p_Rule__init (spI c "Rule" f_Rule__init) :=
  ok_I (k := 3) (n := "Rule") F sc_Rule__init (fM := m_Rule__init) fun cdv A outer s H E g hr hg hs hp fx => by
    subst hg
    exact (ss_cons (ss_fld (i := 0) fx hs hp (ff1_Rule_root hF) (pv 0) (se_call0 fx h_checked_kinds (hr.mono (by decide)) (by rfl) (sa_cons se_str (sa_cons (se_var 1 (pv 1)) sa_nil)))) (ss_one (ss_fld (i := 0) fx hs hp (ff1_Rule_others hF) (pv 0) (se_call0 fx h_checked_kinds (hr.mono (by decide)) (by rfl) (sa_cons se_str (sa_cons (se_var 2 (pv 2)) sa_nil))))))
abbrev s_Caser__init : Stmt := inClass (top 15) 0
abbrev N_Caser__init : List Str := ["self", "plan", "rule"]
abbrev p_Caser__init : List Str := ["self", "plan", "rule"]
theorem sc_Caser__init : FnScope N_Caser__init p_Caser__init (defScope s_Caser__init) := ⟨rfl, rfl, rfl, by decide +kernel, rfl, by decide +kernel, by decide +kernel⟩
def m_Caser__init : M Fl := (sq (sfld 0 "plan" (evar 1)) (sq (sfld 0 "told_flags" (mb (evar 1) (dprop "Plan" f_Plan_flags))) (sq (sfld 0 "rule" (evar 2)) (sfld 0 "triples" (mr (D.dct [] []))))))
def f_Caser__init : List D → Ou (List Str × List D) := fnI 3 3 m_Caser__init
def dd_Caser__init : List D := []
theorem ok_Caser__init {f : Addr} {fd : FuncData} (T : Tx c.mg) (hF : Fs c) (h_Plan_flags : ClR P base c 1 "Plan" "flags" f_Plan_flags) (F : FunD c.K "__init__" "Caser.__init__" (defArgs s_Caser__init) (defBody s_Caser__init) (defScope s_Caser__init) [] [] f fd) : FnOk P c.w c.K c.mg base CX0 3 f fd p_Caser__init (spI c "Caser" f_Caser__init) :=
  ok_I (k := 2) (n := "Caser") F sc_Caser__init (fM := m_Caser__init) fun cdv A outer s H E g hr hg hs hp fx => by
    subst hg
    exact (ss_cons (ss_fld (i := 0) fx hs hp (ff1_Caser_plan hF) (pv 0) (se_var 1 (pv 1))) (ss_cons (ss_fld (i := 0) fx hs hp (ff1_Caser_told_flags hF) (pv 0) (se_prop fx h_Plan_flags (hr.mono (by decide)) (se_var 1 (pv 1)))) (ss_cons (ss_fld (i := 0) fx hs hp (ff1_Caser_rule hF) (pv 0) (se_var 2 (pv 2))) (ss_one (ss_fld (i := 0) fx hs hp (ff1_Caser_triples hF) (pv 0) (se_of sf_dnew))))))
abbrev s_Caser_is_let : Stmt := inClass (top 15) 1
abbrev N_Caser_is_let : List Str := ["self", "cell", "children", "root"]
abbrev p_Caser_is_let : List Str := ["self", "cell", "children", "root"]
theorem sc_Caser_is_let : FnScope N_Caser_is_let p_Caser_is_let (defScope s_Caser_is_let) := ⟨rfl, rfl, rfl, by decide +kernel, rfl, by decide +kernel, by decide +kernel⟩
def m_Caser_is_let : M Fl := (sq (sif (asB (enon (evar 1))) (sret (eand (e2 deq (evar 2) (mr (D.int 0))) (enot (evar 3)))) (mr Fl.nx)) (sret (e2 (din false) (etup (acons (enno (e2 dix (evar 1) (mr (D.int 0)))) (acons (e2 dix (evar 1) (mr (D.int 1))) (acons (evar 2) anil)))) (eif (btru (evar 3)) (mb (mb (evar 0) (dfld ["Caser"] "rule")) (dfld ["Rule"] "root")) (mb (mb (evar 0) (dfld ["Caser"] "rule")) (dfld ["Rule"] "others"))))))
def f_Caser_is_let : List D → Ou D := fn0 4 4 m_Caser_is_let
def dd_Caser_is_let : List D := []
theorem ok_Caser_is_let {f : Addr} {fd : FuncData} (T : Tx c.mg) (hF : Fs c)  (F : FunD c.K "is_let" "Caser.is_let" (defArgs s_Caser_is_let) (defBody s_Caser_is_let) (defScope s_Caser_is_let) [] [] f fd) : FnOk P c.w c.K c.mg base CX0 1 f fd p_Caser_is_let (sp0 c f_Caser_is_let) :=
  ok_0 (k := 0) F sc_Caser_is_let (fM := m_Caser_is_let) fun cdv A outer s H E g hr hg fx => by
    subst hg
    exact (ss_cons (ss_if (st_isN (se_var 1 (pv 1))) (ss_one (ss_ret (se_and fx (se_cmp (cs_eq fx) (se_var 2 (pv 2)) se_int) (se_one (se_not fx (se_var 3 (pv 3))))))) ss_nil) (ss_one (ss_ret (se_cmp (cs_in fx) (se_tup (sa_cons (se_noN (se_ix fx (se_var 1 (pv 1)) se_int)) (sa_cons (se_ix fx (se_var 1 (pv 1)) se_int) (sa_cons (se_var 2 (pv 2)) sa_nil)))) (se_if (st_val fx (se_var 3 (pv 3))) (se_fld fx ["Rule"] (se_fld fx ["Caser"] (se_var 0 (pv 0)) (ff_rule hF)) (ff_root hF)) (se_fld fx ["Rule"] (se_fld fx ["Caser"] (se_var 0 (pv 0)) (ff_rule hF)) (ff_others hF)))))))
abbrev s_Caser_outcome_on : Stmt := inClass (top 15) 5
abbrev N_Caser_outcome_on : List Str := ["self", "total", "cells", "root", "made", "flag", "results", "worst", "value"]
abbrev p_Caser_outcome_on : List Str := ["self", "total", "cells", "root"]
theorem sc_Caser_outcome_on : FnScope N_Caser_outcome_on p_Caser_outcome_on (defScope s_Caser_outcome_on) := ⟨rfl, rfl, rfl, by decide +kernel, rfl, by decide +kernel, by decide +kernel⟩
def m_Caser_outcome_on : M Fl := (sq (asg 4 (mb (acons (mb (evar 0) (dfld ["Caser"] "plan")) (acons (evar 2) anil)) fun ds => call0 f_merged_cell (ds ++ []))) (sq (spar 6 7 (acons (e2 dix (evar 1) (mr (D.int 3))) (acons (e2 dix (evar 1) (mr (D.int 9))) anil))) (sq (sif (bor (asB (e2 deq (evar 7) (mr (D.str "clash")))) (asB (enon (evar 4)))) (sret (mr (D.str "clash"))) (mr Fl.nx)) (sq (sasg (evar 4) (gtup 2 (gcons (gname 8) (gcons (gname 5) gnil)))) (sq (sif (btru (mb (acons (mb (evar 0) (dfld ["Caser"] "plan")) (acons (evar 3) (acons (evar 8) (acons (evar 6) anil)))) fun ds => call0 f_is_left_out (ds ++ []))) (sret (mr (D.str "none"))) (mr Fl.nx)) (sq (sif (bor (asB (e2 deq (evar 7) (mr (D.str "words")))) (asB (e2 (din true) (evar 8) (mb (acons (mb (acons (e2 dix (evar 2) (mr (D.int 0))) anil) fun ds => call0 f_value_in (ds ++ [])) (acons (mb (acons (e2 dix (evar 2) (mr (D.int 1))) anil) fun ds => call0 f_value_in (ds ++ [])) (acons (mb (acons (e2 dix (evar 2) (mr (D.int 2))) anil) fun ds => call0 f_value_in (ds ++ [])) anil))) fun ds => call0 f_due_values (ds ++ []))))) (sret (mr (D.str "words"))) (mr Fl.nx)) (sq (asg 5 (mb (acons (mb (evar 0) (dfld ["Caser"] "told_flags")) (acons (evar 3) (acons (evar 8) (acons (evar 6) (acons (evar 5) anil))))) fun ds => call0 f_told_flag (ds ++ []))) (sq (sif (bor (asB (e2 deq (evar 7) (mr (D.str "rule")))) (bnot (btru (mb (evar 0) (dmeth "Caser" "is_let" f_Caser_is_let [] (acons (etup (acons (evar 8) (acons (evar 5) anil))) (acons (evar 6) (acons (evar 3) anil)))))))) (sret (mr (D.str "rule"))) (mr Fl.nx)) (sret (mr (D.str "tree")))))))))))
def f_Caser_outcome_on : List D → Ou D := fn0 4 9 m_Caser_outcome_on
def dd_Caser_outcome_on : List D := []
theorem ok_Caser_outcome_on {f : Addr} {fd : FuncData} (T : Tx c.mg) (hF : Fs c) (h_merged_cell : ClD P base c 2 "merged_cell" ["plan", "cells"] (sp0 c f_merged_cell) []) (h_is_left_out : ClD P base c 1 "is_left_out" ["plan", "root", "value", "children"] (sp0 c f_is_left_out) []) (h_due_values : ClD P base c 1 "due_values" ["base", "one", "other"] (sp0 c f_due_values) []) (h_value_in : ClD P base c 1 "value_in" ["cell"] (sp0 c f_value_in) []) (h_told_flag : ClD P base c 1 "told_flag" ["flags", "root", "value", "children", "flag"] (sp0 c f_told_flag) []) (h_Caser_is_let : ClM P base c 1 "Caser" "is_let" (sp0 c f_Caser_is_let) []) (F : FunD c.K "outcome_on" "Caser.outcome_on" (defArgs s_Caser_outcome_on) (defBody s_Caser_outcome_on) (defScope s_Caser_outcome_on) [] [] f fd) : FnOk P c.w c.K c.mg base CX0 3 f fd p_Caser_outcome_on (sp0 c f_Caser_outcome_on) :=
  ok_0 (k := 2) F sc_Caser_outcome_on (fM := m_Caser_outcome_on) fun cdv A outer s H E g hr hg fx => by
    subst hg
    exact (ss_cons (ss_set (i := 4) fx rfl (by first | exact Or.inl rfl | exact Or.inr rfl) (se_call0 fx h_merged_cell (hr.mono (by decide)) (by rfl) (sa_cons (se_fld fx ["Caser"] (se_var 0 (pv 0)) (ff_plan hF)) (sa_cons (se_var 2 (pv 2)) sa_nil)))) (ss_cons (ss_par (i := 6) (j := 7) fx rfl rfl (by decide) rfl rfl (sa_cons (se_ix fx (se_var 1 (pv 1)) se_int) (sa_cons (se_ix fx (se_var 1 (pv 1)) se_int) sa_nil)) (by rfl)) (ss_cons (ss_if (st_w (sw_or (st_cmp (cs_eq fx) (se_var 7 (pv 7)) se_str) (sw_or1 (st_isN (se_var 4 (pv 4)))))) (ss_one (ss_ret se_str)) ss_nil) (ss_cons (ss_asg (se_var 4 (pv 4)) (sg_tup (n := 2) fx (sg_cons (sg_name (i := 8) fx rfl (by first | exact Or.inl rfl | exact Or.inr rfl)) (sg_cons (sg_name (i := 5) fx rfl (by first | exact Or.inl rfl | exact Or.inr rfl)) sg_nil)))) (ss_cons (ss_if (st_val fx (se_call0 fx h_is_left_out (hr.mono (by decide)) (by rfl) (sa_cons (se_fld fx ["Caser"] (se_var 0 (pv 0)) (ff_plan hF)) (sa_cons (se_var 3 (pv 3)) (sa_cons (se_var 8 (pv 8)) (sa_cons (se_var 6 (pv 6)) sa_nil)))))) (ss_one (ss_ret se_str)) ss_nil) (ss_cons (ss_if (st_w (sw_or (st_cmp (cs_eq fx) (se_var 7 (pv 7)) se_str) (sw_or1 (st_cmp (cs_notIn fx) (se_var 8 (pv 8)) (se_call0 fx h_due_values (hr.mono (by decide)) (by rfl) (sa_cons (se_call0 fx h_value_in (hr.mono (by decide)) (by rfl) (sa_cons (se_ix fx (se_var 2 (pv 2)) se_int) sa_nil)) (sa_cons (se_call0 fx h_value_in (hr.mono (by decide)) (by rfl) (sa_cons (se_ix fx (se_var 2 (pv 2)) se_int) sa_nil)) (sa_cons (se_call0 fx h_value_in (hr.mono (by decide)) (by rfl) (sa_cons (se_ix fx (se_var 2 (pv 2)) se_int) sa_nil)) sa_nil)))))))) (ss_one (ss_ret se_str)) ss_nil) (ss_cons (ss_set (i := 5) fx rfl (by first | exact Or.inl rfl | exact Or.inr rfl) (se_call0 fx h_told_flag (hr.mono (by decide)) (by rfl) (sa_cons (se_fld fx ["Caser"] (se_var 0 (pv 0)) (ff_told_flags hF)) (sa_cons (se_var 3 (pv 3)) (sa_cons (se_var 8 (pv 8)) (sa_cons (se_var 6 (pv 6)) (sa_cons (se_var 5 (pv 5)) sa_nil))))))) (ss_cons (ss_if (st_w (sw_or (st_cmp (cs_eq fx) (se_var 7 (pv 7)) se_str) (sw_or1 (st_not (st_val fx (se_meth fx h_Caser_is_let (hr.mono (by decide)) (se_var 0 (pv 0)) (sa_cons (se_tup (sa_cons (se_var 8 (pv 8)) (sa_cons (se_var 5 (pv 5)) sa_nil))) (sa_cons (se_var 6 (pv 6)) (sa_cons (se_var 3 (pv 3)) sa_nil))))))))) (ss_one (ss_ret se_str)) ss_nil) (ss_one (ss_ret se_str))))))))))
abbrev s_Caser_case : Stmt := inClass (top 15) 4
abbrev N_Caser_case : List Str := ["self", "total", "cells", "root", "one_same", "other_same", "values", "alike_one", "alike_other", "both", "there", "step", "base", "one", "other", "outcome", "cell"]
abbrev p_Caser_case : List Str := ["self", "total", "cells", "root"]
theorem sc_Caser_case : FnScope N_Caser_case p_Caser_case (defScope s_Caser_case) := ⟨rfl, rfl, rfl, by decide +kernel, rfl, by decide +kernel, by decide +kernel⟩
def m_Caser_case : M Fl := (sq (sasg (evar 2) (gtup 3 (gcons (gname 12) (gcons (gname 13) (gcons (gname 14) gnil))))) (sq (asg 4 (mb (acons (evar 13) (acons (evar 12) (acons (e2 dix (evar 1) (mr (D.int 4))) anil))) fun ds => call0 f_is_same (ds ++ []))) (sq (asg 5 (mb (acons (evar 14) (acons (evar 12) (acons (e2 dix (evar 1) (mr (D.int 5))) anil))) fun ds => call0 f_is_same (ds ++ []))) (sq (asg 6 (lcD (mb (evar 2) items) (gname 16) (mr true) (mb (acons (evar 16) anil) fun ds => call0 f_value_in (ds ++ [])) [16])) (sq (asg 7 (eor (eand (enno (e2 dix (evar 6) (mr (D.int 0)))) (e2 deq (e2 dix (evar 6) (mr (D.int 1))) (e2 dix (evar 6) (mr (D.int 0))))) (e2 dix (evar 1) (mr (D.int 6))))) (sq (asg 8 (eor (eand (enno (e2 dix (evar 6) (mr (D.int 0)))) (e2 deq (e2 dix (evar 6) (mr (D.int 2))) (e2 dix (evar 6) (mr (D.int 0))))) (e2 dix (evar 1) (mr (D.int 7))))) (sq (asg 9 (eor (eand (e2 dne (e2 dix (evar 6) (mr (D.int 1))) (e2 dix (evar 6) (mr (D.int 0)))) (e2 dne (e2 dix (evar 6) (mr (D.int 2))) (e2 dix (evar 6) (mr (D.int 0))))) (e2 dix (evar 1) (mr (D.int 8))))) (sq (asg 10 (etup (acons (enno (evar 12)) (acons (enno (evar 13)) (acons (enno (evar 14)) anil))))) (sq (asg 11 (mb (acons (mb (evar 0) (dfld ["Caser"] "plan")) (acons (evar 10) (acons (evar 4) (acons (evar 5) anil)))) fun ds => call0 f_next_step (ds ++ []))) (sq (sif (asB (e2 deq (evar 11) (mr (D.str "on")))) (asg 15 (mb (evar 0) (dmeth "Caser" "outcome_on" f_Caser_outcome_on [] (acons (evar 1) (acons (evar 2) (acons (evar 3) anil)))))) (sif (asB (e2 deq (evar 11) (mr (D.str "clash")))) (asg 15 (mr (D.str "clash"))) (sif (bnot (bifE (asB (e2 deq (evar 11) (mr (D.str "one")))) (btru (e2 dix (evar 10) (mr (D.int 1)))) (btru (e2 dix (evar 10) (mr (D.int 2)))))) (asg 15 (mr (D.str "none"))) (sif (bor (btru (evar 4)) (btru (evar 5))) (asg 15 (mr (D.str "tree"))) (asg 15 (eif (bifE (asB (e2 deq (evar 11) (mr (D.str "one")))) (btru (evar 7)) (btru (evar 8))) (mr (D.str "words")) (mr (D.str "tree")))))))) (sret (e2 dadd (evar 10) (etup (acons (evar 4) (acons (evar 5) (acons (evar 7) (acons (evar 8) (acons (evar 9) (acons (evar 15) anil)))))))))))))))))))
def f_Caser_case : List D → Ou D := fn0 4 17 m_Caser_case
def dd_Caser_case : List D := []
theorem ok_Caser_case {f : Addr} {fd : FuncData} (T : Tx c.mg) (hF : Fs c) (h_is_same : ClD P base c 1 "is_same" ["cell", "base", "all_same"] (sp0 c f_is_same) []) (h_value_in : ClD P base c 1 "value_in" ["cell"] (sp0 c f_value_in) []) (h_next_step : ClD P base c 1 "next_step" ["plan", "there", "one_same", "other_same"] (sp0 c f_next_step) []) (h_Caser_outcome_on : ClM P base c 3 "Caser" "outcome_on" (sp0 c f_Caser_outcome_on) []) (F : FunD c.K "case" "Caser.case" (defArgs s_Caser_case) (defBody s_Caser_case) (defScope s_Caser_case) [] [] f fd) : FnOk P c.w c.K c.mg base CX0 4 f fd p_Caser_case (sp0 c f_Caser_case) :=
  ok_0 (k := 3) F sc_Caser_case (fM := m_Caser_case) fun cdv A outer s H E g hr hg fx => by
    subst hg
    exact (ss_cons (ss_asg (se_var 2 (pv 2)) (sg_tup (n := 3) fx (sg_cons (sg_name (i := 12) fx rfl (by first | exact Or.inl rfl | exact Or.inr rfl)) (sg_cons (sg_name (i := 13) fx rfl (by first | exact Or.inl rfl | exact Or.inr rfl)) (sg_cons (sg_name (i := 14) fx rfl (by first | exact Or.inl rfl | exact Or.inr rfl)) sg_nil))))) (ss_cons (ss_set (i := 4) fx rfl (by first | exact Or.inl rfl | exact Or.inr rfl) (se_call0 fx h_is_same (hr.mono (by decide)) (by rfl) (sa_cons (se_var 13 (pv 13)) (sa_cons (se_var 12 (pv 12)) (sa_cons (se_ix fx (se_var 1 (pv 1)) se_int) sa_nil))))) (ss_cons (ss_set (i := 5) fx rfl (by first | exact Or.inl rfl | exact Or.inr rfl) (se_call0 fx h_is_same (hr.mono (by decide)) (by rfl) (sa_cons (se_var 14 (pv 14)) (sa_cons (se_var 12 (pv 12)) (sa_cons (se_ix fx (se_var 1 (pv 1)) se_int) sa_nil))))) (ss_cons (ss_lc (i := 6) (own := [("cell", 16)]) fx rfl rfl (sw_true rfl rfl rfl (by decide +kernel)) (si_seq fx (se_var 2 (pv 2))) (blkOk_by (N := N_Caser_case) (sc := defScope s_Caser_case) (by decide +kernel)) (fun _ _ _ _ _ => (sg_name (i := 16) fx.blk rfl (by first | exact Or.inl rfl | exact Or.inr rfl))) (fun _ _ _ _ _ => ts_nil) (fun _ _ _ _ _ => (se_call0 fx.blk h_value_in (hr.mono (by decide)) (by rfl) (sa_cons (se_var 16 (pv 16)) sa_nil)))) (ss_cons (ss_set (i := 7) fx rfl (by first | exact Or.inl rfl | exact Or.inr rfl) (se_or fx (se_and fx (se_noN (se_ix fx (se_var 6 (pv 6)) se_int)) (se_one (se_cmp (cs_eq fx) (se_ix fx (se_var 6 (pv 6)) se_int) (se_ix fx (se_var 6 (pv 6)) se_int)))) (se_one (se_ix fx (se_var 1 (pv 1)) se_int)))) (ss_cons (ss_set (i := 8) fx rfl (by first | exact Or.inl rfl | exact Or.inr rfl) (se_or fx (se_and fx (se_noN (se_ix fx (se_var 6 (pv 6)) se_int)) (se_one (se_cmp (cs_eq fx) (se_ix fx (se_var 6 (pv 6)) se_int) (se_ix fx (se_var 6 (pv 6)) se_int)))) (se_one (se_ix fx (se_var 1 (pv 1)) se_int)))) (ss_cons (ss_set (i := 9) fx rfl (by first | exact Or.inl rfl | exact Or.inr rfl) (se_or fx (se_and fx (se_cmp (cs_ne fx) (se_ix fx (se_var 6 (pv 6)) se_int) (se_ix fx (se_var 6 (pv 6)) se_int)) (se_one (se_cmp (cs_ne fx) (se_ix fx (se_var 6 (pv 6)) se_int) (se_ix fx (se_var 6 (pv 6)) se_int)))) (se_one (se_ix fx (se_var 1 (pv 1)) se_int)))) (ss_cons (ss_set (i := 10) fx rfl (by first | exact Or.inl rfl | exact Or.inr rfl) (se_tup (sa_cons (se_noN (se_var 12 (pv 12))) (sa_cons (se_noN (se_var 13 (pv 13))) (sa_cons (se_noN (se_var 14 (pv 14))) sa_nil))))) (ss_cons (ss_set (i := 11) fx rfl (by first | exact Or.inl rfl | exact Or.inr rfl) (se_call0 fx h_next_step (hr.mono (by decide)) (by rfl) (sa_cons (se_fld fx ["Caser"] (se_var 0 (pv 0)) (ff_plan hF)) (sa_cons (se_var 10 (pv 10)) (sa_cons (se_var 4 (pv 4)) (sa_cons (se_var 5 (pv 5)) sa_nil)))))) (ss_cons (ss_if (st_cmp (cs_eq fx) (se_var 11 (pv 11)) se_str) (ss_one (ss_set (i := 15) fx rfl (by first | exact Or.inl rfl | exact Or.inr rfl) (se_meth fx h_Caser_outcome_on (hr.mono (by decide)) (se_var 0 (pv 0)) (sa_cons (se_var 1 (pv 1)) (sa_cons (se_var 2 (pv 2)) (sa_cons (se_var 3 (pv 3)) sa_nil)))))) (ss_one (ss_if (st_cmp (cs_eq fx) (se_var 11 (pv 11)) se_str) (ss_one (ss_set (i := 15) fx rfl (by first | exact Or.inl rfl | exact Or.inr rfl) se_str)) (ss_one (ss_if (st_not (st_if (st_cmp (cs_eq fx) (se_var 11 (pv 11)) se_str) (st_val fx (se_ix fx (se_var 10 (pv 10)) se_int)) (st_val fx (se_ix fx (se_var 10 (pv 10)) se_int)))) (ss_one (ss_set (i := 15) fx rfl (by first | exact Or.inl rfl | exact Or.inr rfl) se_str)) (ss_one (ss_if (st_w (sw_or (st_val fx (se_var 4 (pv 4))) (sw_or1 (st_val fx (se_var 5 (pv 5)))))) (ss_one (ss_set (i := 15) fx rfl (by first | exact Or.inl rfl | exact Or.inr rfl) se_str)) (ss_one (ss_set (i := 15) fx rfl (by first | exact Or.inl rfl | exact Or.inr rfl) (se_if (st_if (st_cmp (cs_eq fx) (se_var 11 (pv 11)) se_str) (st_val fx (se_var 7 (pv 7))) (st_val fx (se_var 8 (pv 8)))) se_str se_str)))))))))) (ss_one (ss_ret (se_add fx (se_var 10 (pv 10)) (se_tup (sa_cons (se_var 4 (pv 4)) (sa_cons (se_var 5 (pv 5)) (sa_cons (se_var 7 (pv 7)) (sa_cons (se_var 8 (pv 8)) (sa_cons (se_var 9 (pv 9)) (sa_cons (se_var 15 (pv 15)) sa_nil))))))))))))))))))))
abbrev s_empty_sum : Stmt := top 24
abbrev N_empty_sum : List Str := []
abbrev p_empty_sum : List Str := []
theorem sc_empty_sum : FnScope N_empty_sum p_empty_sum (defScope s_empty_sum) := ⟨rfl, rfl, rfl, by decide +kernel, rfl, by decide +kernel, by decide +kernel⟩
def m_empty_sum : M Fl := (sret (mr d_EMPTY))
def f_empty_sum : List D → Ou D := fn0 0 0 m_empty_sum
def dd_empty_sum : List D := []
theorem ok_empty_sum {f : Addr} {fd : FuncData} (T : Tx c.mg) (hF : Fs c) (k_EMPTY : KD c "EMPTY" d_EMPTY) (F : FunD c.K "empty_sum" "empty_sum" (defArgs s_empty_sum) (defBody s_empty_sum) (defScope s_empty_sum) [] [] f fd) : FnOk P c.w c.K c.mg base CX0 1 f fd p_empty_sum (sp0 c f_empty_sum) :=
  ok_0 (k := 0) F sc_empty_sum (fM := m_empty_sum) fun cdv A outer s H E g hr hg fx => by
    subst hg
    exact (ss_one (ss_ret (se_glob fx (by rfl) k_EMPTY)))
abbrev s_added : Stmt := top 25
abbrev N_added : List Str := ["total", "case"]
abbrev p_added : List Str := ["total", "case"]
theorem sc_added : FnScope N_added p_added (defScope s_added) := ⟨rfl, rfl, rfl, by decide +kernel, rfl, by decide +kernel, by decide +kernel⟩
def m_added : M Fl := (sret (mb (acons (evar 0) (acons (evar 1) anil)) fun ds => call0 f_sum_with (ds ++ [])))
def f_added : List D → Ou D := fn0 2 2 m_added
def dd_added : List D := []
theorem ok_added {f : Addr} {fd : FuncData} (T : Tx c.mg) (hF : Fs c) (h_sum_with : ClD P base c 1 "sum_with" ["total", "case"] (sp0 c f_sum_with) []) (F : FunD c.K "added" "added" (defArgs s_added) (defBody s_added) (defScope s_added) [] [] f fd) : FnOk P c.w c.K c.mg base CX0 2 f fd p_added (sp0 c f_added) :=
  ok_0 (k := 1) F sc_added (fM := m_added) fun cdv A outer s H E g hr hg fx => by
    subst hg
    exact (ss_one (ss_ret (se_call0 fx h_sum_with (hr.mono (by decide)) (by rfl) (sa_cons (se_var 0 (pv 0)) (sa_cons (se_var 1 (pv 1)) sa_nil)))))
abbrev s_closed : Stmt := top 26
abbrev N_closed : List Str := ["plan", "rule", "total", "cells", "root", "caser", "let", "cell", "children"]
abbrev p_closed : List Str := ["plan", "rule", "total", "cells", "root"]
theorem sc_closed : FnScope N_closed p_closed (defScope s_closed) := ⟨rfl, rfl, rfl, by decide +kernel, rfl, by decide +kernel, by decide +kernel⟩
def m_closed : M Fl := (sq (asg 5 (mb (acons (evar 0) (acons (evar 1) anil)) fun ds => callI "Caser" f_Caser__init (ds ++ []))) (sq (asg 6 (lcD (mb (acons (evar 3) (acons (evar 2) anil)) dzip) (gtup 2 (gcons (gname 7) (gcons (gname 8) gnil))) (mr true) (mb (evar 5) (dmeth "Caser" "is_let" f_Caser_is_let [] (acons (evar 7) (acons (evar 8) (acons (evar 4) anil))))) [7, 8])) (sq (sif (bor (bnot (btru (mb (acons (evar 6) anil) dall))) (bnot (btru (mb (acons (lcD (mb (evar 3) items) (gname 7) (mr true) (enno (evar 7)) [7]) anil) dany)))) (sret (mr D.non)) (mr Fl.nx)) (sret (mb (evar 5) (dmeth "Caser" "case" f_Caser_case [] (acons (evar 2) (acons (evar 3) (acons (evar 4) anil)))))))))
def f_closed : List D → Ou D := fn0 5 9 m_closed
def dd_closed : List D := [(.bl false)]
theorem ok_closed {f : Addr} {fd : FuncData} (T : Tx c.mg) (hF : Fs c) (h_Caser__init_0 : ClI P base c 3 "Caser" ["self", "plan", "rule"] (spI c "Caser" f_Caser__init) []) (h_Caser_is_let : ClM P base c 1 "Caser" "is_let" (sp0 c f_Caser_is_let) []) (h_Caser_case : ClM P base c 4 "Caser" "case" (sp0 c f_Caser_case) []) (F : FunD c.K "closed" "closed" (defArgs s_closed) (defBody s_closed) (defScope s_closed) [(.bl false)] [] f fd) : FnOk P c.w c.K c.mg base CX0 5 f fd p_closed (sp0 c f_closed) :=
  ok_0 (k := 4) F sc_closed (fM := m_closed) fun cdv A outer s H E g hr hg fx => by
    subst hg
    exact (ss_cons (ss_set (i := 5) fx rfl (by first | exact Or.inl rfl | exact Or.inr rfl) (se_make fx h_Caser__init_0 (hr.mono (by decide)) (by rfl) (sa_cons (se_var 0 (pv 0)) (sa_cons (se_var 1 (pv 1)) sa_nil)))) (ss_cons (ss_lc (i := 6) (own := [("cell", 7), ("children", 8)]) fx rfl rfl (sw_true rfl rfl rfl (by decide +kernel)) (si_zip fx (by rfl) T.zip_ (sa_cons (se_var 3 (pv 3)) (sa_cons (se_var 2 (pv 2)) sa_nil))) (blkOk_by (N := N_closed) (sc := defScope s_closed) (by decide +kernel)) (fun _ _ _ _ _ => (sg_tup (n := 2) fx.blk (sg_cons (sg_name (i := 7) fx.blk rfl (by first | exact Or.inl rfl | exact Or.inr rfl)) (sg_cons (sg_name (i := 8) fx.blk rfl (by first | exact Or.inl rfl | exact Or.inr rfl)) sg_nil)))) (fun _ _ _ _ _ => ts_nil) (fun _ _ _ _ _ => (se_meth fx.blk h_Caser_is_let (hr.mono (by decide)) (se_var 5 (pv 5)) (sa_cons (se_var 7 (pv 7)) (sa_cons (se_var 8 (pv 8)) (sa_cons (se_var 4 (pv 4)) sa_nil)))))) (ss_cons (ss_if (st_w (sw_or (st_not (st_val fx (se_all fx (by rfl) T.all_ (se_var 6 (pv 6))))) (sw_or1 (st_not (st_val fx (se_any fx (by rfl) T.any_ (se_of (sf_lc (own := [("cell", 7)]) fx (si_seq fx (se_var 3 (pv 3))) (blkOk_by (N := N_closed) (sc := defScope s_closed) (by decide +kernel)) (fun _ _ _ _ _ => (sg_name (i := 7) fx.blk rfl (by first | exact Or.inl rfl | exact Or.inr rfl))) (fun _ _ _ _ _ => ts_nil) (fun _ _ _ _ _ => (se_noN (se_var 7 (pv 7)))))))))))) (ss_one (ss_ret se_non)) ss_nil) (ss_one (ss_ret (se_meth fx h_Caser_case (hr.mono (by decide)) (se_var 5 (pv 5)) (sa_cons (se_var 2 (pv 2)) (sa_cons (se_var 3 (pv 3)) (sa_cons (se_var 4 (pv 4)) sa_nil)))))))))
abbrev s_law_draw : Stmt := top 41
abbrev N_law_draw : List Str := ["_law_pen", "_law_many", "_law_cell", "_law_mixed", "_law_digit", "_law_index", "_law_size"]
abbrev p_law_draw : List Str := ["_law_pen", "_law_many"]
theorem sc_law_draw : FnScope N_law_draw p_law_draw (defScope s_law_draw) := ⟨rfl, rfl, rfl, by decide +kernel, rfl, by decide +kernel, by decide +kernel⟩
def m_law_draw : M Fl := (sq (sif (asB (e2 dgt (pget rZ 0) (mr (D.int 0)))) (sq (asg 4 (e2 dmod (mb (acons (pget rZ 0) anil) dint) (evar 1))) (sq (pput wZ 0 (e2 dfdiv (pget rZ 0) (evar 1))) (sret (evar 4)))) (mr Fl.nx)) (sq (spar 5 6 (acons (pget rK 0) (acons (mb (acons (pget rC 0) anil) dlen) anil))) (sq (pput wK 0 (e2 dadd (evar 5) (mr (D.int 1)))) (sq (sif (asB (e2 deq (evar 6) (mr (D.int 0)))) (sret (e2 dmod (mb (acons (e2 dadd (e2 dmul (mr (D.int 7)) (evar 5)) (mr (D.int 3))) anil) dint) (evar 1))) (mr Fl.nx)) (sq (asg 2 (e2 dix (pget rC 0) (e2 dmod (mb (acons (evar 5) anil) dint) (evar 6)))) (sq (sif (band (asB (e2 dlt (evar 5) (evar 6))) (asB (e2 dge (mb (acons (evar 2) anil) dabs) (e2 dpow (mr (D.int 10)) (mr (D.int 18)))))) (sq (pput wZ 0 (e2 dfdiv (e2 dsub (mb (acons (evar 2) anil) dabs) (e2 dpow (mr (D.int 10)) (mr (D.int 18)))) (evar 1))) (sret (e2 dmod (mb (acons (e2 dsub (mb (acons (evar 2) anil) dabs) (e2 dpow (mr (D.int 10)) (mr (D.int 18)))) anil) dint) (evar 1)))) (mr Fl.nx)) (sq (asg 3 (e2 dadd (e2 dmul (e2 dmod (mb (acons (evar 2) anil) dint) (mr (D.int 4294967197))) (mr (D.int 52711))) (e2 dmul (e2 dmul (mr (D.int 20353)) (evar 5)) (evar 5)))) (sq (asg 3 (e2 dmod (mb (acons (e2 dadd (e2 dadd (evar 3) (e2 dmul (mr (D.int 1531)) (evar 5))) (mr (D.int 11))) anil) dint) (mr (D.int 4294967189)))) (sq (asg 3 (e2 dmod (mb (acons (e2 dadd (e2 dadd (e2 dadd (e2 dmul (evar 3) (evar 3)) (e2 dmul (mr (D.int 68903)) (evar 3))) (e2 dmul (mr (D.int 23)) (evar 5))) (mr (D.int 7))) anil) dint) (mr (D.int 4294967161)))) (sret (e2 dmod (mb (acons (e2 dfdiv (e2 dmod (mb (acons (e2 dmul (evar 3) (e2 dadd (evar 3) (mr (D.int 57037)))) anil) dint) (mr (D.int 4294967143))) (mr (D.int 64))) anil) dint) (evar 1))))))))))))
def f_law_draw : List D → Pn → Ou D := fnP 2 7 m_law_draw
def dd_law_draw : List D := []
theorem ok_law_draw {f : Addr} {fd : FuncData} (T : Tx c.mg) (hF : Fs c)  (F : FunD c.K "_law_draw" "_law_draw" (defArgs s_law_draw) (defBody s_law_draw) (defScope s_law_draw) [] [] f fd) : FnOk P c.w c.K c.mg base CX0 1 f fd p_law_draw (spP c "next" f_law_draw) :=
  ok_P (k := 0) (nc := "next") F sc_law_draw (fM := m_law_draw) fun cdv A outer s H E g hr hg pn fx => by
    subst hg
    exact (ss_cons (ss_if (st_cmp cs_gt (se_pZ (i := 0) fx pn (by decide +kernel) (pv 0)) se_int) (ss_cons (ss_set (i := 4) fx rfl (by first | exact Or.inl rfl | exact Or.inr rfl) (se_mod (se_intC fx (by rfl) T.int_ (se_pZ (i := 0) fx pn (by decide +kernel) (pv 0))) (se_var 1 (pv 1)))) (ss_cons (ss_pZ (i := 0) fx pn (by decide +kernel) (pv 0) (se_fdiv (se_pZ (i := 0) fx pn (by decide +kernel) (pv 0)) (se_var 1 (pv 1)))) (ss_one (ss_ret (se_var 4 (pv 4)))))) ss_nil) (ss_cons (ss_par (i := 5) (j := 6) fx rfl rfl (by decide) rfl rfl (sa_cons (se_pK (i := 0) fx pn (by decide +kernel) (pv 0)) (sa_cons (se_len fx (by rfl) T.len_ (se_pC (i := 0) fx (pv 0))) sa_nil)) (by rfl)) (ss_cons (ss_pK (i := 0) fx pn (by decide +kernel) (by decide +kernel) (pv 0) (se_add fx (se_var 5 (pv 5)) se_int)) (ss_cons (ss_if (st_cmp (cs_eq fx) (se_var 6 (pv 6)) se_int) (ss_one (ss_ret (se_mod (se_intC fx (by rfl) T.int_ (se_add fx (se_mul se_int (se_var 5 (pv 5))) se_int)) (se_var 1 (pv 1))))) ss_nil) (ss_cons (ss_set (i := 2) fx rfl (by first | exact Or.inl rfl | exact Or.inr rfl) (se_ix fx (se_pC (i := 0) fx (pv 0)) (se_mod (se_intC fx (by rfl) T.int_ (se_var 5 (pv 5))) (se_var 6 (pv 6))))) (ss_cons (ss_if (st_w (sw_and (st_cmp cs_lt (se_var 5 (pv 5)) (se_var 6 (pv 6))) (sw_and1 (st_cmp cs_ge (se_abs fx (by rfl) T.abs_ (se_var 2 (pv 2))) (se_pow se_int se_int))))) (ss_cons (ss_pZ (i := 0) fx pn (by decide +kernel) (pv 0) (se_fdiv (se_sub (se_abs fx (by rfl) T.abs_ (se_var 2 (pv 2))) (se_pow se_int se_int)) (se_var 1 (pv 1)))) (ss_one (ss_ret (se_mod (se_intC fx (by rfl) T.int_ (se_sub (se_abs fx (by rfl) T.abs_ (se_var 2 (pv 2))) (se_pow se_int se_int))) (se_var 1 (pv 1)))))) ss_nil) (ss_cons (ss_set (i := 3) fx rfl (by first | exact Or.inl rfl | exact Or.inr rfl) (se_add fx (se_mul (se_mod (se_intC fx (by rfl) T.int_ (se_var 2 (pv 2))) se_int) se_int) (se_mul (se_mul se_int (se_var 5 (pv 5))) (se_var 5 (pv 5))))) (ss_cons (ss_set (i := 3) fx rfl (by first | exact Or.inl rfl | exact Or.inr rfl) (se_mod (se_intC fx (by rfl) T.int_ (se_add fx (se_add fx (se_var 3 (pv 3)) (se_mul se_int (se_var 5 (pv 5)))) se_int)) se_int)) (ss_cons (ss_set (i := 3) fx rfl (by first | exact Or.inl rfl | exact Or.inr rfl) (se_mod (se_intC fx (by rfl) T.int_ (se_add fx (se_add fx (se_add fx (se_mul (se_var 3 (pv 3)) (se_var 3 (pv 3))) (se_mul se_int (se_var 3 (pv 3)))) (se_mul se_int (se_var 5 (pv 5)))) se_int)) se_int)) (ss_one (ss_ret (se_mod (se_intC fx (by rfl) T.int_ (se_fdiv (se_mod (se_intC fx (by rfl) T.int_ (se_mul (se_var 3 (pv 3)) (se_add fx (se_var 3 (pv 3)) se_int))) se_int) se_int)) (se_var 1 (pv 1))))))))))))))
abbrev s_law_pick : Stmt := top 42
abbrev N_law_pick : List Str := ["_law_pen", "_law_items"]
abbrev p_law_pick : List Str := ["_law_pen", "_law_items"]
theorem sc_law_pick : FnScope N_law_pick p_law_pick (defScope s_law_pick) := ⟨rfl, rfl, rfl, by decide +kernel, rfl, by decide +kernel, by decide +kernel⟩
def m_law_pick : M Fl := (sret (e2 dix (evar 1) (penc 0 (mb (acons (mb (acons (evar 1) anil) dlen) anil) (callP f_law_draw)))))
def f_law_pick : List D → Pn → Ou D := fnP 2 2 m_law_pick
def dd_law_pick : List D := []
theorem ok_law_pick {f : Addr} {fd : FuncData} (T : Tx c.mg) (hF : Fs c) (h_law_draw : ClD P base c 1 "_law_draw" ["_law_pen", "_law_many"] (spP c "next" f_law_draw) []) (F : FunD c.K "_law_pick" "_law_pick" (defArgs s_law_pick) (defBody s_law_pick) (defScope s_law_pick) [] [] f fd) : FnOk P c.w c.K c.mg base CX0 2 f fd p_law_pick (spP c "next" f_law_pick) :=
  ok_P (k := 1) (nc := "next") F sc_law_pick (fM := m_law_pick) fun cdv A outer s H E g hr hg pn fx => by
    subst hg
    exact (ss_one (ss_ret (se_ix fx (se_var 1 (pv 1)) (se_callP (i := 0) fx pn h_law_draw (hr.mono (by decide)) (by rfl) (pv 0) (sa_cons (se_len fx (by rfl) T.len_ (se_var 1 (pv 1))) sa_nil)))))
abbrev s_law_plan : Stmt := top 43
abbrev N_law_plan : List Str := ["_law_pen", "_law_gone", "_law_root", "_law_alike", "_law_unlike", "_law_tidy", "_law_flags", "_law_kept", "_law_children"]
abbrev p_law_plan : List Str := ["_law_pen"]
theorem sc_law_plan : FnScope N_law_plan p_law_plan (defScope s_law_plan) := ⟨rfl, rfl, rfl, by decide +kernel, rfl, by decide +kernel, by decide +kernel⟩
def m_law_plan : M Fl := (sq (asg 1 (penc 0 (mb (acons (elst (acons (mr (D.str "clash")) (acons (mr (D.str "kept")) (acons (mr (D.str "bare")) (acons (mr (D.str "base")) (acons (mr (D.str "kept")) (acons (mr (D.str "bare")) (acons (mr (D.str "base")) anil)))))))) anil) (callP f_law_pick)))) (sq (spar 3 4 (acons (penc 0 (mb (acons (elst (acons (mr (D.str "take")) (acons (mr (D.str "take")) (acons (mr (D.str "take")) (acons (mr (D.str "clash")) anil))))) anil) (callP f_law_pick))) (acons (penc 0 (mb (acons (elst (acons (mr (D.str "clash")) (acons (mr (D.str "one")) (acons (mr (D.str "other")) anil)))) anil) (callP f_law_pick))) anil))) (sq (sparO 5 6 (e2 deq (penc 0 (mb (acons (mr (D.int 2)) anil) (callP f_law_draw))) (mr (D.int 0))) (mr (D.dct [] []))) (sq (sif (asB (e2 dgt (penc 0 (mb (acons (mr (D.int 4)) anil) (callP f_law_draw))) (mr (D.int 0)))) (sret (etup (acons (evar 1) (acons (evar 3) (acons (evar 4) (acons (evar 5) (acons (mr D.non) anil))))))) (mr Fl.nx)) (sq (sfor (mb (elst (acons (mr (D.bl true)) (acons (mr (D.bl false)) anil))) items) (gname 2) (sfor (mb (elst (acons (mr (D.bl true)) (acons (mr (D.bl false)) anil))) items) (gname 7) (sfor (mb (acons (mr (D.int 3)) anil) drng1) (gname 8) (sput 6 (e2 deq (penc 0 (mb (acons (mr (D.int 2)) anil) (callP f_law_draw))) (mr (D.int 0))) (etup (acons (evar 2) (acons (evar 7) (acons (evar 8) anil)))))))) (sq (frz 6) (sret (etup (acons (evar 1) (acons (evar 3) (acons (evar 4) (acons (evar 5) (acons (evar 6) anil)))))))))))))
def f_law_plan : List D → Pn → Ou D := fnP 1 9 m_law_plan
def dd_law_plan : List D := []
theorem ok_law_plan {f : Addr} {fd : FuncData} (T : Tx c.mg) (hF : Fs c) (h_law_pick : ClD P base c 2 "_law_pick" ["_law_pen", "_law_items"] (spP c "next" f_law_pick) []) (h_law_draw : ClD P base c 1 "_law_draw" ["_law_pen", "_law_many"] (spP c "next" f_law_draw) []) (F : FunD c.K "_law_plan" "_law_plan" (defArgs s_law_plan) (defBody s_law_plan) (defScope s_law_plan) [] [] f fd) : FnOk P c.w c.K c.mg base CX0 3 f fd p_law_plan (spP c "next" f_law_plan) :=
  ok_P (k := 2) (nc := "next") F sc_law_plan (fM := m_law_plan) fun cdv A outer s H E g hr hg pn fx => by
    subst hg
    exact (ss_cons (ss_set (i := 1) fx rfl (by first | exact Or.inl rfl | exact Or.inr rfl) (se_callP (i := 0) fx pn h_law_pick (hr.mono (by decide)) (by rfl) (pv 0) (sa_cons (se_of (sf_lst (sa_cons se_str (sa_cons se_str (sa_cons se_str (sa_cons se_str (sa_cons se_str (sa_cons se_str (sa_cons se_str sa_nil))))))))) sa_nil))) (ss_cons (ss_par (i := 3) (j := 4) fx rfl rfl (by decide) rfl rfl (sa_cons (se_callP (i := 0) fx pn h_law_pick (hr.mono (by decide)) (by rfl) (pv 0) (sa_cons (se_of (sf_lst (sa_cons se_str (sa_cons se_str (sa_cons se_str (sa_cons se_str sa_nil)))))) sa_nil)) (sa_cons (se_callP (i := 0) fx pn h_law_pick (hr.mono (by decide)) (by rfl) (pv 0) (sa_cons (se_of (sf_lst (sa_cons se_str (sa_cons se_str (sa_cons se_str sa_nil))))) sa_nil)) sa_nil)) (by rfl)) (ss_cons (ss_parO (i := 5) (j := 6) fx rfl rfl (by decide) rfl rfl (se_cmp (cs_eq fx) (se_callP (i := 0) fx pn h_law_draw (hr.mono (by decide)) (by rfl) (pv 0) (sa_cons se_int sa_nil)) se_int) sf_dnew (by rfl)) (ss_cons (ss_if (st_cmp cs_gt (se_callP (i := 0) fx pn h_law_draw (hr.mono (by decide)) (by rfl) (pv 0) (sa_cons se_int sa_nil)) se_int) (ss_one (ss_ret (se_tup (sa_cons (se_var 1 (pv 1)) (sa_cons (se_var 3 (pv 3)) (sa_cons (se_var 4 (pv 4)) (sa_cons (se_var 5 (pv 5)) (sa_cons se_non sa_nil)))))))) ss_nil) (ss_cons (ss_for fx (si_seq fx (se_of (sf_lst (sa_cons se_bl (sa_cons se_bl sa_nil))))) (sg_name (i := 2) fx rfl (by first | exact Or.inl rfl | exact Or.inr rfl)) (ss_one (ss_for fx (si_seq fx (se_of (sf_lst (sa_cons se_bl (sa_cons se_bl sa_nil))))) (sg_name (i := 7) fx rfl (by first | exact Or.inl rfl | exact Or.inr rfl)) (ss_one (ss_for fx (si_range1 fx (by rfl) T.range_ (sa_cons se_int sa_nil)) (sg_name (i := 8) fx rfl (by first | exact Or.inl rfl | exact Or.inr rfl)) (ss_one (ss_put (i := 6) fx (pv 6) (se_cmp (cs_eq fx) (se_callP (i := 0) fx pn h_law_draw (hr.mono (by decide)) (by rfl) (pv 0) (sa_cons se_int sa_nil)) se_int) (se_tup (sa_cons (se_var 2 (pv 2)) (sa_cons (se_var 7 (pv 7)) (sa_cons (se_var 8 (pv 8)) sa_nil))))))))))) (ss_frz 6 (ss_one (ss_ret (se_tup (sa_cons (se_var 1 (pv 1)) (sa_cons (se_var 3 (pv 3)) (sa_cons (se_var 4 (pv 4)) (sa_cons (se_var 5 (pv 5)) (sa_cons (se_var 6 (pv 6)) sa_nil))))))))))))))
abbrev s_law_made : Stmt := top 44
abbrev N_law_made : List Str := ["_law_plan_here"]
abbrev p_law_made : List Str := ["_law_plan_here"]
theorem sc_law_made : FnScope N_law_made p_law_made (defScope s_law_made) := ⟨rfl, rfl, rfl, by decide +kernel, rfl, by decide +kernel, by decide +kernel⟩
def m_law_made : M Fl := (sret (mb (acons (e2 dix (evar 0) (mr (D.int 0))) (acons (e2 dix (evar 0) (mr (D.int 1))) (acons (e2 dix (evar 0) (mr (D.int 2))) (acons (e2 dix (evar 0) (mr (D.int 3))) (acons (e2 dix (evar 0) (mr (D.int 4))) anil))))) fun ds => callI "Plan" f_Plan__init (ds ++ [])))
def f_law_made : List D → Ou D := fn0 1 1 m_law_made
def dd_law_made : List D := []
theorem ok_law_made {f : Addr} {fd : FuncData} (T : Tx c.mg) (hF : Fs c) (h_Plan__init_0 : ClI P base c 2 "Plan" ["self", "gone", "alike", "unlike", "tidy", "flags"] (spI c "Plan" f_Plan__init) []) (F : FunD c.K "_law_made" "_law_made" (defArgs s_law_made) (defBody s_law_made) (defScope s_law_made) [] [] f fd) : FnOk P c.w c.K c.mg base CX0 4 f fd p_law_made (sp0 c f_law_made) :=
  ok_0 (k := 3) F sc_law_made (fM := m_law_made) fun cdv A outer s H E g hr hg fx => by
    subst hg
    exact (ss_one (ss_ret (se_make fx h_Plan__init_0 (hr.mono (by decide)) (by rfl) (sa_cons (se_ix fx (se_var 0 (pv 0)) se_int) (sa_cons (se_ix fx (se_var 0 (pv 0)) se_int) (sa_cons (se_ix fx (se_var 0 (pv 0)) se_int) (sa_cons (se_ix fx (se_var 0 (pv 0)) se_int) (sa_cons (se_ix fx (se_var 0 (pv 0)) se_int) sa_nil))))))))
abbrev s_law_case : Stmt := top 45
abbrev N_law_case : List Str := ["_law_pen", "_law_bools", "_law_turn"]
abbrev p_law_case : List Str := ["_law_pen"]
theorem sc_law_case : FnScope N_law_case p_law_case (defScope s_law_case) := ⟨rfl, rfl, rfl, by decide +kernel, rfl, by decide +kernel, by decide +kernel⟩
def m_law_case : M Fl := (sq (asg 1 (lcD (mb (acons (mr (D.int 8)) anil) drng1) (gname 2) (mr true) (e2 deq (penc 0 (mb (acons (mr (D.int 2)) anil) (callP f_law_draw))) (mr (D.int 0))) [2])) (sret (mb (acons (e2 dadd (evar 1) (elst (acons (penc 0 (mb (acons (elst (acons (mr (D.str "none")) (acons (mr (D.str "tree")) (acons (mr (D.str "tree")) (acons (mr (D.str "rule")) (acons (mr (D.str "words")) (acons (mr (D.str "clash")) (acons (mr (D.str "none")) (acons (mr (D.str "tree")) anil))))))))) anil) (callP f_law_pick))) anil))) anil) dtuple)))
def f_law_case : List D → Pn → Ou D := fnP 1 3 m_law_case
def dd_law_case : List D := []
theorem ok_law_case {f : Addr} {fd : FuncData} (T : Tx c.mg) (hF : Fs c) (h_law_draw : ClD P base c 1 "_law_draw" ["_law_pen", "_law_many"] (spP c "next" f_law_draw) []) (h_law_pick : ClD P base c 2 "_law_pick" ["_law_pen", "_law_items"] (spP c "next" f_law_pick) []) (F : FunD c.K "_law_case" "_law_case" (defArgs s_law_case) (defBody s_law_case) (defScope s_law_case) [] [] f fd) : FnOk P c.w c.K c.mg base CX0 3 f fd p_law_case (spP c "next" f_law_case) :=
  ok_P (k := 2) (nc := "next") F sc_law_case (fM := m_law_case) fun cdv A outer s H E g hr hg pn fx => by
    subst hg
    exact (ss_cons (ss_lc (i := 1) (own := [("_law_turn", 2)]) fx rfl rfl (sw_true rfl rfl rfl (by decide +kernel)) (si_range1 fx (by rfl) T.range_ (sa_cons se_int sa_nil)) (blkOk_by (N := N_law_case) (sc := defScope s_law_case) (by decide +kernel)) (fun _ _ _ _ _ => (sg_name (i := 2) fx.blk rfl (by first | exact Or.inl rfl | exact Or.inr rfl))) (fun _ _ _ _ _ => ts_nil) (fun _ _ _ _ _ => (se_cmp (cs_eq fx.blk) (se_callP (i := 0) fx.blk pn h_law_draw (hr.mono (by decide)) (by rfl) (pv 0) (sa_cons se_int sa_nil)) se_int))) (ss_one (ss_ret (se_tupleC fx (by rfl) T.tuple_ (se_add fx (se_var 1 (pv 1)) (se_of (sf_lst (sa_cons (se_callP (i := 0) fx pn h_law_pick (hr.mono (by decide)) (by rfl) (pv 0) (sa_cons (se_of (sf_lst (sa_cons se_str (sa_cons se_str (sa_cons se_str (sa_cons se_str (sa_cons se_str (sa_cons se_str (sa_cons se_str (sa_cons se_str sa_nil)))))))))) sa_nil)) sa_nil))))))))
abbrev s_law_sum_of : Stmt := top 46
abbrev N_law_sum_of : List Str := ["_law_cases", "_law_outcomes", "_law_there", "_law_counts", "_law_same", "_law_some", "_law_worst", "_law_outcome_here", "_law_case_here", "_law_at"]
abbrev p_law_sum_of : List Str := ["_law_cases"]
theorem sc_law_sum_of : FnScope N_law_sum_of p_law_sum_of (defScope s_law_sum_of) := ⟨rfl, rfl, rfl, by decide +kernel, rfl, by decide +kernel, by decide +kernel⟩
def m_law_sum_of : M Fl := (sq (asg 1 (lcD (mb (evar 0) items) (gname 8) (mr true) (e2 dix (evar 8) (mr (D.int 8))) [8])) (sq (asg 2 (mb (acons (lcD (mb (evar 1) items) (gname 7) (asB (e2 (din false) (evar 7) (elst (acons (mr (D.str "tree")) (acons (mr (D.str "rule")) (acons (mr (D.str "words")) anil)))))) (evar 7) [7]) anil) dlen)) (sq (asg 3 (e2 dadd (lcD (mb (acons (mr (D.int 3)) anil) drng1) (gname 9) (mr true) (mb (acons (mr (D.int 2)) (acons (mb (acons (lcD (mb (evar 0) items) (gname 8) (btru (e2 dix (evar 8) (evar 9))) (evar 8) [8]) anil) dlen) anil)) dmin2) [9]) (elst (acons (mb (acons (mr (D.int 2)) (acons (evar 2) anil)) dmin2) anil)))) (sq (asg 4 (lcD (mb (elst (acons (mr (D.int 3)) (acons (mr (D.int 4)) anil))) items) (gname 9) (mr true) (mb (acons (lcD (mb (evar 0) items) (gname 8) (mr true) (e2 dix (evar 8) (evar 9)) [8]) anil) dall) [9])) (sq (asg 5 (lcD (mb (elst (acons (mr (D.int 5)) (acons (mr (D.int 6)) (acons (mr (D.int 7)) anil)))) items) (gname 9) (mr true) (mb (acons (lcD (mb (evar 0) items) (gname 8) (mr true) (e2 dix (evar 8) (evar 9)) [8]) anil) dany) [9])) (sq (asg 6 (mr (D.str "right"))) (sq (sfor (mb (elst (acons (mr (D.str "rule")) (acons (mr (D.str "words")) (acons (mr (D.str "clash")) anil)))) items) (gname 7) (sif (asB (e2 (din false) (evar 7) (evar 1))) (asg 6 (evar 7)) (mr Fl.nx))) (sret (mb (acons (e2 dadd (e2 dadd (e2 dadd (evar 3) (evar 4)) (evar 5)) (elst (acons (evar 6) anil))) anil) dtuple)))))))))
def f_law_sum_of : List D → Ou D := fn0 1 10 m_law_sum_of
def dd_law_sum_of : List D := []
theorem ok_law_sum_of {f : Addr} {fd : FuncData} (T : Tx c.mg) (hF : Fs c)  (F : FunD c.K "_law_sum_of" "_law_sum_of" (defArgs s_law_sum_of) (defBody s_law_sum_of) (defScope s_law_sum_of) [] [] f fd) : FnOk P c.w c.K c.mg base CX0 1 f fd p_law_sum_of (sp0 c f_law_sum_of) :=
  ok_0 (k := 0) F sc_law_sum_of (fM := m_law_sum_of) fun cdv A outer s H E g hr hg fx => by
    subst hg
    exact (ss_cons (ss_lc (i := 1) (own := [("_law_case_here", 8)]) fx rfl rfl (sw_true rfl rfl rfl (by decide +kernel)) (si_seq fx (se_var 0 (pv 0))) (blkOk_by (N := N_law_sum_of) (sc := defScope s_law_sum_of) (by decide +kernel)) (fun _ _ _ _ _ => (sg_name (i := 8) fx.blk rfl (by first | exact Or.inl rfl | exact Or.inr rfl))) (fun _ _ _ _ _ => ts_nil) (fun _ _ _ _ _ => (se_ix fx.blk (se_var 8 (pv 8)) se_int))) (ss_cons (ss_set (i := 2) fx rfl (by first | exact Or.inl rfl | exact Or.inr rfl) (se_len fx (by rfl) T.len_ (se_of (sf_lc (own := [("_law_outcome_here", 7)]) fx (si_seq fx (se_var 1 (pv 1))) (blkOk_by (N := N_law_sum_of) (sc := defScope s_law_sum_of) (by decide +kernel)) (fun _ _ _ _ _ => (sg_name (i := 7) fx.blk rfl (by first | exact Or.inl rfl | exact Or.inr rfl))) (fun _ _ _ _ _ => (ts_one (st_cmp (cs_in fx.blk) (se_var 7 (pv 7)) (se_of (sf_lst (sa_cons se_str (sa_cons se_str (sa_cons se_str sa_nil)))))))) (fun _ _ _ _ _ => (se_var 7 (pv 7))))))) (ss_cons (ss_set (i := 3) fx rfl (by first | exact Or.inl rfl | exact Or.inr rfl) (se_add fx (se_of (sf_lc (own := [("_law_at", 9)]) fx (si_range1 fx (by rfl) T.range_ (sa_cons se_int sa_nil)) (blkOk_by (N := N_law_sum_of) (sc := defScope s_law_sum_of) (by decide +kernel)) (fun _ _ _ _ _ => (sg_name (i := 9) fx.blk rfl (by first | exact Or.inl rfl | exact Or.inr rfl))) (fun _ _ _ _ _ => ts_nil) (fun _ _ _ _ _ => (se_min2 fx.blk (by rfl) T.min_ (sa_cons se_int (sa_cons (se_len fx.blk (by rfl) T.len_ (se_of (sf_lc (own := [("_law_case_here", 8)]) fx.blk (si_seq fx.blk (se_var 0 (pv 0))) (blkOk_by (by rfl)) (fun _ _ _ _ _ => (sg_name (i := 8) fx.blk.blk rfl (by first | exact Or.inl rfl | exact Or.inr rfl))) (fun _ _ _ _ _ => (ts_one (st_val fx.blk.blk (se_ix fx.blk.blk (se_var 8 (pv 8)) (se_var 9 (pv 9)))))) (fun _ _ _ _ _ => (se_var 8 (pv 8)))))) sa_nil)))))) (se_of (sf_lst (sa_cons (se_min2 fx (by rfl) T.min_ (sa_cons se_int (sa_cons (se_var 2 (pv 2)) sa_nil))) sa_nil))))) (ss_cons (ss_lc (i := 4) (own := [("_law_at", 9)]) fx rfl rfl (sw_true rfl rfl rfl (by decide +kernel)) (si_seq fx (se_of (sf_lst (sa_cons se_int (sa_cons se_int sa_nil))))) (blkOk_by (N := N_law_sum_of) (sc := defScope s_law_sum_of) (by decide +kernel)) (fun _ _ _ _ _ => (sg_name (i := 9) fx.blk rfl (by first | exact Or.inl rfl | exact Or.inr rfl))) (fun _ _ _ _ _ => ts_nil) (fun _ _ _ _ _ => (se_all fx.blk (by rfl) T.all_ (se_of (sf_lc (own := [("_law_case_here", 8)]) fx.blk (si_seq fx.blk (se_var 0 (pv 0))) (blkOk_by (by rfl)) (fun _ _ _ _ _ => (sg_name (i := 8) fx.blk.blk rfl (by first | exact Or.inl rfl | exact Or.inr rfl))) (fun _ _ _ _ _ => ts_nil) (fun _ _ _ _ _ => (se_ix fx.blk.blk (se_var 8 (pv 8)) (se_var 9 (pv 9))))))))) (ss_cons (ss_lc (i := 5) (own := [("_law_at", 9)]) fx rfl rfl (sw_true rfl rfl rfl (by decide +kernel)) (si_seq fx (se_of (sf_lst (sa_cons se_int (sa_cons se_int (sa_cons se_int sa_nil)))))) (blkOk_by (N := N_law_sum_of) (sc := defScope s_law_sum_of) (by decide +kernel)) (fun _ _ _ _ _ => (sg_name (i := 9) fx.blk rfl (by first | exact Or.inl rfl | exact Or.inr rfl))) (fun _ _ _ _ _ => ts_nil) (fun _ _ _ _ _ => (se_any fx.blk (by rfl) T.any_ (se_of (sf_lc (own := [("_law_case_here", 8)]) fx.blk (si_seq fx.blk (se_var 0 (pv 0))) (blkOk_by (by rfl)) (fun _ _ _ _ _ => (sg_name (i := 8) fx.blk.blk rfl (by first | exact Or.inl rfl | exact Or.inr rfl))) (fun _ _ _ _ _ => ts_nil) (fun _ _ _ _ _ => (se_ix fx.blk.blk (se_var 8 (pv 8)) (se_var 9 (pv 9))))))))) (ss_cons (ss_set (i := 6) fx rfl (by first | exact Or.inl rfl | exact Or.inr rfl) se_str) (ss_cons (ss_for fx (si_seq fx (se_of (sf_lst (sa_cons se_str (sa_cons se_str (sa_cons se_str sa_nil)))))) (sg_name (i := 7) fx rfl (by first | exact Or.inl rfl | exact Or.inr rfl)) (ss_one (ss_if (st_cmp (cs_in fx) (se_var 7 (pv 7)) (se_var 1 (pv 1))) (ss_one (ss_set (i := 6) fx rfl (by first | exact Or.inl rfl | exact Or.inr rfl) (se_var 7 (pv 7)))) ss_nil))) (ss_one (ss_ret (se_tupleC fx (by rfl) T.tuple_ (se_add fx (se_add fx (se_add fx (se_var 3 (pv 3)) (se_var 4 (pv 4))) (se_var 5 (pv 5))) (se_of (sf_lst (sa_cons (se_var 6 (pv 6)) sa_nil))))))))))))))
abbrev s_law_kinds : Stmt := top 47
abbrev N_law_kinds : List Str := ["_law_pen", "_law_kept", "_law_kinds_here", "_law_most", "_law_flag", "_law_many"]
abbrev p_law_kinds : List Str := ["_law_pen"]
theorem sc_law_kinds : FnScope N_law_kinds p_law_kinds (defScope s_law_kinds) := ⟨rfl, rfl, rfl, by decide +kernel, rfl, by decide +kernel, by decide +kernel⟩
def m_law_kinds : M Fl := (sq (sasg (etup (acons (elst anil) (acons (penc 0 (mb (acons (elst (acons (mr (D.int 3)) (acons (mr (D.int 7)) (acons (mr (D.int 8)) (acons (mr (D.int 9)) anil))))) anil) (callP f_law_pick))) anil))) (gtup 2 (gcons (gname 2) (gcons (gname 3) gnil)))) (sq (sfor (mb (elst (acons (mr (D.bl true)) (acons (mr (D.bl false)) anil))) items) (gname 1) (sfor (mb (elst (acons (mr (D.bl true)) (acons (mr (D.bl false)) anil))) items) (gname 4) (asg 2 (e2 dadd (evar 2) (lcD (mb (acons (mr (D.int 3)) anil) drng1) (gname 5) (asB (e2 dlt (penc 0 (mb (acons (mr (D.int 9)) anil) (callP f_law_draw))) (evar 3))) (etup (acons (evar 1) (acons (evar 4) (acons (evar 5) anil)))) [5]))))) (sret (evar 2))))
def f_law_kinds : List D → Pn → Ou D := fnP 1 6 m_law_kinds
def dd_law_kinds : List D := []
theorem ok_law_kinds {f : Addr} {fd : FuncData} (T : Tx c.mg) (hF : Fs c) (h_law_pick : ClD P base c 2 "_law_pick" ["_law_pen", "_law_items"] (spP c "next" f_law_pick) []) (h_law_draw : ClD P base c 1 "_law_draw" ["_law_pen", "_law_many"] (spP c "next" f_law_draw) []) (F : FunD c.K "_law_kinds" "_law_kinds" (defArgs s_law_kinds) (defBody s_law_kinds) (defScope s_law_kinds) [] [] f fd) : FnOk P c.w c.K c.mg base CX0 3 f fd p_law_kinds (spP c "next" f_law_kinds) :=
  ok_P (k := 2) (nc := "next") F sc_law_kinds (fM := m_law_kinds) fun cdv A outer s H E g hr hg pn fx => by
    subst hg
    exact (ss_cons (ss_asg (se_tup (sa_cons (se_of (sf_lst sa_nil)) (sa_cons (se_callP (i := 0) fx pn h_law_pick (hr.mono (by decide)) (by rfl) (pv 0) (sa_cons (se_of (sf_lst (sa_cons se_int (sa_cons se_int (sa_cons se_int (sa_cons se_int sa_nil)))))) sa_nil)) sa_nil))) (sg_tup (n := 2) fx (sg_cons (sg_name (i := 2) fx rfl (by first | exact Or.inl rfl | exact Or.inr rfl)) (sg_cons (sg_name (i := 3) fx rfl (by first | exact Or.inl rfl | exact Or.inr rfl)) sg_nil)))) (ss_cons (ss_for fx (si_seq fx (se_of (sf_lst (sa_cons se_bl (sa_cons se_bl sa_nil))))) (sg_name (i := 1) fx rfl (by first | exact Or.inl rfl | exact Or.inr rfl)) (ss_one (ss_for fx (si_seq fx (se_of (sf_lst (sa_cons se_bl (sa_cons se_bl sa_nil))))) (sg_name (i := 4) fx rfl (by first | exact Or.inl rfl | exact Or.inr rfl)) (ss_one (ss_set (i := 2) fx rfl (by first | exact Or.inl rfl | exact Or.inr rfl) (se_add fx (se_var 2 (pv 2)) (se_of (sf_lc (own := [("_law_many", 5)]) fx (si_range1 fx (by rfl) T.range_ (sa_cons se_int sa_nil)) (blkOk_by (N := N_law_kinds) (sc := defScope s_law_kinds) (by decide +kernel)) (fun _ _ _ _ _ => (sg_name (i := 5) fx.blk rfl (by first | exact Or.inl rfl | exact Or.inr rfl))) (fun _ _ _ _ _ => (ts_one (st_cmp cs_lt (se_callP (i := 0) fx.blk pn h_law_draw (hr.mono (by decide)) (by rfl) (pv 0) (sa_cons se_int sa_nil)) (se_var 3 (pv 3))))) (fun _ _ _ _ _ => (se_tup (sa_cons (se_var 1 (pv 1)) (sa_cons (se_var 4 (pv 4)) (sa_cons (se_var 5 (pv 5)) sa_nil))))))))))))) (ss_one (ss_ret (se_var 2 (pv 2))))))
abbrev s_law_some_cells : Stmt := top 48
abbrev N_law_some_cells : List Str := ["_law_pen", "_law_total", "_law_cells", "_law_at", "_law_cell"]
abbrev p_law_some_cells : List Str := ["_law_pen", "_law_total"]
theorem sc_law_some_cells : FnScope N_law_some_cells p_law_some_cells (defScope s_law_some_cells) := ⟨rfl, rfl, rfl, by decide +kernel, rfl, by decide +kernel, by decide +kernel⟩
def m_law_some_cells : M Fl := (sq (asgO 2 (elst anil)) (sq (sfor (mb (acons (mr (D.int 3)) anil) drng1) (gname 3) (sq (asg 4 (etup (acons (penc 0 (mb (acons (elst (acons (mr D.non) (acons (mr (D.int 1)) (acons (mr (D.int 1)) (acons (mr (D.int 2)) (acons (mr (D.int 3)) (acons (e2 dadd (mr (D.int 1)) (penc 0 (mb (acons (mr (D.int 9)) anil) (callP f_law_draw)))) anil))))))) anil) (callP f_law_pick))) (acons (e2 deq (penc 0 (mb (acons (mr (D.int 3)) anil) (callP f_law_draw))) (mr (D.int 0))) anil)))) (sq (sif (band (peekB 2 (asB (e2 dne (evar 2) (elst anil)))) (band (peekB 2 (asB (enno (e2 dix (evar 2) (mr (D.int 0)))))) (asB (e2 deq (penc 0 (mb (acons (mr (D.int 2)) anil) (callP f_law_draw))) (mr (D.int 0)))))) (asg 4 (etup (acons (peekS 2 (e2 dix (e2 dix (evar 2) (mr (D.int 0))) (mr (D.int 0)))) (acons (eif (asB (e2 deq (penc 0 (mb (acons (mr (D.int 3)) anil) (callP f_law_draw))) (mr (D.int 0)))) (e2 dix (evar 4) (mr (D.int 1))) (peekS 2 (e2 dix (e2 dix (evar 2) (mr (D.int 0))) (mr (D.int 1))))) anil)))) (mr Fl.nx)) (sapp 2 (eif (asB (e2 dlt (penc 0 (mb (acons (mr (D.int 9)) anil) (callP f_law_draw))) (e2 dix (elst (acons (mr (D.int 4)) (acons (mr (D.int 1)) (acons (mr (D.int 1)) anil)))) (e2 dix (evar 1) (evar 3))))) (mr D.non) (evar 4)))))) (sq (frz 2) (sret (mb (acons (evar 2) anil) dtuple)))))
def f_law_some_cells : List D → Pn → Ou D := fnP 2 5 m_law_some_cells
def dd_law_some_cells : List D := []
theorem ok_law_some_cells {f : Addr} {fd : FuncData} (T : Tx c.mg) (hF : Fs c) (h_law_draw : ClD P base c 1 "_law_draw" ["_law_pen", "_law_many"] (spP c "next" f_law_draw) []) (h_law_pick : ClD P base c 2 "_law_pick" ["_law_pen", "_law_items"] (spP c "next" f_law_pick) []) (F : FunD c.K "_law_some_cells" "_law_some_cells" (defArgs s_law_some_cells) (defBody s_law_some_cells) (defScope s_law_some_cells) [] [] f fd) : FnOk P c.w c.K c.mg base CX0 3 f fd p_law_some_cells (spP c "next" f_law_some_cells) :=
  ok_P (k := 2) (nc := "next") F sc_law_some_cells (fM := m_law_some_cells) fun cdv A outer s H E g hr hg pn fx => by
    subst hg
    exact (ss_cons (ss_setO (i := 2) fx rfl (by first | exact Or.inl rfl | exact Or.inr rfl) (sf_lst sa_nil)) (ss_cons (ss_for fx (si_range1 fx (by rfl) T.range_ (sa_cons se_int sa_nil)) (sg_name (i := 3) fx rfl (by first | exact Or.inl rfl | exact Or.inr rfl)) (ss_cons (ss_set (i := 4) fx rfl (by first | exact Or.inl rfl | exact Or.inr rfl) (se_tup (sa_cons (se_callP (i := 0) fx pn h_law_pick (hr.mono (by decide)) (by rfl) (pv 0) (sa_cons (se_of (sf_lst (sa_cons se_non (sa_cons se_int (sa_cons se_int (sa_cons se_int (sa_cons se_int (sa_cons (se_add fx se_int (se_callP (i := 0) fx pn h_law_draw (hr.mono (by decide)) (by rfl) (pv 0) (sa_cons se_int sa_nil))) sa_nil)))))))) sa_nil)) (sa_cons (se_cmp (cs_eq fx) (se_callP (i := 0) fx pn h_law_draw (hr.mono (by decide)) (by rfl) (pv 0) (sa_cons se_int sa_nil)) se_int) sa_nil)))) (ss_cons (ss_if (st_w (sw_and (st_peek 2 (st_cmp (cs_ne fx) (se_var 2 (pv 2)) (se_of (sf_lst sa_nil)))) (sw_and (st_peek 2 (st_noN (se_ix fx (se_var 2 (pv 2)) se_int))) (sw_and1 (st_cmp (cs_eq fx) (se_callP (i := 0) fx pn h_law_draw (hr.mono (by decide)) (by rfl) (pv 0) (sa_cons se_int sa_nil)) se_int))))) (ss_one (ss_set (i := 4) fx rfl (by first | exact Or.inl rfl | exact Or.inr rfl) (se_tup (sa_cons (se_peek 2 (se_ix fx (se_ix fx (se_var 2 (pv 2)) se_int) se_int)) (sa_cons (se_if (st_cmp (cs_eq fx) (se_callP (i := 0) fx pn h_law_draw (hr.mono (by decide)) (by rfl) (pv 0) (sa_cons se_int sa_nil)) se_int) (se_ix fx (se_var 4 (pv 4)) se_int) (se_peek 2 (se_ix fx (se_ix fx (se_var 2 (pv 2)) se_int) se_int))) sa_nil))))) ss_nil) (ss_one (ss_append (i := 2) (pv 2) (se_if (st_cmp cs_lt (se_callP (i := 0) fx pn h_law_draw (hr.mono (by decide)) (by rfl) (pv 0) (sa_cons se_int sa_nil)) (se_ix fx (se_of (sf_lst (sa_cons se_int (sa_cons se_int (sa_cons se_int sa_nil))))) (se_ix fx (se_var 1 (pv 1)) (se_var 3 (pv 3))))) se_non (se_var 4 (pv 4)))))))) (ss_frz 2 (ss_one (ss_ret (se_tupleC fx (by rfl) T.tuple_ (se_var 2 (pv 2))))))))
abbrev s_law_value : Stmt := top 49
abbrev N_law_value : List Str := ["_law_cell"]
abbrev p_law_value : List Str := ["_law_cell"]
theorem sc_law_value : FnScope N_law_value p_law_value (defScope s_law_value) := ⟨rfl, rfl, rfl, by decide +kernel, rfl, by decide +kernel, by decide +kernel⟩
def m_law_value : M Fl := (sret (eif (asB (enon (evar 0))) (mr D.non) (e2 dix (evar 0) (mr (D.int 0)))))
def f_law_value : List D → Ou D := fn0 1 1 m_law_value
def dd_law_value : List D := []
theorem ok_law_value {f : Addr} {fd : FuncData} (T : Tx c.mg) (hF : Fs c)  (F : FunD c.K "_law_value" "_law_value" (defArgs s_law_value) (defBody s_law_value) (defScope s_law_value) [] [] f fd) : FnOk P c.w c.K c.mg base CX0 1 f fd p_law_value (sp0 c f_law_value) :=
  ok_0 (k := 0) F sc_law_value (fM := m_law_value) fun cdv A outer s H E g hr hg fx => by
    subst hg
    exact (ss_one (ss_ret (se_if (st_isN (se_var 0 (pv 0))) se_non (se_ix fx (se_var 0 (pv 0)) se_int))))
abbrev s_law_merged_value : Stmt := top 50
abbrev N_law_merged_value : List Str := ["_law_plan_here", "_law_base", "_law_one", "_law_other"]
abbrev p_law_merged_value : List Str := ["_law_plan_here", "_law_base", "_law_one", "_law_other"]
theorem sc_law_merged_value : FnScope N_law_merged_value p_law_merged_value (defScope s_law_merged_value) := ⟨rfl, rfl, rfl, by decide +kernel, rfl, by decide +kernel, by decide +kernel⟩
def m_law_merged_value : M Fl := (sq (sif (bor (asB (e2 deq (evar 2) (evar 1))) (asB (e2 deq (evar 3) (evar 1)))) (sret (etup (acons (eif (asB (e2 deq (evar 2) (evar 1))) (evar 3) (evar 2)) (acons (mr (D.bl false)) anil)))) (mr Fl.nx)) (sq (sif (asB (e2 deq (evar 2) (evar 3))) (sret (etup (acons (evar 2) (acons (e2 deq (e2 dix (evar 0) (mr (D.int 1))) (mr (D.str "clash"))) anil)))) (mr Fl.nx)) (sret (etup (acons (eif (asB (e2 deq (e2 dix (evar 0) (mr (D.int 2))) (mr (D.str "one")))) (evar 2) (evar 3)) (acons (e2 deq (e2 dix (evar 0) (mr (D.int 2))) (mr (D.str "clash"))) anil))))))
def f_law_merged_value : List D → Ou D := fn0 4 4 m_law_merged_value
def dd_law_merged_value : List D := []
theorem ok_law_merged_value {f : Addr} {fd : FuncData} (T : Tx c.mg) (hF : Fs c)  (F : FunD c.K "_law_merged_value" "_law_merged_value" (defArgs s_law_merged_value) (defBody s_law_merged_value) (defScope s_law_merged_value) [] [] f fd) : FnOk P c.w c.K c.mg base CX0 1 f fd p_law_merged_value (sp0 c f_law_merged_value) :=
  ok_0 (k := 0) F sc_law_merged_value (fM := m_law_merged_value) fun cdv A outer s H E g hr hg fx => by
    subst hg
    exact (ss_cons (ss_if (st_w (sw_or (st_cmp (cs_eq fx) (se_var 2 (pv 2)) (se_var 1 (pv 1))) (sw_or1 (st_cmp (cs_eq fx) (se_var 3 (pv 3)) (se_var 1 (pv 1)))))) (ss_one (ss_ret (se_tup (sa_cons (se_if (st_cmp (cs_eq fx) (se_var 2 (pv 2)) (se_var 1 (pv 1))) (se_var 3 (pv 3)) (se_var 2 (pv 2))) (sa_cons se_bl sa_nil))))) ss_nil) (ss_cons (ss_if (st_cmp (cs_eq fx) (se_var 2 (pv 2)) (se_var 3 (pv 3))) (ss_one (ss_ret (se_tup (sa_cons (se_var 2 (pv 2)) (sa_cons (se_cmp (cs_eq fx) (se_ix fx (se_var 0 (pv 0)) se_int) se_str) sa_nil))))) ss_nil) (ss_one (ss_ret (se_tup (sa_cons (se_if (st_cmp (cs_eq fx) (se_ix fx (se_var 0 (pv 0)) se_int) se_str) (se_var 2 (pv 2)) (se_var 3 (pv 3))) (sa_cons (se_cmp (cs_eq fx) (se_ix fx (se_var 0 (pv 0)) se_int) se_str) sa_nil)))))))
abbrev s_law_due : Stmt := top 51
abbrev N_law_due : List Str := ["_law_base", "_law_one", "_law_other"]
abbrev p_law_due : List Str := ["_law_base", "_law_one", "_law_other"]
theorem sc_law_due : FnScope N_law_due p_law_due (defScope s_law_due) := ⟨rfl, rfl, rfl, by decide +kernel, rfl, by decide +kernel, by decide +kernel⟩
def m_law_due : M Fl := (sq (sif (asB (e2 deq (evar 1) (evar 0))) (sret (elst (acons (evar 2) anil))) (mr Fl.nx)) (sret (eif (bor (asB (e2 deq (evar 2) (evar 0))) (asB (e2 deq (evar 1) (evar 2)))) (elst (acons (evar 1) anil)) (elst (acons (evar 1) (acons (evar 2) anil))))))
def f_law_due : List D → Ou D := fn0 3 3 m_law_due
def dd_law_due : List D := []
theorem ok_law_due {f : Addr} {fd : FuncData} (T : Tx c.mg) (hF : Fs c)  (F : FunD c.K "_law_due" "_law_due" (defArgs s_law_due) (defBody s_law_due) (defScope s_law_due) [] [] f fd) : FnOk P c.w c.K c.mg base CX0 1 f fd p_law_due (sp0 c f_law_due) :=
  ok_0 (k := 0) F sc_law_due (fM := m_law_due) fun cdv A outer s H E g hr hg fx => by
    subst hg
    exact (ss_cons (ss_if (st_cmp (cs_eq fx) (se_var 1 (pv 1)) (se_var 0 (pv 0))) (ss_one (ss_ret (se_of (sf_lst (sa_cons (se_var 2 (pv 2)) sa_nil))))) ss_nil) (ss_one (ss_ret (se_if (st_w (sw_or (st_cmp (cs_eq fx) (se_var 2 (pv 2)) (se_var 0 (pv 0))) (sw_or1 (st_cmp (cs_eq fx) (se_var 1 (pv 1)) (se_var 2 (pv 2)))))) (se_of (sf_lst (sa_cons (se_var 1 (pv 1)) sa_nil))) (se_of (sf_lst (sa_cons (se_var 1 (pv 1)) (sa_cons (se_var 2 (pv 2)) sa_nil))))))))
abbrev s_law_outcome : Stmt := top 52
abbrev N_law_outcome : List Str := ["_law_plan_here", "_law_kinds_here", "_law_total", "_law_cells", "_law_same", "_law_alike", "_law_at_root", "_law_was", "_law_lacking", "_law_left", "_law_right", "_law_flag", "_law_base", "_law_one", "_law_other", "_law_value_here", "_law_clashes"]
abbrev p_law_outcome : List Str := ["_law_plan_here", "_law_kinds_here", "_law_total", "_law_cells", "_law_same", "_law_alike", "_law_at_root"]
theorem sc_law_outcome : FnScope N_law_outcome p_law_outcome (defScope s_law_outcome) := ⟨rfl, rfl, rfl, by decide +kernel, rfl, by decide +kernel, by decide +kernel⟩
def m_law_outcome : M Fl := (sq (sasg (evar 3) (gtup 3 (gcons (gname 12) (gcons (gname 13) (gcons (gname 14) gnil))))) (sq (sif (bor (btru (e2 dix (evar 4) (mr (D.int 0)))) (btru (e2 dix (evar 4) (mr (D.int 1))))) (sret (eif (asB (enon (eif (btru (e2 dix (evar 4) (mr (D.int 0)))) (evar 14) (evar 13)))) (mr (D.str "none")) (mr (D.str "tree")))) (mr Fl.nx)) (sq (sif (band (asB (enon (evar 13))) (asB (enon (evar 14)))) (sret (eif (asB (e2 deq (e2 dix (evar 0) (mr (D.int 1))) (mr (D.str "clash")))) (mr (D.str "clash")) (mr (D.str "none")))) (mr Fl.nx)) (sq (sif (band (asB (enno (evar 12))) (band (bor (asB (enon (evar 13))) (asB (enon (evar 14)))) (asB (e2 (din false) (e2 dix (evar 0) (mr (D.int 0))) (elst (acons (mr (D.str "clash")) (acons (mr (D.str "kept")) anil))))))) (sq (sif (asB (e2 deq (e2 dix (evar 0) (mr (D.int 0))) (mr (D.str "clash")))) (sret (mr (D.str "clash"))) (mr Fl.nx)) (sret (eif (btru (e2 dix (evar 5) (mb (acons (enon (evar 13)) anil) dint))) (mr (D.str "words")) (mr (D.str "tree"))))) (mr Fl.nx)) (sq (asg 7 (eif (asB (enon (evar 12))) (etup (acons (mr D.non) (acons (mr (D.bl false)) anil))) (evar 12))) (sq (asg 8 (eif (asB (e2 deq (e2 dix (evar 0) (mr (D.int 0))) (mr (D.str "base")))) (evar 7) (etup (acons (mr D.non) (acons (mr (D.bl false)) anil))))) (sq (asg 9 (eif (asB (enon (evar 13))) (evar 8) (evar 13))) (sq (asg 10 (eif (asB (enon (evar 14))) (evar 8) (evar 14))) (sq (sasg (mb (acons (evar 0) (acons (e2 dix (evar 7) (mr (D.int 0))) (acons (e2 dix (evar 9) (mr (D.int 0))) (acons (e2 dix (evar 10) (mr (D.int 0))) anil)))) fun ds => call0 f_law_merged_value (ds ++ [])) (gtup 2 (gcons (gname 15) (gcons (gname 16) gnil)))) (sq (sif (bor (btru (evar 16)) (asB (e2 deq (e2 dix (evar 2) (mr (D.int 9))) (mr (D.str "clash"))))) (sret (mr (D.str "clash"))) (mr Fl.nx)) (sq (sif (band (btru (e2 dix (evar 0) (mr (D.int 3)))) (band (bnot (btru (evar 6))) (band (asB (enon (evar 15))) (asB (e2 deq (e2 dix (evar 2) (mr (D.int 3))) (mr (D.int 0))))))) (sret (mr (D.str "none"))) (mr Fl.nx)) (sq (asg 11 (eif (asB (e2 deq (e2 dix (evar 9) (mr (D.int 1))) (e2 dix (evar 7) (mr (D.int 1))))) (e2 dix (evar 10) (mr (D.int 1))) (e2 dix (evar 9) (mr (D.int 1))))) (sq (sif (asB (enno (e2 dix (evar 0) (mr (D.int 4))))) (asg 11 (e2 dix (e2 dix (evar 0) (mr (D.int 4))) (etup (acons (evar 6) (acons (enno (evar 15)) (acons (e2 dix (evar 2) (mr (D.int 3))) anil)))))) (mr Fl.nx)) (sq (sif (bor (asB (e2 deq (e2 dix (evar 2) (mr (D.int 9))) (mr (D.str "words")))) (asB (e2 (din true) (evar 15) (mb (acons (e2 dix (evar 7) (mr (D.int 0))) (acons (mb (acons (evar 13) anil) fun ds => call0 f_law_value (ds ++ [])) (acons (mb (acons (evar 14) anil) fun ds => call0 f_law_value (ds ++ [])) anil))) fun ds => call0 f_law_due (ds ++ []))))) (sret (mr (D.str "words"))) (mr Fl.nx)) (sret (eif (band (asB (e2 deq (e2 dix (evar 2) (mr (D.int 9))) (mr (D.str "right")))) (asB (e2 (din false) (etup (acons (enno (evar 15)) (acons (evar 11) (acons (e2 dix (evar 2) (mr (D.int 3))) anil)))) (evar 1)))) (mr (D.str "tree")) (mr (D.str "rule"))))))))))))))))))
def f_law_outcome : List D → Ou D := fn0 7 17 m_law_outcome
def dd_law_outcome : List D := []
theorem ok_law_outcome {f : Addr} {fd : FuncData} (T : Tx c.mg) (hF : Fs c) (h_law_merged_value : ClD P base c 1 "_law_merged_value" ["_law_plan_here", "_law_base", "_law_one", "_law_other"] (sp0 c f_law_merged_value) []) (h_law_due : ClD P base c 1 "_law_due" ["_law_base", "_law_one", "_law_other"] (sp0 c f_law_due) []) (h_law_value : ClD P base c 1 "_law_value" ["_law_cell"] (sp0 c f_law_value) []) (F : FunD c.K "_law_outcome" "_law_outcome" (defArgs s_law_outcome) (defBody s_law_outcome) (defScope s_law_outcome) [] [] f fd) : FnOk P c.w c.K c.mg base CX0 2 f fd p_law_outcome (sp0 c f_law_outcome) :=
  ok_0 (k := 1) F sc_law_outcome (fM := m_law_outcome) fun cdv A outer s H E g hr hg fx => by
    subst hg
    exact (ss_cons (ss_asg (se_var 3 (pv 3)) (sg_tup (n := 3) fx (sg_cons (sg_name (i := 12) fx rfl (by first | exact Or.inl rfl | exact Or.inr rfl)) (sg_cons (sg_name (i := 13) fx rfl (by first | exact Or.inl rfl | exact Or.inr rfl)) (sg_cons (sg_name (i := 14) fx rfl (by first | exact Or.inl rfl | exact Or.inr rfl)) sg_nil))))) (ss_cons (ss_if (st_w (sw_or (st_val fx (se_ix fx (se_var 4 (pv 4)) se_int)) (sw_or1 (st_val fx (se_ix fx (se_var 4 (pv 4)) se_int))))) (ss_one (ss_ret (se_if (st_isN (se_if (st_val fx (se_ix fx (se_var 4 (pv 4)) se_int)) (se_var 14 (pv 14)) (se_var 13 (pv 13)))) se_str se_str))) ss_nil) (ss_cons (ss_if (st_w (sw_and (st_isN (se_var 13 (pv 13))) (sw_and1 (st_isN (se_var 14 (pv 14)))))) (ss_one (ss_ret (se_if (st_cmp (cs_eq fx) (se_ix fx (se_var 0 (pv 0)) se_int) se_str) se_str se_str))) ss_nil) (ss_cons (ss_if (st_w (sw_and (st_noN (se_var 12 (pv 12))) (sw_and (st_w (sw_or (st_isN (se_var 13 (pv 13))) (sw_or1 (st_isN (se_var 14 (pv 14)))))) (sw_and1 (st_cmp (cs_in fx) (se_ix fx (se_var 0 (pv 0)) se_int) (se_of (sf_lst (sa_cons se_str (sa_cons se_str sa_nil))))))))) (ss_cons (ss_if (st_cmp (cs_eq fx) (se_ix fx (se_var 0 (pv 0)) se_int) se_str) (ss_one (ss_ret se_str)) ss_nil) (ss_one (ss_ret (se_if (st_val fx (se_ix fx (se_var 5 (pv 5)) (se_intC fx (by rfl) T.int_ (se_isN (se_var 13 (pv 13)))))) se_str se_str)))) ss_nil) (ss_cons (ss_set (i := 7) fx rfl (by first | exact Or.inl rfl | exact Or.inr rfl) (se_if (st_isN (se_var 12 (pv 12))) (se_tup (sa_cons se_non (sa_cons se_bl sa_nil))) (se_var 12 (pv 12)))) (ss_cons (ss_set (i := 8) fx rfl (by first | exact Or.inl rfl | exact Or.inr rfl) (se_if (st_cmp (cs_eq fx) (se_ix fx (se_var 0 (pv 0)) se_int) se_str) (se_var 7 (pv 7)) (se_tup (sa_cons se_non (sa_cons se_bl sa_nil))))) (ss_cons (ss_set (i := 9) fx rfl (by first | exact Or.inl rfl | exact Or.inr rfl) (se_if (st_isN (se_var 13 (pv 13))) (se_var 8 (pv 8)) (se_var 13 (pv 13)))) (ss_cons (ss_set (i := 10) fx rfl (by first | exact Or.inl rfl | exact Or.inr rfl) (se_if (st_isN (se_var 14 (pv 14))) (se_var 8 (pv 8)) (se_var 14 (pv 14)))) (ss_cons (ss_asg (se_call0 fx h_law_merged_value (hr.mono (by decide)) (by rfl) (sa_cons (se_var 0 (pv 0)) (sa_cons (se_ix fx (se_var 7 (pv 7)) se_int) (sa_cons (se_ix fx (se_var 9 (pv 9)) se_int) (sa_cons (se_ix fx (se_var 10 (pv 10)) se_int) sa_nil))))) (sg_tup (n := 2) fx (sg_cons (sg_name (i := 15) fx rfl (by first | exact Or.inl rfl | exact Or.inr rfl)) (sg_cons (sg_name (i := 16) fx rfl (by first | exact Or.inl rfl | exact Or.inr rfl)) sg_nil)))) (ss_cons (ss_if (st_w (sw_or (st_val fx (se_var 16 (pv 16))) (sw_or1 (st_cmp (cs_eq fx) (se_ix fx (se_var 2 (pv 2)) se_int) se_str)))) (ss_one (ss_ret se_str)) ss_nil) (ss_cons (ss_if (st_w (sw_and (st_val fx (se_ix fx (se_var 0 (pv 0)) se_int)) (sw_and (st_not (st_val fx (se_var 6 (pv 6)))) (sw_and (st_isN (se_var 15 (pv 15))) (sw_and1 (st_cmp (cs_eq fx) (se_ix fx (se_var 2 (pv 2)) se_int) se_int)))))) (ss_one (ss_ret se_str)) ss_nil) (ss_cons (ss_set (i := 11) fx rfl (by first | exact Or.inl rfl | exact Or.inr rfl) (se_if (st_cmp (cs_eq fx) (se_ix fx (se_var 9 (pv 9)) se_int) (se_ix fx (se_var 7 (pv 7)) se_int)) (se_ix fx (se_var 10 (pv 10)) se_int) (se_ix fx (se_var 9 (pv 9)) se_int))) (ss_cons (ss_if (st_noN (se_ix fx (se_var 0 (pv 0)) se_int)) (ss_one (ss_set (i := 11) fx rfl (by first | exact Or.inl rfl | exact Or.inr rfl) (se_ix fx (se_ix fx (se_var 0 (pv 0)) se_int) (se_tup (sa_cons (se_var 6 (pv 6)) (sa_cons (se_noN (se_var 15 (pv 15))) (sa_cons (se_ix fx (se_var 2 (pv 2)) se_int) sa_nil))))))) ss_nil) (ss_cons (ss_if (st_w (sw_or (st_cmp (cs_eq fx) (se_ix fx (se_var 2 (pv 2)) se_int) se_str) (sw_or1 (st_cmp (cs_notIn fx) (se_var 15 (pv 15)) (se_call0 fx h_law_due (hr.mono (by decide)) (by rfl) (sa_cons (se_ix fx (se_var 7 (pv 7)) se_int) (sa_cons (se_call0 fx h_law_value (hr.mono (by decide)) (by rfl) (sa_cons (se_var 13 (pv 13)) sa_nil)) (sa_cons (se_call0 fx h_law_value (hr.mono (by decide)) (by rfl) (sa_cons (se_var 14 (pv 14)) sa_nil)) sa_nil)))))))) (ss_one (ss_ret se_str)) ss_nil) (ss_one (ss_ret (se_if (st_w (sw_and (st_cmp (cs_eq fx) (se_ix fx (se_var 2 (pv 2)) se_int) se_str) (sw_and1 (st_cmp (cs_in fx) (se_tup (sa_cons (se_noN (se_var 15 (pv 15))) (sa_cons (se_var 11 (pv 11)) (sa_cons (se_ix fx (se_var 2 (pv 2)) se_int) sa_nil)))) (se_var 1 (pv 1)))))) se_str se_str)))))))))))))))))
abbrev s_law_closed : Stmt := top 53
abbrev N_law_closed : List Str := ["_law_plan_here", "_law_kinds_here", "_law_total", "_law_cells", "_law_at_root", "_law_lacking", "_law_at", "_law_same", "_law_alike", "_law_both", "_law_outcome_here", "_law_base", "_law_one", "_law_other", "_law_was", "_law_left", "_law_right", "_law_cell"]
abbrev p_law_closed : List Str := ["_law_plan_here", "_law_kinds_here", "_law_total", "_law_cells", "_law_at_root"]
theorem sc_law_closed : FnScope N_law_closed p_law_closed (defScope s_law_closed) := ⟨rfl, rfl, rfl, by decide +kernel, rfl, by decide +kernel, by decide +kernel⟩
def m_law_closed : M Fl := (sq (asg 5 (lcD (mb (acons (mr (D.int 3)) anil) drng1) (gname 6) (asB (enon (e2 dix (evar 3) (evar 6)))) (evar 6) [6])) (sq (sif (bor (asB (e2 deq (mb (acons (evar 5) anil) dlen) (mr (D.int 3)))) (band (btru (evar 4)) (asB (e2 dne (evar 5) (elst anil))))) (sret (mr D.non)) (mr Fl.nx)) (sq (sfor (mb (acons (mr (D.int 3)) anil) drng1) (gname 6) (sq (sif (band (asB (enon (e2 dix (evar 3) (evar 6)))) (asB (e2 dgt (e2 dix (evar 2) (evar 6)) (mr (D.int 0))))) (sret (mr D.non)) (mr Fl.nx)) (sif (asB (enno (e2 dix (evar 3) (evar 6)))) (sif (asB (e2 (din true) (etup (acons (enno (e2 dix (e2 dix (evar 3) (evar 6)) (mr (D.int 0)))) (acons (e2 dix (e2 dix (evar 3) (evar 6)) (mr (D.int 1))) (acons (e2 dix (evar 2) (evar 6)) anil)))) (evar 1))) (sret (mr D.non)) (mr Fl.nx)) (mr Fl.nx)))) (sq (sasg (evar 3) (gtup 3 (gcons (gname 11) (gcons (gname 12) (gcons (gname 13) gnil))))) (sq (asg 7 (elst (acons (eand (e2 deq (evar 12) (evar 11)) (eor (enon (evar 11)) (e2 dix (evar 2) (mr (D.int 4))))) (acons (eand (e2 deq (evar 13) (evar 11)) (eor (enon (evar 11)) (e2 dix (evar 2) (mr (D.int 5))))) anil)))) (sq (sasg (lcD (mb (evar 3) items) (gname 17) (mr true) (mb (acons (evar 17) anil) fun ds => call0 f_law_value (ds ++ [])) [17]) (gtup 3 (gcons (gname 14) (gcons (gname 15) (gcons (gname 16) gnil))))) (sq (asg 8 (elst (acons (eor (e2 dix (evar 2) (mr (D.int 6))) (eand (enno (evar 14)) (e2 deq (evar 15) (evar 14)))) (acons (eor (e2 dix (evar 2) (mr (D.int 7))) (eand (enno (evar 14)) (e2 deq (evar 16) (evar 14)))) anil)))) (sq (asg 9 (eor (e2 dix (evar 2) (mr (D.int 8))) (eand (e2 dne (evar 15) (evar 14)) (e2 dne (evar 16) (evar 14))))) (sq (asg 10 (mb (acons (evar 0) (acons (evar 1) (acons (evar 2) (acons (evar 3) (acons (evar 7) (acons (evar 8) (acons (evar 4) anil))))))) fun ds => call0 f_law_outcome (ds ++ []))) (sret (mb (acons (e2 dadd (e2 dadd (e2 dadd (lcD (mb (evar 3) items) (gname 17) (mr true) (enno (evar 17)) [17]) (evar 7)) (evar 8)) (elst (acons (evar 9) (acons (evar 10) anil)))) anil) dtuple)))))))))))
def f_law_closed : List D → Ou D := fn0 5 18 m_law_closed
def dd_law_closed : List D := []
theorem ok_law_closed {f : Addr} {fd : FuncData} (T : Tx c.mg) (hF : Fs c) (h_law_value : ClD P base c 1 "_law_value" ["_law_cell"] (sp0 c f_law_value) []) (h_law_outcome : ClD P base c 2 "_law_outcome" ["_law_plan_here", "_law_kinds_here", "_law_total", "_law_cells", "_law_same", "_law_alike", "_law_at_root"] (sp0 c f_law_outcome) []) (F : FunD c.K "_law_closed" "_law_closed" (defArgs s_law_closed) (defBody s_law_closed) (defScope s_law_closed) [] [] f fd) : FnOk P c.w c.K c.mg base CX0 3 f fd p_law_closed (sp0 c f_law_closed) :=
  ok_0 (k := 2) F sc_law_closed (fM := m_law_closed) fun cdv A outer s H E g hr hg fx => by
    subst hg
    exact (ss_cons (ss_lc (i := 5) (own := [("_law_at", 6)]) fx rfl rfl (sw_true rfl rfl rfl (by decide +kernel)) (si_range1 fx (by rfl) T.range_ (sa_cons se_int sa_nil)) (blkOk_by (N := N_law_closed) (sc := defScope s_law_closed) (by decide +kernel)) (fun _ _ _ _ _ => (sg_name (i := 6) fx.blk rfl (by first | exact Or.inl rfl | exact Or.inr rfl))) (fun _ _ _ _ _ => (ts_one (st_isN (se_ix fx.blk (se_var 3 (pv 3)) (se_var 6 (pv 6)))))) (fun _ _ _ _ _ => (se_var 6 (pv 6)))) (ss_cons (ss_if (st_w (sw_or (st_cmp (cs_eq fx) (se_len fx (by rfl) T.len_ (se_var 5 (pv 5))) se_int) (sw_or1 (st_w (sw_and (st_val fx (se_var 4 (pv 4))) (sw_and1 (st_cmp (cs_ne fx) (se_var 5 (pv 5)) (se_of (sf_lst sa_nil))))))))) (ss_one (ss_ret se_non)) ss_nil) (ss_cons (ss_for fx (si_range1 fx (by rfl) T.range_ (sa_cons se_int sa_nil)) (sg_name (i := 6) fx rfl (by first | exact Or.inl rfl | exact Or.inr rfl)) (ss_cons (ss_if (st_w (sw_and (st_isN (se_ix fx (se_var 3 (pv 3)) (se_var 6 (pv 6)))) (sw_and1 (st_cmp cs_gt (se_ix fx (se_var 2 (pv 2)) (se_var 6 (pv 6))) se_int)))) (ss_one (ss_ret se_non)) ss_nil) (ss_one (ss_if (st_noN (se_ix fx (se_var 3 (pv 3)) (se_var 6 (pv 6)))) (ss_one (ss_if (st_cmp (cs_notIn fx) (se_tup (sa_cons (se_noN (se_ix fx (se_ix fx (se_var 3 (pv 3)) (se_var 6 (pv 6))) se_int)) (sa_cons (se_ix fx (se_ix fx (se_var 3 (pv 3)) (se_var 6 (pv 6))) se_int) (sa_cons (se_ix fx (se_var 2 (pv 2)) (se_var 6 (pv 6))) sa_nil)))) (se_var 1 (pv 1))) (ss_one (ss_ret se_non)) ss_nil)) ss_nil)))) (ss_cons (ss_asg (se_var 3 (pv 3)) (sg_tup (n := 3) fx (sg_cons (sg_name (i := 11) fx rfl (by first | exact Or.inl rfl | exact Or.inr rfl)) (sg_cons (sg_name (i := 12) fx rfl (by first | exact Or.inl rfl | exact Or.inr rfl)) (sg_cons (sg_name (i := 13) fx rfl (by first | exact Or.inl rfl | exact Or.inr rfl)) sg_nil))))) (ss_cons (ss_set (i := 7) fx rfl (by first | exact Or.inl rfl | exact Or.inr rfl) (se_of (sf_lst (sa_cons (se_and fx (se_cmp (cs_eq fx) (se_var 12 (pv 12)) (se_var 11 (pv 11))) (se_one (se_or fx (se_isN (se_var 11 (pv 11))) (se_one (se_ix fx (se_var 2 (pv 2)) se_int))))) (sa_cons (se_and fx (se_cmp (cs_eq fx) (se_var 13 (pv 13)) (se_var 11 (pv 11))) (se_one (se_or fx (se_isN (se_var 11 (pv 11))) (se_one (se_ix fx (se_var 2 (pv 2)) se_int))))) sa_nil))))) (ss_cons (ss_asg (se_of (sf_lc (own := [("_law_cell", 17)]) fx (si_seq fx (se_var 3 (pv 3))) (blkOk_by (N := N_law_closed) (sc := defScope s_law_closed) (by decide +kernel)) (fun _ _ _ _ _ => (sg_name (i := 17) fx.blk rfl (by first | exact Or.inl rfl | exact Or.inr rfl))) (fun _ _ _ _ _ => ts_nil) (fun _ _ _ _ _ => (se_call0 fx.blk h_law_value (hr.mono (by decide)) (by rfl) (sa_cons (se_var 17 (pv 17)) sa_nil))))) (sg_tup (n := 3) fx (sg_cons (sg_name (i := 14) fx rfl (by first | exact Or.inl rfl | exact Or.inr rfl)) (sg_cons (sg_name (i := 15) fx rfl (by first | exact Or.inl rfl | exact Or.inr rfl)) (sg_cons (sg_name (i := 16) fx rfl (by first | exact Or.inl rfl | exact Or.inr rfl)) sg_nil))))) (ss_cons (ss_set (i := 8) fx rfl (by first | exact Or.inl rfl | exact Or.inr rfl) (se_of (sf_lst (sa_cons (se_or fx (se_ix fx (se_var 2 (pv 2)) se_int) (se_one (se_and fx (se_noN (se_var 14 (pv 14))) (se_one (se_cmp (cs_eq fx) (se_var 15 (pv 15)) (se_var 14 (pv 14))))))) (sa_cons (se_or fx (se_ix fx (se_var 2 (pv 2)) se_int) (se_one (se_and fx (se_noN (se_var 14 (pv 14))) (se_one (se_cmp (cs_eq fx) (se_var 16 (pv 16)) (se_var 14 (pv 14))))))) sa_nil))))) (ss_cons (ss_set (i := 9) fx rfl (by first | exact Or.inl rfl | exact Or.inr rfl) (se_or fx (se_ix fx (se_var 2 (pv 2)) se_int) (se_one (se_and fx (se_cmp (cs_ne fx) (se_var 15 (pv 15)) (se_var 14 (pv 14))) (se_one (se_cmp (cs_ne fx) (se_var 16 (pv 16)) (se_var 14 (pv 14)))))))) (ss_cons (ss_set (i := 10) fx rfl (by first | exact Or.inl rfl | exact Or.inr rfl) (se_call0 fx h_law_outcome (hr.mono (by decide)) (by rfl) (sa_cons (se_var 0 (pv 0)) (sa_cons (se_var 1 (pv 1)) (sa_cons (se_var 2 (pv 2)) (sa_cons (se_var 3 (pv 3)) (sa_cons (se_var 7 (pv 7)) (sa_cons (se_var 8 (pv 8)) (sa_cons (se_var 4 (pv 4)) sa_nil))))))))) (ss_one (ss_ret (se_tupleC fx (by rfl) T.tuple_ (se_add fx (se_add fx (se_add fx (se_of (sf_lc (own := [("_law_cell", 17)]) fx (si_seq fx (se_var 3 (pv 3))) (blkOk_by (N := N_law_closed) (sc := defScope s_law_closed) (by decide +kernel)) (fun _ _ _ _ _ => (sg_name (i := 17) fx.blk rfl (by first | exact Or.inl rfl | exact Or.inr rfl))) (fun _ _ _ _ _ => ts_nil) (fun _ _ _ _ _ => (se_noN (se_var 17 (pv 17)))))) (se_var 7 (pv 7))) (se_var 8 (pv 8))) (se_of (sf_lst (sa_cons (se_var 9 (pv 9)) (sa_cons (se_var 10 (pv 10)) sa_nil)))))))))))))))))
abbrev s_law_kinds_right : Stmt := top 54
abbrev N_law_kinds_right : List Str := ["_law_told", "_law_ways", "_law_each"]
abbrev p_law_kinds_right : List Str := ["_law_told", "_law_ways"]
theorem sc_law_kinds_right : FnScope N_law_kinds_right p_law_kinds_right (defScope s_law_kinds_right) := ⟨rfl, rfl, rfl, by decide +kernel, rfl, by decide +kernel, by decide +kernel⟩
def m_law_kinds_right : M Fl := (sret (eand (eisi "tuple" (evar 0)) (e2 deq (lcD (mb (evar 0) items) (gname 2) (mr true) (eisi "bool" (evar 2)) [2]) (evar 1))))
def f_law_kinds_right : List D → Ou D := fn0 2 3 m_law_kinds_right
def dd_law_kinds_right : List D := []
theorem ok_law_kinds_right {f : Addr} {fd : FuncData} (T : Tx c.mg) (hF : Fs c)  (F : FunD c.K "_law_kinds_right" "_law_kinds_right" (defArgs s_law_kinds_right) (defBody s_law_kinds_right) (defScope s_law_kinds_right) [] [] f fd) : FnOk P c.w c.K c.mg base CX0 1 f fd p_law_kinds_right (sp0 c f_law_kinds_right) :=
  ok_0 (k := 0) F sc_law_kinds_right (fM := m_law_kinds_right) fun cdv A outer s H E g hr hg fx => by
    subst hg
    exact (ss_one (ss_ret (se_and fx (se_isi fx Ask.tuple (by rfl) T.isinstance_ (pe_bltn (v := .ty "tuple") (by rfl) (by rw [fx.m]; exact T.tuple_) (by decide +kernel) rfl) (se_var 0 (pv 0))) (se_one (se_cmp (cs_eq fx) (se_of (sf_lc (own := [("_law_each", 2)]) fx (si_seq fx (se_var 0 (pv 0))) (blkOk_by (N := N_law_kinds_right) (sc := defScope s_law_kinds_right) (by decide +kernel)) (fun _ _ _ _ _ => (sg_name (i := 2) fx.blk rfl (by first | exact Or.inl rfl | exact Or.inr rfl))) (fun _ _ _ _ _ => ts_nil) (fun _ _ _ _ _ => (se_isi fx.blk Ask.bool (by rfl) T.isinstance_ (pe_bltn (v := .ty "bool") (by rfl) (by rw [fx.m]; exact T.bool_) (by decide +kernel) rfl) (se_var 2 (pv 2)))))) (se_var 1 (pv 1)))))))
abbrev s_law_sums_so : Stmt := top 55
abbrev N_law_sums_so : List Str := ["_law_pen", "_law_cases", "_law_total", "_law_many"]
abbrev p_law_sums_so : List Str := ["_law_pen", "_law_cases"]
theorem sc_law_sums_so : FnScope N_law_sums_so p_law_sums_so (defScope s_law_sums_so) := ⟨rfl, rfl, rfl, by decide +kernel, rfl, by decide +kernel, by decide +kernel⟩
def m_law_sums_so : M Fl := (sq (asg 2 (call0 f_empty_sum [])) (sq (sfor (mb (acons (e2 dadd (mb (acons (evar 1) anil) dlen) (mr (D.int 1))) anil) drng1) (gname 3) (sq (sif (asB (e2 dne (evar 2) (mb (acons (esl (evar 1) (mr none) (osome (evar 3))) anil) fun ds => call0 f_law_sum_of (ds ++ [])))) (sret (mr (D.bl false))) (mr Fl.nx)) (sq (sif (bnot (btru (mb (acons (evar 2) (acons (e2 dadd (e2 dadd (e2 drep (elst (acons (mr (D.bl false)) anil)) (mr (D.int 4))) (e2 drep (elst (acons (mr (D.bl true)) anil)) (mr (D.int 5)))) (elst (acons (mr (D.bl false)) anil))) anil)) fun ds => call0 f_law_kinds_right (ds ++ [])))) (sret (mr (D.bl false))) (mr Fl.nx)) (sif (asB (e2 dlt (evar 3) (mb (acons (evar 1) anil) dlen))) (asg 2 (mb (acons (evar 2) (acons (e2 dix (evar 1) (evar 3)) anil)) fun ds => call0 f_added (ds ++ []))) (mr Fl.nx))))) (sret (mr (D.bl true)))))
def f_law_sums_so : List D → Pn → Ou D := fnP 2 4 m_law_sums_so
def dd_law_sums_so : List D := []
theorem ok_law_sums_so {f : Addr} {fd : FuncData} (T : Tx c.mg) (hF : Fs c) (h_empty_sum : ClD P base c 1 "empty_sum" [] (sp0 c f_empty_sum) []) (h_law_sum_of : ClD P base c 1 "_law_sum_of" ["_law_cases"] (sp0 c f_law_sum_of) []) (h_law_kinds_right : ClD P base c 1 "_law_kinds_right" ["_law_told", "_law_ways"] (sp0 c f_law_kinds_right) []) (h_added : ClD P base c 2 "added" ["total", "case"] (sp0 c f_added) []) (F : FunD c.K "_law_sums_so" "_law_sums_so" (defArgs s_law_sums_so) (defBody s_law_sums_so) (defScope s_law_sums_so) [] [] f fd) : FnOk P c.w c.K c.mg base CX0 3 f fd p_law_sums_so (spP c "next" f_law_sums_so) :=
  ok_P (k := 2) (nc := "next") F sc_law_sums_so (fM := m_law_sums_so) fun cdv A outer s H E g hr hg pn fx => by
    subst hg
    exact (ss_cons (ss_set (i := 2) fx rfl (by first | exact Or.inl rfl | exact Or.inr rfl) (se_call00 fx h_empty_sum (hr.mono (by decide)) (by rfl))) (ss_cons (ss_for fx (si_range1 fx (by rfl) T.range_ (sa_cons (se_add fx (se_len fx (by rfl) T.len_ (se_var 1 (pv 1))) se_int) sa_nil)) (sg_name (i := 3) fx rfl (by first | exact Or.inl rfl | exact Or.inr rfl)) (ss_cons (ss_if (st_cmp (cs_ne fx) (se_var 2 (pv 2)) (se_call0 fx h_law_sum_of (hr.mono (by decide)) (by rfl) (sa_cons (se_sl fx (se_var 1 (pv 1)) so_none (so_some (se_var 3 (pv 3)))) sa_nil))) (ss_one (ss_ret se_bl)) ss_nil) (ss_cons (ss_if (st_not (st_val fx (se_call0 fx h_law_kinds_right (hr.mono (by decide)) (by rfl) (sa_cons (se_var 2 (pv 2)) (sa_cons (se_add fx (se_add fx (se_rep (se_of (sf_lst (sa_cons se_bl sa_nil))) se_int) (se_rep (se_of (sf_lst (sa_cons se_bl sa_nil))) se_int)) (se_of (sf_lst (sa_cons se_bl sa_nil)))) sa_nil))))) (ss_one (ss_ret se_bl)) ss_nil) (ss_one (ss_if (st_cmp cs_lt (se_var 3 (pv 3)) (se_len fx (by rfl) T.len_ (se_var 1 (pv 1)))) (ss_one (ss_set (i := 2) fx rfl (by first | exact Or.inl rfl | exact Or.inr rfl) (se_call0 fx h_added (hr.mono (by decide)) (by rfl) (sa_cons (se_var 2 (pv 2)) (sa_cons (se_ix fx (se_var 1 (pv 1)) (se_var 3 (pv 3))) sa_nil))))) ss_nil))))) (ss_one (ss_ret se_bl))))
abbrev s_law : Stmt := top 56
abbrev N_law : List Str := ["_law_script", "_law_pen", "_law_turn", "_law_cases", "_law_way", "_law_total", "_law_plan_here", "_law_root", "_law_others", "_law_made_here", "_law_rule", "_law_due_here", "_law_told", "_law_case_here", "_law_cells", "_law_at_root"]
abbrev p_law : List Str := ["_law_script"]
theorem sc_law : FnScope N_law p_law (defScope s_law) := ⟨rfl, rfl, rfl, by decide +kernel, rfl, by decide +kernel, by decide +kernel⟩
def m_law : M Fl := (sq (sfor (mb (acons (mr (D.int 12)) anil) drng1) (gname 2) (sq (asg 3 (lcD (mb (acons (penc 1 (mb (acons (mr (D.int 7)) anil) (callP f_law_draw))) anil) drng1) (gname 13) (mr true) (penc 1 (mb anil (callP f_law_case))) [13])) (sq (sif (bnot (btru (penc 1 (mb (acons (evar 3) anil) (callP f_law_sums_so))))) (sret (mr (D.bl false))) (mr Fl.nx)) (sq (spar 5 6 (acons (mb (acons (evar 3) anil) fun ds => call0 f_law_sum_of (ds ++ [])) (acons (penc 1 (mb anil (callP f_law_plan))) anil))) (sq (spar 7 8 (acons (penc 1 (mb anil (callP f_law_kinds))) (acons (penc 1 (mb anil (callP f_law_kinds))) anil))) (sq (spar 9 10 (acons (mb (acons (evar 6) anil) fun ds => call0 f_law_made (ds ++ [])) (acons (mb (acons (evar 7) (acons (evar 8) anil)) fun ds => callI "Rule" f_Rule__init (ds ++ [])) anil))) (sfor (mb (acons (mr (D.int 3)) anil) drng1) (gname 4) (sq (spar 14 15 (acons (penc 1 (mb (acons (evar 5) anil) (callP f_law_some_cells))) (acons (e2 deq (evar 4) (mr (D.int 0))) anil))) (sq (asg 11 (mb (acons (evar 6) (acons (eif (btru (evar 15)) (evar 7) (evar 8)) (acons (evar 5) (acons (evar 14) (acons (evar 15) anil))))) fun ds => call0 f_law_closed (ds ++ []))) (sq (asg 12 (eif (asB (e2 deq (evar 4) (mr (D.int 1)))) (mb (acons (evar 9) (acons (evar 10) (acons (evar 5) (acons (evar 14) anil)))) fun ds => call0 f_closed (ds ++ dd_closed)) (mb (acons (evar 9) (acons (evar 10) (acons (evar 5) (acons (evar 14) (acons (evar 15) anil))))) fun ds => call0 f_closed (ds ++ [])))) (sif (bor (asB (e2 dne (evar 12) (evar 11))) (band (asB (enno (evar 11))) (bnot (btru (mb (acons (evar 12) (acons (e2 dadd (e2 drep (elst (acons (mr (D.bl true)) anil)) (mr (D.int 8))) (elst (acons (mr (D.bl false)) anil))) anil)) fun ds => call0 f_law_kinds_right (ds ++ [])))))) (sret (mr (D.bl false))) (mr Fl.nx)))))))))))) (sret (mr (D.bl true))))
theorem ok_law {f : Addr} {fd : FuncData} (T : Tx c.mg) (hF : Fs c) (h_penOf : ClD P base c 1 "_law_pen_of" ["_law_script"] (spPen c.K "next") []) (h_law_draw : ClD P base c 1 "_law_draw" ["_law_pen", "_law_many"] (spP c "next" f_law_draw) []) (h_law_case : ClD P base c 3 "_law_case" ["_law_pen"] (spP c "next" f_law_case) []) (h_law_sums_so : ClD P base c 3 "_law_sums_so" ["_law_pen", "_law_cases"] (spP c "next" f_law_sums_so) []) (h_law_plan : ClD P base c 3 "_law_plan" ["_law_pen"] (spP c "next" f_law_plan) []) (h_law_sum_of : ClD P base c 1 "_law_sum_of" ["_law_cases"] (sp0 c f_law_sum_of) []) (h_law_kinds : ClD P base c 3 "_law_kinds" ["_law_pen"] (spP c "next" f_law_kinds) []) (h_Rule__init_0 : ClI P base c 4 "Rule" ["self", "root", "others"] (spI c "Rule" f_Rule__init) []) (h_law_made : ClD P base c 4 "_law_made" ["_law_plan_here"] (sp0 c f_law_made) []) (h_law_some_cells : ClD P base c 3 "_law_some_cells" ["_law_pen", "_law_total"] (spP c "next" f_law_some_cells) []) (h_law_closed : ClD P base c 3 "_law_closed" ["_law_plan_here", "_law_kinds_here", "_law_total", "_law_cells", "_law_at_root"] (sp0 c f_law_closed) []) (h_closed_d : ClD P base c 5 "closed" ["plan", "rule", "total", "cells", "root"] (sp0 c f_closed) dd_closed) (h_closed : ClD P base c 5 "closed" ["plan", "rule", "total", "cells", "root"] (sp0 c f_closed) []) (h_law_kinds_right : ClD P base c 1 "_law_kinds_right" ["_law_told", "_law_ways"] (sp0 c f_law_kinds_right) []) (hM : ∀ ns : List Int, ns.length ≤ 63 → (m_law (rho0 N_law.length) ⟨ns, 0, 0⟩).post (fun fl _ _ => fl = .rt (.bl true)) noX) (F : FunD c.K "law" "law" (defArgs s_law) (defBody s_law) (defScope s_law) [] [] f fd) : FnOk P c.w c.K c.mg base CX0 6 f fd ["_law_script"] (spLaw c.K) := by
  obtain ⟨fp, fdp, dvs, dss, G0, hm0, hk0, hb0, hd0, hl0⟩ := h_penOf.ex
  have e0 : dvs = [] := by have := hl0 (fun _ => none); cases this; rfl
  subst e0
  refine ok_L (k := 5) (n := "next") F sc_law (by decide) (fM := m_law) (show defBody s_law = (defBody s_law).getD 0 (.Pass ⟨0, 0, 0, 0⟩) :: (defBody s_law).drop 1 from rfl) (fun cdv A outer s H E hr => ?_) (fun cdv A outer s H E g hr hg pn fx => ?_) hM
  · exact ps_set (i := 1) sc_law.nd rfl (by first | exact Or.inl rfl | exact Or.inr rfl) (pe_call G0 (hr.mono (by decide)) (by rfl) hm0 hk0 hb0 hd0 pass0 (pa_cons (pv 0) pa_nil))
  · subst hg
    exact (ss_cons (ss_for fx (si_range1 fx (by rfl) T.range_ (sa_cons se_int sa_nil)) (sg_name (i := 2) fx rfl (by first | exact Or.inl rfl | exact Or.inr rfl)) (ss_cons (ss_lc (i := 3) (own := [("_law_case_here", 13)]) fx rfl rfl (sw_true rfl rfl rfl (by decide +kernel)) (si_range1 fx (by rfl) T.range_ (sa_cons (se_callP (i := 1) fx pn h_law_draw (hr.mono (by decide)) (by rfl) (pv 1) (sa_cons se_int sa_nil)) sa_nil)) (blkOk_by (N := N_law) (sc := defScope s_law) (by decide +kernel)) (fun _ _ _ _ _ => (sg_name (i := 13) fx.blk rfl (by first | exact Or.inl rfl | exact Or.inr rfl))) (fun _ _ _ _ _ => ts_nil) (fun _ _ _ _ _ => (se_callP (i := 1) fx.blk pn h_law_case (hr.mono (by decide)) (by rfl) (pv 1) sa_nil))) (ss_cons (ss_if (st_not (st_val fx (se_callP (i := 1) fx pn h_law_sums_so (hr.mono (by decide)) (by rfl) (pv 1) (sa_cons (se_var 3 (pv 3)) sa_nil)))) (ss_one (ss_ret se_bl)) ss_nil) (ss_cons (ss_par (i := 5) (j := 6) fx rfl rfl (by decide) rfl rfl (sa_cons (se_call0 fx h_law_sum_of (hr.mono (by decide)) (by rfl) (sa_cons (se_var 3 (pv 3)) sa_nil)) (sa_cons (se_callP (i := 1) fx pn h_law_plan (hr.mono (by decide)) (by rfl) (pv 1) sa_nil) sa_nil)) (by rfl)) (ss_cons (ss_par (i := 7) (j := 8) fx rfl rfl (by decide) rfl rfl (sa_cons (se_callP (i := 1) fx pn h_law_kinds (hr.mono (by decide)) (by rfl) (pv 1) sa_nil) (sa_cons (se_callP (i := 1) fx pn h_law_kinds (hr.mono (by decide)) (by rfl) (pv 1) sa_nil) sa_nil)) (by rfl)) (ss_cons (ss_par (i := 9) (j := 10) fx rfl rfl (by decide) rfl rfl (sa_cons (se_call0 fx h_law_made (hr.mono (by decide)) (by rfl) (sa_cons (se_var 6 (pv 6)) sa_nil)) (sa_cons (se_make fx h_Rule__init_0 (hr.mono (by decide)) (by rfl) (sa_cons (se_var 7 (pv 7)) (sa_cons (se_var 8 (pv 8)) sa_nil))) sa_nil)) (by rfl)) (ss_one (ss_for fx (si_range1 fx (by rfl) T.range_ (sa_cons se_int sa_nil)) (sg_name (i := 4) fx rfl (by first | exact Or.inl rfl | exact Or.inr rfl)) (ss_cons (ss_par (i := 14) (j := 15) fx rfl rfl (by decide) rfl rfl (sa_cons (se_callP (i := 1) fx pn h_law_some_cells (hr.mono (by decide)) (by rfl) (pv 1) (sa_cons (se_var 5 (pv 5)) sa_nil)) (sa_cons (se_cmp (cs_eq fx) (se_var 4 (pv 4)) se_int) sa_nil)) (by rfl)) (ss_cons (ss_set (i := 11) fx rfl (by first | exact Or.inl rfl | exact Or.inr rfl) (se_call0 fx h_law_closed (hr.mono (by decide)) (by rfl) (sa_cons (se_var 6 (pv 6)) (sa_cons (se_if (st_val fx (se_var 15 (pv 15))) (se_var 7 (pv 7)) (se_var 8 (pv 8))) (sa_cons (se_var 5 (pv 5)) (sa_cons (se_var 14 (pv 14)) (sa_cons (se_var 15 (pv 15)) sa_nil))))))) (ss_cons (ss_set (i := 12) fx rfl (by first | exact Or.inl rfl | exact Or.inr rfl) (se_if (st_cmp (cs_eq fx) (se_var 4 (pv 4)) se_int) (se_call0 fx h_closed_d (hr.mono (by decide)) (by rfl) (sa_cons (se_var 9 (pv 9)) (sa_cons (se_var 10 (pv 10)) (sa_cons (se_var 5 (pv 5)) (sa_cons (se_var 14 (pv 14)) sa_nil))))) (se_call0 fx h_closed (hr.mono (by decide)) (by rfl) (sa_cons (se_var 9 (pv 9)) (sa_cons (se_var 10 (pv 10)) (sa_cons (se_var 5 (pv 5)) (sa_cons (se_var 14 (pv 14)) (sa_cons (se_var 15 (pv 15)) sa_nil)))))))) (ss_one (ss_if (st_w (sw_or (st_cmp (cs_ne fx) (se_var 12 (pv 12)) (se_var 11 (pv 11))) (sw_or1 (st_w (sw_and (st_noN (se_var 11 (pv 11))) (sw_and1 (st_not (st_val fx (se_call0 fx h_law_kinds_right (hr.mono (by decide)) (by rfl) (sa_cons (se_var 12 (pv 12)) (sa_cons (se_add fx (se_rep (se_of (sf_lst (sa_cons se_bl sa_nil))) se_int) (se_of (sf_lst (sa_cons se_bl sa_nil)))) sa_nil))))))))))) (ss_one (ss_ret se_bl)) ss_nil))))))))))))) (ss_one (ss_ret se_bl)))
end
end K61

set_option Elab.async false
set_option linter.all false
set_option maxRecDepth 100000
set_option maxHeartbeats 1000000
namespace DL
open PySem PySem.Spec PyProof.Rows
open L2 hiding isNon
/-! ### running M -/
def Ou.is {α : Type} (r : Ou α) (a : α) : Prop := ∃ ρ t, r = .ok a ρ t
@[simp] theorem mb_ap {α β : Type} (m : M α) (k : α → M β) (ρ : List Sl) (t : Pn) : mb m k ρ t = (m ρ t).bind k := rfl
@[simp] theorem mr_ap {α : Type} (a : α) (ρ : List Sl) (t : Pn) : mr a ρ t = .ok a ρ t := rfl
@[simp] theorem mx_ap {α : Type} (ρ : List Sl) (t : Pn) : (mx : M α) ρ t = .bad := rfl
@[simp] theorem bind_ok' {α β : Type} (a : α) (ρ : List Sl) (t : Pn) (k : α → M β) : (Ou.ok a ρ t).bind k = k a ρ t := rfl
@[simp] theorem bind_bad' {α β : Type} (k : α → M β) : (Ou.bad : Ou α).bind k = .bad := rfl
@[simp] theorem evar_ap (i : Nat) (ρ : List Sl) (t : Pn) (d : D) (h : ρ[i]? = some (.im d)) : evar i ρ t = .ok d ρ t := by unfold evar; rw [h]
@[simp] theorem ite_ap {α : Type} (c : Prop) [Decidable c] (f h : M α) (ρ : List Sl) (t : Pn) : (if c then f else h) ρ t = if c then f ρ t else h ρ t := by split <;> rfl
@[simp] theorem ite_bind {α β : Type} (c : Prop) [Decidable c] (f h : Ou α) (k : α → M β) : (if c then f else h).bind k = if c then f.bind k else h.bind k := by split <;> rfl
@[simp] theorem is_ok {α : Type} (a b : α) (ρ : List Sl) (t : Pn) : (Ou.ok a ρ t).is b ↔ a = b := ⟨fun ⟨_, _, e⟩ => by cases e; rfl, fun e => by rw [e]; exact ⟨_, _, rfl⟩⟩
theorem truth_bl (b : Bool) : truth (.bl b) = some b := rfl
theorem truth_non : truth .non = some false := rfl
theorem call0_is {fn : List D → Ou D} {ds : List D} {d : D} (h : (fn ds).is d) (ρ : List Sl) (t : Pn) : call0 fn ds ρ t = .ok d ρ t := by
  obtain ⟨ρ', t', e⟩ := h
  unfold call0
  rw [e]
  rfl
theorem callI_is {n : Str} {fn : List D → Ou (List Str × List D)} {ds : List D} {r : List Str × List D} (h : (fn ds).is r) (ρ : List Sl) (t : Pn) : callI n fn ds ρ t = .ok (.obj n r.1 r.2) ρ t := by
  obtain ⟨ρ', t', e⟩ := h
  unfold callI
  rw [e]
  rfl
theorem iteB_and (P : Prop) [Decidable P] (c : Bool) (ρ : List Sl) (t : Pn) : (if P then (Ou.ok c ρ t : Ou Bool) else .ok false ρ t) = .ok (decide P && c) ρ t := by split <;> simp [*]
theorem iteB_or (P : Prop) [Decidable P] (c : Bool) (ρ : List Sl) (t : Pn) : (if P then (Ou.ok true ρ t : Ou Bool) else .ok c ρ t) = .ok (decide P || c) ρ t := by split <;> simp [*]
theorem iteB_and' (P : Prop) [Decidable P] (c : Bool) (ρ : List Sl) (t : Pn) : (if P then (Ou.ok false ρ t : Ou Bool) else .ok c ρ t) = .ok (!decide P && c) ρ t := by split <;> simp [*]
theorem iteB_or' (P : Prop) [Decidable P] (c : Bool) (ρ : List Sl) (t : Pn) : (if P then (Ou.ok c ρ t : Ou Bool) else .ok true ρ t) = .ok (!decide P || c) ρ t := by split <;> simp [*]
/-- and, or, not, truth of a datum that stands there -/
def andM (h : M D) (d : D) : M D := match truth d with
  | some true => h
  | some false => mr d
  | none => mx
def orM (h : M D) (d : D) : M D := match truth d with
  | some false => h
  | some true => mr d
  | none => mx
def notM (d : D) : M D := match truth d with
  | some b => mr (.bl (!b))
  | none => mx
def truM (d : D) : M Bool := match truth d with
  | some b => mr b
  | none => mx
@[simp] theorem eand_ap (f h : M D) (ρ : List Sl) (t : Pn) : eand f h ρ t = (f ρ t).bind (andM h) := rfl
@[simp] theorem eor_ap (f h : M D) (ρ : List Sl) (t : Pn) : eor f h ρ t = (f ρ t).bind (orM h) := rfl
@[simp] theorem enot_ap (f : M D) (ρ : List Sl) (t : Pn) : enot f ρ t = (f ρ t).bind notM := rfl
@[simp] theorem btru_ap (f : M D) (ρ : List Sl) (t : Pn) : btru f ρ t = (f ρ t).bind truM := rfl
@[simp] theorem andM_bl (b : Bool) (h : M D) (ρ : List Sl) (t : Pn) : andM h (.bl b) ρ t = if b = true then h ρ t else .ok (.bl false) ρ t := by cases b <;> rfl
@[simp] theorem orM_bl (b : Bool) (h : M D) (ρ : List Sl) (t : Pn) : orM h (.bl b) ρ t = if b = true then .ok (.bl true) ρ t else h ρ t := by cases b <;> rfl
@[simp] theorem notM_bl (b : Bool) (ρ : List Sl) (t : Pn) : notM (.bl b) ρ t = .ok (.bl (!b)) ρ t := rfl
@[simp] theorem truM_bl (b : Bool) (ρ : List Sl) (t : Pn) : truM (.bl b) ρ t = .ok b ρ t := rfl
end DL

set_option Elab.async false
set_option linter.all false
set_option maxRecDepth 100000
set_option maxHeartbeats 2000000
namespace K61
open PySem PySem.Spec PyProof.Rows DL
open L2 hiding isNon
/-! ### data of the law -/
abbrev Vl := Option Int
abbrev Cel := Option (Vl × Bool)
def eV : Vl → D
  | none => .non
  | some i => .int i
def eC : Cel → D
  | none => .non
  | some (v, b) => .tup [eV v, .bl b]
theorem plain_eV (v : Vl) (n : Nat) : plain n (eV v) = true := by cases v <;> cases n <;> rfl
theorem plain_eC (v : Cel) : plain 60 (eC v) = true := by
  rcases v with _ | ⟨v, b⟩
  · rfl
  · show (plain 59 (eV v) && (plain 59 (.bl b) && true)) = true
    rw [plain_eV]; rfl
theorem eqv_V (v w : Vl) : PyData.eqv (toP (eV v)) (toP (eV w)) = decide (v = w) := by
  rcases v with _ | i <;> rcases w with _ | j <;> simp [eV, toP, PyData.eqv]
  exact Bool.eq_iff_iff.mpr (by simp)
theorem eqv_C (v w : Cel) : PyData.eqv (toP (eC v)) (toP (eC w)) = decide (v = w) := by
  rcases v with _ | ⟨v, b⟩ <;> rcases w with _ | ⟨w, c⟩
  · simp [eC, toP, PyData.eqv]
  · simp [eC, toP, PyData.eqv]
  · simp [eC, toP, PyData.eqv]
  · have h := eqv_V v w
    simp [eC, toP, toPs, PyData.eqv, h]
    have e1 : ∀ (a b c d : PyData), PyData.eqvAll [a, b] [c, d] = (PyData.eqv a c && PyData.eqv b d) := fun a b c d => by simp [PyData.eqvAll]
    rw [e1, h]
    simp [PyData.eqv]
    exact Bool.eq_iff_iff.mpr (by simp)
@[simp] theorem deq_V (v w : Vl) (ρ : List Sl) (t : Pn) : deq (eV v) (eV w) ρ t = .ok (.bl (decide (v = w))) ρ t := by
  unfold deq
  rw [if_pos ⟨plain_eV v 60, plain_eV w 60⟩, eqv_V]; rfl
@[simp] theorem deq_C (v w : Cel) (ρ : List Sl) (t : Pn) : deq (eC v) (eC w) ρ t = .ok (.bl (decide (v = w))) ρ t := by
  unfold deq
  rw [if_pos ⟨plain_eC v, plain_eC w⟩, eqv_C]; rfl
@[simp] theorem deq_B (v w : Bool) (ρ : List Sl) (t : Pn) : deq (.bl v) (.bl w) ρ t = .ok (.bl (decide (v = w))) ρ t := by cases v <;> cases w <;> rfl
@[simp] theorem deq_I (v w : Int) (ρ : List Sl) (t : Pn) : deq (.int v) (.int w) ρ t = .ok (.bl (decide (v = w))) ρ t := by
  have h := deq_V (some v) (some w) ρ t
  simpa [eV] using h
theorem deq_S {x y : Str} (hx : PyData.strOk x = true) (hy : PyData.strOk y = true) (ρ : List Sl) (t : Pn) : deq (.str x) (.str y) ρ t = .ok (.bl (decide (x = y))) ρ t := by
  unfold deq
  rw [if_pos ⟨hx, hy⟩]
  simp [toP, PyData.eqv]
  exact Bool.eq_iff_iff.mpr (by simp)
theorem ok_bl {a b : Bool} (h : a = b) (ρ : List Sl) (t : Pn) : (Ou.ok (D.bl a) ρ t : Ou D) = .ok (.bl b) ρ t := by rw [h]
@[simp] theorem isNon_V (v : Vl) : DL.isNon (eV v) = decide (v = none) := by cases v <;> rfl
@[simp] theorem isNon_C (v : Cel) : DL.isNon (eC v) = decide (v = none) := by cases v <;> rfl
inductive Gn | clash | kept | bare | base deriving DecidableEq
inductive Al | take | clash deriving DecidableEq
inductive Un | clash | one | other deriving DecidableEq
inductive Wr | right | rule | words | clash deriving DecidableEq
inductive Oc | none | tree | rule | words | clash deriving DecidableEq
def sG : Gn → Str | .clash => "clash" | .kept => "kept" | .bare => "bare" | .base => "base"
def sA : Al → Str | .take => "take" | .clash => "clash"
def sU : Un → Str | .clash => "clash" | .one => "one" | .other => "other"
def sW : Wr → Str | .right => "right" | .rule => "rule" | .words => "words" | .clash => "clash"
def sO : Oc → Str | .none => "none" | .tree => "tree" | .rule => "rule" | .words => "words" | .clash => "clash"
abbrev Fg := Bool → Bool → Nat → Bool
structure Pl where
  g : Gn
  a : Al
  u : Un
  tidy : Bool
  fl : Option Fg
def fkeys : List (Bool × Bool × Nat) := [(false, false, 0), (false, false, 1), (false, false, 2), (false, true, 0), (false, true, 1), (false, true, 2), (true, false, 0), (true, false, 1), (true, false, 2), (true, true, 0), (true, true, 1), (true, true, 2)]
abbrev K3 := Bool × Bool × Nat
def eK (k : K3) : D := .tup [.bl k.1, .bl k.2.1, .int k.2.2]
def eT : Option Fg → D
  | none => .non
  | some f => .tup (fkeys.map fun k => .tup [eK k, .bl (f k.1 k.2.1 k.2.2)])
def eF : Option Fg → D
  | none => .non
  | some f => .dct (fkeys.map eK) (fkeys.map fun k => .bl (f k.1 k.2.1 k.2.2))
def plO (p : Pl) : D := .obj "Plan" ["gone", "alike", "unlike", "tidy", "_told_flags"] [.str (sG p.g), .str (sA p.a), .str (sU p.u), .bl p.tidy, eT p.fl]
@[simp] theorem fld_g (p : Pl) (ρ : List Sl) (t : Pn) : dfld ["Plan"] "gone" (plO p) ρ t = .ok (.str (sG p.g)) ρ t := rfl
@[simp] theorem fld_a (p : Pl) (ρ : List Sl) (t : Pn) : dfld ["Plan"] "alike" (plO p) ρ t = .ok (.str (sA p.a)) ρ t := rfl
@[simp] theorem fld_u (p : Pl) (ρ : List Sl) (t : Pn) : dfld ["Plan"] "unlike" (plO p) ρ t = .ok (.str (sU p.u)) ρ t := rfl
@[simp] theorem fld_t (p : Pl) (ρ : List Sl) (t : Pn) : dfld ["Plan"] "tidy" (plO p) ρ t = .ok (.bl p.tidy) ρ t := rfl
@[simp] theorem fld_f (p : Pl) (ρ : List Sl) (t : Pn) : dfld ["Plan"] "_told_flags" (plO p) ρ t = .ok (eT p.fl) ρ t := rfl
@[simp] theorem g_clash (g : Gn) (ρ : List Sl) (t : Pn) : deq (.str (sG g)) (.str "clash") ρ t = .ok (.bl (decide (g = .clash))) ρ t := (deq_S (by cases g <;> decide +kernel) (by decide +kernel) ρ t).trans (ok_bl (by cases g <;> decide +kernel) ρ t)
@[simp] theorem g_kept (g : Gn) (ρ : List Sl) (t : Pn) : deq (.str (sG g)) (.str "kept") ρ t = .ok (.bl (decide (g = .kept))) ρ t := (deq_S (by cases g <;> decide +kernel) (by decide +kernel) ρ t).trans (ok_bl (by cases g <;> decide +kernel) ρ t)
@[simp] theorem g_base (g : Gn) (ρ : List Sl) (t : Pn) : deq (.str (sG g)) (.str "base") ρ t = .ok (.bl (decide (g = .base))) ρ t := (deq_S (by cases g <;> decide +kernel) (by decide +kernel) ρ t).trans (ok_bl (by cases g <;> decide +kernel) ρ t)
@[simp] theorem a_clash (g : Al) (ρ : List Sl) (t : Pn) : deq (.str (sA g)) (.str "clash") ρ t = .ok (.bl (decide (g = .clash))) ρ t := (deq_S (by cases g <;> decide +kernel) (by decide +kernel) ρ t).trans (ok_bl (by cases g <;> decide +kernel) ρ t)
@[simp] theorem u_clash (g : Un) (ρ : List Sl) (t : Pn) : deq (.str (sU g)) (.str "clash") ρ t = .ok (.bl (decide (g = .clash))) ρ t := (deq_S (by cases g <;> decide +kernel) (by decide +kernel) ρ t).trans (ok_bl (by cases g <;> decide +kernel) ρ t)
@[simp] theorem u_one (g : Un) (ρ : List Sl) (t : Pn) : deq (.str (sU g)) (.str "one") ρ t = .ok (.bl (decide (g = .one))) ρ t := (deq_S (by cases g <;> decide +kernel) (by decide +kernel) ρ t).trans (ok_bl (by cases g <;> decide +kernel) ρ t)
@[simp] theorem w_clash (g : Wr) (ρ : List Sl) (t : Pn) : deq (.str (sW g)) (.str "clash") ρ t = .ok (.bl (decide (g = .clash))) ρ t := (deq_S (by cases g <;> decide +kernel) (by decide +kernel) ρ t).trans (ok_bl (by cases g <;> decide +kernel) ρ t)
@[simp] theorem w_words (g : Wr) (ρ : List Sl) (t : Pn) : deq (.str (sW g)) (.str "words") ρ t = .ok (.bl (decide (g = .words))) ρ t := (deq_S (by cases g <;> decide +kernel) (by decide +kernel) ρ t).trans (ok_bl (by cases g <;> decide +kernel) ρ t)
@[simp] theorem w_rule (g : Wr) (ρ : List Sl) (t : Pn) : deq (.str (sW g)) (.str "rule") ρ t = .ok (.bl (decide (g = .rule))) ρ t := (deq_S (by cases g <;> decide +kernel) (by decide +kernel) ρ t).trans (ok_bl (by cases g <;> decide +kernel) ρ t)
@[simp] theorem w_right (g : Wr) (ρ : List Sl) (t : Pn) : deq (.str (sW g)) (.str "right") ρ t = .ok (.bl (decide (g = .right))) ρ t := (deq_S (by cases g <;> decide +kernel) (by decide +kernel) ρ t).trans (ok_bl (by cases g <;> decide +kernel) ρ t)
@[simp] theorem is_ite {c : Prop} [Decidable c] {x y : Ou D} {d : D} : (if c then x else y).is d ↔ if c then x.is d else y.is d := by split <;> rfl
/-! ### the program's small functions -/
def isSame (c b : Cel) (a : Bool) : Bool := if c = none then decide (b = none) else decide (c = b) && a
theorem is_same_ok (c b : Cel) (a : Bool) : (f_is_same [eC c, eC b, .bl a]).is (.bl (isSame c b a)) := by
  show (runD m_is_same (ent 3 ([eC c, eC b, .bl a].map Sl.im)) pn0).is _
  unfold runD ent m_is_same isSame
  simp [sq, sif, asB, enon, sret, e2]
  by_cases h : c = none <;> by_cases h2 : c = b <;> simp [h, h2]
  subst h2
  simp [h]
def valIn (c : Cel) : Vl := c.bind (·.1)
@[simp] theorem dix_C0 (v : Vl) (b : Bool) (ρ : List Sl) (t : Pn) : dix (eC (some (v, b))) (.int 0) ρ t = .ok (eV v) ρ t := rfl
@[simp] theorem dix_C1 (v : Vl) (b : Bool) (ρ : List Sl) (t : Pn) : dix (eC (some (v, b))) (.int 1) ρ t = .ok (.bl b) ρ t := rfl
theorem value_in_ok (c : Cel) : (f_value_in [eC c]).is (eV (valIn c)) := by
  show (runD m_value_in (ent 1 ([eC c].map Sl.im)) pn0).is _
  unfold runD ent m_value_in valIn
  rcases c with _ | ⟨v, b⟩ <;> simp [sq, sif, asB, enon, sret, e2, eif]
  rfl
def due (b o t : Vl) : List Vl := if o = b then [t] else if t = b ∨ t = o then [o] else [o, t]
theorem due_values_ok (b o t : Vl) : (f_due_values [eV b, eV o, eV t]).is (.tup ((due b o t).map eV)) := by
  show (runD m_due_values (ent 3 ([eV b, eV o, eV t].map Sl.im)) pn0).is _
  unfold runD ent m_due_values due
  simp [sq, sif, asB, sret, e2, bor, etup, acons, anil, lim]
  by_cases h1 : o = b <;> by_cases h2 : t = b <;> by_cases h3 : t = o <;> simp [h1, h2, h3]
def mv (p : Pl) (b o t : Vl) : Option Vl := if o = b then some t else if t = b then some o else if o = t then (if p.a = .clash then none else some o) else if p.u = .clash then none else if p.u = .one then some o else some t
def eR : Option Vl → D
  | none => .str "clash"
  | some v => eV v
theorem merged_value_ok (p : Pl) (b o t : Vl) : (f_merged_value [plO p, eV b, eV o, eV t]).is (eR (mv p b o t)) := by
  show (runD m_merged_value (ent 4 ([plO p, eV b, eV o, eV t].map Sl.im)) pn0).is _
  unfold runD ent m_merged_value mv
  simp [sq, sif, asB, sret, e2, eif]
  by_cases h1 : o = b <;> by_cases h2 : t = b <;> by_cases h3 : o = t <;> by_cases h4 : p.a = .clash <;> by_cases h5 : p.u = .clash <;> by_cases h6 : p.u = .one <;> simp [h1, h2, h3, h4, h5, h6, eR]
def base0 (c : Cel) : Vl × Bool := c.getD (none, false)
end K61

set_option Elab.async false
set_option linter.all false
set_option maxRecDepth 100000
set_option maxHeartbeats 4000000
namespace K61
open PySem PySem.Spec PyProof.Rows DL
open L2 hiding isNon
@[simp] theorem dix_t0 (a : D) (l : List D) (ρ : List Sl) (t : Pn) : dix (.tup (a :: l)) (.int 0) ρ t = .ok a ρ t := by
  simp [dix, L2.atI, L2.ixN]
@[simp] theorem dix_t1 (a b : D) (l : List D) (ρ : List Sl) (t : Pn) : dix (.tup (a :: b :: l)) (.int 1) ρ t = .ok b ρ t := by
  have e : L2.atI (a :: b :: l) 1 = some b := by
    unfold L2.atI L2.ixN
    rw [if_pos (by decide), if_pos (by rw [List.length_cons, List.length_cons]; omega)]
    rfl
  simp only [dix, e]
  rfl
@[simp] theorem dix_t2 (a b c : D) (l : List D) (ρ : List Sl) (t : Pn) : dix (.tup (a :: b :: c :: l)) (.int 2) ρ t = .ok c ρ t := by
  have e : L2.atI (a :: b :: c :: l) 2 = some c := by
    unfold L2.atI L2.ixN
    rw [if_pos (by decide), if_pos (by rw [List.length_cons, List.length_cons, List.length_cons]; omega)]
    rfl
  simp only [dix, e]
  rfl
@[simp] theorem dsl_tail (a b c : D) (ρ : List Sl) (t : Pn) : dsl (.tup [a, b, c]) (some 1) none ρ t = .ok (.tup [b, c]) ρ t := rfl
theorem bare_eq : d_BARE = eC (some (none, false)) := rfl
@[simp] theorem deq_R (r : Option Vl) (ρ : List Sl) (t : Pn) : deq (eR r) (.str "clash") ρ t = .ok (.bl (decide (r = none))) ρ t := by
  have e : PyData.strOk "clash" = true := by decide +kernel
  rcases r with _ | v
  · exact (deq_S e e ρ t).trans (ok_bl (by simp) ρ t)
  · unfold deq
    rw [if_pos ⟨by show plain 60 (eV v) = true; exact plain_eV v 60, e⟩]
    rcases v with _ | i <;> simp [eR, eV, toP, PyData.eqv]
inductive S5 | one | other | nothing | clash | on deriving DecidableEq
def s5 : S5 → Str | .one => "one" | .other => "other" | .nothing => "nothing" | .clash => "clash" | .on => "on"
def nstep (p : Pl) (b o t os ts : Bool) : S5 := if os then .other else if ts then .one else if !o && !t then (if p.a = .clash then .clash else .nothing) else if b && !(o && t) && decide (p.g = .clash) then .clash else if b && !(o && t) && decide (p.g = .kept) then (if o then .one else .other) else .on
theorem next_step_ok (p : Pl) (b o t os ts : Bool) : (f_next_step [plO p, .tup [.bl b, .bl o, .bl t], .bl os, .bl ts]).is (.str (s5 (nstep p b o t os ts))) := by
  show (runD m_next_step (ent 7 ([plO p, .tup [.bl b, .bl o, .bl t], .bl os, .bl ts].map Sl.im)) pn0).is _
  unfold runD ent m_next_step nstep
  simp [sq, sif, asB, sret, e2, eif, sasg, gtup, gcons, gnil, gname, band, bnot]
  cases b <;> cases o <;> cases t <;> cases os <;> cases ts <;> by_cases h1 : p.a = .clash <;> by_cases h2 : p.g = .clash <;> by_cases h3 : p.g = .kept <;> simp [h1, h2, h3, s5]
def mc (p : Pl) (c0 c1 c2 : Cel) : Cel :=
  let b := base0 c0
  let m := if p.g = .base then b else (none, false)
  let o := c1.getD m
  let t := c2.getD m
  match mv p b.1 o.1 t.1 with
  | none => none
  | some v => some (v, if o.2 = b.2 then t.2 else o.2)
theorem merged_cell_ok (p : Pl) (c0 c1 c2 : Cel) : (f_merged_cell [plO p, .tup [eC c0, eC c1, eC c2]]).is (eC (mc p c0 c1 c2)) := by
  show (runD m_merged_cell (ent 8 ([plO p, .tup [eC c0, eC c1, eC c2]].map Sl.im)) pn0).is _
  unfold runD ent m_merged_cell mc base0
  rcases c0 with _ | ⟨v0, b0⟩ <;> rcases c1 with _ | ⟨v1, b1⟩ <;> rcases c2 with _ | ⟨v2, b2⟩ <;> by_cases hg : p.g = .base
  all_goals
    simp [sq, sif, asB, sret, e2, eif, asg, enon, bare_eq, hg, sasg, lcD, esl, osome, items, lcGo, unS, gname, gtup, gcons, gnil, lim, etup, acons, anil, call0_is (merged_value_ok _ _ _ _)]
  all_goals
    generalize mv p _ _ _ = r
    rcases r with _ | v <;> simp [eR, eC]
  all_goals decide +revert
theorem is_left_out_ok (p : Pl) (r : Bool) (v : Vl) (n : Int) : (f_is_left_out [plO p, .bl r, eV v, .int n]).is (.bl (p.tidy && (!r && (decide (v = none) && decide (n = 0))))) := by
  show (runD m_is_left_out (ent 4 ([plO p, .bl r, eV v, .int n].map Sl.im)) pn0).is _
  unfold runD ent m_is_left_out
  simp [sret, e2, enon]
  cases p.tidy <;> cases r <;> by_cases h : v = none <;> simp [h]
def cN : Nat → Int := fun n => n
theorem dix_F (f : Fg) (r k : Bool) (n : Nat) (hn : n < 3) (ρ : List Sl) (t : Pn) : dix (eF (some f)) (.tup [.bl r, .bl k, .int n]) ρ t = .ok (.bl (f r k n)) ρ t := by
  match n, hn with
  | 0, _ => cases r <;> cases k <;> rfl
  | 1, _ => cases r <;> cases k <;> rfl
  | 2, _ => cases r <;> cases k <;> rfl
theorem min2_n (n : Nat) (hn : n < 3) : (if (n : Int) < 2 then (n : Int) else 2) = n := by
  split <;> omega
theorem told_flag_ok (f : Option Fg) (r : Bool) (v : Vl) (n : Nat) (hn : n < 3) (b : Bool) : (f_told_flag [eF f, .bl r, eV v, .int n, .bl b]).is (.bl (match f with
    | none => b
    | some f => f r (decide (v ≠ none)) n)) := by
  show (runD m_told_flag (ent 5 ([eF f, .bl r, eV v, .int n, .bl b].map Sl.im)) pn0).is _
  unfold runD ent m_told_flag
  rcases f with _ | f
  · simp [sret, eif, asB, enon, eF, isNon]
  · have e : isNon (eF (some f)) = false := rfl
    simp [sret, eif, asB, enon, e, e2, etup, acons, anil, lim, enno, dmin2, min2_n n hn, dix_F f _ _ n hn]
theorem eqv_K (k l : K3) : PyData.eqv (toP (eK k)) (toP (eK l)) = decide (k = l) := by
  obtain ⟨a, b, n⟩ := k
  obtain ⟨c, d, m⟩ := l
  have e1 : ∀ (a b c d e f : PyData), PyData.eqvAll [a, b, c] [d, e, f] = (PyData.eqv a d && (PyData.eqv b e && PyData.eqv c f)) := fun a b c d e f => by simp [PyData.eqvAll]
  simp only [eK, toP, toPs, PyData.eqv, e1]
  cases a <;> cases b <;> cases c <;> cases d <;> simp
  all_goals exact Bool.eq_iff_iff.mpr (by simp; omega)
theorem plain_K (k : K3) (n : Nat) : plain (n + 1) (eK k) = true := by
  show plains n [D.bl k.1, .bl k.2.1, .int k.2.2] = true
  cases n <;> rfl
theorem plains_K (ks : List K3) (n : Nat) : plains (n + 1) (ks.map eK) = true := by
  induction ks with
  | nil => rfl
  | cons k ks ih => show (plain (n + 1) (eK k) && plains (n + 1) (ks.map eK)) = true; rw [plain_K, ih]; rfl
theorem dinS_K (ks : List K3) (k : K3) : dinS (ks.map eK) (eK k) = decide (k ∈ ks) := by
  unfold dinS
  rw [List.any_map]
  apply Bool.eq_iff_iff.mpr
  simp [eqv_K]
@[simp] theorem din_Kt (ks : List K3) (k : K3) (ρ : List Sl) (t : Pn) : din false (eK k) (.tup (ks.map eK)) ρ t = .ok (.bl (decide (k ∈ ks))) ρ t := by
  simp only [din, plain_K k 59, plains_K ks 59, dinS_K]
  rfl
@[simp] theorem din_Kl (neg : Bool) (ks : List K3) (k : K3) (ρ : List Sl) (t : Pn) : din neg (eK k) (.lst (ks.map eK)) ρ t = .ok (.bl (if neg = true then !decide (k ∈ ks) else decide (k ∈ ks))) ρ t := by
  simp only [din, plain_K k 59, plains_K ks 59, dinS_K]
  rfl
def ruO (kr ko : List K3) : D := .obj "Rule" ["root", "others"] [.tup (kr.map eK), .tup (ko.map eK)]
def caO (p : Pl) (kr ko : List K3) : D := .obj "Caser" ["plan", "told_flags", "rule", "triples"] [plO p, eF p.fl, ruO kr ko, .dct [] []]
@[simp] theorem fld_ru (p : Pl) (kr ko : List K3) (ρ : List Sl) (t : Pn) : dfld ["Caser"] "rule" (caO p kr ko) ρ t = .ok (ruO kr ko) ρ t := rfl
@[simp] theorem fld_pl (p : Pl) (kr ko : List K3) (ρ : List Sl) (t : Pn) : dfld ["Caser"] "plan" (caO p kr ko) ρ t = .ok (plO p) ρ t := rfl
@[simp] theorem fld_tf (p : Pl) (kr ko : List K3) (ρ : List Sl) (t : Pn) : dfld ["Caser"] "told_flags" (caO p kr ko) ρ t = .ok (eF p.fl) ρ t := rfl
@[simp] theorem fld_kr (kr ko : List K3) (ρ : List Sl) (t : Pn) : dfld ["Rule"] "root" (ruO kr ko) ρ t = .ok (.tup (kr.map eK)) ρ t := rfl
@[simp] theorem fld_ko (kr ko : List K3) (ρ : List Sl) (t : Pn) : dfld ["Rule"] "others" (ruO kr ko) ρ t = .ok (.tup (ko.map eK)) ρ t := rfl
def isLet (kr ko : List K3) (c : Cel) (n : Nat) (r : Bool) : Bool := match c with
  | none => decide (n = 0) && !r
  | some (v, b) => decide ((decide (v ≠ none), b, n) ∈ (if r = true then kr else ko))
theorem eK_tup (a b : Bool) (n : Nat) : D.tup [.bl a, .bl b, .int n] = eK (a, b, n) := rfl
theorem is_let_ok (p : Pl) (kr ko : List K3) (c : Cel) (n : Nat) (r : Bool) : (f_Caser_is_let [caO p kr ko, eC c, .int n, .bl r]).is (.bl (isLet kr ko c n r)) := by
  show (runD m_Caser_is_let (ent 4 ([caO p kr ko, eC c, .int n, .bl r].map Sl.im)) pn0).is _
  unfold runD ent m_Caser_is_let isLet
  rcases c with _ | ⟨v, b⟩
  · simp [sq, sif, asB, enon, sret, e2]
    by_cases h : n = 0 <;> cases r <;> simp [h]
  · simp [sq, sif, asB, enon, enno, sret, e2, eif, etup, acons, anil, lim, eK_tup]
    cases r <;> simp
end K61

set_option Elab.async false
set_option linter.all false
set_option maxRecDepth 100000
set_option maxHeartbeats 4000000
namespace K61
open PySem PySem.Spec PyProof.Rows DL
open L2 hiding isNon
@[simp] theorem ite_and (P : Prop) [Decidable P] (c : Bool) (ρ : List Sl) (t : Pn) : (if P then (Ou.ok (D.bl c) ρ t : Ou D) else .ok (.bl false) ρ t) = .ok (.bl (decide P && c)) ρ t := by split <;> simp [*]
@[simp] theorem ite_or (P : Prop) [Decidable P] (c : Bool) (ρ : List Sl) (t : Pn) : (if P then (Ou.ok (D.bl true) ρ t : Ou D) else .ok (.bl c) ρ t) = .ok (.bl (decide P || c)) ρ t := by split <;> simp [*]
@[simp] theorem ite_and' (P : Prop) [Decidable P] (c : Bool) (ρ : List Sl) (t : Pn) : (if P then (Ou.ok (D.bl false) ρ t : Ou D) else .ok (.bl c) ρ t) = .ok (.bl (!decide P && c)) ρ t := by split <;> simp [*]
@[simp] theorem ite_or' (P : Prop) [Decidable P] (c : Bool) (ρ : List Sl) (t : Pn) : (if P then (Ou.ok (D.bl c) ρ t : Ou D) else .ok (.bl true) ρ t) = .ok (.bl (!decide P || c)) ρ t := by split <;> simp [*]
@[simp] theorem dix_l0 (a : D) (l : List D) (ρ : List Sl) (t : Pn) : dix (.lst (a :: l)) (.int 0) ρ t = .ok a ρ t := by
  simp [dix, L2.atI, L2.ixN]
@[simp] theorem dix_l1 (a b : D) (l : List D) (ρ : List Sl) (t : Pn) : dix (.lst (a :: b :: l)) (.int 1) ρ t = .ok b ρ t := by
  have e : L2.atI (a :: b :: l) 1 = some b := by
    unfold L2.atI L2.ixN
    rw [if_pos (by decide), if_pos (by rw [List.length_cons, List.length_cons]; omega)]
    rfl
  simp only [dix, e]
  rfl
@[simp] theorem dix_l2 (a b c : D) (l : List D) (ρ : List Sl) (t : Pn) : dix (.lst (a :: b :: c :: l)) (.int 2) ρ t = .ok c ρ t := by
  have e : L2.atI (a :: b :: c :: l) 2 = some c := by
    unfold L2.atI L2.ixN
    rw [if_pos (by decide), if_pos (by rw [List.length_cons, List.length_cons, List.length_cons]; omega)]
    rfl
  simp only [dix, e]
  rfl
@[simp] theorem dne_V (v w : Vl) (ρ : List Sl) (t : Pn) : dne (eV v) (eV w) ρ t = .ok (.bl (decide (v ≠ w))) ρ t := by
  unfold dne
  rw [if_pos ⟨plain_eV v 60, plain_eV w 60⟩, eqv_V]
  simp
structure Tot where
  n0 : Nat
  n1 : Nat
  n2 : Nat
  n3 : Nat
  a1 : Bool
  a2 : Bool
  s1 : Bool
  s2 : Bool
  s3 : Bool
  w : Wr
def eTot (T : Tot) : D := .tup [.int T.n0, .int T.n1, .int T.n2, .int T.n3, .bl T.a1, .bl T.a2, .bl T.s1, .bl T.s2, .bl T.s3, .str (sW T.w)]
@[simp] theorem tot3 (T : Tot) (ρ : List Sl) (t : Pn) : dix (eTot T) (.int 3) ρ t = .ok (.int T.n3) ρ t := rfl
@[simp] theorem tot4 (T : Tot) (ρ : List Sl) (t : Pn) : dix (eTot T) (.int 4) ρ t = .ok (.bl T.a1) ρ t := rfl
@[simp] theorem tot5 (T : Tot) (ρ : List Sl) (t : Pn) : dix (eTot T) (.int 5) ρ t = .ok (.bl T.a2) ρ t := rfl
@[simp] theorem tot6 (T : Tot) (ρ : List Sl) (t : Pn) : dix (eTot T) (.int 6) ρ t = .ok (.bl T.s1) ρ t := rfl
@[simp] theorem tot7 (T : Tot) (ρ : List Sl) (t : Pn) : dix (eTot T) (.int 7) ρ t = .ok (.bl T.s2) ρ t := rfl
@[simp] theorem tot8 (T : Tot) (ρ : List Sl) (t : Pn) : dix (eTot T) (.int 8) ρ t = .ok (.bl T.s3) ρ t := rfl
@[simp] theorem tot9 (T : Tot) (ρ : List Sl) (t : Pn) : dix (eTot T) (.int 9) ρ t = .ok (.str (sW T.w)) ρ t := rfl
theorem plains_V (vs : List Vl) (n : Nat) : plains n (vs.map eV) = true := by
  induction vs with
  | nil => cases n <;> rfl
  | cons v vs ih =>
    have : (plain n (eV v) && plains n (vs.map eV)) = true := by rw [plain_eV, ih]; rfl
    exact this
theorem dinS_V (vs : List Vl) (v : Vl) : dinS (vs.map eV) (eV v) = decide (v ∈ vs) := by
  unfold dinS
  rw [List.any_map]
  apply Bool.eq_iff_iff.mpr
  simp [eqv_V]
@[simp] theorem din_V (neg : Bool) (vs : List Vl) (v : Vl) (ρ : List Sl) (t : Pn) : din neg (eV v) (.tup (vs.map eV)) ρ t = .ok (.bl (if neg = true then !decide (v ∈ vs) else decide (v ∈ vs))) ρ t := by
  simp only [din, plain_eV, plains_V, dinS_V]
  rfl
theorem eC_some (v : Vl) (b : Bool) : eC (some (v, b)) = .tup [eV v, .bl b] := rfl
theorem tup_eC (v : Vl) (b : Bool) : D.tup [eV v, .bl b] = eC (some (v, b)) := rfl
def newFlag (p : Pl) (r : Bool) (v : Vl) (n : Nat) (b : Bool) : Bool := match p.fl with
  | none => b
  | some f => f r (decide (v ≠ none)) n
def outc (p : Pl) (kr ko : List K3) (T : Tot) (c0 c1 c2 : Cel) (r : Bool) : Oc := match mc p c0 c1 c2 with
  | none => .clash
  | some (v, b) => if T.w = .clash then .clash else if (p.tidy && (!r && (decide (v = none) && decide ((T.n3 : Int) = 0)))) = true then .none else
    if T.w = .words ∨ v ∉ due (valIn c0) (valIn c1) (valIn c2) then .words else if T.w = .rule ∨ isLet kr ko (some (v, newFlag p r v T.n3 b)) T.n3 r = false then .rule else .tree
@[simp] theorem meth_let (p : Pl) (kr ko : List K3) (h : M (List D)) : dmeth "Caser" "is_let" f_Caser_is_let [] h (caO p kr ko) = mb h fun ds => call0 f_Caser_is_let (caO p kr ko :: (ds ++ [])) := rfl
@[simp] theorem meth_on (p : Pl) (kr ko : List K3) (h : M (List D)) : dmeth "Caser" "outcome_on" f_Caser_outcome_on [] h (caO p kr ko) = mb h fun ds => call0 f_Caser_outcome_on (caO p kr ko :: (ds ++ [])) := rfl
@[simp] theorem meth_case (p : Pl) (kr ko : List K3) (h : M (List D)) : dmeth "Caser" "case" f_Caser_case [] h (caO p kr ko) = mb h fun ds => call0 f_Caser_case (caO p kr ko :: (ds ++ [])) := rfl
theorem outcome_on_ok (p : Pl) (kr ko : List K3) (T : Tot) (h3 : T.n3 < 3) (c0 c1 c2 : Cel) (r : Bool) : (f_Caser_outcome_on [caO p kr ko, eTot T, .tup [eC c0, eC c1, eC c2], .bl r]).is (.str (sO (outc p kr ko T c0 c1 c2 r))) := by
  show (runD m_Caser_outcome_on (ent 9 ([caO p kr ko, eTot T, .tup [eC c0, eC c1, eC c2], .bl r].map Sl.im)) pn0).is _
  unfold runD ent m_Caser_outcome_on outc
  simp [sq, asg, sif, asB, enon, sret, e2, spar, acons, anil, bor, call0_is (merged_cell_ok _ _ _ _)]
  rcases mc p c0 c1 c2 with _ | ⟨v, b⟩
  · by_cases hw : T.w = .clash <;> simp [hw, sO]
  · by_cases hw : T.w = .clash
    · simp [hw, sO]
    · simp [hw, sasg, eC_some, gtup, gcons, gnil, gname, call0_is (is_left_out_ok _ _ _ _)]
      by_cases h1 : p.tidy = true ∧ r = false ∧ v = none ∧ T.n3 = 0
      · simp [h1, sO]
      · rw [if_neg h1, if_neg h1]
        by_cases h2 : T.w = .words
        · simp [h2, sO]
        · simp [h2, call0_is (value_in_ok _), call0_is (due_values_ok _ _ _)]
          by_cases h4 : v ∈ due (valIn c0) (valIn c1) (valIn c2)
          · have tf : (f_told_flag [eF p.fl, .bl r, eV v, .int T.n3, .bl b]).is (.bl (newFlag p r v T.n3 b)) := told_flag_ok p.fl r v T.n3 h3 b
            simp [h4, asg, call0_is tf, bnot, etup, acons, anil, lim, tup_eC, call0_is (is_let_ok p kr ko _ _ _)]
            by_cases h5 : T.w = .rule
            · simp [h5, sO]
            · cases isLet kr ko (some (v, newFlag p r v T.n3 b)) T.n3 r <;> simp [h5, sO]
          · simp [h4, sO]
@[simp] theorem s_on (s : S5) (ρ : List Sl) (t : Pn) : deq (.str (s5 s)) (.str "on") ρ t = .ok (.bl (decide (s = .on))) ρ t := (deq_S (by cases s <;> decide +kernel) (by decide +kernel) ρ t).trans (ok_bl (by cases s <;> decide +kernel) ρ t)
@[simp] theorem s_clash (s : S5) (ρ : List Sl) (t : Pn) : deq (.str (s5 s)) (.str "clash") ρ t = .ok (.bl (decide (s = .clash))) ρ t := (deq_S (by cases s <;> decide +kernel) (by decide +kernel) ρ t).trans (ok_bl (by cases s <;> decide +kernel) ρ t)
@[simp] theorem s_one (s : S5) (ρ : List Sl) (t : Pn) : deq (.str (s5 s)) (.str "one") ρ t = .ok (.bl (decide (s = .one))) ρ t := (deq_S (by cases s <;> decide +kernel) (by decide +kernel) ρ t).trans (ok_bl (by cases s <;> decide +kernel) ρ t)
structure Cs where
  b0 : Bool
  b1 : Bool
  b2 : Bool
  e1 : Bool
  e2 : Bool
  l1 : Bool
  l2 : Bool
  bo : Bool
  o : Oc
def eCs (c : Cs) : D := .tup [.bl c.b0, .bl c.b1, .bl c.b2, .bl c.e1, .bl c.e2, .bl c.l1, .bl c.l2, .bl c.bo, .str (sO c.o)]
def caseS (p : Pl) (kr ko : List K3) (T : Tot) (c0 c1 c2 : Cel) (r : Bool) : Cs :=
  let os := isSame c1 c0 T.a1
  let ts := isSame c2 c0 T.a2
  let l1 := (decide (valIn c0 ≠ none) && decide (valIn c1 = valIn c0)) || T.s1
  let l2 := (decide (valIn c0 ≠ none) && decide (valIn c2 = valIn c0)) || T.s2
  let bo := (decide (valIn c1 ≠ valIn c0) && decide (valIn c2 ≠ valIn c0)) || T.s3
  let st := nstep p (decide (c0 ≠ none)) (decide (c1 ≠ none)) (decide (c2 ≠ none)) os ts
  let th := if st = .one then decide (c1 ≠ none) else decide (c2 ≠ none)
  ⟨decide (c0 ≠ none), decide (c1 ≠ none), decide (c2 ≠ none), os, ts, l1, l2, bo,
    if st = .on then outc p kr ko T c0 c1 c2 r else if st = .clash then .clash else if th = false then .none else if os = true ∨ ts = true then .tree else if (if st = .one then l1 else l2) = true then .words else .tree⟩
theorem case_ok (p : Pl) (kr ko : List K3) (T : Tot) (h3 : T.n3 < 3) (c0 c1 c2 : Cel) (r : Bool) : (f_Caser_case [caO p kr ko, eTot T, .tup [eC c0, eC c1, eC c2], .bl r]).is (eCs (caseS p kr ko T c0 c1 c2 r)) := by
  show (runD m_Caser_case (ent 17 ([caO p kr ko, eTot T, .tup [eC c0, eC c1, eC c2], .bl r].map Sl.im)) pn0).is _
  unfold runD ent m_Caser_case
  simp [sq, asg, sif, asB, enon, enno, sret, e2, acons, anil, bor, sasg, gtup, gcons, gnil, gname, call0_is (is_same_ok _ _ _), lcD, items, lcGo, unS, call0_is (value_in_ok _), lim, etup,
    call0_is (next_step_ok _ _ _ _ _ _), call0_is (outcome_on_ok p kr ko T h3 _ _ _ _), bnot, eif, dadd, bifE]
  simp only [caseS, eCs, decide_not, ne_eq]
  generalize nstep p _ _ _ _ _ = st
  generalize isSame c1 c0 T.a1 = o1
  generalize isSame c2 c0 T.a2 = o2
  cases st <;> by_cases h1 : c1 = none <;> by_cases h2 : c2 = none <;> cases o1 <;> cases o2 <;> simp [h1, h2, sO]
  all_goals
    split <;> simp_all [sO]
end K61

set_option Elab.async false
set_option linter.all false
set_option maxRecDepth 100000
set_option maxHeartbeats 4000000
namespace K61
open PySem PySem.Spec PyProof.Rows DL
open L2 hiding isNon
theorem flags_ok (p : Pl) : (f_Plan_flags [plO p]).is (eF p.fl) := by
  obtain ⟨g, a, u, ti, fl⟩ := p
  rcases fl with _ | f
  · exact ⟨_, _, rfl⟩
  · exact ⟨[.im (plO ⟨g, a, u, ti, some f⟩), .un, .un], pn0, by rfl⟩
@[simp] theorem prop_flags (p : Pl) (ρ : List Sl) (t : Pn) : dprop "Plan" f_Plan_flags (plO p) ρ t = .ok (eF p.fl) ρ t := by
  have e : dprop "Plan" f_Plan_flags (plO p) = call0 f_Plan_flags [plO p] := by
    show dprop "Plan" f_Plan_flags (.obj "Plan" _ _) = _
    simp only [dprop]
    rfl
  rw [e]
  exact call0_is (flags_ok p) ρ t
theorem caser_init_ok (p : Pl) (kr ko : List K3) : (f_Caser__init [plO p, ruO kr ko]).is (["plan", "told_flags", "rule", "triples"], [plO p, eF p.fl, ruO kr ko, .dct [] []]) := by
  show (runI m_Caser__init (ent 3 (.sf [] [] :: [plO p, ruO kr ko].map Sl.im)) pn0).is _
  unfold runI ent m_Caser__init
  have e1 : ¬ (("told_flags" : Str) = "plan") := by decide +kernel
  have e2 : ¬ (("rule" : Str) = "plan") := by decide +kernel
  have e3 : ¬ (("rule" : Str) = "told_flags") := by decide +kernel
  have e4 : ¬ (("triples" : Str) = "plan") := by decide +kernel
  have e5 : ¬ (("triples" : Str) = "told_flags") := by decide +kernel
  have e6 : ¬ (("triples" : Str) = "rule") := by decide +kernel
  simp [sq, sfld, isSf, e1, e2, e3, e4, e5, e6]
@[simp] theorem make_caser (p : Pl) (kr ko : List K3) (ρ : List Sl) (t : Pn) : callI "Caser" f_Caser__init [plO p, ruO kr ko] ρ t = .ok (caO p kr ko) ρ t := callI_is (caser_init_ok p kr ko) ρ t
@[simp] theorem dall3 (a b c : Bool) (ρ : List Sl) (t : Pn) : dall [.lst [.bl a, .bl b, .bl c]] ρ t = .ok (.bl (a && (b && c))) ρ t := by cases a <;> cases b <;> cases c <;> rfl
@[simp] theorem dany3 (a b c : Bool) (ρ : List Sl) (t : Pn) : dany [.lst [.bl a, .bl b, .bl c]] ρ t = .ok (.bl (a || (b || c))) ρ t := by cases a <;> cases b <;> cases c <;> rfl
def eOC : Option Cs → D
  | none => .non
  | some c => eCs c
def closedS (p : Pl) (kr ko : List K3) (T : Tot) (c0 c1 c2 : Cel) (r : Bool) : Option Cs :=
  if (isLet kr ko c0 T.n0 r = true ∧ isLet kr ko c1 T.n1 r = true ∧ isLet kr ko c2 T.n2 r = true) ∧ (c0 ≠ none ∨ c1 ≠ none ∨ c2 ≠ none) then some (caseS p kr ko T c0 c1 c2 r) else none
theorem closed_ok (p : Pl) (kr ko : List K3) (T : Tot) (h3 : T.n3 < 3) (c0 c1 c2 : Cel) (r : Bool) : (f_closed [plO p, ruO kr ko, eTot T, .tup [eC c0, eC c1, eC c2], .bl r]).is (eOC (closedS p kr ko T c0 c1 c2 r)) := by
  show (runD m_closed (ent 9 ([plO p, ruO kr ko, eTot T, .tup [eC c0, eC c1, eC c2], .bl r].map Sl.im)) pn0).is _
  unfold runD ent m_closed closedS
  have cs := case_ok p kr ko T h3 c0 c1 c2 r
  unfold eTot at cs ⊢
  simp [sq, asg, sif, asB, enon, enno, sret, e2, acons, anil, bor, bnot, lcD, lcGo, unS, gname, gtup, gcons, gnil, lim, items, dzip, zipL, call0_is (is_let_ok p kr ko _ _ _), call0_is cs]
  generalize isLet kr ko c0 T.n0 r = x0
  generalize isLet kr ko c1 T.n1 r = x1
  generalize isLet kr ko c2 T.n2 r = x2
  cases x0 <;> cases x1 <;> cases x2 <;> simp [eOC]
  by_cases g0 : c0 = none <;> by_cases g1 : c1 = none <;> by_cases g2 : c2 = none <;> simp [g0, g1, g2]
end K61

set_option Elab.async false
set_option linter.all false
set_option maxRecDepth 100000
set_option maxHeartbeats 8000000
namespace K61
open PySem PySem.Spec PyProof.Rows DL
open L2 hiding isNon
/-! ### the law's own functions -/
def lkeys : List K3 := [(true, true, 0), (true, true, 1), (true, true, 2), (true, false, 0), (true, false, 1), (true, false, 2), (false, true, 0), (false, true, 1), (false, true, 2), (false, false, 0), (false, false, 1), (false, false, 2)]
def eL : Option Fg → D
  | none => .non
  | some f => .dct (lkeys.map eK) (lkeys.map fun k => .bl (f k.1 k.2.1 k.2.2))
def plT (p : Pl) : D := .tup [.str (sG p.g), .str (sA p.a), .str (sU p.u), .bl p.tidy, eL p.fl]
@[simp] theorem plT0 (p : Pl) (ρ : List Sl) (t : Pn) : dix (plT p) (.int 0) ρ t = .ok (.str (sG p.g)) ρ t := rfl
@[simp] theorem plT1 (p : Pl) (ρ : List Sl) (t : Pn) : dix (plT p) (.int 1) ρ t = .ok (.str (sA p.a)) ρ t := rfl
@[simp] theorem plT2 (p : Pl) (ρ : List Sl) (t : Pn) : dix (plT p) (.int 2) ρ t = .ok (.str (sU p.u)) ρ t := rfl
@[simp] theorem plT3 (p : Pl) (ρ : List Sl) (t : Pn) : dix (plT p) (.int 3) ρ t = .ok (.bl p.tidy) ρ t := rfl
@[simp] theorem plT4 (p : Pl) (ρ : List Sl) (t : Pn) : dix (plT p) (.int 4) ρ t = .ok (eL p.fl) ρ t := rfl
theorem dix_L (f : Fg) (r k : Bool) (n : Nat) (hn : n < 3) (ρ : List Sl) (t : Pn) : dix (eL (some f)) (.tup [.bl r, .bl k, .int n]) ρ t = .ok (.bl (f r k n)) ρ t := by
  match n, hn with
  | 0, _ => cases r <;> cases k <;> rfl
  | 1, _ => cases r <;> cases k <;> rfl
  | 2, _ => cases r <;> cases k <;> rfl
@[simp] theorem isNon_L (f : Option Fg) : isNon (eL f) = decide (f = none) := by cases f <;> simp [eL, DL.isNon]
theorem law_value_ok (c : Cel) : (f_law_value [eC c]).is (eV (valIn c)) := by
  show (runD m_law_value (ent 1 ([eC c].map Sl.im)) pn0).is _
  unfold runD ent m_law_value valIn
  rcases c with _ | ⟨v, b⟩ <;> simp [sq, sif, asB, enon, sret, e2, eif]
  rfl
def lmv (p : Pl) (b o t : Vl) : Vl × Bool := if o = b ∨ t = b then (if o = b then t else o, false) else if o = t then (o, decide (p.a = .clash)) else (if p.u = .one then o else t, decide (p.u = .clash))
theorem law_merged_value_ok (p : Pl) (b o t : Vl) : (f_law_merged_value [plT p, eV b, eV o, eV t]).is (.tup [eV (lmv p b o t).1, .bl (lmv p b o t).2]) := by
  show (runD m_law_merged_value (ent 4 ([plT p, eV b, eV o, eV t].map Sl.im)) pn0).is _
  unfold runD ent m_law_merged_value lmv
  simp [sq, sif, asB, sret, e2, eif, bor, etup, acons, anil, lim]
  by_cases h1 : o = b <;> by_cases h2 : t = b <;> by_cases h3 : o = t <;> by_cases h4 : p.a = .clash <;> by_cases h5 : p.u = .clash <;> by_cases h6 : p.u = .one <;> simp [h1, h2, h3, h4, h5, h6]
theorem law_due_ok (b o t : Vl) : (f_law_due [eV b, eV o, eV t]).is (.lst ((due b o t).map eV)) := by
  show (runD m_law_due (ent 3 ([eV b, eV o, eV t].map Sl.im)) pn0).is _
  unfold runD ent m_law_due due
  simp [sq, sif, asB, sret, e2, bor, elst, acons, anil, lim, eif]
  by_cases h1 : o = b <;> by_cases h2 : t = b <;> by_cases h3 : t = o <;> have h4 : (o = t) = (t = o) := propext eq_comm <;> simp [h1, h2, h3, h4]
@[simp] theorem din_Vl (neg : Bool) (vs : List Vl) (v : Vl) (ρ : List Sl) (t : Pn) : din neg (eV v) (.lst (vs.map eV)) ρ t = .ok (.bl (if neg = true then !decide (v ∈ vs) else decide (v ∈ vs))) ρ t := by
  simp only [din, plain_eV, plains_V, dinS_V]
  rfl
@[simp] theorem din_g (g : Gn) (ρ : List Sl) (t : Pn) : din false (.str (sG g)) (.lst [.str "clash", .str "kept"]) ρ t = .ok (.bl (decide (g = .clash ∨ g = .kept))) ρ t := by
  have h1 : plain 60 (.str (sG g)) = true := by cases g <;> decide +kernel
  have h2 : plains 60 [.str "clash", .str "kept"] = true := by decide +kernel
  have h3 : dinS [.str "clash", .str "kept"] (.str (sG g)) = decide (g = .clash ∨ g = .kept) := by cases g <;> decide +kernel
  simp only [din, h1, h2, h3]
  rfl
@[simp] theorem din_Kl2 (neg : Bool) (ks : List K3) (a b : Bool) (n : Nat) (ρ : List Sl) (t : Pn) : din neg (.tup [.bl a, .bl b, .int n]) (.lst (ks.map eK)) ρ t = .ok (.bl (if neg = true then !decide ((a, b, n) ∈ ks) else decide ((a, b, n) ∈ ks))) ρ t := din_Kl neg ks (a, b, n) ρ t
theorem iteD_bl (P : Prop) [Decidable P] (a b : Bool) (ρ : List Sl) (t : Pn) : (if P then (Ou.ok (D.bl a) ρ t : Ou D) else .ok (.bl b) ρ t) = .ok (.bl (if P then a else b)) ρ t := by split <;> rfl
theorem dint_bl (b : Bool) (ρ : List Sl) (t : Pn) : dint [.bl b] ρ t = .ok (.int (if b = true then 1 else 0)) ρ t := by cases b <;> rfl
def lout (p : Pl) (ks : List K3) (T : Tot) (c0 c1 c2 : Cel) (s0 s1 l0 l1 r : Bool) : Oc :=
  if s0 = true ∨ s1 = true then (if (if s0 = true then c2 else c1) = none then .none else .tree)
  else if c1 = none ∧ c2 = none then (if p.a = .clash then .clash else .none)
  else if c0 ≠ none ∧ (c1 = none ∨ c2 = none) ∧ (p.g = .clash ∨ p.g = .kept) then (if p.g = .clash then .clash else if (if c1 = none then l1 else l0) = true then .words else .tree)
  else
    let was := base0 c0
    let lk := if p.g = .base then was else (none, false)
    let lf := c1.getD lk
    let rt := c2.getD lk
    let m := lmv p was.1 lf.1 rt.1
    if m.2 = true ∨ T.w = .clash then .clash
    else if p.tidy = true ∧ r = false ∧ m.1 = none ∧ T.n3 = 0 then .none
    else if T.w = .words ∨ m.1 ∉ due was.1 (valIn c1) (valIn c2) then .words
    else if T.w = .right ∧ (decide (m.1 ≠ none), newFlag p r m.1 T.n3 (if lf.2 = was.2 then rt.2 else lf.2), T.n3) ∈ ks then .tree else .rule
theorem bare_tup : D.tup [.non, .bl false] = eC (some (none, false)) := rfl
theorem law_outcome_ok (p : Pl) (ks : List K3) (T : Tot) (h3 : T.n3 < 3) (c0 c1 c2 : Cel) (s0 s1 l0 l1 r : Bool) :
    (f_law_outcome [plT p, .lst (ks.map eK), eTot T, .tup [eC c0, eC c1, eC c2], .lst [.bl s0, .bl s1], .lst [.bl l0, .bl l1], .bl r]).is (.str (sO (lout p ks T c0 c1 c2 s0 s1 l0 l1 r))) := by
  show (runD m_law_outcome (ent 17 ([plT p, .lst (ks.map eK), eTot T, .tup [eC c0, eC c1, eC c2], .lst [.bl s0, .bl s1], .lst [.bl l0, .bl l1], .bl r].map Sl.im)) pn0).is _
  unfold runD ent m_law_outcome
  simp [sq, sif, asB, sret, e2, eif, bor, band, enon, enno, sasg, gtup, gcons, gnil, gname, asg]
  cases s0
  · cases s1
    · rcases c0 with _ | ⟨v0, b0⟩ <;> rcases c1 with _ | ⟨v1, b1⟩ <;> rcases c2 with _ | ⟨v2, b2⟩ <;> cases hg : p.g
      all_goals
        rcases hf : p.fl with _ | f
      all_goals
        simp [hg, hf, etup, elst, acons, anil, lim, bare_tup, dint_bl, call0_is (law_merged_value_ok _ _ _ _), call0_is (law_value_ok _), call0_is (law_due_ok _ _ _), bnot, gname, dix_L _ _ _ _ h3, iteB_and, iteB_or, iteB_and', iteB_or', iteD_bl]
      all_goals
        simp only [lout, base0, newFlag, hg, hf]
        simp
      all_goals
        (repeat' split) <;> rfl
    · by_cases h : c1 = none <;> simp [lout, h, sO]
  · by_cases h : c2 = none <;> simp [lout, h, sO]
end K61

set_option Elab.async false
set_option linter.all false
set_option maxRecDepth 100000
set_option maxHeartbeats 8000000
namespace K61
open PySem PySem.Spec PyProof.Rows DL
open L2 hiding isNon
theorem mv_lmv (p : Pl) (b o t : Vl) : mv p b o t = if (lmv p b o t).2 = true then none else some (lmv p b o t).1 := by
  unfold mv lmv
  by_cases h1 : o = b <;> by_cases h2 : t = b <;> by_cases h3 : o = t <;> by_cases h4 : p.a = .clash <;> by_cases h5 : p.u = .clash <;> by_cases h6 : p.u = .one <;> simp [h1, h2, h3, h4, h5, h6]
theorem val_base (c : Cel) : valIn c = (base0 c).1 := by
  rcases c with _ | ⟨v, b⟩ <;> rfl
/-- the law's outcome where the merge goes on -/
def lon (p : Pl) (ks : List K3) (T : Tot) (c0 c1 c2 : Cel) (r : Bool) : Oc :=
  let was := base0 c0
  let lk := if p.g = .base then was else (none, false)
  let lf := c1.getD lk
  let rt := c2.getD lk
  let m := lmv p was.1 lf.1 rt.1
  if m.2 = true ∨ T.w = .clash then .clash
  else if p.tidy = true ∧ r = false ∧ m.1 = none ∧ T.n3 = 0 then .none
  else if T.w = .words ∨ m.1 ∉ due was.1 (valIn c1) (valIn c2) then .words
  else if T.w = .right ∧ (decide (m.1 ≠ none), newFlag p r m.1 T.n3 (if lf.2 = was.2 then rt.2 else lf.2), T.n3) ∈ ks then .tree else .rule
theorem lout_eq (p : Pl) (ks : List K3) (T : Tot) (c0 c1 c2 : Cel) (s0 s1 l0 l1 r : Bool) : lout p ks T c0 c1 c2 s0 s1 l0 l1 r =
    if s0 = true ∨ s1 = true then (if (if s0 = true then c2 else c1) = none then .none else .tree)
    else if c1 = none ∧ c2 = none then (if p.a = .clash then .clash else .none)
    else if c0 ≠ none ∧ (c1 = none ∨ c2 = none) ∧ (p.g = .clash ∨ p.g = .kept) then (if p.g = .clash then .clash else if (if c1 = none then l1 else l0) = true then .words else .tree)
    else lon p ks T c0 c1 c2 r := rfl
theorem on_eq (p : Pl) (kr ko ks : List K3) (T : Tot) (c0 c1 c2 : Cel) (r : Bool) (hk : ∀ k, k ∈ ks ↔ k ∈ (if r = true then kr else ko)) : lon p ks T c0 c1 c2 r = outc p kr ko T c0 c1 c2 r := by
  unfold lon outc mc
  simp only [mv_lmv, val_base c0]
  generalize base0 c0 = w
  generalize Option.getD c1 _ = lf
  generalize Option.getD c2 _ = rt
  generalize lmv p w.1 lf.1 rt.1 = m
  obtain ⟨v, cb⟩ := m
  cases cb
  · cases hw : T.w <;> simp [isLet, hk]


  · simp
/-- the law's outcome is the program's -/
theorem out_eq (p : Pl) (kr ko ks : List K3) (T : Tot) (c0 c1 c2 : Cel) (r : Bool) (hk : ∀ k, k ∈ ks ↔ k ∈ (if r = true then kr else ko)) :
    lout p ks T c0 c1 c2 (isSame c1 c0 T.a1) (isSame c2 c0 T.a2) (caseS p kr ko T c0 c1 c2 r).l1 (caseS p kr ko T c0 c1 c2 r).l2 r = (caseS p kr ko T c0 c1 c2 r).o := by
  rw [lout_eq, on_eq p kr ko ks T c0 c1 c2 r hk]
  simp only [caseS]
  cases ho : isSame c1 c0 T.a1
  · cases ht : isSame c2 c0 T.a2
    · by_cases n1 : c1 = none <;> by_cases n2 : c2 = none
      · by_cases ha : p.a = .clash <;> simp [n1, n2, ha, nstep]
      all_goals
        by_cases n0 : c0 = none <;> cases hg : p.g <;> simp [n0, n1, n2, hg, nstep]
    · by_cases n1 : c1 = none <;> simp [n1, nstep]
  · by_cases n2 : c2 = none <;> simp [n2, nstep]
end K61

set_option Elab.async false
set_option linter.all false
set_option maxRecDepth 100000
set_option maxHeartbeats 8000000
namespace K61
open PySem PySem.Spec PyProof.Rows DL
open L2 hiding isNon
/-! ### sums -/
def bN (b : Bool) : Nat := if b = true then 1 else 0
def wO : Oc → Nat | .rule => 1 | .words => 2 | .clash => 3 | _ => 0
def wW : Wr → Nat | .right => 0 | .rule => 1 | .words => 2 | .clash => 3
def made (o : Oc) : Bool := decide (o = .tree ∨ o = .rule ∨ o = .words)
def nextW (w : Wr) (o : Oc) : Wr := if wO o > wW w then (match o with | .rule => .rule | .words => .words | .clash => .clash | _ => w) else w
def addS (T : Tot) (c : Cs) : Tot := ⟨min 2 (T.n0 + bN c.b0), min 2 (T.n1 + bN c.b1), min 2 (T.n2 + bN c.b2), min 2 (T.n3 + bN (made c.o)), T.a1 && c.e1, T.a2 && c.e2, T.s1 || c.l1, T.s2 || c.l2, T.s3 || c.bo, nextW T.w c.o⟩
@[simp] theorem dadd_ib (i : Int) (b : Bool) (ρ : List Sl) (t : Pn) : dadd (.int i) (.bl b) ρ t = .ok (.int (i + (bN b : Nat))) ρ t := by cases b <;> rfl
theorem dmin2_i (j : Int) (ρ : List Sl) (t : Pn) : dmin2 [.int 2, .int j] ρ t = .ok (.int (if j < 2 then j else 2)) ρ t := rfl
theorem min_n (n : Nat) (b : Bool) : (if (n : Int) + (bN b : Nat) < 2 then (n : Int) + (bN b : Nat) else 2) = ((min 2 (n + bN b) : Nat) : Int) := by
  split <;> omega
@[simp] theorem din_made (o : Oc) (ρ : List Sl) (t : Pn) : din false (.str (sO o)) (.tup [.str "tree", .str "rule", .str "words"]) ρ t = .ok (.bl (made o)) ρ t := by
  have h1 : plain 60 (.str (sO o)) = true := by cases o <;> decide +kernel
  have h2 : plains 60 [.str "tree", .str "rule", .str "words"] = true := by decide +kernel
  have h3 : dinS [.str "tree", .str "rule", .str "words"] (.str (sO o)) = made o := by cases o <;> decide +kernel
  simp only [din, h1, h2, h3]
  rfl
@[simp] theorem din_worst (o : Oc) (ρ : List Sl) (t : Pn) : din false (.str (sO o)) d_WORSTS ρ t = .ok (.bl (decide (wO o ≠ 0))) ρ t := by
  have h1 : plain 60 (.str (sO o)) = true := by cases o <;> decide +kernel
  have h2 : plains 60 dl_WORSTS = true := by decide +kernel
  have h3 : dinS dl_WORSTS (.str (sO o)) = decide (wO o ≠ 0) := by cases o <;> decide +kernel
  unfold d_WORSTS
  simp only [din, h1, h2, h3]
  rfl
theorem strL_W : strL dl_WORSTS = some (["right", "rule", "words", "clash"] : List Str) := rfl
theorem tix_O (o : Oc) (h : wO o ≠ 0) (ρ : List Sl) (t : Pn) : dtix (.tup dl_WORSTS) [.str (sO o)] ρ t = .ok (.int (wO o)) ρ t := by
  simp only [dtix, strL_W]
  have h1 : sO o ∈ (["right", "rule", "words", "clash"] : List Str) := by cases o <;> first | exact absurd rfl h | decide +kernel
  have h2 : (["right", "rule", "words", "clash"] : List Str).idxOf (sO o) = wO o := by cases o <;> first | exact absurd rfl h | decide +kernel
  rw [if_pos h1, h2]; rfl
theorem tix_W (o : Wr) (ρ : List Sl) (t : Pn) : dtix (.tup dl_WORSTS) [.str (sW o)] ρ t = .ok (.int (wW o)) ρ t := by
  simp only [dtix, strL_W]
  have h1 : sW o ∈ (["right", "rule", "words", "clash"] : List Str) := by cases o <;> decide +kernel
  have h2 : (["right", "rule", "words", "clash"] : List Str).idxOf (sW o) = wW o := by cases o <;> decide +kernel
  rw [if_pos h1, h2]; rfl
theorem nextW_lt (w : Wr) (o : Oc) (h : wW w < wO o) : sO o = sW (nextW w o) := by
  cases w <;> cases o <;> first | rfl | (exact absurd h (by decide))
theorem nextW_ge (w : Wr) (o : Oc) (h : ¬ wW w < wO o) : nextW w o = w := by
  unfold nextW
  rw [if_neg h]
theorem sum_with_ok (T : Tot) (c : Cs) : (f_sum_with [eTot T, eCs c]).is (eTot (addS T c)) := by
  show (runD m_sum_with (ent 22 ([eTot T, eCs c].map Sl.im)) pn0).is _
  unfold runD ent m_sum_with eTot eCs
  have e3 : 3 ≤ lim := by decide
  have e10 : 10 ≤ lim := by decide
  by_cases h : wO c.o = 0
  · simp [sq, sif, asB, sret, e2, band, sasg, gtup, gcons, gnil, gname, asg, etup, acons, anil, e3, e10, h, dmin2_i]
    have hw : nextW T.w c.o = T.w := by unfold nextW; rw [h]; simp
    simp [addS, hw, min_n]
  · simp [sq, sif, asB, sret, e2, band, sasg, gtup, gcons, gnil, gname, asg, etup, acons, anil, e3, e10, h, dmin2_i, tix_O c.o h, tix_W, dcmp]
    by_cases hlt : wW T.w < wO c.o
    · simp [hlt, addS, min_n, nextW_lt T.w c.o hlt]
    · simp [hlt, addS, min_n, nextW_ge T.w c.o hlt]
/-- a comprehension over data of one form -/
theorem lc_run {A : Type} (e : A → D) (i : Nat) (vs : List Nat) (tst : M Bool) (el : M D) (ρ : List Sl) (t : Pn) (p : A → Bool) (f : A → D)
    (h : ∀ c, ∃ ρ', tst ((unS ρ vs).set i (.im (e c))) t = .ok (p c) ρ' t ∧ (p c = true → ∃ ρ'', el ρ' t = .ok (f c) ρ'' t)) : ∀ (cs : List A) (acc : List D), acc.length + cs.length ≤ lim → lcGo (gname i) tst el vs ρ (cs.map e) acc t = .ok (acc ++ (cs.filter p).map f) ρ t
  | [], acc, _ => by simp [lcGo]
  | c :: cs, acc, hl => by
    obtain ⟨ρ', h1, h2⟩ := h c
    rw [List.length_cons] at hl
    simp only [List.map_cons, lcGo, gname, bind_ok', h1]
    cases hp : p c with
    | true =>
      obtain ⟨ρ'', h3⟩ := h2 hp
      rw [if_pos rfl, h3]
      simp only [bind_ok']
      rw [if_pos (by omega), lc_run e i vs tst el ρ t p f h cs _ (by rw [List.length_append, List.length_singleton]; omega)]
      rw [List.filter_cons, if_pos hp, List.map_cons, List.append_assoc]
      rfl
    | false =>
      rw [if_neg Bool.false_ne_true, lc_run e i vs tst el ρ t p f h cs acc (by omega)]
      rw [List.filter_cons, if_neg (by rw [hp]; decide)]
@[simp] theorem cs_0 (c : Cs) (ρ : List Sl) (t : Pn) : dix (eCs c) (.int 0) ρ t = .ok (.bl c.b0) ρ t := rfl
@[simp] theorem cs_1 (c : Cs) (ρ : List Sl) (t : Pn) : dix (eCs c) (.int 1) ρ t = .ok (.bl c.b1) ρ t := rfl
@[simp] theorem cs_2 (c : Cs) (ρ : List Sl) (t : Pn) : dix (eCs c) (.int 2) ρ t = .ok (.bl c.b2) ρ t := rfl
@[simp] theorem cs_3 (c : Cs) (ρ : List Sl) (t : Pn) : dix (eCs c) (.int 3) ρ t = .ok (.bl c.e1) ρ t := rfl
@[simp] theorem cs_4 (c : Cs) (ρ : List Sl) (t : Pn) : dix (eCs c) (.int 4) ρ t = .ok (.bl c.e2) ρ t := rfl
@[simp] theorem cs_5 (c : Cs) (ρ : List Sl) (t : Pn) : dix (eCs c) (.int 5) ρ t = .ok (.bl c.l1) ρ t := rfl
@[simp] theorem cs_6 (c : Cs) (ρ : List Sl) (t : Pn) : dix (eCs c) (.int 6) ρ t = .ok (.bl c.l2) ρ t := rfl
@[simp] theorem cs_7 (c : Cs) (ρ : List Sl) (t : Pn) : dix (eCs c) (.int 7) ρ t = .ok (.bl c.bo) ρ t := rfl
@[simp] theorem cs_8 (c : Cs) (ρ : List Sl) (t : Pn) : dix (eCs c) (.int 8) ρ t = .ok (.str (sO c.o)) ρ t := rfl
end K61

set_option Elab.async false
set_option linter.all false
set_option maxRecDepth 100000
set_option maxHeartbeats 8000000
namespace K61
open PySem PySem.Spec PyProof.Rows DL
open L2 hiding isNon
theorem un8_get (ρ : List Sl) (s : Sl) (h : 8 < ρ.length) : ((unS ρ [8]).set 8 s)[8]? = some s := by
  show ((ρ.set 8 .un).set 8 s)[8]? = some s
  rw [List.getElem?_set_self (by rw [List.length_set]; exact h)]
theorem un8_ne (ρ : List Sl) (s : Sl) (j : Nat) (h : j ≠ 8) : ((unS ρ [8]).set 8 s)[j]? = ρ[j]? := by
  show ((ρ.set 8 .un).set 8 s)[j]? = ρ[j]?
  rw [List.getElem?_set_ne (Ne.symm h), List.getElem?_set_ne (Ne.symm h)]
/-- what is asked of each case at a fixed place -/
theorem lc_k (k : Int) (f : Cs → D) (hk : ∀ (c : Cs) (ρ : List Sl) (t : Pn), dix (eCs c) (.int k) ρ t = .ok (f c) ρ t) (ρ : List Sl) (t : Pn) (h : 8 < ρ.length) (cs : List Cs) (hc : cs.length ≤ lim) :
    lcGo (gname 8) (mr true) (e2 dix (evar 8) (mr (.int k))) [8] ρ (cs.map eCs) [] t = .ok (cs.map f) ρ t := by
  have := lc_run eCs 8 [8] (mr true) (e2 dix (evar 8) (mr (.int k))) ρ t (fun _ => true) f (fun c => ⟨_, rfl, fun _ => ⟨(unS ρ [8]).set 8 (.im (eCs c)), by
    simp only [e2, mb_ap, evar_ap 8 _ t _ (un8_get ρ _ h), bind_ok', mr_ap, hk]⟩⟩) cs [] (by simpa using hc)
  rw [this, List.filter_eq_self.mpr (fun _ _ => rfl)]
  rfl
/-- .. at the place that slot 9 tells -/
theorem lc_9 (k : Int) (f : Cs → D) (hk : ∀ (c : Cs) (ρ : List Sl) (t : Pn), dix (eCs c) (.int k) ρ t = .ok (f c) ρ t) (ρ : List Sl) (t : Pn) (h : 8 < ρ.length) (h9 : ρ[9]? = some (.im (.int k))) (cs : List Cs) (hc : cs.length ≤ lim) :
    lcGo (gname 8) (mr true) (e2 dix (evar 8) (evar 9)) [8] ρ (cs.map eCs) [] t = .ok (cs.map f) ρ t := by
  have := lc_run eCs 8 [8] (mr true) (e2 dix (evar 8) (evar 9)) ρ t (fun _ => true) f (fun c => ⟨_, rfl, fun _ => ⟨(unS ρ [8]).set 8 (.im (eCs c)), by
    simp only [e2, mb_ap, evar_ap 8 _ t _ (un8_get ρ _ h), bind_ok', evar_ap 9 _ t _ ((un8_ne ρ _ 9 (by decide)).trans h9), hk]⟩⟩) cs [] (by simpa using hc)
  rw [this, List.filter_eq_self.mpr (fun _ _ => rfl)]
  rfl
/-- those of which it holds -/
theorem lc_t9 (k : Int) (f : Cs → Bool) (hk : ∀ (c : Cs) (ρ : List Sl) (t : Pn), dix (eCs c) (.int k) ρ t = .ok (.bl (f c)) ρ t) (ρ : List Sl) (t : Pn) (h : 8 < ρ.length) (h9 : ρ[9]? = some (.im (.int k))) (cs : List Cs) (hc : cs.length ≤ lim) :
    lcGo (gname 8) (btru (e2 dix (evar 8) (evar 9))) (evar 8) [8] ρ (cs.map eCs) [] t = .ok ((cs.filter f).map eCs) ρ t := by
  have := lc_run eCs 8 [8] (btru (e2 dix (evar 8) (evar 9))) (evar 8) ρ t f eCs (fun c => ⟨(unS ρ [8]).set 8 (.im (eCs c)), by
    simp only [btru_ap, e2, mb_ap, evar_ap 8 _ t _ (un8_get ρ _ h), bind_ok', evar_ap 9 _ t _ ((un8_ne ρ _ 9 (by decide)).trans h9), hk, truM_bl], fun _ => ⟨_, evar_ap 8 _ t _ (un8_get ρ _ h)⟩⟩) cs [] (by simpa using hc)
  rw [this]
  simp
@[simp] theorem din_made_l (o : Oc) (ρ : List Sl) (t : Pn) : din false (.str (sO o)) (.lst [.str "tree", .str "rule", .str "words"]) ρ t = .ok (.bl (made o)) ρ t := by
  have h1 : plain 60 (.str (sO o)) = true := by cases o <;> decide +kernel
  have h2 : plains 60 [.str "tree", .str "rule", .str "words"] = true := by decide +kernel
  have h3 : dinS [.str "tree", .str "rule", .str "words"] (.str (sO o)) = made o := by cases o <;> decide +kernel
  simp only [din, h1, h2, h3]
  rfl
def eO (o : Oc) : D := .str (sO o)
/-- the outcomes that made something -/
theorem lc_made (ρ : List Sl) (t : Pn) (h : 7 < ρ.length) (os : List Oc) (hc : os.length ≤ lim) :
    lcGo (gname 7) (asB (e2 (din false) (evar 7) (elst (acons (mr (D.str "tree")) (acons (mr (D.str "rule")) (acons (mr (D.str "words")) anil)))))) (evar 7) [7] ρ (os.map eO) [] t = .ok ((os.filter made).map eO) ρ t := by
  have g7 : ∀ s : Sl, ((unS ρ [7]).set 7 s)[7]? = some s := fun s => by
    show ((ρ.set 7 .un).set 7 s)[7]? = some s
    rw [List.getElem?_set_self (by rw [List.length_set]; exact h)]
  have e3 : 3 ≤ lim := by decide
  have := lc_run eO 7 [7] (asB (e2 (din false) (evar 7) (elst (acons (mr (D.str "tree")) (acons (mr (D.str "rule")) (acons (mr (D.str "words")) anil)))))) (evar 7) ρ t made eO (fun o => ⟨(unS ρ [7]).set 7 (.im (eO o)), by
    simp [asB, e2, evar_ap 7 _ t _ (g7 _), elst, acons, anil, e3, eO], fun _ => ⟨_, evar_ap 7 _ t _ (g7 _)⟩⟩) os [] (by simpa using hc)
  rw [this]
  simp
theorem dinS_O (os : List Oc) (o : Oc) : dinS (os.map eO) (eO o) = decide (o ∈ os) := by
  unfold dinS
  rw [List.any_map]
  apply Bool.eq_iff_iff.mpr
  have e : ∀ a b : Oc, PyData.eqv (toP (eO a)) (toP (eO b)) = decide (a = b) := fun a b => by cases a <;> cases b <;> decide +kernel
  simp [e]
theorem plain_O (o : Oc) : plain 60 (eO o) = true := by cases o <;> decide +kernel
theorem plains_O (os : List Oc) : plains 60 (os.map eO) = true := by
  induction os with
  | nil => rfl
  | cons o os ih =>
    have : (plain 60 (eO o) && plains 60 (os.map eO)) = true := by rw [plain_O, ih]; rfl
    exact this
@[simp] theorem din_O (os : List Oc) (o : Oc) (ρ : List Sl) (t : Pn) : din false (eO o) (.lst (os.map eO)) ρ t = .ok (.bl (decide (o ∈ os))) ρ t := by
  simp only [din, plain_O, plains_O, dinS_O]
  rfl
def worstS (cs : List Cs) : Wr := if Oc.clash ∈ cs.map (·.o) then .clash else if Oc.words ∈ cs.map (·.o) then .words else if Oc.rule ∈ cs.map (·.o) then .rule else .right
def sumS (cs : List Cs) : Tot := ⟨min 2 (cs.filter (·.b0)).length, min 2 (cs.filter (·.b1)).length, min 2 (cs.filter (·.b2)).length, min 2 ((cs.map (·.o)).filter made).length, cs.all (·.e1), cs.all (·.e2), cs.any (·.l1), cs.any (·.l2), cs.any (·.bo), worstS cs⟩
theorem sum_nil : eTot (sumS []) = d_EMPTY := rfl
theorem bN_filter (f : Cs → Bool) (cs : List Cs) (c : Cs) : ((cs ++ [c]).filter f).length = (cs.filter f).length + bN (f c) := by
  rw [List.filter_append, List.length_append]
  cases h : f c <;> simp [h, bN]
theorem sum_snoc (cs : List Cs) (c : Cs) : addS (sumS cs) c = sumS (cs ++ [c]) := by
  have m : ∀ (a b : Nat), min 2 (min 2 a + b) = min 2 (a + b) := fun a b => by omega
  have h3 : (((cs ++ [c]).map (·.o)).filter made).length = ((cs.map (·.o)).filter made).length + bN (made c.o) := by
    rw [List.map_append, List.filter_append, List.length_append]
    cases h : made c.o <;> simp [h, bN]
  have hw : nextW (worstS cs) c.o = worstS (cs ++ [c]) := by
    unfold worstS
    simp only [List.map_append, List.mem_append, List.map_cons, List.map_nil, List.mem_singleton]
    by_cases k1 : Oc.clash ∈ cs.map (·.o) <;> by_cases k2 : Oc.words ∈ cs.map (·.o) <;> by_cases k3 : Oc.rule ∈ cs.map (·.o) <;> cases ho : c.o <;> simp [k1, k2, k3, nextW, wO, wW]
  unfold addS sumS
  simp only [bN_filter, h3, m, hw, List.all_append, List.any_append, List.all_cons, List.any_cons, List.all_nil, List.any_nil, Bool.and_true, Bool.or_false]
@[simp] theorem len_l (xs : List D) (ρ : List Sl) (t : Pn) : dlen [.lst xs] ρ t = .ok (.int xs.length) ρ t := rfl
theorem bools_map {A : Type} (f : A → Bool) : ∀ cs : List A, bools (cs.map fun c => D.bl (f c)) = some (cs.map f)
  | [] => rfl
  | c :: cs => by
    rw [List.map_cons, bools, bools_map f cs]; rfl
theorem dall_map {A : Type} (f : A → Bool) (cs : List A) (ρ : List Sl) (t : Pn) : dall [.lst (cs.map fun c => D.bl (f c))] ρ t = .ok (.bl (cs.all f)) ρ t := by
  simp only [dall, bools_map]
  rw [List.all_map]; rfl
theorem dany_map {A : Type} (f : A → Bool) (cs : List A) (ρ : List Sl) (t : Pn) : dany [.lst (cs.map fun c => D.bl (f c))] ρ t = .ok (.bl (cs.any f)) ρ t := by
  simp only [dany, bools_map]
  rw [List.any_map]; rfl
theorem min2_len (n : Nat) : (if (n : Int) < 2 then (n : Int) else 2) = ((min 2 n : Nat) : Int) := by
  split <;> omega
theorem e2_ap (c : D → D → M D) (f h : M D) (ρ : List Sl) (t : Pn) : e2 c f h ρ t = (f ρ t).bind fun x => mb h (c x) := rfl
theorem asB_ap (f : M D) (ρ : List Sl) (t : Pn) : asB f ρ t = (f ρ t).bind fun d => match d with
  | .bl b => mr b
  | _ => mx := rfl
theorem acons_ap (f : M D) (h : M (List D)) (ρ : List Sl) (t : Pn) : acons f h ρ t = (f ρ t).bind fun d => mb h fun ds => mr (d :: ds) := rfl
theorem anil_ap (ρ : List Sl) (t : Pn) : anil ρ t = .ok [] ρ t := rfl
theorem sq_ap (f k : M Fl) (ρ : List Sl) (t : Pn) : sq f k ρ t = (f ρ t).bind fun fl => match fl with
  | .nx => k
  | .rt d => mr (.rt d)
  | .bk => mr .bk
  | .ct => mr .ct := rfl
theorem asg_ap (i : Nat) (f : M D) (ρ : List Sl) (t : Pn) : asg i f ρ t = (f ρ t).bind fun d ρ t => .ok .nx (ρ.set i (.im d)) t := rfl
theorem lcD_ap (it : M (List D)) (tgt : D → M Unit) (tst : M Bool) (el : M D) (vs : List Nat) (ρ : List Sl) (t : Pn) : lcD it tgt tst el vs ρ t = (it ρ t).bind fun ds ρ t => (lcGo tgt tst el vs ρ ds [] t).bind fun acc ρ' t' => .ok (.lst acc) ρ' t' := rfl
theorem elst_ap (h : M (List D)) (ρ : List Sl) (t : Pn) : elst h ρ t = (h ρ t).bind fun ds => if ds.length ≤ lim then mr (.lst ds) else mx := rfl
theorem sif_ap (k : M Bool) (f h : M Fl) (ρ : List Sl) (t : Pn) : sif k f h ρ t = (k ρ t).bind fun b => if b = true then f else h := rfl
theorem sret_ap (f : M D) (ρ : List Sl) (t : Pn) : sret f ρ t = (f ρ t).bind fun d => mr (.rt d) := rfl
theorem dmin2_2 (j : Int) (ρ : List Sl) (t : Pn) : dmin2 [.int 2, .int j] ρ t = .ok (.int (if j < 2 then j else 2)) ρ t := rfl
theorem rng3 (ρ : List Sl) (t : Pn) : drng1 [.int 3] ρ t = .ok [.int 0, .int 1, .int 2] ρ t := rfl
theorem law_sum_of_ok (cs : List Cs) (hc : cs.length ≤ 100) : (f_law_sum_of [.lst (cs.map eCs)]).is (eTot (sumS cs)) := by
  have hc' : cs.length ≤ lim := Nat.le_trans hc (by decide)
  have ho : (cs.map fun c => D.str (sO c.o)) = (cs.map (·.o)).map eO := by rw [List.map_map]; rfl
  have k8 := fun ρ t h => lc_k 8 (fun c => .str (sO c.o)) cs_8 ρ t h cs hc'
  rw [ho] at k8
  have q0 := fun ρ t h h9 => lc_t9 0 (·.b0) cs_0 ρ t h h9 cs hc'
  have q1 := fun ρ t h h9 => lc_t9 1 (·.b1) cs_1 ρ t h h9 cs hc'
  have q2 := fun ρ t h h9 => lc_t9 2 (·.b2) cs_2 ρ t h h9 cs hc'
  have q3 := fun ρ t h h9 => lc_9 3 (fun c => .bl c.e1) cs_3 ρ t h h9 cs hc'
  have q4 := fun ρ t h h9 => lc_9 4 (fun c => .bl c.e2) cs_4 ρ t h h9 cs hc'
  have q5 := fun ρ t h h9 => lc_9 5 (fun c => .bl c.l1) cs_5 ρ t h h9 cs hc'
  have q6 := fun ρ t h h9 => lc_9 6 (fun c => .bl c.l2) cs_6 ρ t h h9 cs hc'
  have q7 := fun ρ t h h9 => lc_9 7 (fun c => .bl c.bo) cs_7 ρ t h h9 cs hc'
  have qm := fun ρ t h => lc_made ρ t h (cs.map (·.o)) (by rw [List.length_map]; exact hc')
  have d1 : ∀ ρ t, din false (D.str "rule") (.lst ((cs.map (fun c : Cs => c.o)).map eO)) ρ t = .ok (.bl (decide (Oc.rule ∈ cs.map (fun c : Cs => c.o)))) ρ t := fun ρ t => din_O (cs.map (fun c : Cs => c.o)) .rule ρ t
  have d2 : ∀ ρ t, din false (D.str "words") (.lst ((cs.map (fun c : Cs => c.o)).map eO)) ρ t = .ok (.bl (decide (Oc.words ∈ cs.map (fun c : Cs => c.o)))) ρ t := fun ρ t => din_O (cs.map (fun c : Cs => c.o)) .words ρ t
  have d3 : ∀ ρ t, din false (D.str "clash") (.lst ((cs.map (fun c : Cs => c.o)).map eO)) ρ t = .ok (.bl (decide (Oc.clash ∈ cs.map (fun c : Cs => c.o)))) ρ t := fun ρ t => din_O (cs.map (fun c : Cs => c.o)) .clash ρ t
  have z2 : 2 ≤ lim := by decide
  have z3 : 3 ≤ lim := by decide
  have z1 : 1 ≤ lim := by decide
  have y6 : 6 ≤ lim := by decide
  have y9 : 9 ≤ lim := by decide
  have y10 : 10 ≤ lim := by decide
  have y4 : 4 ≤ lim := by decide
  have l0 : 0 < lim := by decide
  have l1 : 1 < lim := by decide
  have l2 : 2 < lim := by decide
  show (runD m_law_sum_of (ent 10 ([.lst (cs.map eCs)].map Sl.im)) pn0).is _
  unfold runD ent m_law_sum_of
  simp only [sq_ap, asg_ap, lcD_ap, mb_ap, List.map_cons, List.map_nil, List.cons_append, List.nil_append, List.length_cons, List.length_nil, List.replicate]
  generalize hos : cs.map (·.o) = os at *
  simp [-List.map_map, sq_ap, items, k8, qm, acons_ap, anil_ap, len_l, asg_ap, e2_ap, rng3, lcGo, gname, unS, q0, q1, q2, q3, q4, q5, q6, q7, lcD_ap, dmin2_2, elst_ap, z1, z2, z3, l0, l1, l2, dall_map (fun c : Cs => c.e1), dall_map (fun c : Cs => c.e2), dany_map (fun c : Cs => c.l1), dany_map (fun c : Cs => c.l2), dany_map (fun c : Cs => c.bo), sfor, forD, sif_ap, asB_ap, sret_ap, d1, d2, d3, dadd, dtuple, y4, y6, y9, y10]
  have hw : worstS cs = if Oc.clash ∈ os then .clash else if Oc.words ∈ os then .words else if Oc.rule ∈ os then .rule else .right := by
    unfold worstS; rw [hos]
  unfold sumS eTot
  simp only [hw, hos, min2_len]
  by_cases k1 : Oc.clash ∈ os <;> by_cases k2 : Oc.words ∈ os <;> by_cases k3 : Oc.rule ∈ os <;> simp [k1, k2, k3, sW]
end K61

set_option Elab.async false
set_option linter.all false
set_option maxRecDepth 100000
set_option maxHeartbeats 8000000
namespace K61
open PySem PySem.Spec PyProof.Rows DL
open L2 hiding isNon
@[simp] theorem tot0 (T : Tot) (ρ : List Sl) (t : Pn) : dix (eTot T) (.int 0) ρ t = .ok (.int T.n0) ρ t := rfl
@[simp] theorem tot1 (T : Tot) (ρ : List Sl) (t : Pn) : dix (eTot T) (.int 1) ρ t = .ok (.int T.n1) ρ t := rfl
@[simp] theorem tot2 (T : Tot) (ρ : List Sl) (t : Pn) : dix (eTot T) (.int 2) ρ t = .ok (.int T.n2) ρ t := rfl
@[simp] theorem dne_e (ρ : List Sl) (t : Pn) : dne (.lst []) (.lst []) ρ t = .ok (.bl false) ρ t := rfl
@[simp] theorem dne_1 (a : Int) (ρ : List Sl) (t : Pn) : dne (.lst [.int a]) (.lst []) ρ t = .ok (.bl true) ρ t := rfl
@[simp] theorem dne_2 (a b : Int) (ρ : List Sl) (t : Pn) : dne (.lst [.int a, .int b]) (.lst []) ρ t = .ok (.bl true) ρ t := rfl
@[simp] theorem din_Kt2 (neg : Bool) (ks : List K3) (a b : Bool) (n : Nat) (ρ : List Sl) (t : Pn) : din neg (.tup [.bl a, .bl b, .int n]) (.lst (ks.map eK)) ρ t = .ok (.bl (if neg = true then !decide ((a, b, n) ∈ ks) else decide ((a, b, n) ∈ ks))) ρ t := din_Kl neg ks (a, b, n) ρ t
def m_tail : M Fl := (sq (sasg (evar 3) (gtup 3 (gcons (gname 11) (gcons (gname 12) (gcons (gname 13) gnil))))) (sq (asg 7 (elst (acons (eand (e2 deq (evar 12) (evar 11)) (eor (enon (evar 11)) (e2 dix (evar 2) (mr (D.int 4))))) (acons (eand (e2 deq (evar 13) (evar 11)) (eor (enon (evar 11)) (e2 dix (evar 2) (mr (D.int 5))))) anil)))) (sq (sasg (lcD (mb (evar 3) items) (gname 17) (mr true) (mb (acons (evar 17) anil) fun ds => call0 f_law_value (ds ++ [])) [17]) (gtup 3 (gcons (gname 14) (gcons (gname 15) (gcons (gname 16) gnil))))) (sq (asg 8 (elst (acons (eor (e2 dix (evar 2) (mr (D.int 6))) (eand (enno (evar 14)) (e2 deq (evar 15) (evar 14)))) (acons (eor (e2 dix (evar 2) (mr (D.int 7))) (eand (enno (evar 14)) (e2 deq (evar 16) (evar 14)))) anil)))) (sq (asg 9 (eor (e2 dix (evar 2) (mr (D.int 8))) (eand (e2 dne (evar 15) (evar 14)) (e2 dne (evar 16) (evar 14))))) (sq (asg 10 (mb (acons (evar 0) (acons (evar 1) (acons (evar 2) (acons (evar 3) (acons (evar 7) (acons (evar 8) (acons (evar 4) anil))))))) fun ds => call0 f_law_outcome (ds ++ []))) (sret (mb (acons (e2 dadd (e2 dadd (e2 dadd (lcD (mb (evar 3) items) (gname 17) (mr true) (enno (evar 17)) [17]) (evar 7)) (evar 8)) (elst (acons (evar 9) (acons (evar 10) anil)))) anil) dtuple))))))))
theorem closed_eq : m_law_closed = (sq (asg 5 (lcD (mb (acons (mr (D.int 3)) anil) drng1) (gname 6) (asB (enon (e2 dix (evar 3) (evar 6)))) (evar 6) [6])) (sq (sif (bor (asB (e2 deq (mb (acons (evar 5) anil) dlen) (mr (D.int 3)))) (band (btru (evar 4)) (asB (e2 dne (evar 5) (elst anil))))) (sret (mr D.non)) (mr Fl.nx)) (sq (sfor (mb (acons (mr (D.int 3)) anil) drng1) (gname 6) (sq (sif (band (asB (enon (e2 dix (evar 3) (evar 6)))) (asB (e2 dgt (e2 dix (evar 2) (evar 6)) (mr (D.int 0))))) (sret (mr D.non)) (mr Fl.nx)) (sif (asB (enno (e2 dix (evar 3) (evar 6)))) (sif (asB (e2 (din true) (etup (acons (enno (e2 dix (e2 dix (evar 3) (evar 6)) (mr (D.int 0)))) (acons (e2 dix (e2 dix (evar 3) (evar 6)) (mr (D.int 1))) (acons (e2 dix (evar 2) (evar 6)) anil)))) (evar 1))) (sret (mr D.non)) (mr Fl.nx)) (mr Fl.nx)))) m_tail))) := rfl
theorem dadd_ll (xs ys : List D) (h : xs.length + ys.length ≤ lim) (ρ : List Sl) (t : Pn) : dadd (.lst xs) (.lst ys) ρ t = .ok (.lst (xs ++ ys)) ρ t := by
  simp only [dadd, if_pos h]; rfl
theorem dtuple_l (xs : List D) (ρ : List Sl) (t : Pn) : dtuple [.lst xs] ρ t = .ok (.tup xs) ρ t := rfl
theorem same_l (c b : Cel) (a : Bool) : (decide (c = b) && (decide (b = none) || a)) = isSame c b a := by
  unfold isSame
  by_cases h : c = none <;> by_cases h2 : c = b
  · subst h2; simp [h]
  · have : ¬ b = none := fun z => h2 (h.trans z.symm)
    have h4 : ¬ none = b := fun z => this z.symm
    simp [h, h4, this]
  · subst h2; simp [h]
  · simp [h, h2]
theorem tail_ok (p : Pl) (kr ko ks : List K3) (T : Tot) (h3 : T.n3 < 3) (c0 c1 c2 : Cel) (r : Bool) (hk : ∀ k, k ∈ ks ↔ k ∈ (if r = true then kr else ko)) (x5 x6 : Sl) (t : Pn) :
    (m_tail [.im (plT p), .im (.lst (ks.map eK)), .im (eTot T), .im (.tup [eC c0, eC c1, eC c2]), .im (.bl r), x5, x6, .un, .un, .un, .un, .un, .un, .un, .un, .un, .un, .un] t).is (Fl.rt (eCs (caseS p kr ko T c0 c1 c2 r))) := by
  have lo := fun s0 s1 l0 l1 => call0_is (law_outcome_ok p ks T h3 c0 c1 c2 s0 s1 l0 l1 r)
  have oe := out_eq p kr ko ks T c0 c1 c2 r hk
  have z1 : 1 ≤ lim := by decide
  have z2 : 2 ≤ lim := by decide
  have z3 : 3 ≤ lim := by decide
  have l0 : 0 < lim := by decide
  have l1 : 1 < lim := by decide
  have l2 : 2 < lim := by decide
  have z5 : 3 + 2 ≤ lim := by decide
  have z7 : 5 + 2 ≤ lim := by decide
  have z9 : 7 + 2 ≤ lim := by decide
  unfold m_tail
  simp [sq_ap, asg_ap, lcD_ap, acons_ap, anil_ap, lcGo, gname, unS, asB_ap, enon, enno, e2_ap, l0, l1, l2, sret_ap, elst_ap, z1, z2, z3, sasg, gtup, gcons, gnil, items, call0_is (law_value_ok _), lo, dadd, dtuple_l, z5, z7, z9]
  have f1 : (T.s1 || !decide (valIn c0 = none) && decide (valIn c1 = valIn c0)) = (caseS p kr ko T c0 c1 c2 r).l1 := by simp [caseS, Bool.or_comm]
  have f2 : (T.s2 || !decide (valIn c0 = none) && decide (valIn c2 = valIn c0)) = (caseS p kr ko T c0 c1 c2 r).l2 := by simp [caseS, Bool.or_comm]
  have f3 : (T.s3 || !decide (valIn c1 = valIn c0) && !decide (valIn c2 = valIn c0)) = (caseS p kr ko T c0 c1 c2 r).bo := by simp [caseS, Bool.or_comm]
  rw [same_l, same_l, f1, f2, f3, oe]
  unfold eCs
  simp [caseS]
def runK : Fl → M D := fun fl ρ' t' => match fl with
  | .nx => .ok .non ρ' t'
  | .rt d => .ok d ρ' t'
  | _ => .bad
theorem runD_eq (f : M Fl) (ρ : List Sl) (t : Pn) : runD f ρ t = (f ρ t).bind runK := rfl
@[simp] theorem runK_rt (d : D) (ρ : List Sl) (t : Pn) : runK (.rt d) ρ t = .ok d ρ t := rfl
@[simp] theorem runK_nx (ρ : List Sl) (t : Pn) : runK .nx ρ t = .ok .non ρ t := rfl
theorem runK_is {r : Ou Fl} {d d' : D} (h : r.is (.rt d)) : (r.bind runK).is d' ↔ d = d' := by
  obtain ⟨ρ, t, e⟩ := h
  rw [e]
  simp
theorem law_closed_ok (p : Pl) (kr ko ks : List K3) (T : Tot) (h3 : T.n3 < 3) (c0 c1 c2 : Cel) (r : Bool) (hk : ∀ k, k ∈ ks ↔ k ∈ (if r = true then kr else ko)) :
    (f_law_closed [plT p, .lst (ks.map eK), eTot T, .tup [eC c0, eC c1, eC c2], .bl r]).is (eOC (closedS p kr ko T c0 c1 c2 r)) := by
  have tl := tail_ok p kr ko ks T h3 c0 c1 c2 r hk
  show (runD m_law_closed (ent 18 ([plT p, .lst (ks.map eK), eTot T, .tup [eC c0, eC c1, eC c2], .bl r].map Sl.im)) pn0).is _
  rw [closed_eq, runD_eq]
  unfold ent
  have l0 : 0 < lim := by decide
  have l1 : 1 < lim := by decide
  have l2 : 2 < lim := by decide
  have z0 : 0 ≤ lim := by decide
  have z3 : 3 ≤ lim := by decide
  have tb := fun x5 x6 d' => runK_is (d' := d') (tl x5 x6 pn0)
  have hC : closedS p kr ko T c0 c1 c2 r = if (isLet kr ko c0 T.n0 r = true ∧ isLet kr ko c1 T.n1 r = true ∧ isLet kr ko c2 T.n2 r = true) ∧ (c0 ≠ none ∨ c1 ≠ none ∨ c2 ≠ none) then some (caseS p kr ko T c0 c1 c2 r) else none := rfl
  rw [hC]
  generalize caseS p kr ko T c0 c1 c2 r = cd at *
  rcases c0 with _ | ⟨v0, b0⟩ <;> rcases c1 with _ | ⟨v1, b1⟩ <;> rcases c2 with _ | ⟨v2, b2⟩ <;> cases r
  all_goals
    simp [sq_ap, asg_ap, lcD_ap, acons_ap, anil_ap, rng3, lcGo, gname, unS, asB_ap, enon, enno, e2_ap, l0, l1, l2, len_l, sif_ap, bor, band, sret_ap, elst_ap, etup, z0, z3, sfor, forD, dcmp, tb, isLet, eOC, hk]
  all_goals
    repeat' split
  all_goals
    first
    | rfl
    | (clear tl tb; simp_all; done)
    | (clear tl tb; simp_all; omega)



end K61

set_option Elab.async false
set_option linter.all false
set_option maxRecDepth 100000
set_option maxHeartbeats 8000000
namespace K61
open PySem PySem.Spec PyProof.Rows DL
open L2 hiding isNon
/-! ### which parts are bools; sums one by one -/
def waysT : D := .lst [.bl false, .bl false, .bl false, .bl false, .bl true, .bl true, .bl true, .bl true, .bl true, .bl false]
def waysC : D := .lst [.bl true, .bl true, .bl true, .bl true, .bl true, .bl true, .bl true, .bl true, .bl false]
theorem kinds_T (T : Tot) : (f_law_kinds_right [eTot T, waysT]).is (.bl true) := ⟨[.im (eTot T), .im waysT, .un], pn0, rfl⟩
theorem kinds_C (c : Cs) : (f_law_kinds_right [eCs c, waysC]).is (.bl true) := ⟨[.im (eCs c), .im waysC, .un], pn0, rfl⟩
theorem added_ok (T : Tot) (c : Cs) : (f_added [eTot T, eCs c]).is (eTot (addS T c)) := by
  show (runD m_added (ent 2 ([eTot T, eCs c].map Sl.im)) pn0).is _
  unfold runD ent m_added
  simp [sret_ap, acons_ap, anil_ap, call0_is (sum_with_ok T c)]
theorem empty_ok : (f_empty_sum []).is (eTot (sumS [])) := ⟨[], pn0, rfl⟩
theorem eqv_tot (T : Tot) : PyData.eqv (toP (eTot T)) (toP (eTot T)) = true := by
  have hw : PyData.eqv (toP (.str (sW T.w))) (toP (.str (sW T.w))) = true := by cases T.w <;> decide +kernel
  have e1 : ∀ (x : PyData) (xs : List PyData), PyData.eqv x x = true → PyData.eqvAll xs xs = true → PyData.eqvAll (x :: xs) (x :: xs) = true := fun x xs h1 h2 => by simp [PyData.eqvAll, h1, h2]
  have hi : ∀ n : Int, PyData.eqv (toP (.int n)) (toP (.int n)) = true := fun n => by simp [toP, PyData.eqv]
  have hb : ∀ b : Bool, PyData.eqv (toP (.bl b)) (toP (.bl b)) = true := fun b => by cases b <;> rfl
  show PyData.eqvAll _ _ = true
  exact e1 _ _ (hi _) (e1 _ _ (hi _) (e1 _ _ (hi _) (e1 _ _ (hi _) (e1 _ _ (hb _) (e1 _ _ (hb _) (e1 _ _ (hb _) (e1 _ _ (hb _) (e1 _ _ (hb _) (e1 _ _ hw rfl)))))))))
theorem plain_tot (T : Tot) : plain 60 (eTot T) = true := by
  have hw : plain 59 (.str (sW T.w)) = true := by cases T.w <;> decide +kernel
  show (plain 59 (.str (sW T.w)) && true) = true
  rw [hw]; rfl
@[simp] theorem dne_tot (T : Tot) (ρ : List Sl) (t : Pn) : dne (eTot T) (eTot T) ρ t = .ok (.bl false) ρ t := by
  unfold dne
  rw [if_pos ⟨plain_tot T, plain_tot T⟩, eqv_tot]; rfl
theorem dsl_take (xs : List D) (n : Nat) (h : n ≤ xs.length) (ρ : List Sl) (t : Pn) : dsl (.lst xs) none (some (n : Int)) ρ t = .ok (.lst (xs.take n)) ρ t := by
  show Ou.ok (D.lst (DL.cutD xs none (some (n : Int)))) ρ t = _
  have : DL.cutD xs none (some (n : Int)) = xs.take n := by
    unfold DL.cutD
    rw [HT.sIx_none, HT.sIx_nat, List.drop_zero]
    simp
  rw [this]
def m_turn : M Fl := (sq (sif (asB (e2 dne (evar 2) (mb (acons (esl (evar 1) (mr none) (osome (evar 3))) anil) fun ds => call0 f_law_sum_of (ds ++ [])))) (sret (mr (D.bl false))) (mr Fl.nx)) (sq (sif (bnot (btru (mb (acons (evar 2) (acons (e2 dadd (e2 dadd (e2 drep (elst (acons (mr (D.bl false)) anil)) (mr (D.int 4))) (e2 drep (elst (acons (mr (D.bl true)) anil)) (mr (D.int 5)))) (elst (acons (mr (D.bl false)) anil))) anil)) fun ds => call0 f_law_kinds_right (ds ++ [])))) (sret (mr (D.bl false))) (mr Fl.nx)) (sif (asB (e2 dlt (evar 3) (mb (acons (evar 1) anil) dlen))) (asg 2 (mb (acons (evar 2) (acons (e2 dix (evar 1) (evar 3)) anil)) fun ds => call0 f_added (ds ++ []))) (mr Fl.nx))))
theorem sums_eq : m_law_sums_so = (sq (asg 2 (call0 f_empty_sum [])) (sq (sfor (mb (acons (e2 dadd (mb (acons (evar 1) anil) dlen) (mr (D.int 1))) anil) drng1) (gname 3) m_turn) (sret (mr (D.bl true))))) := rfl
theorem dix_case (cs : List Cs) (j : Nat) (h : j < cs.length) (ρ : List Sl) (t : Pn) : dix (.lst (cs.map eCs)) (.int j) ρ t = .ok (eCs cs[j]) ρ t := by
  have e : L2.atI (cs.map eCs) (j : Int) = some (eCs cs[j]) := by
    unfold L2.atI L2.ixN
    rw [if_pos (by omega), if_pos (by rw [List.length_map]; omega)]
    simp [List.getElem?_eq_getElem h]
  simp only [dix, e]
  rfl
theorem ways_eq (ρ : List Sl) (t : Pn) : (e2 dadd (e2 dadd (e2 drep (elst (acons (mr (D.bl false)) anil)) (mr (D.int 4))) (e2 drep (elst (acons (mr (D.bl true)) anil)) (mr (D.int 5)))) (elst (acons (mr (D.bl false)) anil))) ρ t = .ok waysT ρ t := rfl
@[simp] theorem drep4 (b : Bool) (ρ : List Sl) (t : Pn) : drep (.lst [.bl b]) (.int 4) ρ t = .ok (.lst [.bl b, .bl b, .bl b, .bl b]) ρ t := rfl
@[simp] theorem drep5 (b : Bool) (ρ : List Sl) (t : Pn) : drep (.lst [.bl b]) (.int 5) ρ t = .ok (.lst [.bl b, .bl b, .bl b, .bl b, .bl b]) ρ t := rfl
@[simp] theorem drep8 (b : Bool) (ρ : List Sl) (t : Pn) : drep (.lst [.bl b]) (.int 8) ρ t = .ok (.lst [.bl b, .bl b, .bl b, .bl b, .bl b, .bl b, .bl b, .bl b]) ρ t := rfl
theorem turn_ok (cs : List Cs) (hc : cs.length ≤ 100) (j : Nat) (hj : j ≤ cs.length) (t : Pn) :
    m_turn [.pn, .im (.lst (cs.map eCs)), .im (eTot (sumS (cs.take j))), .im (.int j)] t = .ok .nx [.pn, .im (.lst (cs.map eCs)), .im (eTot (sumS (cs.take (j + 1)))), .im (.int j)] t := by
  have hs := law_sum_of_ok (cs.take j) (by rw [List.length_take]; omega)
  rw [List.map_take] at hs
  have ht : cs.take (j + 1) = cs.take j ++ (cs[j]?).toList := List.take_succ
  have kt := fun ρ t => call0_is (kinds_T (sumS (cs.take j))) ρ t
  unfold waysT at kt
  have z1 : 1 ≤ lim := by decide
  have z9 : 9 ≤ lim := by decide
  have z10 : 10 ≤ lim := by decide
  unfold m_turn
  by_cases hlt : j < cs.length
  · rw [List.getElem?_eq_getElem hlt] at ht
    have e : addS (sumS (cs.take j)) cs[j] = sumS (cs.take (j + 1)) := by rw [ht]; exact sum_snoc _ _
    simp [sq_ap, sif_ap, asB_ap, e2_ap, acons_ap, anil_ap, esl, osome, dsl_take _ j (show j ≤ (cs.map eCs).length by rw [List.length_map]; exact hj), call0_is hs, bnot, elst_ap, dadd, z1, z9, z10, kt, len_l, dcmp, hlt, asg_ap, dix_case cs j hlt, call0_is (added_ok _ _), e]
  · have e : cs.take (j + 1) = cs.take j := by rw [List.take_of_length_le (by omega), List.take_of_length_le (by omega)]
    simp [sq_ap, sif_ap, asB_ap, e2_ap, acons_ap, anil_ap, esl, osome, dsl_take _ j (show j ≤ (cs.map eCs).length by rw [List.length_map]; exact hj), call0_is hs, bnot, elst_ap, dadd, z1, z9, z10, kt, len_l, dcmp, hlt, e]
theorem turns (cs : List Cs) (hc : cs.length ≤ 100) (t : Pn) : ∀ (k j : Nat) (x3 : Sl), j + k = cs.length + 1 → ∃ ρ', forD (gname 3) m_turn ((List.range' j k).map fun (i : Nat) => D.int (i : Int)) [.pn, .im (.lst (cs.map eCs)), .im (eTot (sumS (cs.take j))), x3] t = .ok .nx ρ' t
  | 0, j, x3, _ => ⟨_, rfl⟩
  | k + 1, j, x3, h => by
    obtain ⟨ρ', e⟩ := turns cs hc t k (j + 1) (.im (.int j)) (by omega)
    refine ⟨ρ', ?_⟩
    have tn := turn_ok cs hc j (by omega) t
    rw [List.range'_succ, List.map_cons]
    simp [forD, gname, tn, e]
theorem rng_eq (n : Nat) : rng 0 n = (List.range' 0 n).map fun (i : Nat) => D.int (i : Int) := by
  unfold rng
  rw [List.range_eq_range']
  simp
theorem drng_n (n : Nat) (h : n ≤ 1000) (ρ : List Sl) (t : Pn) : drng1 [.int ((n : Int) + 1)] ρ t = .ok (rng 0 (n + 1)) ρ t := by
  have hb : -(2 ^ 62) ≤ (n : Int) + 1 ∧ (n : Int) + 1 < 2 ^ 62 := by omega
  have hn : ((n : Int) + 1).toNat = n + 1 := by omega
  simp only [drng1]
  rw [if_pos hb, hn]
  rfl
end K61

set_option Elab.async false
set_option linter.all false
set_option maxRecDepth 100000
set_option maxHeartbeats 8000000
namespace K61
open PySem PySem.Spec PyProof.Rows DL
open L2 hiding isNon
theorem sums_e0 (ds : List D) (h : ds.length + 1 = 2) (t : Pn) : f_law_sums_so ds t = runD m_law_sums_so (ent 4 (.pn :: ds.map .im)) t := if_pos h
theorem dadd_ii (i j : Int) (ρ : List Sl) (t : Pn) : dadd (.int i) (.int j) ρ t = .ok (.int (i + j)) ρ t := rfl
theorem bind_okP {α β : Type} (a : α) (ρ : List Sl) (t : Pn) (k : α → M β) : (Ou.ok a ρ t).bind k = k a ρ t := by
  have h : ∀ r : Ou α, r = .ok a ρ t → r.bind k = k a ρ t := fun r e => by subst e; rfl
  exact h _ rfl
theorem mb_apP {α β : Type} (m : M α) (k : α → M β) (ρ : List Sl) (t : Pn) : mb m k ρ t = (m ρ t).bind k := by
  have h : ∀ x : M β, x = mb m k → x ρ t = (m ρ t).bind k := fun x e => by subst e; rfl
  exact h _ rfl
theorem sums_step (cs : List D) (n : Nat) (hl : cs.length = n) (hn : n ≤ 1000) (T0 : D) (t : Pn) (h0 : call0 f_empty_sum [] [.pn, .im (.lst cs), .un, .un] t = .ok T0 [.pn, .im (.lst cs), .un, .un] t) (ρ' : List Sl) (F : List D → M Fl) (hF : forD (gname 3) m_turn = F)
    (e' : F (rng 0 (n + 1)) [.pn, .im (.lst cs), .im T0, .un] t = .ok .nx ρ' t) :
    (sq (asg 2 (call0 f_empty_sum [])) (sq (mb (mb (acons (e2 dadd (mb (acons (evar 1) anil) dlen) (mr (.int 1))) anil) drng1) F) (sret (mr (.bl true))))) [.pn, .im (.lst cs), .un, .un] t = .ok (.rt (.bl true)) ρ' t := by
  have hr := fun ρ t => drng_n n hn ρ t
  clear hF
  generalize hR : rng 0 (n + 1) = R at *
  simp only [sq_ap, asg_ap, h0, acons_ap, anil_ap, e2_ap, mb_apP, mr_ap, bind_okP, dadd_ii, hl, hr, e', sret_ap, evar_ap 1 [.pn, .im (.lst cs), .im T0, .un] t (.lst cs) rfl, List.set, len_l]
theorem sums_eq2 : m_law_sums_so = sq (asg 2 (call0 f_empty_sum [])) (sq (mb (mb (acons (e2 dadd (mb (acons (evar 1) anil) dlen) (mr (.int 1))) anil) drng1) (forD (gname 3) m_turn)) (sret (mr (.bl true)))) := rfl
theorem runD_ret {f : M Fl} {ρ ρ' : List Sl} {t t' : Pn} {d : D} (h : f ρ t = .ok (.rt d) ρ' t') : runD f ρ t = .ok d ρ' t' := by
  unfold runD
  rw [h]
  rfl
theorem sums_so_ok (cs : List Cs) (hc : cs.length ≤ 100) (t : Pn) : ∃ ρ', f_law_sums_so [.lst (cs.map eCs)] t = .ok (.bl true) ρ' t := by
  have tt : ∃ ρ', forD (gname 3) m_turn (rng 0 (cs.length + 1)) [.pn, .im (.lst (cs.map eCs)), .im (eTot (sumS [])), .un] t = .ok .nx ρ' t := by
    rw [rng_eq]
    exact turns cs hc t (cs.length + 1) 0 .un (Nat.zero_add (cs.length + 1))
  refine tt.imp fun ρ' e' => ?_
  rw [sums_e0 _ rfl]
  refine runD_ret (ρ := [.pn, .im (.lst (cs.map eCs)), .un, .un]) ?_
  rw [sums_eq2]
  exact sums_step (cs.map eCs) cs.length (List.length_map ..) (by omega) (eTot (sumS [])) t (call0_is empty_ok _ _) ρ' _ rfl e'
end K61

set_option Elab.async false
set_option linter.all false
set_option maxRecDepth 100000
set_option maxHeartbeats 8000000
namespace K61
open PySem PySem.Spec PyProof.Rows DL
open L2 hiding isNon
theorem one_G (g : Gn) : (f_is_one_of [.str (sG g), d_GONE]).is (.bl true) := match g with
  | .clash => ⟨[.im (.str (sG .clash)), .im d_GONE], pn0, by kernel_rfl⟩
  | .kept => ⟨[.im (.str (sG .kept)), .im d_GONE], pn0, by kernel_rfl⟩
  | .bare => ⟨[.im (.str (sG .bare)), .im d_GONE], pn0, by kernel_rfl⟩
  | .base => ⟨[.im (.str (sG .base)), .im d_GONE], pn0, by kernel_rfl⟩
theorem one_A (g : Al) : (f_is_one_of [.str (sA g), d_ALIKE]).is (.bl true) := match g with
  | .take => ⟨[.im (.str (sA .take)), .im d_ALIKE], pn0, by kernel_rfl⟩
  | .clash => ⟨[.im (.str (sA .clash)), .im d_ALIKE], pn0, by kernel_rfl⟩
theorem one_U (g : Un) : (f_is_one_of [.str (sU g), d_UNLIKE]).is (.bl true) := match g with
  | .clash => ⟨[.im (.str (sU .clash)), .im d_UNLIKE], pn0, by kernel_rfl⟩
  | .one => ⟨[.im (.str (sU .one)), .im d_UNLIKE], pn0, by kernel_rfl⟩
  | .other => ⟨[.im (.str (sU .other)), .im d_UNLIKE], pn0, by kernel_rfl⟩
theorem are_flags_ok (f : Fg) : (f_are_flags [eL (some f)]).is (.bl true) := ⟨[.im (eL (some f)), .un], pn0, rfl⟩
theorem told_ok (p : Pl) (f : Fg) (a : Sl) (x1 x2 x3 x4 : Sl) (t : Pn) : (mb (acons (lcD (mb (mr d_FLAG_KEYS) items) (gname 6) (mr true) (etup (acons (evar 6) (acons (e2 dix (evar 5) (evar 6)) anil))) [6]) anil) dtuple) [a, x1, x2, x3, x4, .im (eL (some f)), .un] t = .ok (eT (some f)) [a, x1, x2, x3, x4, .im (eL (some f)), .un] t := rfl
def plNs : List Str := ["gone", "alike", "unlike", "tidy", "_told_flags"]
def plVs (p : Pl) : List D := [.str (sG p.g), .str (sA p.a), .str (sU p.u), .bl p.tidy, eT p.fl]
theorem eisi_b (i : Nat) (ρ : List Sl) (t : Pn) (b : Bool) (h : ρ[i]? = some (.im (.bl b))) : eisi "bool" (evar i) ρ t = .ok (.bl true) ρ t := by
  unfold eisi
  simp only [mb_ap, evar_ap i ρ t _ h, bind_ok']
  rfl
end K61

set_option Elab.async false
set_option linter.all false
set_option maxRecDepth 100000
set_option maxHeartbeats 1000000
namespace DL
open PySem PySem.Spec PyProof.Rows
open L2 hiding isNon
/-! ### what M leaves, rule by rule -/
section
variable {α β : Type} {ρ : List Sl} {t : Pn}
theorem p_b {r : Ou α} {k : α → M β} {P : β → List Sl → Pn → Prop} {E : Str → List Str → List D → Pn → Prop} (h : r.post (fun a ρ t => (k a ρ t).post P E) E) : (r.bind k).post P E := by
  cases r <;> exact h
theorem p_ok {a : α} {P : α → List Sl → Pn → Prop} {E : Str → List Str → List D → Pn → Prop} (h : P a ρ t) : (Ou.ok a ρ t).post P E := h
theorem p_eq {r r' : Ou α} {P : α → List Sl → Pn → Prop} {E : Str → List Str → List D → Pn → Prop} (e : r = r') (h : r'.post P E) : r.post P E := by rw [e]; exact h
theorem p_mb {m : M α} {k : α → M β} {P : β → List Sl → Pn → Prop} {E : Str → List Str → List D → Pn → Prop} (h : (m ρ t).post (fun a ρ t => (k a ρ t).post P E) E) : (mb m k ρ t).post P E := p_b h
variable {P : Fl → List Sl → Pn → Prop} {E : Str → List Str → List D → Pn → Prop}
/-- a block goes on -/
def nxP (k : M Fl) (P : Fl → List Sl → Pn → Prop) (E : Str → List Str → List D → Pn → Prop) : Fl → List Sl → Pn → Prop := fun fl ρ t => match fl with
  | .nx => (k ρ t).post P E
  | .rt d => P (.rt d) ρ t
  | .bk => P .bk ρ t
  | .ct => P .ct ρ t
theorem p_sq {f k : M Fl} (h : (f ρ t).post (nxP k P E) E) : (sq f k ρ t).post P E := p_b (post_mono h (fun fl ρ t q => by cases fl <;> exact q) fun _ _ _ _ h => h)
theorem p_sif {c : M Bool} {f h : M Fl} (q : (c ρ t).post (fun b ρ t => (if b = true then f ρ t else h ρ t).post P E) E) : (sif c f h ρ t).post P E := p_b (post_mono q (fun b ρ t q => by
  cases b <;> exact q) fun _ _ _ _ h => h)
theorem p_asg {i : Nat} {f : M D} (q : (f ρ t).post (fun d ρ t => P .nx (ρ.set i (.im d)) t) E) : (asg i f ρ t).post P E := p_b q
theorem p_asgO {i : Nat} {f : M D} (q : (f ρ t).post (fun d ρ t => P .nx (ρ.set i (.ow d)) t) E) : (asgO i f ρ t).post P E := p_b q
theorem p_sret {f : M D} (q : (f ρ t).post (fun d ρ t => P (.rt d) ρ t) E) : (sret f ρ t).post P E := p_b q
theorem p_asB {f : M D} {P : Bool → List Sl → Pn → Prop} (q : (f ρ t).post (fun d ρ t => ∃ b, d = .bl b ∧ P b ρ t) E) : (asB f ρ t).post P E := p_b (post_mono q (fun d ρ t ⟨b, e, q⟩ => by
  subst e; exact q) fun _ _ _ _ h => h)
theorem p_is {r : Ou α} {a : α} (h : r.is a) : r.post (fun b _ _ => b = a) E := by
  obtain ⟨ρ', t', e⟩ := h
  rw [e]; exact rfl
theorem eq_sq {f k : M Fl} {ρ' : List Sl} {t' : Pn} (h : f ρ t = .ok .nx ρ' t') : sq f k ρ t = k ρ' t' := by
  show (f ρ t).bind _ = _
  rw [h]; rfl
theorem eq_no {c : M Bool} {f : M Fl} (h : c ρ t = .ok false ρ t) : sif c f (mr .nx) ρ t = .ok .nx ρ t := by
  show (c ρ t).bind _ = _
  rw [h]; rfl
theorem eq_if {c : M Bool} {f g : M Fl} {b : Bool} {ρ' : List Sl} {t' : Pn} (h : c ρ t = .ok b ρ' t') : sif c f g ρ t = if b = true then f ρ' t' else g ρ' t' := by
  show (c ρ t).bind _ = _
  rw [h]; cases b <;> rfl
theorem eq_asg {i : Nat} {f : M D} {d : D} {ρ' : List Sl} {t' : Pn} (h : f ρ t = .ok d ρ' t') : asg i f ρ t = .ok .nx (ρ'.set i (.im d)) t' := by
  show (f ρ t).bind _ = _
  rw [h]; rfl
theorem eq_mb {m : M α} {k : α → M β} {a : α} {ρ' : List Sl} {t' : Pn} (h : m ρ t = .ok a ρ' t') : mb m k ρ t = k a ρ' t' := by
  show (m ρ t).bind _ = _
  rw [h]; rfl
/-- a walk -/
theorem p_forD {tgt : D → M Unit} {body : M Fl} {ds : List D} {I : Nat → List Sl → Pn → Prop} (h0 : I 0 ρ t)
    (step : ∀ (i : Nat) (d : D) (ρ : List Sl) (t : Pn), ds[i]? = some d → I i ρ t → (mb (tgt d) (fun _ => body) ρ t).post (fun fl ρ t => fl = .nx ∧ I (i + 1) ρ t) E)
    (fin : ∀ (ρ : List Sl) (t : Pn), I ds.length ρ t → P .nx ρ t) : (forD tgt body ds ρ t).post P E := by
  induction ds generalizing I ρ t with
  | nil => exact fin ρ t h0
  | cons d ds ih =>
    have s := step 0 d ρ t rfl h0
    show (((tgt d) ρ t).bind _).post P E
    refine p_b ?_
    have s' : ((tgt d ρ t).bind fun _ => body).post (fun fl ρ t => fl = .nx ∧ I 1 ρ t) E := s
    refine post_mono (post_bind s') (fun _ ρ1 t1 q => ?_) fun _ _ _ _ h => h
    refine p_b (post_mono q (fun fl ρ2 t2 ⟨e, q2⟩ => ?_) fun _ _ _ _ h => h)
    subst e
    exact ih (I := fun i => I (i + 1)) q2 (fun i d ρ t e h => step (i + 1) d ρ t e h) fun ρ t h => fin ρ t h
theorem p_for {it : M (List D)} {tgt : D → M Unit} {body : M Fl} {ds : List D} {I : Nat → List Sl → Pn → Prop} (hit : it ρ t = .ok ds ρ t) (h0 : I 0 ρ t)
    (step : ∀ (i : Nat) (d : D) (ρ : List Sl) (t : Pn), ds[i]? = some d → I i ρ t → (mb (tgt d) (fun _ => body) ρ t).post (fun fl ρ t => fl = .nx ∧ I (i + 1) ρ t) E)
    (fin : ∀ (ρ : List Sl) (t : Pn), I ds.length ρ t → P .nx ρ t) : (sfor it tgt body ρ t).post P E := by
  show ((it ρ t).bind _).post P E
  rw [hit]
  exact p_forD h0 step fin
/-- a comprehension whose items may draw -/
theorem p_lcGo {tgt : D → M Unit} {tst : M Bool} {el : M D} {vs : List Nat} {ds acc : List D} {I : Nat → List D → Pn → Prop} {P : List D → List Sl → Pn → Prop} {E : Str → List Str → List D → Pn → Prop} (hl : acc.length + ds.length ≤ lim) (h0 : I 0 acc t)
    (step : ∀ (i : Nat) (d : D) (acc : List D) (t : Pn), ds[i]? = some d → I i acc t → ((tgt d) (unS ρ vs) t).post (fun _ ρ1 t1 => (tst ρ1 t1).post (fun b ρ2 t2 => if b = true then (el ρ2 t2).post (fun y _ t3 => I (i + 1) (acc ++ [y]) t3) E else I (i + 1) acc t2) E) E)
    (fin : ∀ (acc : List D) (t : Pn), I ds.length acc t → P acc ρ t) : (lcGo tgt tst el vs ρ ds acc t).post P E := by
  induction ds generalizing I acc t with
  | nil => exact fin acc t h0
  | cons d ds ih =>
    have s := step 0 d acc t rfl h0
    rw [List.length_cons] at hl
    show (((tgt d) (unS ρ vs) t).bind _).post P E
    refine p_b (post_mono s (fun _ ρ1 t1 q1 => ?_) fun _ _ _ _ h => h)
    refine p_b (post_mono q1 (fun b ρ2 t2 q2 => ?_) fun _ _ _ _ h => h)
    cases b with
    | true =>
      rw [if_pos rfl] at q2 ⊢
      refine p_b (post_mono q2 (fun y ρ3 t3 q3 => ?_) fun _ _ _ _ h => h)
      rw [if_pos (by omega)]
      exact ih (I := fun i => I (i + 1)) (by rw [List.length_append, List.length_singleton]; omega) q3 (fun i d acc t e h => step (i + 1) d acc t e h) fun acc t h => fin acc t h
    | false =>
      rw [if_neg Bool.false_ne_true] at q2 ⊢
      exact ih (I := fun i => I (i + 1)) (by omega) q2 (fun i d acc t e h => step (i + 1) d acc t e h) fun acc t h => fin acc t h
theorem p_lc {it : M (List D)} {tgt : D → M Unit} {tst : M Bool} {el : M D} {vs : List Nat} {ds : List D} {I : Nat → List D → Pn → Prop} {P : D → List Sl → Pn → Prop} {E : Str → List Str → List D → Pn → Prop} {t0 : Pn} (hit : it ρ t = .ok ds ρ t0) (hl : ds.length ≤ lim) (h0 : I 0 [] t0)
    (step : ∀ (i : Nat) (d : D) (acc : List D) (t : Pn), ds[i]? = some d → I i acc t → ((tgt d) (unS ρ vs) t).post (fun _ ρ1 t1 => (tst ρ1 t1).post (fun b ρ2 t2 => if b = true then (el ρ2 t2).post (fun y _ t3 => I (i + 1) (acc ++ [y]) t3) E else I (i + 1) acc t2) E) E)
    (fin : ∀ (acc : List D) (t : Pn), I ds.length acc t → P (.lst acc) ρ t) : (lcD it tgt tst el vs ρ t).post P E := by
  show ((it ρ t).bind _).post P E
  rw [hit]
  show ((lcGo tgt tst el vs ρ ds [] t0).bind _).post P E
  exact p_b (p_lcGo (P := fun acc ρ t => P (.lst acc) ρ t) (by simpa using hl) h0 step fin)
/-- a field that is told -/
theorem eq_fld {f : Str} {h : M D} {ns : List Str} {vs : List D} {rest : List Sl} {d : D} (e : h (.sf ns vs :: rest) t = .ok d (.sf ns vs :: rest) t) (c1 : ns.contains f = false) (c2 : ns.length < 100) (c3 : rest.any isSf = false) :
    sfld 0 f h (.sf ns vs :: rest) t = .ok .nx (.sf (ns ++ [f]) (vs ++ [d]) :: rest) t := by
  have z : sfld 0 f h (.sf ns vs :: rest) t = if ns.contains f = false ∧ ns.length < 100 ∧ (((Sl.sf ns vs :: rest).set 0 .un).any isSf = false) then .ok .nx ((Sl.sf ns vs :: rest).set 0 (.sf (ns ++ [f]) (vs ++ [d]))) t else .bad := by
    show (h (.sf ns vs :: rest) t).bind _ = _
    rw [e]; rfl
  rw [z, if_pos ⟨c1, c2, by
    show (isSf .un || rest.any isSf) = false
    rw [c3]; rfl⟩]
  rfl
end
end DL

set_option Elab.async false
set_option linter.all false
set_option maxRecDepth 100000
set_option maxHeartbeats 1000000
namespace DL
open PySem PySem.Spec PyProof.Rows
open L2 hiding isNon
/-! ### what M leaves: expressions -/
section
variable {ρ : List Sl} {t : Pn} {E : Str → List Str → List D → Pn → Prop}
theorem p_acons {f : M D} {h : M (List D)} {P : List D → List Sl → Pn → Prop} (q : (f ρ t).post (fun d ρ t => (h ρ t).post (fun ds ρ t => P (d :: ds) ρ t) E) E) : (acons f h ρ t).post P E :=
  p_b (post_mono q (fun d ρ t q => p_b (post_mono q (fun ds ρ t q => q) fun _ _ _ _ h => h)) fun _ _ _ _ h => h)
theorem p_anil {P : List D → List Sl → Pn → Prop} (q : P [] ρ t) : (anil ρ t).post P E := q
theorem p_mr {α : Type} {a : α} {P : α → List Sl → Pn → Prop} (q : P a ρ t) : (mr a ρ t).post P E := q
theorem p_var {i : Nat} {d : D} {P : D → List Sl → Pn → Prop} (hi : ρ[i]? = some (.im d)) (q : P d ρ t) : (evar i ρ t).post P E := by
  rw [evar_ap i ρ t d hi]; exact q
theorem p_spar {i j : Nat} {h : M (List D)} {P : Fl → List Sl → Pn → Prop} (q : (h ρ t).post (fun ds ρ t => ∃ a b, ds = [a, b] ∧ P .nx ((ρ.set i (.im a)).set j (.im b)) t) E) : (spar i j h ρ t).post P E :=
  p_b (post_mono q (fun ds ρ t ⟨a, b, e, q⟩ => by subst e; exact q) fun _ _ _ _ h => h)
theorem p_sparO {i j : Nat} {f h : M D} {P : Fl → List Sl → Pn → Prop} (q : (f ρ t).post (fun a ρ t => (h ρ t).post (fun b ρ t => P .nx ((ρ.set i (.im a)).set j (.ow b)) t) E) E) : (sparO i j f h ρ t).post P E :=
  p_b (post_mono q (fun a ρ t q => p_b (post_mono q (fun b ρ t q => q) fun _ _ _ _ h => h)) fun _ _ _ _ h => h)
theorem p_etup {h : M (List D)} {P : D → List Sl → Pn → Prop} (q : (h ρ t).post (fun ds ρ t => ds.length ≤ lim ∧ P (.tup ds) ρ t) E) : (etup h ρ t).post P E :=
  p_b (post_mono q (fun ds ρ t ⟨l, q⟩ => by
    show ((if ds.length ≤ lim then mr (.tup ds) else mx) ρ t).post P E
    rw [if_pos l]; exact q) fun _ _ _ _ h => h)
theorem p_elst {h : M (List D)} {P : D → List Sl → Pn → Prop} (q : (h ρ t).post (fun ds ρ t => ds.length ≤ lim ∧ P (.lst ds) ρ t) E) : (elst h ρ t).post P E :=
  p_b (post_mono q (fun ds ρ t ⟨l, q⟩ => by
    show ((if ds.length ≤ lim then mr (.lst ds) else mx) ρ t).post P E
    rw [if_pos l]; exact q) fun _ _ _ _ h => h)
theorem p_e2 {c : D → D → M D} {f h : M D} {P : D → List Sl → Pn → Prop} (q : (f ρ t).post (fun a ρ t => (h ρ t).post (fun b ρ t => (c a b ρ t).post P E) E) E) : (e2 c f h ρ t).post P E :=
  p_b (post_mono q (fun a ρ t q => p_b (post_mono q (fun b ρ t q => q) fun _ _ _ _ h => h)) fun _ _ _ _ h => h)
theorem p_eif {c : M Bool} {f h : M D} {P : D → List Sl → Pn → Prop} (q : (c ρ t).post (fun b ρ t => (if b = true then f ρ t else h ρ t).post P E) E) : (eif c f h ρ t).post P E :=
  p_b (post_mono q (fun b ρ t q => by cases b <;> exact q) fun _ _ _ _ h => h)
theorem p_band {f h : M Bool} {P : Bool → List Sl → Pn → Prop} (q : (f ρ t).post (fun b ρ t => if b = true then (h ρ t).post P E else P false ρ t) E) : (band f h ρ t).post P E :=
  p_b (post_mono q (fun b ρ t q => by cases b <;> exact q) fun _ _ _ _ h => h)
theorem p_bor {f h : M Bool} {P : Bool → List Sl → Pn → Prop} (q : (f ρ t).post (fun b ρ t => if b = true then P true ρ t else (h ρ t).post P E) E) : (bor f h ρ t).post P E :=
  p_b (post_mono q (fun b ρ t q => by cases b <;> exact q) fun _ _ _ _ h => h)
theorem p_bnot {f : M Bool} {P : Bool → List Sl → Pn → Prop} (q : (f ρ t).post (fun b ρ t => P (!b) ρ t) E) : (bnot f ρ t).post P E := p_b q
theorem p_btru {f : M D} {P : Bool → List Sl → Pn → Prop} (q : (f ρ t).post (fun d ρ t => ∃ b, truth d = some b ∧ P b ρ t) E) : (btru f ρ t).post P E :=
  p_b (post_mono q (fun d ρ t ⟨b, e, q⟩ => by
    show ((match truth d with | some b => mr b | none => mx : M Bool) ρ t).post P E
    rw [e]; exact q) fun _ _ _ _ h => h)
theorem p_sasg {f : M D} {h : D → M Unit} {P : Fl → List Sl → Pn → Prop} (q : (f ρ t).post (fun d ρ t => (h d ρ t).post (fun _ ρ t => P .nx ρ t) E) E) : (sasg f h ρ t).post P E :=
  p_b (post_mono q (fun d ρ t q => p_b (post_mono q (fun _ ρ t q => q) fun _ _ _ _ h => h)) fun _ _ _ _ h => h)
theorem p_penc {i : Nat} {f : M D} {P : D → List Sl → Pn → Prop} (hi : ρ[i]? = some .pn) (q : (f ρ t).post P E) : (penc i f ρ t).post P E := by
  unfold penc
  rw [hi]; exact q
theorem p_sput {i : Nat} {fv fk : M D} {P : Fl → List Sl → Pn → Prop} (q : (fv ρ t).post (fun v ρ t => isOw ρ[i]? = true ∧ (fk ρ t).post (fun k ρ t => (dsput i v k ρ t).post P E) E) E) : (sput i fv fk ρ t).post P E :=
  p_b (post_mono q (fun v ρ t ⟨h, q⟩ => by
    show ((if isOw ρ[i]? = true then mb fk (fun k => dsput i v k) ρ t else .bad : Ou Fl)).post P E
    rw [if_pos h]
    exact p_b q) fun _ _ _ _ h => h)
theorem p_peekB {i : Nat} {f : M Bool} {d : D} {P : Bool → List Sl → Pn → Prop} (h : ρ[i]? = some (.ow d)) (q : (f (ρ.set i (.im d)) t).post (fun b _ t' => P b ρ t') E) : (peekB i f ρ t).post P E := by
  unfold peekB
  rw [h]
  exact p_b q
theorem p_peekS {i : Nat} {f : M D} {d : D} {P : D → List Sl → Pn → Prop} (h : ρ[i]? = some (.ow d)) (q : (f (ρ.set i (.im d)) t).post (fun b _ t' => isS b = true ∧ P b ρ t') E) : (peekS i f ρ t).post P E := by
  unfold peekS
  rw [h]
  refine p_b (post_mono q (fun b _ t' ⟨h1, h2⟩ => ?_) fun _ _ _ _ h => h)
  show (if isS b = true then Ou.ok b ρ t' else .bad).post P E
  rw [if_pos h1]; exact h2
theorem p_sappL {i : Nat} {f : M D} {ds : List D} {P : Fl → List Sl → Pn → Prop} (h : ρ[i]? = some (.ow (.lst ds))) (q : (f ρ t).post (fun v ρ' t' => ρ'[i]? = some (.ow (.lst ds)) ∧ ds.length < lim ∧ P .nx (ρ'.set i (.ow (.lst (ds ++ [v])))) t') E) : (sapp i f ρ t).post P E := by
  unfold sapp
  rw [if_pos (by rw [h]; rfl)]
  refine p_b (post_mono q (fun v ρ' t' ⟨h1, h2, h3⟩ => ?_) fun _ _ _ _ h => h)
  simp only [h1, if_pos h2]
  exact h3
theorem p_call0 {fn : List D → Ou D} {ds : List D} {d : D} {P : D → List Sl → Pn → Prop} (h : (fn ds).is d) (q : P d ρ t) : (call0 fn ds ρ t).post P E := by
  rw [call0_is h]; exact q
theorem p_callP {fn : List D → Pn → Ou D} {ds : List D} {P : D → List Sl → Pn → Prop} (q : (fn ds t).post (fun d _ t' => P d ρ t') E) : (callP fn ds ρ t).post P E := p_b q
theorem p_enon {f : M D} {P : D → List Sl → Pn → Prop} (q : (f ρ t).post (fun d ρ t => P (.bl (isNon d)) ρ t) E) : (enon f ρ t).post P E := p_b q
theorem p_enno {f : M D} {P : D → List Sl → Pn → Prop} (q : (f ρ t).post (fun d ρ t => P (.bl (!isNon d)) ρ t) E) : (enno f ρ t).post P E := p_b q
theorem p_eand {f h : M D} {P : D → List Sl → Pn → Prop} (q : (f ρ t).post (fun d ρ t => ∃ b, truth d = some b ∧ if b = true then (h ρ t).post P E else P d ρ t) E) : (eand f h ρ t).post P E :=
  p_b (post_mono q (fun d ρ t ⟨b, e, q⟩ => by
    show (andM h d ρ t).post P E
    unfold andM
    rw [e]
    cases b <;> exact q) fun _ _ _ _ h => h)
theorem p_eor {f h : M D} {P : D → List Sl → Pn → Prop} (q : (f ρ t).post (fun d ρ t => ∃ b, truth d = some b ∧ if b = true then P d ρ t else (h ρ t).post P E) E) : (eor f h ρ t).post P E :=
  p_b (post_mono q (fun d ρ t ⟨b, e, q⟩ => by
    show (orM h d ρ t).post P E
    unfold orM
    rw [e]
    cases b <;> exact q) fun _ _ _ _ h => h)
theorem p_enot {f : M D} {P : D → List Sl → Pn → Prop} (q : (f ρ t).post (fun d ρ t => ∃ b, truth d = some b ∧ P (.bl (!b)) ρ t) E) : (enot f ρ t).post P E :=
  p_b (post_mono q (fun d ρ t ⟨b, e, q⟩ => by
    show (notM d ρ t).post P E
    unfold notM
    rw [e]; exact q) fun _ _ _ _ h => h)
theorem eq_eif {c : M Bool} {f h : M D} {b : Bool} {ρ' : List Sl} {t' : Pn} (e : c ρ t = .ok b ρ' t') : eif c f h ρ t = if b = true then f ρ' t' else h ρ' t' := by
  show (c ρ t).bind (fun b => if b = true then f else h) = _
  rw [e]; cases b <;> rfl
theorem eq_bnot {c : M Bool} {b : Bool} {ρ' : List Sl} {t' : Pn} (e : c ρ t = .ok b ρ' t') : bnot c ρ t = .ok (!b) ρ' t' := by
  show (c ρ t).bind (fun b => mr (!b)) = _
  rw [e]; rfl
theorem eq_btru {c : M D} {d : D} {b : Bool} {ρ' : List Sl} {t' : Pn} (e : c ρ t = .ok d ρ' t') (h : truth d = some b) : btru c ρ t = .ok b ρ' t' := by
  rw [btru_ap, e]
  show truM d ρ' t' = _
  unfold truM
  rw [h]; rfl
theorem eq_band1 {c k : M Bool} {ρ' : List Sl} {t' : Pn} (e : c ρ t = .ok true ρ' t') : band c k ρ t = k ρ' t' := by
  show (c ρ t).bind (fun b => if b = true then k else mr false) = _
  rw [e]; rfl
theorem eq_band0 {c k : M Bool} {ρ' : List Sl} {t' : Pn} (e : c ρ t = .ok false ρ' t') : band c k ρ t = .ok false ρ' t' := by
  show (c ρ t).bind (fun b => if b = true then k else mr false) = _
  rw [e]; rfl
theorem eq_bor1 {c k : M Bool} {ρ' : List Sl} {t' : Pn} (e : c ρ t = .ok true ρ' t') : bor c k ρ t = .ok true ρ' t' := by
  show (c ρ t).bind (fun b => if b = true then mr true else k) = _
  rw [e]; rfl
theorem eq_bor0 {c k : M Bool} {ρ' : List Sl} {t' : Pn} (e : c ρ t = .ok false ρ' t') : bor c k ρ t = k ρ' t' := by
  show (c ρ t).bind (fun b => if b = true then mr true else k) = _
  rw [e]; rfl
theorem eq_asB {c : M D} {b : Bool} {ρ' : List Sl} {t' : Pn} (e : c ρ t = .ok (.bl b) ρ' t') : asB c ρ t = .ok b ρ' t' := by
  show (c ρ t).bind (fun d => match d with | .bl b => mr b | _ => mx) = _
  rw [e]; rfl
theorem eq_sappL {i : Nat} {f : M D} {ds : List D} {v : D} {t' : Pn} (h : ρ[i]? = some (.ow (.lst ds))) (e : f ρ t = .ok v ρ t') (hl : ds.length < lim) : sapp i f ρ t = .ok .nx (ρ.set i (.ow (.lst (ds ++ [v])))) t' := by
  unfold sapp
  rw [if_pos (show isOwL ρ[i]? = true by rw [h]; rfl)]
  show (f ρ t).bind _ = _
  rw [e]
  simp only [bind_ok', h, if_pos hl]
theorem p_gname {i : Nat} {d : D} {P : Unit → List Sl → Pn → Prop} (q : P () (ρ.set i (.im d)) t) : (gname i d ρ t).post P E := q
theorem p_lcT {it : M (List D)} {tgt : D → M Unit} {el : M D} {vs : List Nat} {ds : List D} {I : Nat → List D → Pn → Prop} {P : D → List Sl → Pn → Prop} {t0 : Pn} (hit : it ρ t = .ok ds ρ t0) (hl : ds.length ≤ lim) (h0 : I 0 [] t0)
    (step : ∀ (i : Nat) (d : D) (acc : List D) (t : Pn), ds[i]? = some d → I i acc t → ((tgt d) (unS ρ vs) t).post (fun _ ρ1 t1 => (el ρ1 t1).post (fun y _ t3 => I (i + 1) (acc ++ [y]) t3) E) E)
    (fin : ∀ (acc : List D) (t : Pn), I ds.length acc t → P (.lst acc) ρ t) : (lcD it tgt (mr true) el vs ρ t).post P E :=
  p_lc hit hl h0 (fun i d acc t e h => post_mono (step i d acc t e h) (fun _ ρ1 t1 q => by
    refine p_mr ?_
    rw [if_pos rfl]; exact q) fun _ _ _ _ h => h) fin
theorem p_nx {k : M Fl} {P : Fl → List Sl → Pn → Prop} (h : (k ρ t).post P E) : nxP k P E .nx ρ t := h
theorem p_frz {i : Nat} {d : D} {P : Fl → List Sl → Pn → Prop} (h : ρ[i]? = some (.ow d)) (q : P .nx (ρ.set i (.im d)) t) : (frz i ρ t).post P E := by
  unfold frz
  rw [h]; exact q
/-- a def of data -/
theorem p_runD {f : M Fl} {P : D → List Sl → Pn → Prop} (h : (f ρ t).post (fun fl ρ t => (fl = .nx ∧ P .non ρ t) ∨ ∃ d, fl = .rt d ∧ P d ρ t) E) : (runD f ρ t).post P E := by
  unfold runD
  refine p_b (post_mono h (fun fl ρ t q => ?_) fun _ _ _ _ h => h)
  rcases q with ⟨e, q⟩ | ⟨d, e, q⟩ <;> subst e <;> exact q
end
end DL

set_option Elab.async false
set_option linter.all false
set_option maxRecDepth 100000
set_option maxHeartbeats 8000000
namespace K61
open PySem PySem.Spec PyProof.Rows DL
open L2 hiding isNon
/-! ### the plan and the rule are made -/
theorem told0_ok (p : Pl) (t : Pn) (x0 x1 x2 x3 x4 : Sl) :
    (eif (asB (enon (evar 5))) (mr D.non) (mb (acons (lcD (mb (mr d_FLAG_KEYS) items) (gname 6) (mr true) (etup (acons (evar 6) (acons (e2 dix (evar 5) (evar 6)) anil))) [6]) anil) dtuple)) [x0, x1, x2, x3, x4, .im (eL p.fl), .un] t = .ok (eT p.fl) [x0, x1, x2, x3, x4, .im (eL p.fl), .un] t := by
  rcases p.fl with _ | f
  · rfl
  · have h := told_ok p f x0 x1 x2 x3 x4 t
    have e : (asB (enon (evar 5))) [x0, x1, x2, x3, x4, .im (eL (some f)), .un] t = .ok false [x0, x1, x2, x3, x4, .im (eL (some f)), .un] t := rfl
    refine Eq.trans (eq_eif e) ?_
    exact h
theorem runI_nx {f : M Fl} {ρ ρ' : List Sl} {t t' : Pn} {ns : List Str} {vs : List D} (h : f ρ t = .ok .nx (.sf ns vs :: ρ') t') : runI f ρ t = .ok (ns, vs) (.sf ns vs :: ρ') t' := by
  unfold runI
  rw [h]; rfl
theorem one_of_no {d : D} {i : Nat} {k : D} {ρ : List Sl} {t : Pn} (hi : ρ[i]? = some (.im d)) (h : (f_is_one_of [d, k]).is (.bl true)) : sif (bnot (btru (mb (acons (evar i) (acons (mr k) anil)) fun ds => call0 f_is_one_of (ds ++ [])))) mx (mr Fl.nx) ρ t = .ok .nx ρ t := by
  refine eq_no ?_
  simp [bnot, acons_ap, anil_ap, evar_ap i ρ t d hi, call0_is h]
theorem plan_init_ok (p : Pl) : (f_Plan__init [.str (sG p.g), .str (sA p.a), .str (sU p.u), .bl p.tidy, eL p.fl]).is (plNs, plVs p) := by
  refine ⟨[.sf plNs (plVs p), .im (.str (sG p.g)), .im (.str (sA p.a)), .im (.str (sU p.u)), .im (.bl p.tidy), .im (eL p.fl), .un], pn0, ?_⟩
  show runI m_Plan__init [.sf [] [], .im (.str (sG p.g)), .im (.str (sA p.a)), .im (.str (sU p.u)), .im (.bl p.tidy), .im (eL p.fl), .un] pn0 = _
  refine runI_nx ?_
  show m_Plan__init [.sf [] [], .im (.str (sG p.g)), .im (.str (sA p.a)), .im (.str (sU p.u)), .im (.bl p.tidy), .im (eL p.fl), .un] pn0 = _
  unfold m_Plan__init
  rw [eq_sq (one_of_no rfl (one_G p.g)), eq_sq (one_of_no rfl (one_A p.a)), eq_sq (one_of_no rfl (one_U p.u))]
  refine Eq.trans (eq_sq (eq_no (eq_bnot (eq_btru (b := true) (eisi_b 4 _ _ p.tidy rfl) rfl)))) ?_
  have hfl : (band (asB (enno (evar 5))) (bnot (btru (mb (acons (evar 5) anil) fun ds => call0 f_are_flags (ds ++ []))))) [.sf [] [], .im (.str (sG p.g)), .im (.str (sA p.a)), .im (.str (sU p.u)), .im (.bl p.tidy), .im (eL p.fl), .un] pn0 = .ok false [.sf [] [], .im (.str (sG p.g)), .im (.str (sA p.a)), .im (.str (sU p.u)), .im (.bl p.tidy), .im (eL p.fl), .un] pn0 := by
    rcases p.fl with _ | f
    · rfl
    · have e : (asB (enno (evar 5))) [.sf [] [], .im (.str (sG p.g)), .im (.str (sA p.a)), .im (.str (sU p.u)), .im (.bl p.tidy), .im (eL (some f)), .un] pn0 = .ok true [.sf [] [], .im (.str (sG p.g)), .im (.str (sA p.a)), .im (.str (sU p.u)), .im (.bl p.tidy), .im (eL (some f)), .un] pn0 := rfl
      refine Eq.trans (eq_band1 e) ?_
      have e2 : (mb (acons (evar 5) anil) fun ds => call0 f_are_flags (ds ++ [])) [.sf [] [], .im (.str (sG p.g)), .im (.str (sA p.a)), .im (.str (sU p.u)), .im (.bl p.tidy), .im (eL (some f)), .un] pn0 = .ok (.bl true) [.sf [] [], .im (.str (sG p.g)), .im (.str (sA p.a)), .im (.str (sU p.u)), .im (.bl p.tidy), .im (eL (some f)), .un] pn0 := call0_is (are_flags_ok f) _ _
      exact eq_bnot (eq_btru e2 rfl)
  refine Eq.trans (eq_sq (eq_no hfl)) ?_
  refine Eq.trans (eq_sq (eq_fld (d := .str (sG p.g)) rfl (by decide +kernel) (by decide) rfl)) ?_
  refine Eq.trans (eq_sq (eq_fld (d := .str (sA p.a)) rfl (by decide +kernel) (by decide) rfl)) ?_
  refine Eq.trans (eq_sq (eq_fld (d := .str (sU p.u)) rfl (by decide +kernel) (by decide) rfl)) ?_
  refine Eq.trans (eq_sq (eq_fld (d := .bl p.tidy) rfl (by decide +kernel) (by decide) rfl)) ?_
  refine Eq.trans (eq_fld (d := eT p.fl) (told0_ok p pn0 _ _ _ _ _) (by decide +kernel) (by decide) rfl) ?_
  rfl
theorem law_made_ok (p : Pl) : (f_law_made [plT p]).is (plO p) := by
  refine ⟨[.im (plT p)], pn0, (?_ : runD m_law_made [.im (plT p)] pn0 = _)⟩
  refine runD_ret ?_
  unfold m_law_made
  have hv : ∀ t, evar 0 [Sl.im (plT p)] t = .ok (plT p) [Sl.im (plT p)] t := fun t => rfl
  simp only [sret_ap, mb_ap, acons_ap, anil_ap, bind_ok', mr_ap, e2_ap, hv, plT0, plT1, plT2, plT3, plT4, List.append_nil, callI_is (plan_init_ok p)]
  rfl
theorem is_kind_ok (k : K3) (h : k.2.2 < 3) : (f_is_kind [eK k]).is (.bl true) := by
  obtain ⟨a, b, n⟩ := k
  match n, h with
  | 0, _ => exact ⟨[.im (eK (a, b, 0)), .im (.bl a), .im (.bl b), .im (.int 0)], pn0, rfl⟩
  | 1, _ => exact ⟨[.im (eK (a, b, 1)), .im (.bl a), .im (.bl b), .im (.int 1)], pn0, rfl⟩
  | 2, _ => exact ⟨[.im (eK (a, b, 2)), .im (.bl a), .im (.bl b), .im (.int 2)], pn0, rfl⟩
end K61

set_option Elab.async false
set_option linter.all false
set_option maxRecDepth 100000
set_option maxHeartbeats 8000000
namespace K61
open PySem PySem.Spec PyProof.Rows DL
open L2 hiding isNon
/-! ### the kinds of a rule are checked and sorted -/
def m_ckb : M Fl := (sq (sif (bor (bnot (btru (mb (acons (evar 4) anil) fun ds => call0 f_is_kind (ds ++ [])))) (peekB 2 (asB (e2 (din false) (mb (acons (evar 4) anil) dtuple) (evar 2))))) mx (mr Fl.nx)) (sapp 2 (mb (acons (evar 4) anil) dtuple)))
theorem ck_eq : m_checked_kinds = (sq (asgO 2 (elst anil)) (sq (sfor (mb (acons (evar 1) anil) denum) (gtup 2 (gcons (gname 3) (gcons (gname 4) gnil))) m_ckb) (sq (frz 2) (sret (mb (acons (mb (acons (evar 2) anil) dsort) anil) dtuple))))) := rfl
theorem dtuple_k (k : K3) (ρ : List Sl) (t : Pn) : dtuple [eK k] ρ t = .ok (eK k) ρ t := rfl
theorem eq_peekB {i : Nat} {f : M Bool} {ρ : List Sl} {t t' : Pn} {d : D} {b : Bool} {ρ' : List Sl} (h : ρ[i]? = some (.ow d)) (e : f (ρ.set i (.im d)) t = .ok b ρ' t') : peekB i f ρ t = .ok b ρ t' := by
  unfold peekB
  rw [h]
  show (f _ t).bind _ = _
  rw [e]; rfl
theorem ck_step (s1 s2 : D) (x3 x4 : Sl) (A : List K3) (k : K3) (i : Nat) (h3 : k.2.2 < 3) (hn : k ∉ A) (hl : A.length < lim) (t : Pn) :
    mb (gtup 2 (gcons (gname 3) (gcons (gname 4) gnil)) (.tup [.int i, eK k])) (fun _ => m_ckb) [.im s1, .im s2, .ow (.lst (A.map eK)), x3, x4] t = .ok .nx [.im s1, .im s2, .ow (.lst ((A ++ [k]).map eK)), .im (.int i), .im (eK k)] t := by
  have e1 : gtup 2 (gcons (gname 3) (gcons (gname 4) gnil)) (.tup [.int i, eK k]) [.im s1, .im s2, .ow (.lst (A.map eK)), x3, x4] t = .ok () [.im s1, .im s2, .ow (.lst (A.map eK)), .im (.int i), .im (eK k)] t := rfl
  rw [eq_mb e1]
  unfold m_ckb
  have hv : ∀ ρ : List Sl, ρ[4]? = some (.im (eK k)) → ∀ t, evar 4 ρ t = .ok (eK k) ρ t := fun ρ h t => evar_ap 4 ρ t _ h
  have c2 : peekB 2 (asB (e2 (din false) (mb (acons (evar 4) anil) dtuple) (evar 2))) [.im s1, .im s2, .ow (.lst (A.map eK)), .im (.int i), .im (eK k)] t = .ok false [.im s1, .im s2, .ow (.lst (A.map eK)), .im (.int i), .im (eK k)] t := by
    refine eq_peekB (ρ' := [.im s1, .im s2, .im (.lst (A.map eK)), .im (.int i), .im (eK k)]) rfl ?_
    show (asB (e2 (din false) (mb (acons (evar 4) anil) dtuple) (evar 2))) [.im s1, .im s2, .im (.lst (A.map eK)), .im (.int i), .im (eK k)] t = _
    simp only [asB_ap, e2_ap, mb_ap, acons_ap, anil_ap, mr_ap, bind_ok', hv [.im s1, .im s2, .im (.lst (A.map eK)), .im (.int i), .im (eK k)] rfl, dtuple_k, evar_ap 2 [Sl.im s1, .im s2, .im (.lst (A.map eK)), .im (.int i), .im (eK k)] t (.lst (A.map eK)) rfl, din_Kl, hn]
    rfl
  have c1 : (bnot (btru (mb (acons (evar 4) anil) fun ds => call0 f_is_kind (ds ++ [])))) [.im s1, .im s2, .ow (.lst (A.map eK)), .im (.int i), .im (eK k)] t = .ok false [.im s1, .im s2, .ow (.lst (A.map eK)), .im (.int i), .im (eK k)] t := by
    simp only [bnot, mb_ap, btru_ap, acons_ap, anil_ap, bind_ok', mr_ap, hv [.im s1, .im s2, .ow (.lst (A.map eK)), .im (.int i), .im (eK k)] rfl, List.append_nil, call0_is (is_kind_ok k h3), truM_bl]
    rfl
  refine Eq.trans (eq_sq (eq_no (Eq.trans (eq_bor0 c1) c2))) ?_
  refine Eq.trans (eq_sappL (ds := A.map eK) (v := eK k) (t' := t) rfl ?_ (by rw [List.length_map]; exact hl)) ?_
  · simp only [mb_ap, acons_ap, anil_ap, mr_ap, bind_ok', hv [.im s1, .im s2, .ow (.lst (A.map eK)), .im (.int i), .im (eK k)] rfl, dtuple_k]
  · rw [List.map_append]
    rfl
theorem ck_loop (s1 s2 : D) (t : Pn) : ∀ (B A : List K3) (i : Nat) (x3 x4 : Sl), (A ++ B).Nodup → (∀ k ∈ B, k.2.2 < 3) → A.length + B.length ≤ lim →
    ∃ y3 y4, forD (gtup 2 (gcons (gname 3) (gcons (gname 4) gnil))) m_ckb (enumL i (B.map eK)) [.im s1, .im s2, .ow (.lst (A.map eK)), x3, x4] t = .ok .nx [.im s1, .im s2, .ow (.lst ((A ++ B).map eK)), y3, y4] t
  | [], A, i, x3, x4, _, _, _ => ⟨x3, x4, by rw [List.append_nil]; rfl⟩
  | k :: B, A, i, x3, x4, hn, h3, hl => by
    have hk : k ∉ A := fun z => (List.nodup_append.mp hn).2.2 k z k List.mem_cons_self rfl
    obtain ⟨y3, y4, e⟩ := ck_loop s1 s2 t B (A ++ [k]) (i + 1) (.im (.int i)) (.im (eK k)) (by rw [List.append_assoc]; exact hn) (fun l hl => h3 l (List.mem_cons_of_mem _ hl)) (by rw [List.length_append, List.length_singleton]; rw [List.length_cons] at hl; omega)
    refine ⟨y3, y4, ?_⟩
    have st := ck_step s1 s2 x3 x4 A k i (h3 k List.mem_cons_self) hk (by rw [List.length_cons] at hl; omega) t
    rw [List.append_assoc] at e
    have z : ∀ (tgt : D → M Unit) (body : M Fl) (d : D) (ds : List D) (ρ ρ' : List Sl) (t t' : Pn), mb (tgt d) (fun _ => body) ρ t = .ok .nx ρ' t' → forD tgt body (d :: ds) ρ t = forD tgt body ds ρ' t' := fun tgt body d ds ρ ρ' t t' h => by
      have h' : ((tgt d ρ t).bind fun _ => body) = .ok .nx ρ' t' := h
      show ((tgt d ρ t).bind _) = _
      cases e : tgt d ρ t with
      | ok a ρ1 t1 =>
        rw [e] at h'
        have h'' : body ρ1 t1 = .ok .nx ρ' t' := h'
        show (body ρ1 t1).bind _ = _
        rw [h'']; rfl
      | ex c ns vs t1 => rw [e] at h'; cases h'
      | bad => rw [e] at h'; cases h'
    exact Eq.trans (z _ _ _ _ _ _ _ _ st) e
theorem eK_inj {k l : K3} (h : eK k = eK l) : k = l := by
  obtain ⟨a, b, n⟩ := k
  obtain ⟨c, d, m⟩ := l
  simp only [eK, D.tup.injEq, List.cons.injEq, D.bl.injEq, D.int.injEq, and_true] at h
  obtain ⟨rfl, rfl, h⟩ := h
  have : n = m := by omega
  subst this
  rfl
theorem as_eK {ks : List K3} : ∀ {l : List D}, (∀ d ∈ l, d ∈ ks.map eK) → ∃ kr : List K3, l = kr.map eK
  | [], _ => ⟨[], rfl⟩
  | d :: l, h => by
    obtain ⟨kr, e⟩ := as_eK (ks := ks) (l := l) fun d hd => h d (List.mem_cons_of_mem _ hd)
    obtain ⟨k, _, rfl⟩ := List.mem_map.mp (h d List.mem_cons_self)
    exact ⟨k :: kr, by rw [List.map_cons, e]⟩
theorem alikes_K (ks : List K3) : alikes (ks.map eK) = true := by
  unfold alikes
  rw [List.all_eq_true]
  intro d hd
  rw [List.all_eq_true]
  intro e he
  obtain ⟨k, _, rfl⟩ := List.mem_map.mp hd
  obtain ⟨l, _, rfl⟩ := List.mem_map.mp he
  simp [eK, toP, toPs, PySem.W.alike, PySem.W.alikeAll]
theorem sortable_K (ks : List K3) : sortable (ks.map eK) = true := by
  unfold sortable
  rw [Bool.or_eq_true]
  left
  rw [List.all_eq_true]
  intro d hd
  obtain ⟨k, _, rfl⟩ := List.mem_map.mp hd
  rfl
theorem dsort_K (ks : List K3) : ∃ kr : List K3, (∀ k, k ∈ kr ↔ k ∈ ks) ∧ ∀ (ρ : List Sl) (t : Pn), dsort [.lst (ks.map eK)] ρ t = .ok (.lst (kr.map eK)) ρ t := by
  have pm : ((ks.map eK).mergeSort dsle).Perm (ks.map eK) := List.mergeSort_perm _ _
  obtain ⟨kr, e⟩ := as_eK (ks := ks) (l := (ks.map eK).mergeSort dsle) fun d hd => pm.mem_iff.mp hd
  refine ⟨kr, fun k => ?_, fun ρ t => ?_⟩
  · have h1 : eK k ∈ kr.map eK ↔ eK k ∈ ks.map eK := by rw [← e]; exact pm.mem_iff
    have h2 : ∀ l : List K3, eK k ∈ l.map eK ↔ k ∈ l := fun l => ⟨fun h => by
      obtain ⟨j, hj, ej⟩ := List.mem_map.mp h
      rw [← eK_inj ej]; exact hj, fun h => List.mem_map.mpr ⟨k, h, rfl⟩⟩
    rw [h2, h2] at h1
    exact h1
  · show (if plains 59 (ks.map eK) = true ∧ alikes (ks.map eK) = true ∧ sortable (ks.map eK) = true then mr (D.lst ((ks.map eK).mergeSort dsle)) else mx) ρ t = _
    rw [if_pos ⟨plains_K ks 58, alikes_K ks, sortable_K ks⟩, e]
    rfl
theorem checked_ok (s : Str) (ks : List K3) (hn : ks.Nodup) (h3 : ∀ k ∈ ks, k.2.2 < 3) (hl : ks.length ≤ 100) : ∃ kr : List K3, (∀ k, k ∈ kr ↔ k ∈ ks) ∧ (f_checked_kinds [.str s, .lst (ks.map eK)]).is (.tup (kr.map eK)) := by
  obtain ⟨kr, hk, hs⟩ := dsort_K ks
  refine ⟨kr, hk, ?_⟩
  obtain ⟨y3, y4, e⟩ := ck_loop (.str s) (.lst (ks.map eK)) pn0 ks [] 0 .un .un hn h3 (by show 0 + ks.length ≤ lim; unfold lim; omega)
  refine ⟨[.im (.str s), .im (.lst (ks.map eK)), .im (.lst (ks.map eK)), y3, y4], pn0, (?_ : runD m_checked_kinds [.im (.str s), .im (.lst (ks.map eK)), .un, .un, .un] pn0 = _)⟩
  refine runD_ret ?_
  rw [ck_eq]
  have e0 : asgO 2 (elst anil) [.im (.str s), .im (.lst (ks.map eK)), .un, .un, .un] pn0 = .ok .nx [.im (.str s), .im (.lst (ks.map eK)), .ow (.lst []), .un, .un] pn0 := rfl
  have e1 : (sfor (mb (acons (evar 1) anil) denum) (gtup 2 (gcons (gname 3) (gcons (gname 4) gnil))) m_ckb) [.im (.str s), .im (.lst (ks.map eK)), .ow (.lst []), .un, .un] pn0 = .ok .nx [.im (.str s), .im (.lst (ks.map eK)), .ow (.lst (ks.map eK)), y3, y4] pn0 := e
  rw [eq_sq e0, eq_sq e1]
  have e2 : frz 2 [.im (.str s), .im (.lst (ks.map eK)), .ow (.lst (ks.map eK)), y3, y4] pn0 = .ok .nx [.im (.str s), .im (.lst (ks.map eK)), .im (.lst (ks.map eK)), y3, y4] pn0 := rfl
  rw [eq_sq e2]
  simp only [sret_ap, mb_ap, acons_ap, anil_ap, mr_ap, bind_ok', evar_ap 2 [Sl.im (.str s), .im (.lst (ks.map eK)), .im (.lst (ks.map eK)), y3, y4] pn0 (.lst (ks.map eK)) rfl, hs, dtuple_l]
theorem rule_init_ok (kr ko : List K3) (h1 : kr.Nodup) (h2 : ∀ k ∈ kr, k.2.2 < 3) (h3 : kr.length ≤ 100) (h4 : ko.Nodup) (h5 : ∀ k ∈ ko, k.2.2 < 3) (h6 : ko.length ≤ 100) :
    ∃ lr lo : List K3, (∀ k, k ∈ lr ↔ k ∈ kr) ∧ (∀ k, k ∈ lo ↔ k ∈ ko) ∧ ∀ (ρ : List Sl) (t : Pn), callI "Rule" f_Rule__init [.lst (kr.map eK), .lst (ko.map eK)] ρ t = .ok (ruO lr lo) ρ t := by
  obtain ⟨lr, a1, b1⟩ := checked_ok "root" kr h1 h2 h3
  obtain ⟨lo, a2, b2⟩ := checked_ok "others" ko h4 h5 h6
  refine ⟨lr, lo, a1, a2, fun ρ t => ?_⟩
  have : (f_Rule__init [.lst (kr.map eK), .lst (ko.map eK)]).is (["root", "others"], [.tup (lr.map eK), .tup (lo.map eK)]) := by
    refine ⟨[.sf ["root", "others"] [.tup (lr.map eK), .tup (lo.map eK)], .im (.lst (kr.map eK)), .im (.lst (ko.map eK))], pn0, (?_ : runI m_Rule__init [.sf [] [], .im (.lst (kr.map eK)), .im (.lst (ko.map eK))] pn0 = _)⟩
    refine runI_nx ?_
    unfold m_Rule__init
    have v1 : ∀ ns vs, evar 1 [Sl.sf ns vs, .im (.lst (kr.map eK)), .im (.lst (ko.map eK))] pn0 = .ok (.lst (kr.map eK)) [Sl.sf ns vs, .im (.lst (kr.map eK)), .im (.lst (ko.map eK))] pn0 := fun _ _ => rfl
    have v2 : ∀ ns vs, evar 2 [Sl.sf ns vs, .im (.lst (kr.map eK)), .im (.lst (ko.map eK))] pn0 = .ok (.lst (ko.map eK)) [Sl.sf ns vs, .im (.lst (kr.map eK)), .im (.lst (ko.map eK))] pn0 := fun _ _ => rfl
    refine Eq.trans (eq_sq (eq_fld (d := .tup (lr.map eK)) ?_ (by decide +kernel) (by decide) rfl)) ?_
    · simp only [mb_ap, acons_ap, anil_ap, mr_ap, bind_ok', v1, List.append_nil, call0_is b1]
    refine Eq.trans (eq_fld (d := .tup (lo.map eK)) ?_ (by decide +kernel) (by decide) rfl) ?_
    · simp only [mb_ap, acons_ap, anil_ap, mr_ap, bind_ok', v2, List.append_nil, call0_is b2]
    rfl
  exact callI_is this ρ t
end K61

set_option Elab.async false
set_option linter.all false
set_option maxRecDepth 100000
set_option maxHeartbeats 8000000
namespace K61
open PySem PySem.Spec PyProof.Rows DL
open L2 hiding isNon
/-! ### draws -/
/-- a pen in use -/
structure PnOk (t : Pn) (n : Int) : Prop where
  k0 : 0 ≤ t.k
  kn : t.k ≤ n
  z0 : 0 ≤ t.z
  len : t.cells.length ≤ 63
abbrev top40 : Int := 1099511627776
theorem sq_ap' (f k : M Fl) (ρ : List Sl) (t : Pn) : sq f k ρ t = (f ρ t).bind fun fl => match fl with
  | .nx => k
  | .rt d => mr (.rt d)
  | .bk => mr .bk
  | .ct => mr .ct := rfl
@[simp] theorem post_ok {α : Type} (a : α) (ρ : List Sl) (t : Pn) (P : α → List Sl → Pn → Prop) (E : Str → List Str → List D → Pn → Prop) : (Ou.ok a ρ t).post P E ↔ P a ρ t := Iff.rfl
theorem post_ite {α : Type} {c : Prop} [Decidable c] {x y : Ou α} {P : α → List Sl → Pn → Prop} {E : Str → List Str → List D → Pn → Prop} (h1 : c → x.post P E) (h2 : ¬ c → y.post P E) : (if c then x else y).post P E := by
  split
  · exact h1 ‹_›
  · exact h2 ‹_›
theorem dix_ci (cs : List Int) (j : Int) (h0 : 0 ≤ j) (h1 : j < cs.length) : ∃ i : Int, ∀ (ρ : List Sl) (t : Pn), dix (.lst (cs.map D.int)) (.int j) ρ t = .ok (.int i) ρ t := by
  obtain ⟨n, rfl⟩ := Int.eq_ofNat_of_zero_le h0
  have hn : n < cs.length := by omega
  refine ⟨cs[n], fun ρ t => ?_⟩
  have e : L2.atI (cs.map D.int) (n : Int) = some (.int cs[n]) := by
    unfold L2.atI L2.ixN
    rw [if_pos h0, if_pos (by rw [List.length_map]; omega)]
    simp [List.getElem?_eq_getElem hn]
  simp only [dix, e]
  rfl
theorem dmul_ok {i : Int} (h1 : -18446744073709551616 < i) (h2 : i < 18446744073709551616) (j : Int) (ρ : List Sl) (t : Pn) : dmul (.int i) (.int j) ρ t = .ok (.int (i * j)) ρ t := by
  have h : -(2 ^ 64) < i ∧ i < 2 ^ 64 := ⟨by omega, by omega⟩
  simp only [dmul, if_pos h]
  rfl
theorem mul_mod (c : Int) {p : Int} (h1 : 0 < p) (h2 : p < 18446744073709551616) (j : Int) (ρ : List Sl) (t : Pn) : dmul (.int (c % p)) (.int j) ρ t = .ok (.int (c % p * j)) ρ t :=
  dmul_ok (by have := Int.emod_nonneg c (show p ≠ 0 by omega); omega) (by have := Int.emod_lt_of_pos c h1; omega) j ρ t
theorem pw18 (ρ : List Sl) (t : Pn) : dpow (.int 10) (.int 18) ρ t = .ok (.int 1000000000000000000) ρ t := rfl
theorem draw_ok (t : Pn) (m : Int) (h : PnOk t top40) (m1 : 1 ≤ m) (m2 : m < 1000000) :
    (f_law_draw [.int m] t).post (fun d _ t' => ∃ i, d = .int i ∧ 0 ≤ i ∧ i < m ∧ t'.cells = t.cells ∧ t.k ≤ t'.k ∧ t'.k ≤ t.k + 1 ∧ 0 ≤ t'.z) noX := by
  obtain ⟨k0, kn, z0, len⟩ := h
  show (runD m_law_draw (ent 7 (.pn :: [.int m].map Sl.im)) t).post _ _
  unfold runD ent m_law_draw
  have m0 : 0 < m := by omega
  have m3 : m < 1073741824 := by omega
  have e0 : 0 ≤ t.z / m := Int.ediv_nonneg z0 (by omega)
  have e1 : 0 ≤ t.k + 1 := by omega
  have p1 := fun j ρ t => dmul_ok (i := 7) (by decide) (by decide) j ρ t
  have p2 := fun j ρ t => dmul_ok (i := 20353) (by decide) (by decide) j ρ t
  have p3 := fun j ρ t => dmul_ok (i := 1531) (by decide) (by decide) j ρ t
  have p4 := fun j ρ t => dmul_ok (i := 68903) (by decide) (by decide) j ρ t
  have p5 := fun j ρ t => dmul_ok (i := 23) (by decide) (by decide) j ρ t
  have p6 := fun j ρ t' => dmul_ok (i := 20353 * t.k) (by omega) (by unfold top40 at kn; omega) j ρ t'
  have p7 := fun c j ρ t => mul_mod c (p := 4294967197) (by decide) (by decide) j ρ t
  have p8 := fun c j ρ t => mul_mod c (p := 4294967189) (by decide) (by decide) j ρ t
  have p9 := fun c j ρ t => mul_mod c (p := 4294967161) (by decide) (by decide) j ρ t
  have fin : ∀ c : Int, 0 ≤ c % m ∧ c % m < m := fun c => ⟨Int.emod_nonneg c (by omega), Int.emod_lt_of_pos c m0⟩
  have l1 : ∀ s : Int, t.k ≤ s + 1 → True := fun _ _ => trivial
  by_cases hz : 0 < t.z
  · simp [sq_ap', sif_ap, asB_ap, e2_ap, pget, pput, rZ, rK, rC, wZ, wK, asg_ap, acons_ap, anil_ap, sret_ap, spar, dmod, dfdiv, dint, dcmp, m0, m3, e0, e1, dadd, hz]
    exact ⟨(fin _).1, (fin _).2, by omega⟩
  · by_cases hc : t.cells = []
    · simp [sq_ap', sif_ap, asB_ap, e2_ap, pget, pput, rZ, rK, rC, wZ, wK, asg_ap, acons_ap, anil_ap, sret_ap, spar, dmod, dfdiv, dint, dcmp, m0, m3, e0, e1, dadd, hz, hc, p1, z0]
      exact ⟨(fin _).1, (fin _).2, by omega⟩
    · have hl : 0 < t.cells.length := List.length_pos_iff.mpr hc
      obtain ⟨c, ec⟩ := dix_ci t.cells (t.k % t.cells.length) (Int.emod_nonneg _ (by omega)) (Int.emod_lt_of_pos _ (by omega))
      by_cases hb : t.k < t.cells.length ∧ 1000000000000000000 ≤ (if c < 0 then -c else c)
      · have hq : 0 ≤ ((if c < 0 then -c else c) - 1000000000000000000) / m := Int.ediv_nonneg (by omega) (by omega)
        simp [sq_ap', sif_ap, asB_ap, e2_ap, pget, pput, rZ, rK, rC, wZ, wK, asg_ap, acons_ap, anil_ap, sret_ap, spar, dmod, dfdiv, dint, dcmp, m0, m3, e0, e1, dadd, hz, hc, p1, z0, hl, ec, band, dabs, pw18, dsub, hb, hq]
        exact ⟨(fin _).1, (fin _).2, by omega⟩
      · simp [sq_ap', sif_ap, asB_ap, e2_ap, pget, pput, rZ, rK, rC, wZ, wK, asg_ap, acons_ap, anil_ap, sret_ap, spar, dmod, dfdiv, dint, dcmp, m0, m3, e0, e1, dadd, hz, hc, p1, z0, hl, ec, band, dabs, pw18, dsub, p2, p3, p4, p5, p6, p7, p8, p9]
        have g : ∀ x : Int, ∃ i : Int, D.int (x % m) = D.int i ∧ 0 ≤ i ∧ i < m ∧ t.cells = t.cells ∧ t.k ≤ t.k + 1 ∧ t.k + 1 ≤ t.k + 1 ∧ 0 ≤ t.z := fun x => ⟨_, rfl, (fin x).1, (fin x).2, rfl, by omega, by omega, z0⟩
        by_cases h1 : t.k < t.cells.length
        · by_cases h2 : 1000000000000000000 ≤ (if c < 0 then -c else c)
          · exact absurd ⟨h1, h2⟩ hb
          · rw [if_pos h1, if_neg h2]
            exact g _
        · rw [if_neg h1]
          exact g _
/-- what a drawn M leaves of the pen -/
structure Nx (t t' : Pn) (n : Int) : Prop where
  c : t'.cells = t.cells
  k : t.k ≤ t'.k
  n : t'.k ≤ t.k + n
  z : 0 ≤ t'.z
theorem Nx.trans {t t1 t2 : Pn} {n m : Int} (a : Nx t t1 n) (b : Nx t1 t2 m) : Nx t t2 (n + m) := ⟨b.c.trans a.c, Int.le_trans a.k b.k, by have := a.n; have := b.n; omega, b.z⟩
theorem PnOk.nx {t t' : Pn} {n m : Int} (h : PnOk t n) (x : Nx t t' m) : PnOk t' (n + m) := ⟨Int.le_trans h.k0 x.k, by have := x.n; have := h.kn; omega, x.z, by rw [x.c]; exact h.len⟩
theorem PnOk.le {t : Pn} {n m : Int} (h : PnOk t n) (l : n ≤ m) : PnOk t m := ⟨h.k0, Int.le_trans h.kn l, h.z0, h.len⟩
/-- a draw within an expression -/
theorem draw_p {i : Nat} {ρ : List Sl} {t : Pn} {m : Int} (hi : ρ[i]? = some .pn) (h : PnOk t top40) (m1 : 1 ≤ m) (m2 : m < 1000000) {P : D → List Sl → Pn → Prop} (q : ∀ j t', 0 ≤ j → j < m → Nx t t' 1 → P (.int j) ρ t') :
    (penc i (mb (acons (mr (.int m)) anil) (callP f_law_draw)) ρ t).post P noX := by
  unfold penc
  rw [hi]
  simp only [mb_ap, acons_ap, anil_ap, mr_ap, bind_ok', callP]
  have d := draw_ok t m h m1 m2
  cases e : f_law_draw [.int m] t with
  | ok d0 ρ0 t0 =>
    rw [e] at d
    obtain ⟨j, rfl, j0, j1, c, k1, k2, z⟩ := d
    exact q j t0 j0 j1 ⟨c, k1, k2, z⟩
  | ex c ns vs t0 => rw [e] at d; exact d.elim
  | bad => rw [e] at d; exact d.elim
theorem bind_post {α β : Type} {r : Ou α} {k : α → M β} {P : β → List Sl → Pn → Prop} {E : Str → List Str → List D → Pn → Prop} (h : r.post (fun a ρ t => (k a ρ t).post P E) E) : (r.bind k).post P E := by
  cases r <;> exact h
theorem callP_p {fn : List D → Pn → Ou D} {ds : List D} {ρ : List Sl} {t : Pn} {P : D → List Sl → Pn → Prop} {R : D → Pn → Prop} (h : (fn ds t).post (fun d _ t' => R d t') noX) (q : ∀ d t', R d t' → P d ρ t') : (callP fn ds ρ t).post P noX := by
  unfold callP
  cases e : fn ds t with
  | ok d0 ρ0 t0 => rw [e] at h; exact q _ _ h
  | ex c ns vs t0 => rw [e] at h; exact h.elim
  | bad => rw [e] at h; exact h.elim
theorem draw_ok' (t : Pn) (m : Int) (h : PnOk t top40) (m1 : 1 ≤ m) (m2 : m < 1000000) : (f_law_draw [.int m] t).post (fun d _ t' => ∃ j, d = .int j ∧ 0 ≤ j ∧ j < m ∧ Nx t t' 1) noX :=
  post_mono (draw_ok t m h m1 m2) (fun d _ t' ⟨j, e, j0, j1, c, k1, k2, z⟩ => ⟨j, e, j0, j1, c, k1, k2, z⟩) fun _ _ _ _ h => h
theorem dix_mem (xs : List D) (j : Int) (h0 : 0 ≤ j) (h1 : j < xs.length) (ρ : List Sl) (t : Pn) : ∃ d ∈ xs, dix (.lst xs) (.int j) ρ t = .ok d ρ t := by
  obtain ⟨n, rfl⟩ := Int.eq_ofNat_of_zero_le h0
  have hn : n < xs.length := by omega
  refine ⟨xs[n], List.getElem_mem hn, ?_⟩
  have e : L2.atI xs (n : Int) = some xs[n] := by
    unfold L2.atI L2.ixN
    rw [if_pos h0, if_pos (by omega)]
    simp [List.getElem?_eq_getElem hn]
  simp only [dix, e]
  rfl
/-- one of a list -/
theorem pick_ok (t : Pn) (xs : List D) (h : PnOk t top40) (h1 : xs ≠ []) (h2 : xs.length ≤ 100) :
    (f_law_pick [.lst xs] t).post (fun d _ t' => d ∈ xs ∧ Nx t t' 1) noX := by
  have hl : 0 < xs.length := List.length_pos_iff.mpr h1
  show (runD m_law_pick (ent 2 (.pn :: [.lst xs].map Sl.im)) t).post _ _
  unfold runD ent m_law_pick
  simp only [sret_ap, e2_ap, List.map_cons, List.map_nil, List.length_cons, List.length_nil, List.replicate, List.append_nil, Nat.sub_self]
  refine bind_post (bind_post (bind_post ?_))
  rw [evar_ap 1 _ _ (.lst xs) rfl]
  refine bind_post ?_
  unfold penc
  simp only [List.getElem?_cons_zero, mb_ap, acons_ap, anil_ap, mr_ap, bind_ok', len_l]
  rw [evar_ap 1 _ _ (.lst xs) rfl]
  simp only [bind_ok', len_l, mb_ap, mr_ap, acons_ap, anil_ap]
  refine callP_p (draw_ok' t xs.length h (by omega) (by omega)) fun d t' ⟨j, e, j0, j1, nx⟩ => ?_
  subst e
  obtain ⟨d, hd, e⟩ := dix_mem xs j j0 j1 [Sl.pn, Sl.im (.lst xs)] t'
  rw [e]
  exact ⟨hd, nx⟩
end K61

set_option Elab.async false
set_option linter.all false
set_option maxRecDepth 100000
set_option maxHeartbeats 8000000
namespace K61
open PySem PySem.Spec PyProof.Rows DL
open L2 hiding isNon
/-! ### what is drawn -/
theorem Nx.refl {t : Pn} (h : 0 ≤ t.z) : Nx t t 0 := ⟨rfl, Int.le_refl _, by omega, h⟩
theorem Nx.le {t t' : Pn} {n m : Int} (h : Nx t t' n) (l : n ≤ m) : Nx t t' m := ⟨h.c, h.k, by have := h.n; omega, h.z⟩
theorem PnOk.at {t t' : Pn} {n m k : Int} (h : PnOk t n) (x : Nx t t' m) (l : n + m ≤ k) : PnOk t' k := (h.nx x).le l
theorem coin_p {i : Nat} {ρ : List Sl} {t : Pn} {m : Int} (hi : ρ[i]? = some .pn) (h : PnOk t top40) (m1 : 1 ≤ m) (m2 : m < 1000000) {P : D → List Sl → Pn → Prop} (q : ∀ b t', Nx t t' 1 → P (.bl b) ρ t') :
    (e2 deq (penc i (mb (acons (mr (.int m)) anil) (callP f_law_draw))) (mr (.int 0)) ρ t).post P noX := by
  show (((penc i (mb (acons (mr (.int m)) anil) (callP f_law_draw))) ρ t).bind _).post P noX
  refine bind_post (draw_p hi h m1 m2 fun j t' j0 j1 nx => ?_)
  show (deq (.int j) (.int 0) ρ t').post P noX
  rw [deq_I]
  exact q _ t' nx
theorem pick_p {i : Nat} {ρ : List Sl} {t : Pn} {f : M D} {P : D → List Sl → Pn → Prop} (hi : ρ[i]? = some .pn)
    (hf : (f ρ t).post (fun d ρ1 t1 => ρ1 = ρ ∧ ∃ xs : List D, d = .lst xs ∧ xs ≠ [] ∧ xs.length ≤ 100 ∧ PnOk t1 top40 ∧ ∀ d' t', d' ∈ xs → Nx t1 t' 1 → P d' ρ t') noX) :
    (penc i (mb (acons f anil) (callP f_law_pick)) ρ t).post P noX := by
  unfold penc
  rw [hi]
  show ((f ρ t).bind _).bind _ |>.post P noX
  refine bind_post (bind_post (post_mono hf (fun d ρ1 t1 ⟨e, xs, e1, h1, h2, h3, q⟩ => ?_) fun _ _ _ _ h => h))
  subst e e1
  show (callP f_law_pick [.lst xs] ρ1 t1).post P noX
  exact callP_p (post_mono (pick_ok t1 xs h3 h1 h2) (fun d ρ' t' h => h) fun _ _ _ _ h => h) fun d t' h => q d t' h.1 h.2
theorem pickL_p {i : Nat} {ρ : List Sl} {t : Pn} {f : M D} {xs : List D} {P : D → List Sl → Pn → Prop} (hi : ρ[i]? = some .pn) (hf : f ρ t = .ok (.lst xs) ρ t) (h1 : xs ≠ []) (h2 : xs.length ≤ 100) (h3 : PnOk t top40)
    (q : ∀ d t', d ∈ xs → Nx t t' 1 → P d ρ t') : (penc i (mb (acons f anil) (callP f_law_pick)) ρ t).post P noX :=
  pick_p hi (by rw [hf]; exact ⟨rfl, xs, rfl, h1, h2, h3, q⟩)
/-- a drawn value of a def -/
theorem runD_p {f : M Fl} {ρ : List Sl} {t : Pn} {P : D → List Sl → Pn → Prop} (h : (f ρ t).post (fun fl ρ t => ∃ d, fl = .rt d ∧ P d ρ t) noX) : (runD f ρ t).post P noX := by
  unfold runD
  refine bind_post (post_mono h (fun fl ρ t ⟨d, e, q⟩ => ?_) fun _ _ _ _ h => h)
  subst e
  exact q
theorem mem_oc {d : D} (h : d ∈ ([.str "none", .str "tree", .str "tree", .str "rule", .str "words", .str "clash", .str "none", .str "tree"] : List D)) : ∃ o, d = .str (sO o) := by
  simp only [List.mem_cons, List.not_mem_nil, or_false] at h
  rcases h with rfl | rfl | rfl | rfl | rfl | rfl | rfl | rfl
  · exact ⟨.none, rfl⟩
  · exact ⟨.tree, rfl⟩
  · exact ⟨.tree, rfl⟩
  · exact ⟨.rule, rfl⟩
  · exact ⟨.words, rfl⟩
  · exact ⟨.clash, rfl⟩
  · exact ⟨.none, rfl⟩
  · exact ⟨.tree, rfl⟩
theorem case_p (t : Pn) (n : Int) (h : PnOk t n) (hn : n + 9 ≤ top40) : (f_law_case [] t).post (fun d _ t' => ∃ c, d = eCs c ∧ Nx t t' 9) noX := by
  show (runD m_law_case [.pn, .un, .un] t).post _ _
  refine runD_p ?_
  unfold m_law_case
  refine p_sq (p_asg ?_)
  refine p_lcT (ds := rng 0 8) (t0 := t) (I := fun i acc t' => ∃ bs : List Bool, acc = bs.map D.bl ∧ bs.length = i ∧ Nx t t' i) rfl (by decide) ⟨[], rfl, rfl, Nx.refl h.z0⟩ (fun i d acc t1 e ⟨bs, h1, h2, nx⟩ => ?_) fun acc t1 ⟨bs, h1, h2, nx⟩ => ?_
  · have hi : i < 8 := (List.getElem?_eq_some_iff.mp e).1
    refine p_gname (coin_p rfl (h.at nx (by omega)) (by decide) (by decide) fun b t' nx' => ?_)
    exact ⟨bs ++ [b], by rw [h1, List.map_append]; rfl, by rw [List.length_append, h2]; rfl, (nx.trans nx').le (by omega)⟩
  · have e8 : bs.length = 8 := h2
    have nx8 : Nx t t1 8 := nx
    clear nx h2
    subst h1
    refine p_sret (p_mb (p_acons (p_e2 (p_var (d := .lst (bs.map D.bl)) rfl (p_elst (p_acons (pickL_p rfl rfl (by intro z; cases z) (by decide) (h.at nx8 (by omega)) fun d t' hd nx' => p_anil ⟨(by show 1 ≤ lim; decide), ?_⟩)))))))
    obtain ⟨o, rfl⟩ := mem_oc hd
    match bs, e8 with
    | [b0, b1, b2, b3, b4, b5, b6, b7], _ =>
      exact ⟨_, rfl, ⟨b0, b1, b2, b3, b4, b5, b6, b7, o⟩, rfl, (nx8.trans nx').le (by omega)⟩
end K61

set_option Elab.async false
set_option linter.all false
set_option maxRecDepth 100000
set_option maxHeartbeats 8000000
namespace K61
open PySem PySem.Spec PyProof.Rows DL
open L2 hiding isNon
theorem two {i : Nat} {d : D} (e : ([.bl true, .bl false] : List D)[i]? = some d) : (i = 0 ∧ d = .bl true) ∨ (i = 1 ∧ d = .bl false) := by
  match i, e with
  | 0, e => cases e; exact .inl ⟨rfl, rfl⟩
  | 1, e => cases e; exact .inr ⟨rfl, rfl⟩
theorem three {i : Nat} {d : D} (e : (rng 0 3)[i]? = some d) : i < 3 ∧ d = .int i := by
  match i, e with
  | 0, e => cases e; exact ⟨by decide, rfl⟩
  | 1, e => cases e; exact ⟨by decide, rfl⟩
  | 2, e => cases e; exact ⟨by decide, rfl⟩
theorem mem_g {d : D} (h : d ∈ ([.str "clash", .str "kept", .str "bare", .str "base", .str "kept", .str "bare", .str "base"] : List D)) : ∃ g, d = .str (sG g) := by
  simp only [List.mem_cons, List.not_mem_nil, or_false] at h
  rcases h with rfl | rfl | rfl | rfl | rfl | rfl | rfl
  · exact ⟨.clash, rfl⟩
  · exact ⟨.kept, rfl⟩
  · exact ⟨.bare, rfl⟩
  · exact ⟨.base, rfl⟩
  · exact ⟨.kept, rfl⟩
  · exact ⟨.bare, rfl⟩
  · exact ⟨.base, rfl⟩
theorem mem_a {d : D} (h : d ∈ ([.str "take", .str "take", .str "take", .str "clash"] : List D)) : ∃ g, d = .str (sA g) := by
  simp only [List.mem_cons, List.not_mem_nil, or_false] at h
  rcases h with rfl | rfl | rfl | rfl
  · exact ⟨.take, rfl⟩
  · exact ⟨.take, rfl⟩
  · exact ⟨.take, rfl⟩
  · exact ⟨.clash, rfl⟩
theorem mem_u {d : D} (h : d ∈ ([.str "clash", .str "one", .str "other"] : List D)) : ∃ g, d = .str (sU g) := by
  simp only [List.mem_cons, List.not_mem_nil, or_false] at h
  rcases h with rfl | rfl | rfl
  · exact ⟨.clash, rfl⟩
  · exact ⟨.one, rfl⟩
  · exact ⟨.other, rfl⟩
/-- the twelve keys, one by one -/
def lkey (m : Nat) : K3 := lkeys.getD m (true, true, 0)
theorem put_at : ∀ m : Fin 12, sameKind ((lkeys.take m).map eK) (eK (lkey m)) = true ∧ hasK ((lkeys.take m).map eK) (nk (eK (lkey m))) = false ∧ lkeys.take (m + 1) = lkeys.take m ++ [lkey m] := by decide +kernel
theorem dput_at (m : Nat) (hm : m < 12) (b : Bool) (bs : List Bool) (ρ : List Sl) (i : Nat) (t : Pn) (h : ρ[i]? = some (.ow (.dct ((lkeys.take m).map eK) (bs.map D.bl)))) :
    dsput i (.bl b) (eK (lkey m)) ρ t = .ok .nx (ρ.set i (.ow (.dct ((lkeys.take (m + 1)).map eK) ((bs ++ [b]).map D.bl)))) t := by
  obtain ⟨h1, h2, h3⟩ := put_at ⟨m, hm⟩
  simp only [dsput, h]
  have hl : ((lkeys.take m).map eK).length < lim := by
    rw [List.length_map, List.length_take]
    have : lkeys.length = 12 := rfl
    unfold lim
    omega
  rw [if_pos ⟨h1, hl⟩]
  unfold dputK dputV
  rw [h2, if_neg Bool.false_ne_true, if_neg Bool.false_ne_true, h3, List.map_append, List.map_append]
  rfl
def m_fl3 : M Fl := (sfor (mb (acons (mr (D.int 3)) anil) drng1) (gname 8) (sput 6 (e2 deq (penc 0 (mb (acons (mr (D.int 2)) anil) (callP f_law_draw))) (mr (D.int 0))) (etup (acons (evar 2) (acons (evar 7) (acons (evar 8) anil))))))
def m_fl : M Fl := (sfor (mb (elst (acons (mr (D.bl true)) (acons (mr (D.bl false)) anil))) items) (gname 2) (sfor (mb (elst (acons (mr (D.bl true)) (acons (mr (D.bl false)) anil))) items) (gname 7) m_fl3))
def fS (d1 d3 d4 d5 : D) (x2 x7 x8 : Sl) (m : Nat) (bs : List Bool) : List Sl := [.pn, .im d1, x2, .im d3, .im d4, .im d5, .ow (.dct ((lkeys.take m).map eK) (bs.map D.bl)), x7, x8]
def fI (d1 d3 d4 d5 : D) (t0 : Pn) (X2 X7 : Sl → Prop) (m : Nat) (ρ : List Sl) (t : Pn) : Prop := ∃ (bs : List Bool) (x2 x7 x8 : Sl), ρ = fS d1 d3 d4 d5 x2 x7 x8 m bs ∧ X2 x2 ∧ X7 x7 ∧ bs.length = m ∧ Nx t0 t m
theorem fl3_p (d1 d3 d4 d5 : D) (t0 : Pn) (n : Int) (h : PnOk t0 n) (hn : n + 12 ≤ top40) (a b : Bool) (m : Nat) (hm : m + 3 ≤ 12) (hk : ∀ k < 3, lkey (m + k) = (a, b, k)) (ρ : List Sl) (t : Pn)
    (hI : fI d1 d3 d4 d5 t0 (· = .im (.bl a)) (· = .im (.bl b)) m ρ t) : (m_fl3 ρ t).post (fun fl ρ t => fl = .nx ∧ fI d1 d3 d4 d5 t0 (· = .im (.bl a)) (· = .im (.bl b)) (m + 3) ρ t) noX := by
  unfold m_fl3
  refine p_for (ds := rng 0 3) (I := fun k ρ t => fI d1 d3 d4 d5 t0 (· = .im (.bl a)) (· = .im (.bl b)) (m + k) ρ t) rfl hI (fun k d ρ t e hI => ?_) fun ρ t hI => ⟨rfl, hI⟩
  obtain ⟨k3, rfl⟩ := three e
  obtain ⟨bs, x2, x7, x8, rfl, rfl, rfl, hb, nx⟩ := hI
  show (sput 6 _ _ [.pn, .im d1, .im (.bl a), .im d3, .im d4, .im d5, .ow (.dct ((lkeys.take (m + k)).map eK) (bs.map D.bl)), .im (.bl b), .im (.int k)] t).post _ _
  refine p_sput (coin_p rfl (h.at nx (by omega)) (by decide) (by decide) fun c t' nx' => ⟨rfl, ?_⟩)
  refine p_etup (p_acons (p_var rfl (p_acons (p_var rfl (p_acons (p_var rfl (p_anil ⟨(by show 3 ≤ lim; decide), ?_⟩)))))))
  have ek : (.tup [.bl a, .bl b, .int k] : D) = eK (lkey (m + k)) := by rw [hk k k3]; rfl
  rw [ek, dput_at (m + k) (by omega) c bs _ 6 t' rfl]
  exact ⟨rfl, bs ++ [c], .im (.bl a), .im (.bl b), .im (.int k), rfl, rfl, rfl, by rw [List.length_append, hb]; rfl, (nx.trans nx').le (by omega)⟩
theorem fl_p (d1 d3 d4 d5 : D) (t0 : Pn) (n : Int) (h : PnOk t0 n) (hn : n + 12 ≤ top40) :
    (m_fl [.pn, .im d1, .un, .im d3, .im d4, .im d5, .ow (.dct [] []), .un, .un] t0).post (fun fl ρ t => fl = .nx ∧ fI d1 d3 d4 d5 t0 (fun _ => True) (fun _ => True) 12 ρ t) noX := by
  unfold m_fl
  refine p_for (ds := [.bl true, .bl false]) (I := fun i ρ t => fI d1 d3 d4 d5 t0 (fun _ => True) (fun _ => True) (6 * i) ρ t) rfl ⟨[], .un, .un, .un, rfl, trivial, trivial, rfl, Nx.refl h.z0⟩ (fun i d ρ t e hI => ?_) fun ρ t hI => ⟨rfl, hI⟩
  have hd : ∃ a, d = .bl a ∧ i < 2 ∧ ∀ j < 2, ∀ k < 3, lkey (6 * i + 3 * j + k) = (a, decide (j = 0), k) := by
    rcases two e with ⟨rfl, rfl⟩ | ⟨rfl, rfl⟩
    · exact ⟨true, rfl, by decide, by decide⟩
    · exact ⟨false, rfl, by decide, by decide⟩
  obtain ⟨a, rfl, hi, hk⟩ := hd
  obtain ⟨bs, x2, x7, x8, rfl, _, _, hb, nx⟩ := hI
  refine p_mb (p_gname ?_)
  refine p_for (ds := [.bl true, .bl false]) (I := fun j ρ t => fI d1 d3 d4 d5 t0 (· = .im (.bl a)) (fun _ => True) (6 * i + 3 * j) ρ t) rfl ⟨bs, _, x7, x8, rfl, rfl, trivial, hb, nx⟩ (fun j d ρ t e hI => ?_) fun ρ t hI => ⟨rfl, ?_⟩
  · obtain ⟨bs, x2, x7, x8, rfl, rfl, _, hb, nx⟩ := hI
    have hj : j < 2 ∧ d = .bl (decide (j = 0)) := by
      rcases two e with ⟨rfl, rfl⟩ | ⟨rfl, rfl⟩
      · exact ⟨by decide, rfl⟩
      · exact ⟨by decide, rfl⟩
    obtain ⟨j2, rfl⟩ := hj
    refine post_mono (fl3_p d1 d3 d4 d5 t0 n h hn a (decide (j = 0)) (6 * i + 3 * j) (by omega) (fun k hk3 => hk j j2 k hk3) _ t ⟨bs, .im (.bl a), .im (.bl (decide (j = 0))), x8, rfl, rfl, rfl, hb, nx⟩) (fun fl ρ t ⟨e, hI⟩ => ⟨e, ?_⟩) fun _ _ _ _ h => h
    obtain ⟨bs, x2, x7, x8, e, h2, h7, hb, nx⟩ := hI
    exact ⟨bs, x2, x7, x8, e, h2, trivial, hb, nx⟩
  · obtain ⟨bs, x2, x7, x8, e, h2, h7, hb, nx⟩ := hI
    exact ⟨bs, x2, x7, x8, e, trivial, trivial, hb, nx⟩
theorem flags_of_bs : ∀ bs : List Bool, bs.length = 12 → ∃ f : Fg, (.dct ((lkeys.take 12).map eK) (bs.map D.bl) : D) = eL (some f)
  | [b0, b1, b2, b3, b4, b5, b6, b7, b8, b9, b10, b11], _ => ⟨fun r k n => [b0, b1, b2, b3, b4, b5, b6, b7, b8, b9, b10, b11].getD ((if r = true then 0 else 6) + (if k = true then 0 else 3) + n) false, rfl⟩
theorem plan_eq : ∃ A B C F, m_law_plan = sq (asg 1 A) (sq (spar 3 4 B) (sq (sparO 5 6 C (mr (D.dct [] []))) (sq F (sq m_fl (sq (frz 6) (sret (etup (acons (evar 1) (acons (evar 3) (acons (evar 4) (acons (evar 5) (acons (evar 6) anil)))))))))))) := ⟨_, _, _, _, rfl⟩
theorem plan_p (t : Pn) (n : Int) (h : PnOk t n) (hn : n + 20 ≤ top40) : (f_law_plan [] t).post (fun d _ t' => ∃ p, d = plT p ∧ Nx t t' 20) noX := by
  show (runD m_law_plan [.pn, .un, .un, .un, .un, .un, .un, .un, .un] t).post _ _
  refine runD_p ?_
  unfold m_law_plan
  refine p_sq (p_asg (pickL_p rfl rfl (by intro z; cases z) (by decide) (h.le (by omega)) fun d1 t1 hd1 n1 => ?_))
  obtain ⟨g, rfl⟩ := mem_g hd1
  show (sq _ _ [.pn, .im (.str (sG g)), .un, .un, .un, .un, .un, .un, .un] t1).post _ _
  refine p_sq (p_spar (p_acons (pickL_p rfl rfl (by intro z; cases z) (by decide) (h.at n1 (by omega)) fun d2 t2 hd2 n2 => p_acons (pickL_p rfl rfl (by intro z; cases z) (by decide) (h.at (n1.trans n2) (by omega)) fun d3 t3 hd3 n3 => ⟨_, _, rfl, ?_⟩))))
  obtain ⟨a, rfl⟩ := mem_a hd2
  obtain ⟨u, rfl⟩ := mem_u hd3
  show (sq _ _ [.pn, .im (.str (sG g)), .un, .im (.str (sA a)), .im (.str (sU u)), .un, .un, .un, .un] t3).post _ _
  have n03 := (n1.trans n2).trans n3
  refine p_sq (p_sparO (coin_p rfl (h.at n03 (by omega)) (by decide) (by decide) fun ti t4 n4 => ?_))
  have n04 := n03.trans n4
  show (sq _ _ [.pn, .im (.str (sG g)), .un, .im (.str (sA a)), .im (.str (sU u)), .im (.bl ti), .ow (.dct [] []), .un, .un] t4).post _ _
  refine p_sq (p_sif (p_asB (p_e2 (draw_p rfl (h.at n04 (by omega)) (by decide) (by decide) fun j t5 j0 j1 n5 => ⟨_, rfl, ?_⟩))))
  have n05 := n04.trans n5
  by_cases hj : 0 < j
  · rw [if_pos (by simpa using hj)]
    refine p_sret (p_etup (p_acons (p_var rfl (p_acons (p_var rfl (p_acons (p_var rfl (p_acons (p_var rfl (p_acons (p_mr (p_anil ⟨(by show 5 ≤ lim; decide), ?_⟩))))))))))))
    exact ⟨_, rfl, ⟨g, a, u, ti, none⟩, rfl, n05.le (by omega)⟩
  · rw [if_neg (by simpa using hj)]
    show (sq m_fl _ [.pn, .im (.str (sG g)), .un, .im (.str (sA a)), .im (.str (sU u)), .im (.bl ti), .ow (.dct [] []), .un, .un] t5).post _ _
    refine p_sq (post_mono (fl_p _ _ _ _ t5 (n + 6) (h.at n05 (by omega)) (by omega)) (fun fl ρ t6 ⟨e, bs, x2, x7, x8, er, _, _, hb, n6⟩ => ?_) fun _ _ _ _ h => h)
    subst e er
    obtain ⟨f, ef⟩ := flags_of_bs bs hb
    unfold fS
    rw [ef]
    refine p_nx (p_sq (p_frz rfl (p_nx ?_)))
    refine p_sret (p_etup (p_acons (p_var rfl (p_acons (p_var rfl (p_acons (p_var rfl (p_acons (p_var rfl (p_acons (p_var rfl (p_anil ⟨(by show 5 ≤ lim; decide), ?_⟩))))))))))))
    exact ⟨_, rfl, ⟨g, a, u, ti, some f⟩, rfl, (n05.trans n6).le (by omega)⟩
end K61

set_option Elab.async false
set_option linter.all false
set_option maxRecDepth 100000
set_option maxHeartbeats 8000000
namespace K61
open PySem PySem.Spec PyProof.Rows DL
open L2 hiding isNon
theorem mem_m {d : D} (h : d ∈ ([.int 3, .int 7, .int 8, .int 9] : List D)) : ∃ m : Int, d = .int m := by
  simp only [List.mem_cons, List.not_mem_nil, or_false] at h
  rcases h with rfl | rfl | rfl | rfl <;> exact ⟨_, rfl⟩
def k3 (a b : Bool) : List K3 := [(a, b, 0), (a, b, 1), (a, b, 2)]
theorem k3_snoc (a b : Bool) : ∀ k < 3, (k3 a b).take (k + 1) = (k3 a b).take k ++ [(a, b, k)] := by
  intro k hk
  match k, hk with
  | 0, _ => rfl
  | 1, _ => rfl
  | 2, _ => rfl
theorem sub_nodup {ks : List K3} (h : ks.Sublist lkeys) : ks.Nodup ∧ (∀ k ∈ ks, k.2.2 < 3) ∧ ks.length ≤ 12 :=
  ⟨h.nodup (by decide +kernel), fun k hk => (show ∀ k ∈ lkeys, k.2.2 < 3 by decide +kernel) k (h.subset hk), h.length_le⟩
theorem kinds_p (t0 : Pn) (n : Int) (h : PnOk t0 n) (hn : n + 13 ≤ top40) : (f_law_kinds [] t0).post (fun d _ t' => ∃ ks : List K3, d = .lst (ks.map eK) ∧ ks.Sublist lkeys ∧ Nx t0 t' 13) noX := by
  show (runD m_law_kinds [.pn, .un, .un, .un, .un, .un] t0).post _ _
  refine runD_p ?_
  unfold m_law_kinds
  refine p_sq (p_sasg (p_etup (p_acons (p_elst (p_anil ⟨by decide, p_acons (pickL_p rfl rfl (by intro z; cases z) (by decide) (h.le (by omega)) fun d t1 hd n1 => p_anil ⟨(by show 2 ≤ lim; decide), ?_⟩)⟩)))))
  obtain ⟨m, rfl⟩ := mem_m hd
  show (sq _ _ [.pn, .un, .im (.lst []), .im (.int m), .un, .un] t1).post _ _
  refine p_sq (p_for (ds := [.bl true, .bl false]) (I := fun i ρ t => ∃ (ks : List K3) (x1 x4 : Sl), ρ = [.pn, x1, .im (.lst (ks.map eK)), .im (.int m), x4, .un] ∧ ks.Sublist (lkeys.take (6 * i)) ∧ Nx t0 t (1 + 6 * i)) rfl
    ⟨[], .un, .un, rfl, List.Sublist.slnil, n1.le (by decide)⟩ (fun i d ρ t e ⟨ks, x1, x4, er, hs, nx⟩ => ?_) fun ρ t ⟨ks, x1, x4, er, hs, nx⟩ => ?_)
  · subst er
    have hd : ∃ a, d = .bl a ∧ i < 2 ∧ ∀ j < 2, lkeys.take (6 * i + 3 * (j + 1)) = lkeys.take (6 * i + 3 * j) ++ k3 a (decide (j = 0)) := by
      rcases two e with ⟨rfl, rfl⟩ | ⟨rfl, rfl⟩
      · exact ⟨true, rfl, by decide, by decide +kernel⟩
      · exact ⟨false, rfl, by decide, by decide +kernel⟩
    obtain ⟨a, rfl, hi, hk⟩ := hd
    refine p_mb (p_gname ?_)
    refine p_for (ds := [.bl true, .bl false]) (I := fun j ρ t => ∃ (ks : List K3) (x4 : Sl), ρ = [.pn, .im (.bl a), .im (.lst (ks.map eK)), .im (.int m), x4, .un] ∧ ks.Sublist (lkeys.take (6 * i + 3 * j)) ∧ Nx t0 t (1 + 6 * i + 3 * j)) rfl
      ⟨ks, x4, rfl, hs, nx.le (by omega)⟩ (fun j d ρ t e ⟨ks, x4, er, hs, nx⟩ => ?_) fun ρ t ⟨ks, x4, er, hs, nx⟩ => ⟨rfl, ks, _, x4, er, hs, nx.le (by show 1 + 6 * (i : Int) + 3 * ((2 : Nat) : Int) ≤ _; omega)⟩
    subst er
    have hj : j < 2 ∧ d = .bl (decide (j = 0)) := by
      rcases two e with ⟨rfl, rfl⟩ | ⟨rfl, rfl⟩
      · exact ⟨by decide, rfl⟩
      · exact ⟨by decide, rfl⟩
    obtain ⟨j2, rfl⟩ := hj
    have hkj := hk j j2
    generalize decide (j = 0) = b at *
    refine p_mb (p_gname (p_asg (p_e2 (p_var (d := .lst (ks.map eK)) rfl (p_lc (ds := rng 0 3) (t0 := t) (I := fun k acc t' => ∃ A : List K3, acc = A.map eK ∧ A.Sublist ((k3 a b).take k) ∧ Nx t t' k) rfl (by decide) ⟨[], rfl, List.Sublist.slnil, Nx.refl nx.z⟩
      (fun k d acc t1 e ⟨A, h1, h2, nx1⟩ => ?_) fun acc t1 ⟨A, h1, h2, nx1⟩ => ?_)))))
    · obtain ⟨hk3, rfl⟩ := three e
      refine p_gname (p_asB (p_e2 (draw_p rfl (h.at (nx.trans nx1) (by omega)) (by decide) (by decide) fun c t2 c0 c1 n2 => p_var (d := .int m) rfl ⟨decide (c < m), rfl, ?_⟩)))
      split
      · refine p_etup (p_acons (p_var rfl (p_acons (p_var rfl (p_acons (p_var rfl (p_anil ⟨(by show 3 ≤ lim; decide), ?_⟩)))))))
        refine ⟨A ++ [(a, b, k)], by rw [h1, List.map_append]; rfl, ?_, (nx1.trans n2).le (by omega)⟩
        rw [k3_snoc a b k hk3]
        exact List.Sublist.append h2 (List.Sublist.refl _)
      · refine ⟨A, h1, ?_, (nx1.trans n2).le (by omega)⟩
        rw [k3_snoc a b k hk3]
        exact h2.trans (List.sublist_append_left _ _)
    · subst h1
      have h2' : A.Sublist (k3 a b) := h2
      have hs2 : (ks ++ A).Sublist (lkeys.take (6 * i + 3 * (j + 1))) := by
        rw [hkj]
        exact List.Sublist.append hs h2'
      have l2 : (ks ++ A).length ≤ 12 := Nat.le_trans hs2.length_le (by rw [List.length_take]; exact Nat.min_le_right _ _)
      rw [List.length_append] at l2
      rw [dadd_ll _ _ (by rw [List.length_map, List.length_map]; unfold lim; omega), ← List.map_append]
      refine ⟨rfl, ks ++ A, .im (.bl b), rfl, hs2, (nx.trans nx1).le (by show 1 + 6 * (i : Int) + 3 * (j : Int) + ((3 : Nat) : Int) ≤ _; omega)⟩
  · subst er
    refine p_nx (p_sret (p_var (d := .lst (ks.map eK)) rfl ⟨_, rfl, ks, rfl, hs, nx.le (by show 1 + 6 * ((2 : Nat) : Int) ≤ 13; decide)⟩))
/-! ### cells -/
theorem mem_v {j : Int} {d : D} (h : d ∈ ([.non, .int 1, .int 1, .int 2, .int 3, .int j] : List D)) : ∃ v : Vl, d = eV v := by
  simp only [List.mem_cons, List.not_mem_nil, or_false] at h
  rcases h with rfl | rfl | rfl | rfl | rfl | rfl
  · exact ⟨none, rfl⟩
  · exact ⟨some _, rfl⟩
  · exact ⟨some _, rfl⟩
  · exact ⟨some _, rfl⟩
  · exact ⟨some _, rfl⟩
  · exact ⟨some _, rfl⟩
theorem plain_C (c : Cel) (n : Nat) : plain (n + 1) (eC c) = true := by
  rcases c with _ | ⟨v, b⟩
  · rfl
  · show (plain n (eV v) && (plain n (.bl b) && plains n [])) = true
    rw [plain_eV]
    cases n <;> rfl
theorem plains_C (cs : List Cel) (n : Nat) : plains (n + 1) (cs.map eC) = true := by
  induction cs with
  | nil => rfl
  | cons k ks ih => show (plain (n + 1) (eC k) && plains (n + 1) (ks.map eC)) = true; rw [plain_C, ih]; rfl
theorem dne_cs (c : Cel) (cs : List Cel) (ρ : List Sl) (t : Pn) : dne (.lst ((c :: cs).map eC)) (.lst []) ρ t = .ok (.bl true) ρ t := by
  have h : plain 60 (.lst ((c :: cs).map eC)) = true := plains_C (c :: cs) 58
  show (if plain 60 (.lst ((c :: cs).map eC)) = true ∧ plain 60 (.lst []) = true then mr (D.bl (!PyData.eqv (toP (.lst ((c :: cs).map eC))) (toP (.lst [])))) else mx) ρ t = _
  rw [if_pos ⟨h, rfl⟩]
  have : PyData.eqv (toP (.lst ((c :: cs).map eC))) (toP (.lst [])) = false := by
    simp [toP, toPs, PyData.eqv, PyData.eqvAll]
  rw [this]; rfl
theorem dix_cs0 (c : Cel) (cs : List Cel) (ρ : List Sl) (t : Pn) : dix (.lst ((c :: cs).map eC)) (.int 0) ρ t = .ok (eC c) ρ t := dix_l0 _ _ ρ t
theorem isS_V (v : Vl) : isS (eV v) = true := by cases v <;> rfl
theorem tot_at (T : Tot) (i : Nat) (hi : i < 3) (ρ : List Sl) (t : Pn) : dix (eTot T) (.int i) ρ t = .ok (.int (if i = 0 then T.n0 else if i = 1 then T.n1 else T.n2 : Nat)) ρ t := by
  match i, hi with
  | 0, _ => rfl
  | 1, _ => rfl
  | 2, _ => rfl
theorem l411 (n : Nat) (h : n < 3) (ρ : List Sl) (t : Pn) : ∃ z : Int, dix (.lst [.int 4, .int 1, .int 1]) (.int n) ρ t = .ok (.int z) ρ t := by
  match n, h with
  | 0, _ => exact ⟨_, rfl⟩
  | 1, _ => exact ⟨_, rfl⟩
  | 2, _ => exact ⟨_, rfl⟩
theorem cells_p (t0 : Pn) (n : Int) (h : PnOk t0 n) (hn : n + 30 ≤ top40) (T : Tot) (h0 : T.n0 < 3) (h1 : T.n1 < 3) (h2 : T.n2 < 3) :
    (f_law_some_cells [eTot T] t0).post (fun d _ t' => ∃ c0 c1 c2 : Cel, d = .tup [eC c0, eC c1, eC c2] ∧ Nx t0 t' 18) noX := by
  show (runD m_law_some_cells [.pn, .im (eTot T), .un, .un, .un] t0).post _ _
  refine runD_p ?_
  unfold m_law_some_cells
  refine p_sq (p_asgO (p_elst (p_anil ⟨by decide, p_nx ?_⟩)))
  refine p_sq (p_for (ds := rng 0 3) (I := fun i ρ t => ∃ (cs : List Cel) (x3 x4 : Sl), ρ = [.pn, .im (eTot T), .ow (.lst (cs.map eC)), x3, x4] ∧ cs.length = i ∧ Nx t0 t (6 * i)) rfl
    ⟨[], .un, .un, rfl, rfl, (Nx.refl h.z0).le (by decide)⟩ (fun i d ρ t e ⟨cs, x3, x4, er, hc, nx⟩ => ?_) fun ρ t ⟨cs, x3, x4, er, hc, nx⟩ => ?_)
  · subst er
    obtain ⟨hi, rfl⟩ := three e
    refine p_mb (p_gname ?_)
    refine p_sq (p_asg (p_etup (p_acons (pick_p rfl (p_elst (p_acons (p_mr (p_acons (p_mr (p_acons (p_mr (p_acons (p_mr (p_acons (p_mr (p_acons (p_e2 (p_mr (draw_p rfl (h.at nx (by omega)) (by decide) (by decide) fun j t1 j0 j1 n1 => ?_)))))))))))))))))))
    rw [dadd_ii]
    refine p_ok (p_anil ⟨(by show 6 ≤ lim; decide), rfl, _, rfl, (by intro z; cases z), (by show 6 ≤ 100; decide), h.at (nx.trans n1) (by omega), fun dv t2 hv n2 => ?_⟩)
    obtain ⟨v, rfl⟩ := mem_v hv
    have n12 := (nx.trans n1).trans n2
    refine p_acons (coin_p rfl (h.at n12 (by omega)) (by decide) (by decide) fun b t3 n3 => p_anil ⟨(by show 2 ≤ lim; decide), p_nx ?_⟩)
    have n13 := n12.trans n3
    have ev : (.tup [eV v, .bl b] : D) = eC (some (v, b)) := rfl
    rw [ev]
    generalize hc4 : (some (v, b) : Cel) = c4
    show (sq _ _ [.pn, .im (eTot T), .ow (.lst (cs.map eC)), .im (.int i), .im (eC c4)] t3).post _ _
    have tail : ∀ (c : Cel) (t4 : Pn), Nx t0 t4 (6 * (i : Int) + 5) → (sapp 2 (eif (asB (e2 dlt (penc 0 (mb (acons (mr (D.int 9)) anil) (callP f_law_draw))) (e2 dix (elst (acons (mr (D.int 4)) (acons (mr (D.int 1)) (acons (mr (D.int 1)) anil)))) (e2 dix (evar 1) (evar 3))))) (mr D.non) (evar 4)) [.pn, .im (eTot T), .ow (.lst (cs.map eC)), .im (.int i), .im (eC c)] t4).post
        (fun fl ρ t => fl = .nx ∧ ∃ (cs : List Cel) (x3 x4 : Sl), ρ = [.pn, .im (eTot T), .ow (.lst (cs.map eC)), x3, x4] ∧ cs.length = i + 1 ∧ Nx t0 t (6 * ((i + 1 : Nat) : Int))) noX := fun c t4 n4 => by
      refine p_sappL (ds := cs.map eC) rfl <| p_eif <| p_asB <| p_e2 <| draw_p rfl (h.at n4 (by omega)) (by decide) (by decide) fun j t5 j0 j1 n5 => p_e2 <| p_elst <| p_acons <| p_mr <| p_acons <| p_mr <| p_acons <| p_mr <| p_anil ⟨(by show 3 ≤ lim; decide), p_e2 <| p_var (d := eTot T) rfl <| p_var (d := .int i) rfl ?_⟩
      rw [tot_at T i hi]
      have hlt : (if i = 0 then T.n0 else if i = 1 then T.n1 else T.n2) < 3 := by
        split
        · exact h0
        · split
          · exact h1
          · exact h2
      obtain ⟨z, ez⟩ := l411 (if i = 0 then T.n0 else if i = 1 then T.n1 else T.n2) hlt [.pn, .im (eTot T), .ow (.lst (cs.map eC)), .im (.int i), .im (eC c)] t5
      refine p_ok ?_
      refine p_eq ez ?_
      refine p_ok ⟨decide (j < z), rfl, ?_⟩
      have hl : (cs.map eC).length < lim := by rw [List.length_map, hc]; unfold lim; omega
      split
      · refine p_mr ⟨rfl, hl, rfl, cs ++ [none], .im (.int i), .im (eC c), by rw [List.map_append]; rfl, by rw [List.length_append, hc]; rfl, (n4.trans n5).le (by omega)⟩
      · refine p_var (d := eC c) rfl ⟨rfl, hl, rfl, cs ++ [c], .im (.int i), .im (eC c), by rw [List.map_append]; rfl, by rw [List.length_append, hc]; rfl, (n4.trans n5).le (by omega)⟩
    rcases cs with _ | ⟨c0, cs⟩
    · refine p_sq (p_sif (p_band (p_peekB rfl ?_)))
      show (asB _ [.pn, .im (eTot T), .im (.lst []), .im (.int i), .im (eC c4)] t3).post _ _
      refine p_asB (p_e2 (p_var (d := .lst []) rfl (p_elst (p_anil ⟨by decide, ?_⟩))))
      rw [dne_e]
      refine p_ok ⟨false, rfl, ?_⟩
      rw [if_neg Bool.false_ne_true, if_neg Bool.false_ne_true]
      exact p_mr (p_nx (tail c4 t3 (n13.le (by omega))))
    · refine p_sq (p_sif (p_band (p_peekB rfl ?_)))
      show (asB _ [.pn, .im (eTot T), .im (.lst ((c0 :: cs).map eC)), .im (.int i), .im (eC c4)] t3).post _ _
      refine p_asB (p_e2 (p_var (d := .lst ((c0 :: cs).map eC)) rfl (p_elst (p_anil ⟨by decide, ?_⟩))))
      rw [dne_cs]
      refine p_ok ⟨true, rfl, ?_⟩
      rw [if_pos rfl]
      refine p_band (p_peekB rfl ?_)
      show (asB _ [.pn, .im (eTot T), .im (.lst ((c0 :: cs).map eC)), .im (.int i), .im (eC c4)] t3).post _ _
      refine p_asB (p_enno (p_e2 (p_var (d := .lst ((c0 :: cs).map eC)) rfl (p_mr ?_))))
      rw [dix_cs0]
      refine p_ok ⟨_, rfl, ?_⟩
      rcases c0 with _ | ⟨v0, b0⟩
      · rw [if_neg (by decide), if_neg Bool.false_ne_true]
        exact p_mr (p_nx (tail c4 t3 (n13.le (by omega))))
      · rw [if_pos (show (!DL.isNon (eC (some (v0, b0)))) = true from rfl)]
        refine p_asB (coin_p rfl (h.at n13 (by omega)) (by decide) (by decide) fun b1 t4 n4 => ⟨_, rfl, ?_⟩)
        have n14 := n13.trans n4
        cases b1 with
        | false =>
          rw [if_neg Bool.false_ne_true]
          exact p_mr (p_nx (tail c4 t4 (n14.le (by omega))))
        | true =>
          rw [if_pos rfl]
          refine p_asg (p_etup (p_acons (p_peekS rfl ?_)))
          show ((DL.e2 dix (DL.e2 dix (evar 2) _) _) [.pn, .im (eTot T), .im (.lst ((some (v0, b0) :: cs).map eC)), .im (.int i), .im (eC c4)] t4).post _ _
          refine p_e2 (p_e2 (p_var (d := .lst ((some (v0, b0) :: cs).map eC)) rfl (p_mr ?_)))
          rw [dix_cs0]
          refine p_ok (p_mr ?_)
          rw [dix_C0]
          refine p_ok ⟨isS_V v0, ?_⟩
          refine p_acons (p_eif (p_asB (coin_p rfl (h.at n14 (by omega)) (by decide) (by decide) fun b2 t5 n5 => ⟨_, rfl, ?_⟩)))
          have n15 := n14.trans n5
          subst hc4
          cases b2 with
          | true =>
            rw [if_pos rfl]
            refine p_e2 (p_var (d := eC (some (v, b))) rfl (p_mr ?_))
            rw [dix_C1]
            exact p_ok (p_anil ⟨(by show 2 ≤ lim; decide), p_nx (tail (some (v0, b)) t5 (n15.le (by omega)))⟩)
          | false =>
            rw [if_neg Bool.false_ne_true]
            refine p_peekS rfl ?_
            show ((DL.e2 dix (DL.e2 dix (evar 2) _) _) [.pn, .im (eTot T), .im (.lst ((some (v0, b0) :: cs).map eC)), .im (.int i), .im (eC (some (v, b)))] t5).post _ _
            refine p_e2 (p_e2 (p_var (d := .lst ((some (v0, b0) :: cs).map eC)) rfl (p_mr ?_)))
            rw [dix_cs0]
            refine p_ok (p_mr ?_)
            rw [dix_C1]
            refine p_ok ⟨rfl, ?_⟩
            exact p_anil ⟨(by show 2 ≤ lim; decide), p_nx (tail (some (v0, b0)) t5 (n15.le (by omega)))⟩
  · subst er
    have hc3 : cs.length = 3 := hc
    refine p_nx (p_sq (p_frz rfl (p_nx (p_sret (p_mb (p_acons (p_var (d := .lst (cs.map eC)) rfl (p_anil ?_))))))))
    rw [dtuple_l]
    match cs, hc3 with
    | [c0, c1, c2], _ => exact ⟨_, rfl, c0, c1, c2, rfl, nx⟩
end K61

set_option Elab.async false
set_option linter.all false
set_option maxRecDepth 100000
set_option maxHeartbeats 8000000
namespace K61
open PySem PySem.Spec PyProof.Rows DL
open L2 hiding isNon
/-! ### the law -/
theorem eqv_cs (c : Cs) : PyData.eqv (toP (eCs c)) (toP (eCs c)) = true := by
  have hw : PyData.eqv (toP (.str (sO c.o))) (toP (.str (sO c.o))) = true := by cases c.o <;> decide +kernel
  have e1 : ∀ (x : PyData) (xs : List PyData), PyData.eqv x x = true → PyData.eqvAll xs xs = true → PyData.eqvAll (x :: xs) (x :: xs) = true := fun x xs h1 h2 => by simp [PyData.eqvAll, h1, h2]
  have hb : ∀ b : Bool, PyData.eqv (toP (.bl b)) (toP (.bl b)) = true := fun b => by cases b <;> rfl
  show PyData.eqvAll _ _ = true
  exact e1 _ _ (hb _) (e1 _ _ (hb _) (e1 _ _ (hb _) (e1 _ _ (hb _) (e1 _ _ (hb _) (e1 _ _ (hb _) (e1 _ _ (hb _) (e1 _ _ (hb _) (e1 _ _ hw rfl))))))))
theorem plain_cs (c : Cs) : plain 60 (eCs c) = true := by
  have hw : plain 59 (.str (sO c.o)) = true := by cases c.o <;> decide +kernel
  show (plain 59 (.str (sO c.o)) && true) = true
  rw [hw]; rfl
theorem dne_oc (c : Option Cs) (ρ : List Sl) (t : Pn) : dne (eOC c) (eOC c) ρ t = .ok (.bl false) ρ t := by
  rcases c with _ | c
  · rfl
  · show (if plain 60 (eCs c) = true ∧ plain 60 (eCs c) = true then mr (D.bl (!PyData.eqv (toP (eCs c)) (toP (eCs c)))) else mx) ρ t = _
    rw [if_pos ⟨plain_cs c, plain_cs c⟩, eqv_cs]; rfl
theorem way8 (ρ : List Sl) (t : Pn) : (e2 dadd (e2 drep (elst (acons (mr (D.bl true)) anil)) (mr (D.int 8))) (elst (acons (mr (D.bl false)) anil))) ρ t = .ok waysC ρ t := rfl
theorem sum_lt (cs : List Cs) : (sumS cs).n0 < 3 ∧ (sumS cs).n1 < 3 ∧ (sumS cs).n2 < 3 ∧ (sumS cs).n3 < 3 := by
  unfold sumS
  refine ⟨?_, ?_, ?_, ?_⟩ <;> (simp only; omega)
def m_in : M Fl := (sq (spar 14 15 (acons (penc 1 (mb (acons (evar 5) anil) (callP f_law_some_cells))) (acons (e2 deq (evar 4) (mr (D.int 0))) anil))) (sq (asg 11 (mb (acons (evar 6) (acons (eif (btru (evar 15)) (evar 7) (evar 8)) (acons (evar 5) (acons (evar 14) (acons (evar 15) anil))))) fun ds => call0 f_law_closed (ds ++ []))) (sq (asg 12 (eif (asB (e2 deq (evar 4) (mr (D.int 1)))) (mb (acons (evar 9) (acons (evar 10) (acons (evar 5) (acons (evar 14) anil)))) fun ds => call0 f_closed (ds ++ dd_closed)) (mb (acons (evar 9) (acons (evar 10) (acons (evar 5) (acons (evar 14) (acons (evar 15) anil))))) fun ds => call0 f_closed (ds ++ [])))) (sif (bor (asB (e2 dne (evar 12) (evar 11))) (band (asB (enno (evar 11))) (bnot (btru (mb (acons (evar 12) (acons (e2 dadd (e2 drep (elst (acons (mr (D.bl true)) anil)) (mr (D.int 8))) (elst (acons (mr (D.bl false)) anil))) anil)) fun ds => call0 f_law_kinds_right (ds ++ [])))))) (sret (mr (D.bl false))) (mr Fl.nx)))))
@[irreducible] def m_rest : M Fl := (sq (sif (bnot (btru (penc 1 (mb (acons (evar 3) anil) (callP f_law_sums_so))))) (sret (mr (D.bl false))) (mr Fl.nx)) (sq (spar 5 6 (acons (mb (acons (evar 3) anil) fun ds => call0 f_law_sum_of (ds ++ [])) (acons (penc 1 (mb anil (callP f_law_plan))) anil))) (sq (spar 7 8 (acons (penc 1 (mb anil (callP f_law_kinds))) (acons (penc 1 (mb anil (callP f_law_kinds))) anil))) (sq (spar 9 10 (acons (mb (acons (evar 6) anil) fun ds => call0 f_law_made (ds ++ [])) (acons (mb (acons (evar 7) (acons (evar 8) anil)) fun ds => callI "Rule" f_Rule__init (ds ++ [])) anil))) (sfor (mb (acons (mr (D.int 3)) anil) drng1) (gname 4) m_in)))))
def m_turn1 : M Fl := (sq (asg 3 (lcD (mb (acons (penc 1 (mb (acons (mr (D.int 7)) anil) (callP f_law_draw))) anil) drng1) (gname 13) (mr true) (penc 1 (mb anil (callP f_law_case))) [13])) m_rest)
theorem law_eq : m_law = sq (sfor (mb (acons (mr (D.int 12)) anil) drng1) (gname 2) m_turn1) (sret (mr (D.bl true))) := by
  unfold m_turn1 m_rest
  rfl
theorem in_p (t0 : Pn) (n : Int) (h : PnOk t0 n) (hn : n + 30 ≤ top40) (T : Tot) (hT : T.n0 < 3 ∧ T.n1 < 3 ∧ T.n2 < 3 ∧ T.n3 < 3) (p : Pl) (kr ko lr lo : List K3) (hr : ∀ k, k ∈ lr ↔ k ∈ kr) (ho : ∀ k, k ∈ lo ↔ k ∈ ko) (w : Nat) (x2 x3 x11 x12 x13 x14 x15 : Sl) :
    (m_in [.un, .pn, x2, x3, .im (.int w), .im (eTot T), .im (plT p), .im (.lst (kr.map eK)), .im (.lst (ko.map eK)), .im (plO p), .im (ruO lr lo), x11, x12, x13, x14, x15] t0).post
      (fun fl ρ t => fl = .nx ∧ ∃ x11 x12 x13 x14 x15, ρ = [.un, .pn, x2, x3, .im (.int w), .im (eTot T), .im (plT p), .im (.lst (kr.map eK)), .im (.lst (ko.map eK)), .im (plO p), .im (ruO lr lo), x11, x12, x13, x14, x15] ∧ Nx t0 t 18) noX := by
  unfold m_in
  refine p_sq <| p_spar <| p_acons <| p_penc rfl <| p_mb <| p_acons <| p_var (d := eTot T) rfl <| p_anil <| p_callP <| post_mono (cells_p t0 n h hn T hT.1 hT.2.1 hT.2.2.1) (fun d _ t1 hd => ?_) fun _ _ _ _ h => h
  obtain ⟨c0, c1, c2, rfl, n1⟩ := hd
  refine p_acons <| p_e2 <| p_var (d := .int w) rfl <| p_mr ?_
  rw [deq_I]
  refine p_ok <| p_anil ⟨_, _, rfl, p_nx ?_⟩
  generalize hr0 : decide ((w : Int) = 0) = r
  show (sq _ _ [.un, .pn, x2, x3, .im (.int w), .im (eTot T), .im (plT p), .im (.lst (kr.map eK)), .im (.lst (ko.map eK)), .im (plO p), .im (ruO lr lo), x11, x12, x13, .im (.tup [eC c0, eC c1, eC c2]), .im (.bl r)] t1).post _ _
  have lc := law_closed_ok p lr lo (if r = true then kr else ko) T hT.2.2.2 c0 c1 c2 r (fun k => by cases r <;> simp [hr, ho])
  have cl := closed_ok p lr lo T hT.2.2.2 c0 c1 c2 r
  generalize closedS p lr lo T c0 c1 c2 r = R at *
  have ek : (if r = true then Sl.im (.lst (kr.map eK)) else .im (.lst (ko.map eK))) = Sl.im (.lst ((if r = true then kr else ko).map eK)) := by cases r <;> rfl
  refine p_sq <| p_asg <| p_mb <| p_acons <| p_var (d := plT p) rfl <| p_acons <| p_eif <| p_btru <| p_var (d := .bl r) rfl ⟨r, rfl, ?_⟩
  have step : ∀ {P : D → List Sl → Pn → Prop} {ρ : List Sl}, ρ[7]? = some (.im (.lst (kr.map eK))) → ρ[8]? = some (.im (.lst (ko.map eK))) → P (.lst ((if r = true then kr else ko).map eK)) ρ t1 → ((if r = true then evar 7 ρ t1 else evar 8 ρ t1)).post P noX := fun {P ρ} h7 h8 q => by
    cases r with
    | true => exact p_var h7 q
    | false => exact p_var h8 q
  refine step rfl rfl <| p_acons <| p_var (d := eTot T) rfl <| p_acons <| p_var (d := .tup [eC c0, eC c1, eC c2]) rfl <| p_acons <| p_var (d := .bl r) rfl <| p_anil ?_
  refine p_call0 lc <| p_nx ?_
  refine p_sq <| p_asg <| p_eif <| p_asB <| p_e2 <| p_var (d := .int w) rfl <| p_mr ?_
  rw [deq_I]
  refine p_ok ⟨_, rfl, ?_⟩
  have fin : ∀ ρ, ρ = [.un, .pn, x2, x3, .im (.int w), .im (eTot T), .im (plT p), .im (.lst (kr.map eK)), .im (.lst (ko.map eK)), .im (plO p), .im (ruO lr lo), .im (eOC R), .im (eOC R), x13, .im (.tup [eC c0, eC c1, eC c2]), .im (.bl r)] →
      (sif (bor (asB (e2 dne (evar 12) (evar 11))) (band (asB (enno (evar 11))) (bnot (btru (mb (acons (evar 12) (acons (e2 dadd (e2 drep (elst (acons (mr (D.bl true)) anil)) (mr (D.int 8))) (elst (acons (mr (D.bl false)) anil))) anil)) fun ds => call0 f_law_kinds_right (ds ++ [])))))) (sret (mr (D.bl false))) (mr Fl.nx) ρ t1).post
        (fun fl ρ t => fl = .nx ∧ ∃ x11 x12 x13 x14 x15, ρ = [.un, .pn, x2, x3, .im (.int w), .im (eTot T), .im (plT p), .im (.lst (kr.map eK)), .im (.lst (ko.map eK)), .im (plO p), .im (ruO lr lo), x11, x12, x13, x14, x15] ∧ Nx t0 t 18) noX := fun ρ e => by
    have e11 : ρ[11]? = some (.im (eOC R)) := by rw [e]; rfl
    have e12 : ρ[12]? = some (.im (eOC R)) := by rw [e]; rfl
    refine p_sif <| p_bor <| p_asB <| p_e2 <| p_var e12 <| p_var e11 ?_
    rw [dne_oc]
    refine p_ok ⟨false, rfl, ?_⟩
    rw [if_neg Bool.false_ne_true]
    refine p_band <| p_asB <| p_enno <| p_var e11 ⟨_, rfl, ?_⟩
    rcases R with _ | c
    · rw [if_neg (by decide), if_neg Bool.false_ne_true]
      exact p_mr ⟨rfl, _, _, _, _, _, e, n1⟩
    · rw [if_pos (show (!DL.isNon (eOC (some c))) = true from rfl)]
      refine p_bnot <| p_btru <| p_mb <| p_acons <| p_var e12 <| p_acons <| p_eq (way8 _ _) <| p_ok <| p_anil <| p_call0 (kinds_C c) ⟨true, rfl, ?_⟩
      rw [if_neg (by decide)]
      exact p_mr ⟨rfl, _, _, _, _, _, e, n1⟩
  by_cases hw : (w : Int) = 1
  · rw [if_pos (by simpa using hw)]
    have r0 : r = false := by rw [← hr0, hw]; rfl
    subst r0
    refine p_mb <| p_acons <| p_var (d := plO p) rfl <| p_acons <| p_var (d := ruO lr lo) rfl <| p_acons <| p_var (d := eTot T) rfl <| p_acons <| p_var (d := .tup [eC c0, eC c1, eC c2]) rfl <| p_anil ?_
    exact p_call0 cl <| p_nx <| fin _ rfl
  · rw [if_neg (by simpa using hw)]
    refine p_mb <| p_acons <| p_var (d := plO p) rfl <| p_acons <| p_var (d := ruO lr lo) rfl <| p_acons <| p_var (d := eTot T) rfl <| p_acons <| p_var (d := .tup [eC c0, eC c1, eC c2]) rfl <| p_acons <| p_var (d := .bl r) rfl <| p_anil ?_
    exact p_call0 cl <| p_nx <| fin _ rfl
theorem rest_p (t0 : Pn) (n : Int) (h : PnOk t0 n) (hn : n + 200 ≤ top40) (cs : List Cs) (hcs : cs.length ≤ 100) (t2 : Pn) (nx : Nx t0 t2 64) (x2 x4 x5 x6 x7 x8 x9 x10 x11 x12 x13 x14 x15 : Sl) :
    (m_rest [.un, .pn, x2, .im (.lst (cs.map eCs)), x4, x5, x6, x7, x8, x9, x10, x11, x12, x13, x14, x15] t2).post (fun fl ρ t => fl = .nx ∧ ∃ ys : List Sl, ρ = .un :: .pn :: ys ∧ ys.length = 14 ∧ Nx t0 t 200) noX := by
  unfold m_rest
  generalize hF : f_law_sums_so = F
  have es0 : ∃ ρ', F [.lst (cs.map eCs)] t2 = .ok (.bl true) ρ' t2 := by
    rw [← hF]
    exact sums_so_ok cs hcs t2
  clear hF
  obtain ⟨ρs, es⟩ := es0
  refine p_sq <| p_sif <| p_bnot <| p_btru <| p_penc rfl <| p_mb <| p_acons <| p_var (d := .lst (cs.map eCs)) rfl <| p_anil <| p_callP ?_
  rw [es]
  refine p_ok ⟨true, rfl, ?_⟩
  rw [if_neg (by decide)]
  refine p_mr <| p_nx ?_
  refine p_sq <| p_spar <| p_acons <| p_mb <| p_acons <| p_var (d := .lst (cs.map eCs)) rfl <| p_anil <| p_call0 (law_sum_of_ok cs hcs) <| p_acons <| p_penc rfl <| p_mb <| p_anil <| p_callP <| post_mono (plan_p t2 (n + 64) (h.at nx (by omega)) (by omega)) (fun d _ t3 hd => ?_) fun _ _ _ _ h => h
  obtain ⟨p, rfl, n3⟩ := hd
  have n03 := nx.trans n3
  refine p_anil ⟨_, _, rfl, p_nx ?_⟩
  refine p_sq <| p_spar <| p_acons <| p_penc rfl <| p_mb <| p_anil <| p_callP <| post_mono (kinds_p t3 (n + 84) (h.at n03 (by omega)) (by omega)) (fun d _ t4 hd => ?_) fun _ _ _ _ h => h
  obtain ⟨kr, rfl, s1, n4⟩ := hd
  have n04 := n03.trans n4
  refine p_acons <| p_penc rfl <| p_mb <| p_anil <| p_callP <| post_mono (kinds_p t4 (n + 97) (h.at n04 (by omega)) (by omega)) (fun d _ t5 hd => ?_) fun _ _ _ _ h => h
  obtain ⟨ko, rfl, s2, n5⟩ := hd
  have n05 := n04.trans n5
  refine p_anil ⟨_, _, rfl, p_nx ?_⟩
  obtain ⟨a1, a2, a3⟩ := sub_nodup s1
  obtain ⟨b1, b2, b3⟩ := sub_nodup s2
  obtain ⟨lr, lo, hr, ho, er⟩ := rule_init_ok kr ko a1 a2 (by omega) b1 b2 (by omega)
  refine p_sq <| p_spar <| p_acons <| p_mb <| p_acons <| p_var (d := plT p) rfl <| p_anil <| p_call0 (law_made_ok p) <| p_acons <| p_mb <| p_acons <| p_var (d := .lst (kr.map eK)) rfl <| p_acons <| p_var (d := .lst (ko.map eK)) rfl <| p_anil <| p_eq (er _ _) <| p_ok <| p_anil ⟨_, _, rfl, p_nx ?_⟩
  show (sfor _ _ _ [.un, .pn, x2, .im (.lst (cs.map eCs)), x4, .im (eTot (sumS cs)), .im (plT p), .im (.lst (kr.map eK)), .im (.lst (ko.map eK)), .im (plO p), .im (ruO lr lo), x11, x12, x13, x14, x15] t5).post _ _
  refine p_for (ds := rng 0 3) (I := fun w ρ t => ∃ x4 x11 x12 x13 x14 x15, ρ = [.un, .pn, x2, .im (.lst (cs.map eCs)), x4, .im (eTot (sumS cs)), .im (plT p), .im (.lst (kr.map eK)), .im (.lst (ko.map eK)), .im (plO p), .im (ruO lr lo), x11, x12, x13, x14, x15] ∧ Nx t0 t (110 + 18 * w)) rfl
    ⟨x4, x11, x12, x13, x14, x15, rfl, n05.le (by decide)⟩ (fun w d ρ t e ⟨x4, x11, x12, x13, x14, x15, er, nx6⟩ => ?_) fun ρ t ⟨x4, x11, x12, x13, x14, x15, er, nx6⟩ => ⟨rfl, _, er, rfl, nx6.le (by show 110 + 18 * ((3 : Nat) : Int) ≤ 200; decide)⟩
  subst er
  obtain ⟨w3, rfl⟩ := three e
  refine p_mb <| p_gname <| post_mono (in_p t (n + (110 + 18 * w)) (h.at nx6 (by omega)) (by omega) (sumS cs) (sum_lt cs) p kr ko lr lo hr ho w x2 (.im (.lst (cs.map eCs))) x11 x12 x13 x14 x15) (fun fl ρ t7 ⟨e, y11, y12, y13, y14, y15, er, n7⟩ => ?_) fun _ _ _ _ h => h
  exact ⟨e, _, y11, y12, y13, y14, y15, er, (nx6.trans n7).le (by omega)⟩
theorem rng_len (n : Nat) : (rng 0 n).length = n := by unfold rng; rw [List.length_map, List.length_range]
theorem drng_j (j : Int) (h0 : 0 ≤ j) (h1 : j < 7) (ρ : List Sl) (t : Pn) : ∃ m : Nat, m < 7 ∧ drng1 [.int j] ρ t = .ok (rng 0 m) ρ t := by
  have hb : -(2 ^ 62) ≤ j ∧ j < 2 ^ 62 := by omega
  refine ⟨j.toNat, by omega, ?_⟩
  simp only [drng1]
  rw [if_pos hb]; rfl
theorem cases_p (t0 : Pn) (n : Int) (h : PnOk t0 n) (hn : n + 200 ≤ top40) (ρ : List Sl) (h1 : ρ[1]? = some .pn) (h2 : ((unS ρ [13]).set 13 (.im .non))[1]? = some .pn) (hd : ∀ d, ((unS ρ [13]).set 13 (.im d))[1]? = some .pn) (P : D → List Sl → Pn → Prop)
    (q : ∀ (cs : List Cs) (t2 : Pn), cs.length ≤ 100 → Nx t0 t2 64 → P (.lst (cs.map eCs)) ρ t2) :
    (lcD (mb (acons (penc 1 (mb (acons (mr (D.int 7)) anil) (callP f_law_draw))) anil) drng1) (gname 13) (mr true) (penc 1 (mb anil (callP f_law_case))) [13] ρ t0).post P noX := by
  refine p_mb <| p_mb <| p_acons <| draw_p h1 (h.le (by omega)) (by decide) (by decide) fun j t1 j0 j1 n1 => p_anil ?_
  obtain ⟨m, hm, em⟩ := drng_j j j0 j1 ρ t1
  refine p_eq em <| p_ok ?_
  refine p_b <| p_lcGo (I := fun i acc t' => ∃ cs : List Cs, acc = cs.map eCs ∧ cs.length = i ∧ Nx t0 t' (1 + 9 * i)) (by rw [rng_len]; show 0 + m ≤ 1000000; omega) ⟨[], rfl, rfl, n1.le (by decide)⟩ ?_ ?_
  · intro i d acc t2 e hI
    obtain ⟨cs, h1, h2, nx⟩ := hI
    have hi : i < m := by rw [← rng_len m]; exact (List.getElem?_eq_some_iff.mp e).1
    refine p_gname <| p_mr ?_
    rw [if_pos rfl]
    refine p_penc (hd d) <| p_mb <| p_anil <| p_callP <| post_mono (case_p t2 (n + (1 + 9 * i)) (h.at nx (by omega)) (by omega)) (fun d _ t3 hd => ?_) fun _ _ _ _ h => h
    obtain ⟨c, rfl, n3⟩ := hd
    exact ⟨cs ++ [c], by rw [h1, List.map_append]; rfl, by rw [List.length_append, h2]; rfl, (nx.trans n3).le (by omega)⟩
  · intro acc t2 hI
    rw [rng_len] at hI
    obtain ⟨cs, h1, h2, nx⟩ := hI
    subst h1
    exact q cs t2 (by omega) (nx.le (by omega))
theorem turn1_p (t0 : Pn) (n : Int) (h : PnOk t0 n) (hn : n + 200 ≤ top40) (x2 x3 x4 x5 x6 x7 x8 x9 x10 x11 x12 x13 x14 x15 : Sl) :
    (m_turn1 [.un, .pn, x2, x3, x4, x5, x6, x7, x8, x9, x10, x11, x12, x13, x14, x15] t0).post (fun fl ρ t => fl = .nx ∧ ∃ ys : List Sl, ρ = .un :: .pn :: ys ∧ ys.length = 14 ∧ Nx t0 t 200) noX := by
  unfold m_turn1
  refine p_sq <| p_asg <| cases_p t0 n h hn _ rfl rfl (fun _ => rfl) _ fun cs t2 hcs nx => p_nx ?_
  exact rest_p t0 n h hn cs hcs t2 nx x2 x4 x5 x6 x7 x8 x9 x10 x11 x12 x13 x14 x15
theorem hM : ∀ ns : List Int, ns.length ≤ 63 → (m_law (rho0 N_law.length) ⟨ns, 0, 0⟩).post (fun fl _ _ => fl = .rt (.bl true)) noX := fun ns hns => by
  rw [law_eq]
  have h0 : PnOk ⟨ns, 0, 0⟩ 0 := ⟨Int.le_refl _, Int.le_refl _, Int.le_refl _, hns⟩
  show (sq _ _ (.un :: .pn :: List.replicate 14 .un) _).post _ _
  refine p_sq <| p_for (ds := rng 0 12) (I := fun i ρ t => ∃ ys : List Sl, ρ = .un :: .pn :: ys ∧ ys.length = 14 ∧ Nx ⟨ns, 0, 0⟩ t (200 * i)) rfl ⟨_, rfl, rfl, (Nx.refl (Int.le_refl _)).le (by decide)⟩ (fun i d ρ t e ⟨ys, er, hl, nx⟩ => ?_) fun ρ t ⟨ys, er, hl, nx⟩ => ?_
  · subst er
    have hi : i < 12 := (List.getElem?_eq_some_iff.mp e).1
    match ys, hl with
    | [x2, x3, x4, x5, x6, x7, x8, x9, x10, x11, x12, x13, x14, x15], _ =>
    refine p_mb <| p_gname ?_
    refine post_mono (turn1_p t (200 * i) ((h0.at nx (by omega))) (by unfold top40; omega) (.im d) x3 x4 x5 x6 x7 x8 x9 x10 x11 x12 x13 x14 x15) (fun fl ρ t1 ⟨e, zs, er, hz, n1⟩ => ⟨e, zs, er, hz, (nx.trans n1).le (by omega)⟩) fun _ _ _ _ h => h
  · refine p_nx <| p_sret <| p_mr rfl
end K61

set_option Elab.async false
set_option linter.all false
set_option maxRecDepth 100000
set_option maxHeartbeats 1000000
namespace DL
open PySem PySem.Spec PyProof.Rows L2
/-! ### heads: a hook that sees functions behind properties, too -/
/-- what lies at a as a function -/
def fnA (K : PySem.W.Frag) (a : Addr) : He.FnW := match K.lookup a with
  | some ⟨_, _, .func fd, _⟩ => some (fd.name, fd.qualname, fd.params, fd.body, fd.scope, fd.globals, fd.closure, fd.builtins)
  | _ => none
/-- the property's object, its getter -/
def prP (K : PySem.W.Frag) (x f : Str) : Addr := match PySem.W.findIn K (.ref (He.ga K x)) f with
  | some (some (.ref p)) => p
  | _ => 0
def prG (K : PySem.W.Frag) (x f : Str) : Addr := match PySem.W.recIn K (prP K x f) "property" with
  | some (.ref q :: _) => q
  | _ => 0
def prB (K : PySem.W.Frag) (x f qual : Str) : Bool := He.eqO (PySem.W.findIn K (.ref (He.ga K x)) f) (some (some (.ref (prP K x f)))) &&
  (He.eqO (PySem.W.specialIn K (.ref (prP K x f)) "__get__") (some (some (.builtin "property.__get__"))) && (decide (PySem.W.takesIn K (.ref (prP K x f)) = some true) &&
  ((match PySem.W.recIn K (prP K x f) "property" with
    | some (.ref q :: _) => decide (q = prG K x f)
    | _ => false) && (PySem.W.keepIn K (.ref (prG K x f)) &&
  (match K.lookup (prG K x f) with
    | some ⟨_, _, .func fd, _⟩ => PySem.W.codeIn K fd.code qual && (He.dflB K fd.defaults [] && He.kwdB K fd.kwdefaults [])
    | _ => false)))))
theorem prB_ok {K : PySem.W.Frag} {x f qual name : Str} {params : Arguments} {body : List Stmt} {scope : Scope} (h : prB K x f qual = true) (e : fnA K (prG K x f) = some (name, qual, params, .stmts body, scope, mainGlobals, [], builtinsNs)) :
    PropOf K (He.ga K x) f (prP K x f) (prG K x f) ∧ ∃ fd, FunD K name qual params body scope [] [] (prG K x f) fd := by
  unfold prB at h
  rw [Bool.and_eq_true, Bool.and_eq_true, Bool.and_eq_true, Bool.and_eq_true, Bool.and_eq_true] at h
  obtain ⟨h1, h2, h3, h4, h5, h6⟩ := h
  refine ⟨⟨He.eqO_ok h1, He.eqO_ok h2, of_decide_eq_true h3, ?_⟩, ?_⟩
  · cases er : PySem.W.recIn K (prP K x f) "property" with
    | none => rw [er] at h4; cases h4
    | some l =>
      rw [er] at h4
      cases l with
      | nil => cases h4
      | cons v r =>
        cases v with
        | ref q =>
          cases (of_decide_eq_true h4)
          exact ⟨r, rfl⟩
        | _ => cases h4
  · unfold fnA at e
    cases el : K.lookup (prG K x f) with
    | none => rw [el] at e; cases e
    | some o =>
      rw [el] at e h6
      obtain ⟨oc, od, dt, osl⟩ := o
      cases dt with
      | func fd =>
        simp only [Option.some.injEq, Prod.mk.injEq] at e
        obtain ⟨e1, e2, e3, e4, e5, e6, e7, e8⟩ := e
        rw [Bool.and_eq_true, Bool.and_eq_true] at h6
        obtain ⟨g1, g2, g3⟩ := h6
        obtain ⟨nm, qn, pm, bd, sc, gl, cl, df, kd, doc, pmm, an, cd, ct, bu⟩ := fd
        simp only at e1 e2 e3 e4 e5 e6 e7 e8
        subst e1 e2 e3 e4 e5 e6 e7 e8
        exact ⟨_, ⟨⟨oc, od, df, kd, doc, pmm, an, cd, ct, osl, rfl, el, g1, He.dflB_ok g2, He.kwdB_ok g3⟩, h5⟩⟩
      | _ => cases e
/-- the hook -/
def hookY (n : Nat) (fa : List He.Fa) (fn : List He.DefD) (ts : List He.Tab) (tf : List He.Defn) (ex : PySem.W.Frag → Bool) (ga : List (PySem.W.Frag → Addr)) (gv : List He.FnW) : PySem.W.Hook where
  α := He.AlX × List He.FnW
  obs := fun s => (He.obsX n fa fn ts tf ex s.heap.get?, ga.map fun a => fnA (He.frT s.heap.get? (He.asD s.heap.get? n)) (a (He.frT s.heap.get? (He.asD s.heap.get? n))))
  val := fun w => (He.valX fn ts w, gv)
  says := fun w h => ∃ K : PySem.W.Frag, K.In h ∧ He.SaysX fa fn ts tf ex w h K ∧ (ga.map fun a => fnA K (a K)) = gv
  of := fun w s e => ⟨_, He.frT_in, He.saysX_of (congrArg Prod.fst e), congrArg Prod.snd e⟩
  keeps := fun w h h' ⟨K, h1, h2, h3⟩ k => ⟨K, PySem.W.Frag.In.keeps h1 k, ⟨h2.t, h2.more, h2.hd, h2.out, fun p hp => k _ _ (h2.empty p hp)⟩, h3⟩
def obY (n : Nat) (fa : List He.Fa) (fn : List He.DefD) (ts : List He.Tab) (tf : List He.Defn) (ex : PySem.W.Frag → Bool) (ga : List (PySem.W.Frag → Addr)) (g : Addr → Option Obj) : He.AlX × List He.FnW :=
  (He.obsX n fa fn ts tf ex g, ga.map fun a => fnA (He.frT g (He.asD g n)) (a (He.frT g (He.asD g n))))
theorem obY_eq {n : Nat} {fa : List He.Fa} {fn : List He.DefD} {ts : List He.Tab} {tf : List He.Defn} {ex : PySem.W.Frag → Bool} {ga : List (PySem.W.Frag → Addr)} {gv : List He.FnW} {g : Addr → Option Obj} {s : Shared} (h : ∀ a, g a = s.heap.get? a) :
    obY n fa fn ts tf ex ga g = (hookY n fa fn ts tf ex ga gv).obs s := by
  have e : g = s.heap.get? := funext h
  subst e
  rfl
/-! ### facts of the module -/
def kTupB (K : PySem.W.Frag) (x : Str) (ds : List D) : Bool := match K.lookup (He.ga K x) with
  | some ⟨.type T, none, .seq its _, _⟩ => decide (T = "tuple") && decide (its.size ≤ sizeLine) && all2 (kLd 4 K) its.toList ds
  | _ => false
theorem kTupB_ok {c : Ct} {x : Str} {ds : List D} (hm : c.mg x = some (.ref (He.ga c.K x))) (h : kTupB c.K x ds = true) : KTup c x ds := by
  unfold kTupB at h
  split at h
  · rename_i T its m osl q
    rw [Bool.and_eq_true, Bool.and_eq_true] at h
    obtain ⟨⟨h1, h2⟩, h3⟩ := h
    obtain ⟨xs, h4, h5⟩ := all2_ok (kLd_ok 4) _ _ h3
    exact ⟨_, _, hm, q, congrArg Value.type (of_decide_eq_true h1), rfl, xs, fun H => .inr ⟨_, its, m, q, congrArg Value.type (of_decide_eq_true h1), rfl, of_decide_eq_true h2, h4⟩, h5⟩
  · cases h
theorem kd_ok {c : Ct} {x : Str} {d : D} (hm : c.mg x = some (.ref (He.ga c.K x))) (h : kLd 5 c.K (.ref (He.ga c.K x)) d = true) : KD c x d := by
  obtain ⟨v, h1, h2⟩ := kLd_ok 5 _ _ h
  exact ⟨_, v, hm, h1, h2⟩
theorem fld_ok {c : Ct} {n f : Str} (hm : c.mg n = some (.ref (He.ga c.K n))) (h1 : Cls c.K (He.ga c.K n)) (h2 : NoAttr c.K (He.ga c.K n) f) : FldOk c n f := fun C hC => by
  unfold ClsOf at hC
  rw [hm] at hC
  cases hC
  exact ⟨h1, h2⟩
end DL

set_option Elab.async false
set_option linter.all false
set_option maxRecDepth 100000
set_option maxHeartbeats 0
namespace K61
open PySem PySem.Spec PyProof.Rows L2 DL
def hfn : List He.DefD := [⟨("_law_pen_of", none), "_law_pen_of", "_law_pen_of", defArgs s_penOf, defBody s_penOf, defScope s_penOf, [], []⟩, ⟨("next_step", none), "next_step", "next_step", defArgs s_next_step, defBody s_next_step, defScope s_next_step, [], []⟩, ⟨("merged_value", none), "merged_value", "merged_value", defArgs s_merged_value, defBody s_merged_value, defScope s_merged_value, [], []⟩, ⟨("merged_cell", none), "merged_cell", "merged_cell", defArgs s_merged_cell, defBody s_merged_cell, defScope s_merged_cell, [], []⟩, ⟨("is_left_out", none), "is_left_out", "is_left_out", defArgs s_is_left_out, defBody s_is_left_out, defScope s_is_left_out, [], []⟩, ⟨("told_flag", none), "told_flag", "told_flag", defArgs s_told_flag, defBody s_told_flag, defScope s_told_flag, [], []⟩, ⟨("due_values", none), "due_values", "due_values", defArgs s_due_values, defBody s_due_values, defScope s_due_values, [], []⟩, ⟨("sum_with", none), "sum_with", "sum_with", defArgs s_sum_with, defBody s_sum_with, defScope s_sum_with, [], []⟩, ⟨("is_same", none), "is_same", "is_same", defArgs s_is_same, defBody s_is_same, defScope s_is_same, [], []⟩, ⟨("value_in", none), "value_in", "value_in", defArgs s_value_in, defBody s_value_in, defScope s_value_in, [], []⟩, ⟨("is_one_of", none), "is_one_of", "is_one_of", defArgs s_is_one_of, defBody s_is_one_of, defScope s_is_one_of, [], []⟩, ⟨("are_flags", none), "are_flags", "are_flags", defArgs s_are_flags, defBody s_are_flags, defScope s_are_flags, [], []⟩, ⟨("Plan", some "__init__"), "__init__", "Plan.__init__", defArgs s_Plan__init, defBody s_Plan__init, defScope s_Plan__init, [.non], []⟩, ⟨("is_integer", none), "is_integer", "is_integer", defArgs s_is_integer, defBody s_is_integer, defScope s_is_integer, [], []⟩, ⟨("is_kind", none), "is_kind", "is_kind", defArgs s_is_kind, defBody s_is_kind, defScope s_is_kind, [], []⟩, ⟨("checked_kinds", none), "checked_kinds", "checked_kinds", defArgs s_checked_kinds, defBody s_checked_kinds, defScope s_checked_kinds, [], []⟩, ⟨("Rule", some "__init__"), "__init__", "Rule.__init__", defArgs s_Rule__init, defBody s_Rule__init, defScope s_Rule__init, [], []⟩, ⟨("Caser", some "__init__"), "__init__", "Caser.__init__", defArgs s_Caser__init, defBody s_Caser__init, defScope s_Caser__init, [], []⟩, ⟨("Caser", some "is_let"), "is_let", "Caser.is_let", defArgs s_Caser_is_let, defBody s_Caser_is_let, defScope s_Caser_is_let, [], []⟩, ⟨("Caser", some "outcome_on"), "outcome_on", "Caser.outcome_on", defArgs s_Caser_outcome_on, defBody s_Caser_outcome_on, defScope s_Caser_outcome_on, [], []⟩, ⟨("Caser", some "case"), "case", "Caser.case", defArgs s_Caser_case, defBody s_Caser_case, defScope s_Caser_case, [], []⟩, ⟨("empty_sum", none), "empty_sum", "empty_sum", defArgs s_empty_sum, defBody s_empty_sum, defScope s_empty_sum, [], []⟩, ⟨("added", none), "added", "added", defArgs s_added, defBody s_added, defScope s_added, [], []⟩, ⟨("closed", none), "closed", "closed", defArgs s_closed, defBody s_closed, defScope s_closed, [.bl false], []⟩, ⟨("_law_draw", none), "_law_draw", "_law_draw", defArgs s_law_draw, defBody s_law_draw, defScope s_law_draw, [], []⟩, ⟨("_law_pick", none), "_law_pick", "_law_pick", defArgs s_law_pick, defBody s_law_pick, defScope s_law_pick, [], []⟩, ⟨("_law_plan", none), "_law_plan", "_law_plan", defArgs s_law_plan, defBody s_law_plan, defScope s_law_plan, [], []⟩, ⟨("_law_made", none), "_law_made", "_law_made", defArgs s_law_made, defBody s_law_made, defScope s_law_made, [], []⟩, ⟨("_law_case", none), "_law_case", "_law_case", defArgs s_law_case, defBody s_law_case, defScope s_law_case, [], []⟩, ⟨("_law_sum_of", none), "_law_sum_of", "_law_sum_of", defArgs s_law_sum_of, defBody s_law_sum_of, defScope s_law_sum_of, [], []⟩, ⟨("_law_kinds", none), "_law_kinds", "_law_kinds", defArgs s_law_kinds, defBody s_law_kinds, defScope s_law_kinds, [], []⟩, ⟨("_law_some_cells", none), "_law_some_cells", "_law_some_cells", defArgs s_law_some_cells, defBody s_law_some_cells, defScope s_law_some_cells, [], []⟩, ⟨("_law_value", none), "_law_value", "_law_value", defArgs s_law_value, defBody s_law_value, defScope s_law_value, [], []⟩, ⟨("_law_merged_value", none), "_law_merged_value", "_law_merged_value", defArgs s_law_merged_value, defBody s_law_merged_value, defScope s_law_merged_value, [], []⟩, ⟨("_law_due", none), "_law_due", "_law_due", defArgs s_law_due, defBody s_law_due, defScope s_law_due, [], []⟩, ⟨("_law_outcome", none), "_law_outcome", "_law_outcome", defArgs s_law_outcome, defBody s_law_outcome, defScope s_law_outcome, [], []⟩, ⟨("_law_closed", none), "_law_closed", "_law_closed", defArgs s_law_closed, defBody s_law_closed, defScope s_law_closed, [], []⟩, ⟨("_law_kinds_right", none), "_law_kinds_right", "_law_kinds_right", defArgs s_law_kinds_right, defBody s_law_kinds_right, defScope s_law_kinds_right, [], []⟩, ⟨("_law_sums_so", none), "_law_sums_so", "_law_sums_so", defArgs s_law_sums_so, defBody s_law_sums_so, defScope s_law_sums_so, [], []⟩, ⟨("law", none), "law", "law", defArgs s_law, defBody s_law, defScope s_law, [], []⟩]
def hfa : List He.Fa := [.glo "_law_pen_of", .glo "next_step", .glo "merged_value", .glo "merged_cell", .glo "is_left_out", .glo "told_flag", .glo "due_values", .glo "sum_with", .glo "is_same", .glo "value_in", .glo "is_one_of", .glo "are_flags", .glo "is_integer", .glo "is_kind", .glo "checked_kinds", .glo "empty_sum", .glo "added", .glo "closed", .glo "_law_draw", .glo "_law_pick", .glo "_law_plan", .glo "_law_made", .glo "_law_case", .glo "_law_sum_of", .glo "_law_kinds", .glo "_law_some_cells", .glo "_law_value", .glo "_law_merged_value", .glo "_law_due", .glo "_law_outcome", .glo "_law_closed", .glo "_law_kinds_right", .glo "_law_sums_so", .glo "law", .glo "Caser", .glo "Plan", .glo "Rule", .glo "BARE", .glo "WORSTS", .glo "EMPTY", .glo "GONE", .glo "ALIKE", .glo "UNLIKE", .glo "FLAG_KEYS", .free "abs", .free "all", .free "any", .free "bool", .free "dict", .free "enumerate", .free "int", .free "isinstance", .free "len", .free "list", .free "min", .free "range", .free "sorted", .free "str", .free "tuple", .free "zip", .cls "Caser", .cls "Plan", .cls "Rule", .noat "Plan" "gone", .noat "Plan" "alike", .noat "Plan" "unlike", .noat "Plan" "tidy", .noat "Plan" "_told_flags", .noat "Rule" "root", .noat "Rule" "others", .noat "Caser" "plan", .noat "Caser" "told_flags", .noat "Caser" "rule", .noat "Caser" "triples", .mkr "Plan", .mkr "Rule", .mkr "Caser", .meth "Caser" "is_let", .meth "Caser" "outcome_on", .meth "Caser" "case"]
def hloose : List Str := (["_wall", "BARE", "next_step", "merged_cell", "merged_value", "is_left_out", "told_flag", "due_values", "WORSTS", "EMPTY", "sum_with", "is_same", "value_in", "Caser", "copied", "ShedError", "BadKind", "BadPlan", "is_integer", "empty_sum", "added", "closed", "Rule", "is_kind", "checked_kinds", "GONE", "ALIKE", "UNLIKE", "FLAG_KEYS", "Plan"] : List Str) ++ (["is_one_of", "are_flags", "_law_pen_of", "_law_draw", "_law_pick", "_law_plan", "_law_made", "_law_case", "_law_sum_of", "_law_kinds", "_law_some_cells", "_law_value", "_law_merged_value", "_law_due", "_law_outcome", "_law_closed", "_law_kinds_right", "_law_sums_so"] : List Str)
def hex (K : PySem.W.Frag) : Bool := kLd 5 K (.ref (He.ga K "BARE")) d_BARE && (kLd 5 K (.ref (He.ga K "WORSTS")) d_WORSTS && (kLd 5 K (.ref (He.ga K "EMPTY")) d_EMPTY && (kLd 5 K (.ref (He.ga K "GONE")) d_GONE && (kLd 5 K (.ref (He.ga K "ALIKE")) d_ALIKE && (kLd 5 K (.ref (He.ga K "UNLIKE")) d_UNLIKE && (kLd 5 K (.ref (He.ga K "FLAG_KEYS")) d_FLAG_KEYS && (kTupB K "WORSTS" dl_WORSTS && (prB K "Plan" "flags" "Plan.flags"))))))))
def hga : List (PySem.W.Frag → Addr) := [fun K => prG K "Plan" "flags"]
def hgv : List He.FnW := [some ("flags", "Plan.flags", defArgs s_Plan_flags, .stmts (defBody s_Plan_flags), defScope s_Plan_flags, mainGlobals, [], builtinsNs)]
abbrev R : PySem.W.OpenRow := PySem.W.OpenLaw.row PySem.Challenge.rw_treeshed_k61_sums_and_cells
abbrev hk : PySem.W.Hook := hookY 6 hfa hfn [] [] hex hga hgv
def ob (s : PySem.W.SharedT) : He.AlX × List He.FnW := obY 6 hfa hfn [] [] hex hga (HandSHeadRun.getT s)
theorem ob_eq (s : PySem.W.SharedT) : ob s = hk.obs s.abs := obY_eq (HandSHeadRun.getT_eq s)
theorem runF (w : World) : HandSHeadRun.RunEq R (PySem.W.view R.prog [56]) hk ob 20000 hloose (w.withFollow "special-get-raises" false) := by
  intro os
  kernel_rfl
theorem runT (w : World) : HandSHeadRun.RunEq R (PySem.W.view R.prog [56]) hk ob 20000 hloose (w.withFollow "special-get-raises" true) := by
  intro os
  kernel_rfl
theorem run (w : World) : HandSHeadRun.RunEq R (PySem.W.view R.prog [56]) hk ob 20000 hloose w :=
  PySem.W.byRow2 "special-get-raises" (P := fun w => HandSHeadRun.RunEq R (PySem.W.view R.prog [56]) hk ob 20000 hloose w) runF runT w
end K61

set_option Elab.async false
set_option linter.all false
set_option maxRecDepth 100000
set_option maxHeartbeats 0
namespace K61
open PySem PySem.Spec PyProof.Rows L2 DL
theorem facts {P : Program} {w : World} {K : PySem.W.Frag} {h : Heap} {mg : Str → Option Value} {f : Addr} (X : K.In h) (G : h.Ns mainGlobals mg) (hfa0 : mg ("law" : Str) = some (.ref f)) (cx : He.SaysX hfa hfn [] [] hex w h K) (cg : (hga.map fun a => fnA K (a K)) = hgv)
    (hM : ∀ ns : List Int, ns.length ≤ 63 → (m_law (rho0 N_law.length) ⟨ns, 0, 0⟩).post (fun fl _ _ => fl = .rt (.bl true)) noX) :
    ∃ fd : FuncData, (∀ (s : Shared) (v : Value), BindsTo s fd ⟨[v], []⟩ [("_law_script", v)]) ∧ ∀ base : Heap, K.In base → base.Ns mainGlobals mg → FnOk P w K mg base CX0 6 f fd ["_law_script"] (spLaw K) := by
  have cc := cx.t.d
  let c : Ct := ⟨K, mg, w⟩
  obtain ⟨fd_penOf, F_penOf⟩ : ∃ fd, FunD c.K "_law_pen_of" "_law_pen_of" (defArgs s_penOf) (defBody s_penOf) (defScope s_penOf) [] [] (He.ga K "_law_pen_of") fd := cc.def_ 0 (d := hfn[0]) rfl
  obtain ⟨fd_next_step, F_next_step⟩ : ∃ fd, FunD c.K "next_step" "next_step" (defArgs s_next_step) (defBody s_next_step) (defScope s_next_step) [] [] (He.ga K "next_step") fd := cc.def_ 1 (d := hfn[1]) rfl
  obtain ⟨fd_merged_value, F_merged_value⟩ : ∃ fd, FunD c.K "merged_value" "merged_value" (defArgs s_merged_value) (defBody s_merged_value) (defScope s_merged_value) [] [] (He.ga K "merged_value") fd := cc.def_ 2 (d := hfn[2]) rfl
  obtain ⟨fd_merged_cell, F_merged_cell⟩ : ∃ fd, FunD c.K "merged_cell" "merged_cell" (defArgs s_merged_cell) (defBody s_merged_cell) (defScope s_merged_cell) [] [] (He.ga K "merged_cell") fd := cc.def_ 3 (d := hfn[3]) rfl
  obtain ⟨fd_is_left_out, F_is_left_out⟩ : ∃ fd, FunD c.K "is_left_out" "is_left_out" (defArgs s_is_left_out) (defBody s_is_left_out) (defScope s_is_left_out) [] [] (He.ga K "is_left_out") fd := cc.def_ 4 (d := hfn[4]) rfl
  obtain ⟨fd_told_flag, F_told_flag⟩ : ∃ fd, FunD c.K "told_flag" "told_flag" (defArgs s_told_flag) (defBody s_told_flag) (defScope s_told_flag) [] [] (He.ga K "told_flag") fd := cc.def_ 5 (d := hfn[5]) rfl
  obtain ⟨fd_due_values, F_due_values⟩ : ∃ fd, FunD c.K "due_values" "due_values" (defArgs s_due_values) (defBody s_due_values) (defScope s_due_values) [] [] (He.ga K "due_values") fd := cc.def_ 6 (d := hfn[6]) rfl
  obtain ⟨fd_sum_with, F_sum_with⟩ : ∃ fd, FunD c.K "sum_with" "sum_with" (defArgs s_sum_with) (defBody s_sum_with) (defScope s_sum_with) [] [] (He.ga K "sum_with") fd := cc.def_ 7 (d := hfn[7]) rfl
  obtain ⟨fd_is_same, F_is_same⟩ : ∃ fd, FunD c.K "is_same" "is_same" (defArgs s_is_same) (defBody s_is_same) (defScope s_is_same) [] [] (He.ga K "is_same") fd := cc.def_ 8 (d := hfn[8]) rfl
  obtain ⟨fd_value_in, F_value_in⟩ : ∃ fd, FunD c.K "value_in" "value_in" (defArgs s_value_in) (defBody s_value_in) (defScope s_value_in) [] [] (He.ga K "value_in") fd := cc.def_ 9 (d := hfn[9]) rfl
  obtain ⟨fd_is_one_of, F_is_one_of⟩ : ∃ fd, FunD c.K "is_one_of" "is_one_of" (defArgs s_is_one_of) (defBody s_is_one_of) (defScope s_is_one_of) [] [] (He.ga K "is_one_of") fd := cc.def_ 10 (d := hfn[10]) rfl
  obtain ⟨fd_are_flags, F_are_flags⟩ : ∃ fd, FunD c.K "are_flags" "are_flags" (defArgs s_are_flags) (defBody s_are_flags) (defScope s_are_flags) [] [] (He.ga K "are_flags") fd := cc.def_ 11 (d := hfn[11]) rfl
  obtain ⟨fd_Plan__init, F_Plan__init⟩ : ∃ fd, FunD c.K "__init__" "Plan.__init__" (defArgs s_Plan__init) (defBody s_Plan__init) (defScope s_Plan__init) [V.non] [] (He.ma K (He.ga K "Plan") "__init__") fd := cc.def_ 12 (d := hfn[12]) rfl
  obtain ⟨fd_is_integer, F_is_integer⟩ : ∃ fd, FunD c.K "is_integer" "is_integer" (defArgs s_is_integer) (defBody s_is_integer) (defScope s_is_integer) [] [] (He.ga K "is_integer") fd := cc.def_ 13 (d := hfn[13]) rfl
  obtain ⟨fd_is_kind, F_is_kind⟩ : ∃ fd, FunD c.K "is_kind" "is_kind" (defArgs s_is_kind) (defBody s_is_kind) (defScope s_is_kind) [] [] (He.ga K "is_kind") fd := cc.def_ 14 (d := hfn[14]) rfl
  obtain ⟨fd_checked_kinds, F_checked_kinds⟩ : ∃ fd, FunD c.K "checked_kinds" "checked_kinds" (defArgs s_checked_kinds) (defBody s_checked_kinds) (defScope s_checked_kinds) [] [] (He.ga K "checked_kinds") fd := cc.def_ 15 (d := hfn[15]) rfl
  obtain ⟨fd_Rule__init, F_Rule__init⟩ : ∃ fd, FunD c.K "__init__" "Rule.__init__" (defArgs s_Rule__init) (defBody s_Rule__init) (defScope s_Rule__init) [] [] (He.ma K (He.ga K "Rule") "__init__") fd := cc.def_ 16 (d := hfn[16]) rfl
  obtain ⟨fd_Caser__init, F_Caser__init⟩ : ∃ fd, FunD c.K "__init__" "Caser.__init__" (defArgs s_Caser__init) (defBody s_Caser__init) (defScope s_Caser__init) [] [] (He.ma K (He.ga K "Caser") "__init__") fd := cc.def_ 17 (d := hfn[17]) rfl
  obtain ⟨fd_Caser_is_let, F_Caser_is_let⟩ : ∃ fd, FunD c.K "is_let" "Caser.is_let" (defArgs s_Caser_is_let) (defBody s_Caser_is_let) (defScope s_Caser_is_let) [] [] (He.ma K (He.ga K "Caser") "is_let") fd := cc.def_ 18 (d := hfn[18]) rfl
  obtain ⟨fd_Caser_outcome_on, F_Caser_outcome_on⟩ : ∃ fd, FunD c.K "outcome_on" "Caser.outcome_on" (defArgs s_Caser_outcome_on) (defBody s_Caser_outcome_on) (defScope s_Caser_outcome_on) [] [] (He.ma K (He.ga K "Caser") "outcome_on") fd := cc.def_ 19 (d := hfn[19]) rfl
  obtain ⟨fd_Caser_case, F_Caser_case⟩ : ∃ fd, FunD c.K "case" "Caser.case" (defArgs s_Caser_case) (defBody s_Caser_case) (defScope s_Caser_case) [] [] (He.ma K (He.ga K "Caser") "case") fd := cc.def_ 20 (d := hfn[20]) rfl
  obtain ⟨fd_empty_sum, F_empty_sum⟩ : ∃ fd, FunD c.K "empty_sum" "empty_sum" (defArgs s_empty_sum) (defBody s_empty_sum) (defScope s_empty_sum) [] [] (He.ga K "empty_sum") fd := cc.def_ 21 (d := hfn[21]) rfl
  obtain ⟨fd_added, F_added⟩ : ∃ fd, FunD c.K "added" "added" (defArgs s_added) (defBody s_added) (defScope s_added) [] [] (He.ga K "added") fd := cc.def_ 22 (d := hfn[22]) rfl
  obtain ⟨fd_closed, F_closed⟩ : ∃ fd, FunD c.K "closed" "closed" (defArgs s_closed) (defBody s_closed) (defScope s_closed) [V.bl false] [] (He.ga K "closed") fd := cc.def_ 23 (d := hfn[23]) rfl
  obtain ⟨fd_law_draw, F_law_draw⟩ : ∃ fd, FunD c.K "_law_draw" "_law_draw" (defArgs s_law_draw) (defBody s_law_draw) (defScope s_law_draw) [] [] (He.ga K "_law_draw") fd := cc.def_ 24 (d := hfn[24]) rfl
  obtain ⟨fd_law_pick, F_law_pick⟩ : ∃ fd, FunD c.K "_law_pick" "_law_pick" (defArgs s_law_pick) (defBody s_law_pick) (defScope s_law_pick) [] [] (He.ga K "_law_pick") fd := cc.def_ 25 (d := hfn[25]) rfl
  obtain ⟨fd_law_plan, F_law_plan⟩ : ∃ fd, FunD c.K "_law_plan" "_law_plan" (defArgs s_law_plan) (defBody s_law_plan) (defScope s_law_plan) [] [] (He.ga K "_law_plan") fd := cc.def_ 26 (d := hfn[26]) rfl
  obtain ⟨fd_law_made, F_law_made⟩ : ∃ fd, FunD c.K "_law_made" "_law_made" (defArgs s_law_made) (defBody s_law_made) (defScope s_law_made) [] [] (He.ga K "_law_made") fd := cc.def_ 27 (d := hfn[27]) rfl
  obtain ⟨fd_law_case, F_law_case⟩ : ∃ fd, FunD c.K "_law_case" "_law_case" (defArgs s_law_case) (defBody s_law_case) (defScope s_law_case) [] [] (He.ga K "_law_case") fd := cc.def_ 28 (d := hfn[28]) rfl
  obtain ⟨fd_law_sum_of, F_law_sum_of⟩ : ∃ fd, FunD c.K "_law_sum_of" "_law_sum_of" (defArgs s_law_sum_of) (defBody s_law_sum_of) (defScope s_law_sum_of) [] [] (He.ga K "_law_sum_of") fd := cc.def_ 29 (d := hfn[29]) rfl
  obtain ⟨fd_law_kinds, F_law_kinds⟩ : ∃ fd, FunD c.K "_law_kinds" "_law_kinds" (defArgs s_law_kinds) (defBody s_law_kinds) (defScope s_law_kinds) [] [] (He.ga K "_law_kinds") fd := cc.def_ 30 (d := hfn[30]) rfl
  obtain ⟨fd_law_some_cells, F_law_some_cells⟩ : ∃ fd, FunD c.K "_law_some_cells" "_law_some_cells" (defArgs s_law_some_cells) (defBody s_law_some_cells) (defScope s_law_some_cells) [] [] (He.ga K "_law_some_cells") fd := cc.def_ 31 (d := hfn[31]) rfl
  obtain ⟨fd_law_value, F_law_value⟩ : ∃ fd, FunD c.K "_law_value" "_law_value" (defArgs s_law_value) (defBody s_law_value) (defScope s_law_value) [] [] (He.ga K "_law_value") fd := cc.def_ 32 (d := hfn[32]) rfl
  obtain ⟨fd_law_merged_value, F_law_merged_value⟩ : ∃ fd, FunD c.K "_law_merged_value" "_law_merged_value" (defArgs s_law_merged_value) (defBody s_law_merged_value) (defScope s_law_merged_value) [] [] (He.ga K "_law_merged_value") fd := cc.def_ 33 (d := hfn[33]) rfl
  obtain ⟨fd_law_due, F_law_due⟩ : ∃ fd, FunD c.K "_law_due" "_law_due" (defArgs s_law_due) (defBody s_law_due) (defScope s_law_due) [] [] (He.ga K "_law_due") fd := cc.def_ 34 (d := hfn[34]) rfl
  obtain ⟨fd_law_outcome, F_law_outcome⟩ : ∃ fd, FunD c.K "_law_outcome" "_law_outcome" (defArgs s_law_outcome) (defBody s_law_outcome) (defScope s_law_outcome) [] [] (He.ga K "_law_outcome") fd := cc.def_ 35 (d := hfn[35]) rfl
  obtain ⟨fd_law_closed, F_law_closed⟩ : ∃ fd, FunD c.K "_law_closed" "_law_closed" (defArgs s_law_closed) (defBody s_law_closed) (defScope s_law_closed) [] [] (He.ga K "_law_closed") fd := cc.def_ 36 (d := hfn[36]) rfl
  obtain ⟨fd_law_kinds_right, F_law_kinds_right⟩ : ∃ fd, FunD c.K "_law_kinds_right" "_law_kinds_right" (defArgs s_law_kinds_right) (defBody s_law_kinds_right) (defScope s_law_kinds_right) [] [] (He.ga K "_law_kinds_right") fd := cc.def_ 37 (d := hfn[37]) rfl
  obtain ⟨fd_law_sums_so, F_law_sums_so⟩ : ∃ fd, FunD c.K "_law_sums_so" "_law_sums_so" (defArgs s_law_sums_so) (defBody s_law_sums_so) (defScope s_law_sums_so) [] [] (He.ga K "_law_sums_so") fd := cc.def_ 38 (d := hfn[38]) rfl
  obtain ⟨fd_law, F_law⟩ : ∃ fd, FunD c.K "law" "law" (defArgs s_law) (defBody s_law) (defScope s_law) [] [] (He.ga K "law") fd := cc.def_ 39 (d := hfn[39]) rfl
  have g__law_pen_of : mg "_law_pen_of" = some (.ref (He.ga K "_law_pen_of")) := He.glo_ok X G (cc.fact 0 (f := .glo "_law_pen_of") rfl)
  have g_next_step : mg "next_step" = some (.ref (He.ga K "next_step")) := He.glo_ok X G (cc.fact 1 (f := .glo "next_step") rfl)
  have g_merged_value : mg "merged_value" = some (.ref (He.ga K "merged_value")) := He.glo_ok X G (cc.fact 2 (f := .glo "merged_value") rfl)
  have g_merged_cell : mg "merged_cell" = some (.ref (He.ga K "merged_cell")) := He.glo_ok X G (cc.fact 3 (f := .glo "merged_cell") rfl)
  have g_is_left_out : mg "is_left_out" = some (.ref (He.ga K "is_left_out")) := He.glo_ok X G (cc.fact 4 (f := .glo "is_left_out") rfl)
  have g_told_flag : mg "told_flag" = some (.ref (He.ga K "told_flag")) := He.glo_ok X G (cc.fact 5 (f := .glo "told_flag") rfl)
  have g_due_values : mg "due_values" = some (.ref (He.ga K "due_values")) := He.glo_ok X G (cc.fact 6 (f := .glo "due_values") rfl)
  have g_sum_with : mg "sum_with" = some (.ref (He.ga K "sum_with")) := He.glo_ok X G (cc.fact 7 (f := .glo "sum_with") rfl)
  have g_is_same : mg "is_same" = some (.ref (He.ga K "is_same")) := He.glo_ok X G (cc.fact 8 (f := .glo "is_same") rfl)
  have g_value_in : mg "value_in" = some (.ref (He.ga K "value_in")) := He.glo_ok X G (cc.fact 9 (f := .glo "value_in") rfl)
  have g_is_one_of : mg "is_one_of" = some (.ref (He.ga K "is_one_of")) := He.glo_ok X G (cc.fact 10 (f := .glo "is_one_of") rfl)
  have g_are_flags : mg "are_flags" = some (.ref (He.ga K "are_flags")) := He.glo_ok X G (cc.fact 11 (f := .glo "are_flags") rfl)
  have g_is_integer : mg "is_integer" = some (.ref (He.ga K "is_integer")) := He.glo_ok X G (cc.fact 12 (f := .glo "is_integer") rfl)
  have g_is_kind : mg "is_kind" = some (.ref (He.ga K "is_kind")) := He.glo_ok X G (cc.fact 13 (f := .glo "is_kind") rfl)
  have g_checked_kinds : mg "checked_kinds" = some (.ref (He.ga K "checked_kinds")) := He.glo_ok X G (cc.fact 14 (f := .glo "checked_kinds") rfl)
  have g_empty_sum : mg "empty_sum" = some (.ref (He.ga K "empty_sum")) := He.glo_ok X G (cc.fact 15 (f := .glo "empty_sum") rfl)
  have g_added : mg "added" = some (.ref (He.ga K "added")) := He.glo_ok X G (cc.fact 16 (f := .glo "added") rfl)
  have g_closed : mg "closed" = some (.ref (He.ga K "closed")) := He.glo_ok X G (cc.fact 17 (f := .glo "closed") rfl)
  have g__law_draw : mg "_law_draw" = some (.ref (He.ga K "_law_draw")) := He.glo_ok X G (cc.fact 18 (f := .glo "_law_draw") rfl)
  have g__law_pick : mg "_law_pick" = some (.ref (He.ga K "_law_pick")) := He.glo_ok X G (cc.fact 19 (f := .glo "_law_pick") rfl)
  have g__law_plan : mg "_law_plan" = some (.ref (He.ga K "_law_plan")) := He.glo_ok X G (cc.fact 20 (f := .glo "_law_plan") rfl)
  have g__law_made : mg "_law_made" = some (.ref (He.ga K "_law_made")) := He.glo_ok X G (cc.fact 21 (f := .glo "_law_made") rfl)
  have g__law_case : mg "_law_case" = some (.ref (He.ga K "_law_case")) := He.glo_ok X G (cc.fact 22 (f := .glo "_law_case") rfl)
  have g__law_sum_of : mg "_law_sum_of" = some (.ref (He.ga K "_law_sum_of")) := He.glo_ok X G (cc.fact 23 (f := .glo "_law_sum_of") rfl)
  have g__law_kinds : mg "_law_kinds" = some (.ref (He.ga K "_law_kinds")) := He.glo_ok X G (cc.fact 24 (f := .glo "_law_kinds") rfl)
  have g__law_some_cells : mg "_law_some_cells" = some (.ref (He.ga K "_law_some_cells")) := He.glo_ok X G (cc.fact 25 (f := .glo "_law_some_cells") rfl)
  have g__law_value : mg "_law_value" = some (.ref (He.ga K "_law_value")) := He.glo_ok X G (cc.fact 26 (f := .glo "_law_value") rfl)
  have g__law_merged_value : mg "_law_merged_value" = some (.ref (He.ga K "_law_merged_value")) := He.glo_ok X G (cc.fact 27 (f := .glo "_law_merged_value") rfl)
  have g__law_due : mg "_law_due" = some (.ref (He.ga K "_law_due")) := He.glo_ok X G (cc.fact 28 (f := .glo "_law_due") rfl)
  have g__law_outcome : mg "_law_outcome" = some (.ref (He.ga K "_law_outcome")) := He.glo_ok X G (cc.fact 29 (f := .glo "_law_outcome") rfl)
  have g__law_closed : mg "_law_closed" = some (.ref (He.ga K "_law_closed")) := He.glo_ok X G (cc.fact 30 (f := .glo "_law_closed") rfl)
  have g__law_kinds_right : mg "_law_kinds_right" = some (.ref (He.ga K "_law_kinds_right")) := He.glo_ok X G (cc.fact 31 (f := .glo "_law_kinds_right") rfl)
  have g__law_sums_so : mg "_law_sums_so" = some (.ref (He.ga K "_law_sums_so")) := He.glo_ok X G (cc.fact 32 (f := .glo "_law_sums_so") rfl)
  have g_law : mg "law" = some (.ref (He.ga K "law")) := He.glo_ok X G (cc.fact 33 (f := .glo "law") rfl)
  have g_Caser : mg "Caser" = some (.ref (He.ga K "Caser")) := He.glo_ok X G (cc.fact 34 (f := .glo "Caser") rfl)
  have g_Plan : mg "Plan" = some (.ref (He.ga K "Plan")) := He.glo_ok X G (cc.fact 35 (f := .glo "Plan") rfl)
  have g_Rule : mg "Rule" = some (.ref (He.ga K "Rule")) := He.glo_ok X G (cc.fact 36 (f := .glo "Rule") rfl)
  have g_BARE : mg "BARE" = some (.ref (He.ga K "BARE")) := He.glo_ok X G (cc.fact 37 (f := .glo "BARE") rfl)
  have g_WORSTS : mg "WORSTS" = some (.ref (He.ga K "WORSTS")) := He.glo_ok X G (cc.fact 38 (f := .glo "WORSTS") rfl)
  have g_EMPTY : mg "EMPTY" = some (.ref (He.ga K "EMPTY")) := He.glo_ok X G (cc.fact 39 (f := .glo "EMPTY") rfl)
  have g_GONE : mg "GONE" = some (.ref (He.ga K "GONE")) := He.glo_ok X G (cc.fact 40 (f := .glo "GONE") rfl)
  have g_ALIKE : mg "ALIKE" = some (.ref (He.ga K "ALIKE")) := He.glo_ok X G (cc.fact 41 (f := .glo "ALIKE") rfl)
  have g_UNLIKE : mg "UNLIKE" = some (.ref (He.ga K "UNLIKE")) := He.glo_ok X G (cc.fact 42 (f := .glo "UNLIKE") rfl)
  have g_FLAG_KEYS : mg "FLAG_KEYS" = some (.ref (He.ga K "FLAG_KEYS")) := He.glo_ok X G (cc.fact 43 (f := .glo "FLAG_KEYS") rfl)
  have T : Tx c.mg := ⟨He.free_ok X G (cc.fact 44 (f := .free "abs") rfl), He.free_ok X G (cc.fact 45 (f := .free "all") rfl), He.free_ok X G (cc.fact 46 (f := .free "any") rfl), He.free_ok X G (cc.fact 47 (f := .free "bool") rfl), He.free_ok X G (cc.fact 48 (f := .free "dict") rfl), He.free_ok X G (cc.fact 49 (f := .free "enumerate") rfl), He.free_ok X G (cc.fact 50 (f := .free "int") rfl), He.free_ok X G (cc.fact 51 (f := .free "isinstance") rfl), He.free_ok X G (cc.fact 52 (f := .free "len") rfl), He.free_ok X G (cc.fact 53 (f := .free "list") rfl), He.free_ok X G (cc.fact 54 (f := .free "min") rfl), He.free_ok X G (cc.fact 55 (f := .free "range") rfl), He.free_ok X G (cc.fact 56 (f := .free "sorted") rfl), He.free_ok X G (cc.fact 57 (f := .free "str") rfl), He.free_ok X G (cc.fact 58 (f := .free "tuple") rfl), He.free_ok X G (cc.fact 59 (f := .free "zip") rfl)⟩
  have hF : Fs c := ⟨fld_ok g_Plan (He.cls_ok (cc.fact 61 (f := .cls "Plan") rfl)) (He.noat_ok (cc.fact 63 (f := .noat "Plan" "gone") rfl)), fld_ok g_Plan (He.cls_ok (cc.fact 61 (f := .cls "Plan") rfl)) (He.noat_ok (cc.fact 64 (f := .noat "Plan" "alike") rfl)), fld_ok g_Plan (He.cls_ok (cc.fact 61 (f := .cls "Plan") rfl)) (He.noat_ok (cc.fact 65 (f := .noat "Plan" "unlike") rfl)), fld_ok g_Plan (He.cls_ok (cc.fact 61 (f := .cls "Plan") rfl)) (He.noat_ok (cc.fact 66 (f := .noat "Plan" "tidy") rfl)), fld_ok g_Plan (He.cls_ok (cc.fact 61 (f := .cls "Plan") rfl)) (He.noat_ok (cc.fact 67 (f := .noat "Plan" "_told_flags") rfl)), fld_ok g_Rule (He.cls_ok (cc.fact 62 (f := .cls "Rule") rfl)) (He.noat_ok (cc.fact 68 (f := .noat "Rule" "root") rfl)), fld_ok g_Rule (He.cls_ok (cc.fact 62 (f := .cls "Rule") rfl)) (He.noat_ok (cc.fact 69 (f := .noat "Rule" "others") rfl)), fld_ok g_Caser (He.cls_ok (cc.fact 60 (f := .cls "Caser") rfl)) (He.noat_ok (cc.fact 70 (f := .noat "Caser" "plan") rfl)), fld_ok g_Caser (He.cls_ok (cc.fact 60 (f := .cls "Caser") rfl)) (He.noat_ok (cc.fact 71 (f := .noat "Caser" "told_flags") rfl)), fld_ok g_Caser (He.cls_ok (cc.fact 60 (f := .cls "Caser") rfl)) (He.noat_ok (cc.fact 72 (f := .noat "Caser" "rule") rfl)), fld_ok g_Caser (He.cls_ok (cc.fact 60 (f := .cls "Caser") rfl)) (He.noat_ok (cc.fact 73 (f := .noat "Caser" "triples") rfl))⟩
  have hx : hex K = true := cx.more
  unfold hex at hx
  simp only [Bool.and_eq_true] at hx
  obtain ⟨x0, x1, x2, x3, x4, x5, x6, x7, x8⟩ := hx
  have k_BARE : KD c "BARE" d_BARE := kd_ok g_BARE x0
  have k_WORSTS : KD c "WORSTS" d_WORSTS := kd_ok g_WORSTS x1
  have k_EMPTY : KD c "EMPTY" d_EMPTY := kd_ok g_EMPTY x2
  have k_GONE : KD c "GONE" d_GONE := kd_ok g_GONE x3
  have k_ALIKE : KD c "ALIKE" d_ALIKE := kd_ok g_ALIKE x4
  have k_UNLIKE : KD c "UNLIKE" d_UNLIKE := kd_ok g_UNLIKE x5
  have k_FLAG_KEYS : KD c "FLAG_KEYS" d_FLAG_KEYS := kd_ok g_FLAG_KEYS x6
  have t_WORSTS : KTup c "WORSTS" dl_WORSTS := kTupB_ok g_WORSTS x7
  have pe_Plan_flags := congrArg (fun l : List He.FnW => l[0]?) cg
  obtain ⟨po_Plan_flags, fd_Plan_flags, F_Plan_flags⟩ := prB_ok (name := "flags") (params := defArgs s_Plan_flags) (body := defBody s_Plan_flags) (scope := defScope s_Plan_flags) x8 (Option.some.inj pe_Plan_flags)
  have e := hfa0.symm.trans g_law
  cases e
  have bl := FunD.bindsA (ps := ["_law_script"]) F_law fun _ _ _ _ _ _ us hl => match us, hl with | [_], _ => rfl
  refine ⟨fd_law, fun s v => bl s [v] rfl, fun base _ _ => ?_⟩
  have o_penOf := ok_penOf (P := P) (base := base) (c := c) T F_penOf
  have b_penOf : Binds c.K fd_penOf ["_law_script"] [] := FunD.bindsN F_penOf fun _ _ _ _ _ _ us hl => match us, hl with | [_], _ => rfl
  have h_penOf : ClD P base c 1 "_law_pen_of" ["_law_script"] (spPen c.K "next") [] := ⟨_, _, [], [], o_penOf, g__law_pen_of, F_penOf.kp, b_penOf, .nil, fun _ => .nil⟩
  have o_next_step := ok_next_step (P := P) (base := base) (c := c) T hF  F_next_step
  have b_next_step : Binds c.K fd_next_step p_next_step [] := FunD.bindsN F_next_step fun _ _ _ _ _ _ us hl => match us, hl with | [_, _, _, _], _ => rfl
  have h_next_step : ClD P base c 1 "next_step" p_next_step (sp0 c f_next_step) [] := ⟨_, _, [], [], o_next_step, g_next_step, F_next_step.kp, b_next_step, .nil, fun _ => .nil⟩
  have o_merged_value := ok_merged_value (P := P) (base := base) (c := c) T hF  F_merged_value
  have b_merged_value : Binds c.K fd_merged_value p_merged_value [] := FunD.bindsN F_merged_value fun _ _ _ _ _ _ us hl => match us, hl with | [_, _, _, _], _ => rfl
  have h_merged_value : ClD P base c 1 "merged_value" p_merged_value (sp0 c f_merged_value) [] := ⟨_, _, [], [], o_merged_value, g_merged_value, F_merged_value.kp, b_merged_value, .nil, fun _ => .nil⟩
  have o_merged_cell := ok_merged_cell (P := P) (base := base) (c := c) T hF k_BARE h_merged_value F_merged_cell
  have b_merged_cell : Binds c.K fd_merged_cell p_merged_cell [] := FunD.bindsN F_merged_cell fun _ _ _ _ _ _ us hl => match us, hl with | [_, _], _ => rfl
  have h_merged_cell : ClD P base c 2 "merged_cell" p_merged_cell (sp0 c f_merged_cell) [] := ⟨_, _, [], [], o_merged_cell, g_merged_cell, F_merged_cell.kp, b_merged_cell, .nil, fun _ => .nil⟩
  have o_is_left_out := ok_is_left_out (P := P) (base := base) (c := c) T hF  F_is_left_out
  have b_is_left_out : Binds c.K fd_is_left_out p_is_left_out [] := FunD.bindsN F_is_left_out fun _ _ _ _ _ _ us hl => match us, hl with | [_, _, _, _], _ => rfl
  have h_is_left_out : ClD P base c 1 "is_left_out" p_is_left_out (sp0 c f_is_left_out) [] := ⟨_, _, [], [], o_is_left_out, g_is_left_out, F_is_left_out.kp, b_is_left_out, .nil, fun _ => .nil⟩
  have o_told_flag := ok_told_flag (P := P) (base := base) (c := c) T hF  F_told_flag
  have b_told_flag : Binds c.K fd_told_flag p_told_flag [] := FunD.bindsN F_told_flag fun _ _ _ _ _ _ us hl => match us, hl with | [_, _, _, _, _], _ => rfl
  have h_told_flag : ClD P base c 1 "told_flag" p_told_flag (sp0 c f_told_flag) [] := ⟨_, _, [], [], o_told_flag, g_told_flag, F_told_flag.kp, b_told_flag, .nil, fun _ => .nil⟩
  have o_due_values := ok_due_values (P := P) (base := base) (c := c) T hF  F_due_values
  have b_due_values : Binds c.K fd_due_values p_due_values [] := FunD.bindsN F_due_values fun _ _ _ _ _ _ us hl => match us, hl with | [_, _, _], _ => rfl
  have h_due_values : ClD P base c 1 "due_values" p_due_values (sp0 c f_due_values) [] := ⟨_, _, [], [], o_due_values, g_due_values, F_due_values.kp, b_due_values, .nil, fun _ => .nil⟩
  have o_sum_with := ok_sum_with (P := P) (base := base) (c := c) T hF k_WORSTS t_WORSTS F_sum_with
  have b_sum_with : Binds c.K fd_sum_with p_sum_with [] := FunD.bindsN F_sum_with fun _ _ _ _ _ _ us hl => match us, hl with | [_, _], _ => rfl
  have h_sum_with : ClD P base c 1 "sum_with" p_sum_with (sp0 c f_sum_with) [] := ⟨_, _, [], [], o_sum_with, g_sum_with, F_sum_with.kp, b_sum_with, .nil, fun _ => .nil⟩
  have o_is_same := ok_is_same (P := P) (base := base) (c := c) T hF  F_is_same
  have b_is_same : Binds c.K fd_is_same p_is_same [] := FunD.bindsN F_is_same fun _ _ _ _ _ _ us hl => match us, hl with | [_, _, _], _ => rfl
  have h_is_same : ClD P base c 1 "is_same" p_is_same (sp0 c f_is_same) [] := ⟨_, _, [], [], o_is_same, g_is_same, F_is_same.kp, b_is_same, .nil, fun _ => .nil⟩
  have o_value_in := ok_value_in (P := P) (base := base) (c := c) T hF  F_value_in
  have b_value_in : Binds c.K fd_value_in p_value_in [] := FunD.bindsN F_value_in fun _ _ _ _ _ _ us hl => match us, hl with | [_], _ => rfl
  have h_value_in : ClD P base c 1 "value_in" p_value_in (sp0 c f_value_in) [] := ⟨_, _, [], [], o_value_in, g_value_in, F_value_in.kp, b_value_in, .nil, fun _ => .nil⟩
  have o_is_one_of := ok_is_one_of (P := P) (base := base) (c := c) T hF  F_is_one_of
  have b_is_one_of : Binds c.K fd_is_one_of p_is_one_of [] := FunD.bindsN F_is_one_of fun _ _ _ _ _ _ us hl => match us, hl with | [_, _], _ => rfl
  have h_is_one_of : ClD P base c 1 "is_one_of" p_is_one_of (sp0 c f_is_one_of) [] := ⟨_, _, [], [], o_is_one_of, g_is_one_of, F_is_one_of.kp, b_is_one_of, .nil, fun _ => .nil⟩
  have o_are_flags := ok_are_flags (P := P) (base := base) (c := c) T hF k_FLAG_KEYS F_are_flags
  have b_are_flags : Binds c.K fd_are_flags p_are_flags [] := FunD.bindsN F_are_flags fun _ _ _ _ _ _ us hl => match us, hl with | [_], _ => rfl
  have h_are_flags : ClD P base c 1 "are_flags" p_are_flags (sp0 c f_are_flags) [] := ⟨_, _, [], [], o_are_flags, g_are_flags, F_are_flags.kp, b_are_flags, .nil, fun _ => .nil⟩
  have o_Plan__init := ok_Plan__init (P := P) (base := base) (c := c) T hF h_is_one_of k_GONE k_ALIKE k_UNLIKE h_are_flags k_FLAG_KEYS F_Plan__init
  obtain ⟨dvf_Plan__init, vdf_Plan__init, bf_Plan__init⟩ := FunD.binds1 (ps := p_Plan__init) F_Plan__init 6 1 (by decide) rfl fun _ _ _ _ _ _ _ us its h1 h2 => match us, its, h1, h2 with | [_, _, _, _, _, _], [_], _, _ => ⟨_, rfl, rfl⟩
  have h_Plan__init_0 : ClI P base c 2 "Plan" p_Plan__init (spI c "Plan" f_Plan__init) [] := ⟨_, _, _, [], _, He.mkr_ok (cc.fact 74 (f := .mkr "Plan") rfl), o_Plan__init, g_Plan, bf_Plan__init, vdf_Plan__init, fun _ => .nil⟩
  have o_Plan_flags := ok_Plan_flags (P := P) (base := base) (c := c) T hF  F_Plan_flags
  have b_Plan_flags : Binds c.K fd_Plan_flags p_Plan_flags [] := FunD.bindsN F_Plan_flags fun _ _ _ _ _ _ us hl => match us, hl with | [_], _ => rfl
  have h_Plan_flags : ClR P base c 1 "Plan" "flags" f_Plan_flags := ⟨_, _, _, fd_Plan_flags, p_Plan_flags, g_Plan, He.cls_ok (cc.fact 61 (f := .cls "Plan") rfl), po_Plan_flags, o_Plan_flags, b_Plan_flags⟩
  have o_is_integer := ok_is_integer (P := P) (base := base) (c := c) T hF  F_is_integer
  have b_is_integer : Binds c.K fd_is_integer p_is_integer [] := FunD.bindsN F_is_integer fun _ _ _ _ _ _ us hl => match us, hl with | [_], _ => rfl
  have h_is_integer : ClD P base c 1 "is_integer" p_is_integer (sp0 c f_is_integer) [] := ⟨_, _, [], [], o_is_integer, g_is_integer, F_is_integer.kp, b_is_integer, .nil, fun _ => .nil⟩
  have o_is_kind := ok_is_kind (P := P) (base := base) (c := c) T hF h_is_integer F_is_kind
  have b_is_kind : Binds c.K fd_is_kind p_is_kind [] := FunD.bindsN F_is_kind fun _ _ _ _ _ _ us hl => match us, hl with | [_], _ => rfl
  have h_is_kind : ClD P base c 2 "is_kind" p_is_kind (sp0 c f_is_kind) [] := ⟨_, _, [], [], o_is_kind, g_is_kind, F_is_kind.kp, b_is_kind, .nil, fun _ => .nil⟩
  have o_checked_kinds := ok_checked_kinds (P := P) (base := base) (c := c) T hF h_is_kind F_checked_kinds
  have b_checked_kinds : Binds c.K fd_checked_kinds p_checked_kinds [] := FunD.bindsN F_checked_kinds fun _ _ _ _ _ _ us hl => match us, hl with | [_, _], _ => rfl
  have h_checked_kinds : ClD P base c 3 "checked_kinds" p_checked_kinds (sp0 c f_checked_kinds) [] := ⟨_, _, [], [], o_checked_kinds, g_checked_kinds, F_checked_kinds.kp, b_checked_kinds, .nil, fun _ => .nil⟩
  have o_Rule__init := ok_Rule__init (P := P) (base := base) (c := c) T hF h_checked_kinds F_Rule__init
  have b_Rule__init : Binds c.K fd_Rule__init p_Rule__init [] := FunD.bindsN F_Rule__init fun _ _ _ _ _ _ us hl => match us, hl with | [_, _, _], _ => rfl
  have h_Rule__init_0 : ClI P base c 4 "Rule" p_Rule__init (spI c "Rule" f_Rule__init) [] := ⟨_, _, _, [], [], He.mkr_ok (cc.fact 75 (f := .mkr "Rule") rfl), o_Rule__init, g_Rule, b_Rule__init, .nil, fun _ => .nil⟩
  have o_Caser__init := ok_Caser__init (P := P) (base := base) (c := c) T hF h_Plan_flags F_Caser__init
  have b_Caser__init : Binds c.K fd_Caser__init p_Caser__init [] := FunD.bindsN F_Caser__init fun _ _ _ _ _ _ us hl => match us, hl with | [_, _, _], _ => rfl
  have h_Caser__init_0 : ClI P base c 3 "Caser" p_Caser__init (spI c "Caser" f_Caser__init) [] := ⟨_, _, _, [], [], He.mkr_ok (cc.fact 76 (f := .mkr "Caser") rfl), o_Caser__init, g_Caser, b_Caser__init, .nil, fun _ => .nil⟩
  have o_Caser_is_let := ok_Caser_is_let (P := P) (base := base) (c := c) T hF  F_Caser_is_let
  have b_Caser_is_let : Binds c.K fd_Caser_is_let p_Caser_is_let [] := FunD.bindsN F_Caser_is_let fun _ _ _ _ _ _ us hl => match us, hl with | [_, _, _, _], _ => rfl
  have h_Caser_is_let : ClM P base c 1 "Caser" "is_let" (sp0 c f_Caser_is_let) [] := ⟨_, _, _, p_Caser_is_let, [], [], g_Caser, He.cls_ok (cc.fact 60 (f := .cls "Caser") rfl), He.meth_ok (cc.fact 77 (f := .meth "Caser" "is_let") rfl), o_Caser_is_let, b_Caser_is_let, .nil, fun _ => .nil⟩
  have o_Caser_outcome_on := ok_Caser_outcome_on (P := P) (base := base) (c := c) T hF h_merged_cell h_is_left_out h_due_values h_value_in h_told_flag h_Caser_is_let F_Caser_outcome_on
  have b_Caser_outcome_on : Binds c.K fd_Caser_outcome_on p_Caser_outcome_on [] := FunD.bindsN F_Caser_outcome_on fun _ _ _ _ _ _ us hl => match us, hl with | [_, _, _, _], _ => rfl
  have h_Caser_outcome_on : ClM P base c 3 "Caser" "outcome_on" (sp0 c f_Caser_outcome_on) [] := ⟨_, _, _, p_Caser_outcome_on, [], [], g_Caser, He.cls_ok (cc.fact 60 (f := .cls "Caser") rfl), He.meth_ok (cc.fact 78 (f := .meth "Caser" "outcome_on") rfl), o_Caser_outcome_on, b_Caser_outcome_on, .nil, fun _ => .nil⟩
  have o_Caser_case := ok_Caser_case (P := P) (base := base) (c := c) T hF h_is_same h_value_in h_next_step h_Caser_outcome_on F_Caser_case
  have b_Caser_case : Binds c.K fd_Caser_case p_Caser_case [] := FunD.bindsN F_Caser_case fun _ _ _ _ _ _ us hl => match us, hl with | [_, _, _, _], _ => rfl
  have h_Caser_case : ClM P base c 4 "Caser" "case" (sp0 c f_Caser_case) [] := ⟨_, _, _, p_Caser_case, [], [], g_Caser, He.cls_ok (cc.fact 60 (f := .cls "Caser") rfl), He.meth_ok (cc.fact 79 (f := .meth "Caser" "case") rfl), o_Caser_case, b_Caser_case, .nil, fun _ => .nil⟩
  have o_empty_sum := ok_empty_sum (P := P) (base := base) (c := c) T hF k_EMPTY F_empty_sum
  have b_empty_sum : Binds c.K fd_empty_sum p_empty_sum [] := FunD.bindsN F_empty_sum fun _ _ _ _ _ _ us hl => match us, hl with | [], _ => rfl
  have h_empty_sum : ClD P base c 1 "empty_sum" p_empty_sum (sp0 c f_empty_sum) [] := ⟨_, _, [], [], o_empty_sum, g_empty_sum, F_empty_sum.kp, b_empty_sum, .nil, fun _ => .nil⟩
  have o_added := ok_added (P := P) (base := base) (c := c) T hF h_sum_with F_added
  have b_added : Binds c.K fd_added p_added [] := FunD.bindsN F_added fun _ _ _ _ _ _ us hl => match us, hl with | [_, _], _ => rfl
  have h_added : ClD P base c 2 "added" p_added (sp0 c f_added) [] := ⟨_, _, [], [], o_added, g_added, F_added.kp, b_added, .nil, fun _ => .nil⟩
  have o_closed := ok_closed (P := P) (base := base) (c := c) T hF h_Caser__init_0 h_Caser_is_let h_Caser_case F_closed
  obtain ⟨dvf_closed, vdf_closed, bf_closed⟩ := FunD.binds1 (ps := p_closed) F_closed 5 1 (by decide) rfl fun _ _ _ _ _ _ _ us its h1 h2 => match us, its, h1, h2 with | [_, _, _, _, _], [_], _, _ => ⟨_, rfl, rfl⟩
  have h_closed : ClD P base c 5 "closed" p_closed (sp0 c f_closed) [] := ⟨_, _, [], _, o_closed, g_closed, F_closed.kp, bf_closed, vdf_closed, fun _ => .nil⟩
  obtain ⟨dvd_closed, vdd_closed, bd_closed⟩ := FunD.binds1 (ps := p_closed) F_closed 4 0 (by decide) rfl fun _ _ _ _ _ _ _ us its h1 h2 => match us, its, h1, h2 with | [_, _, _, _], [_], _, _ => ⟨_, rfl, rfl⟩
  have h_closed_d : ClD P base c 5 "closed" p_closed (sp0 c f_closed) dd_closed := ⟨_, _, [V.bl false], _, o_closed, g_closed, F_closed.kp, bd_closed, vdd_closed, fun B => (.cons (.bl false) .nil)⟩
  have o_law_draw := ok_law_draw (P := P) (base := base) (c := c) T hF  F_law_draw
  have b_law_draw : Binds c.K fd_law_draw p_law_draw [] := FunD.bindsN F_law_draw fun _ _ _ _ _ _ us hl => match us, hl with | [_, _], _ => rfl
  have h_law_draw : ClD P base c 1 "_law_draw" p_law_draw (spP c "next" f_law_draw) [] := ⟨_, _, [], [], o_law_draw, g__law_draw, F_law_draw.kp, b_law_draw, .nil, fun _ => .nil⟩
  have o_law_pick := ok_law_pick (P := P) (base := base) (c := c) T hF h_law_draw F_law_pick
  have b_law_pick : Binds c.K fd_law_pick p_law_pick [] := FunD.bindsN F_law_pick fun _ _ _ _ _ _ us hl => match us, hl with | [_, _], _ => rfl
  have h_law_pick : ClD P base c 2 "_law_pick" p_law_pick (spP c "next" f_law_pick) [] := ⟨_, _, [], [], o_law_pick, g__law_pick, F_law_pick.kp, b_law_pick, .nil, fun _ => .nil⟩
  have o_law_plan := ok_law_plan (P := P) (base := base) (c := c) T hF h_law_pick h_law_draw F_law_plan
  have b_law_plan : Binds c.K fd_law_plan p_law_plan [] := FunD.bindsN F_law_plan fun _ _ _ _ _ _ us hl => match us, hl with | [_], _ => rfl
  have h_law_plan : ClD P base c 3 "_law_plan" p_law_plan (spP c "next" f_law_plan) [] := ⟨_, _, [], [], o_law_plan, g__law_plan, F_law_plan.kp, b_law_plan, .nil, fun _ => .nil⟩
  have o_law_made := ok_law_made (P := P) (base := base) (c := c) T hF h_Plan__init_0 F_law_made
  have b_law_made : Binds c.K fd_law_made p_law_made [] := FunD.bindsN F_law_made fun _ _ _ _ _ _ us hl => match us, hl with | [_], _ => rfl
  have h_law_made : ClD P base c 4 "_law_made" p_law_made (sp0 c f_law_made) [] := ⟨_, _, [], [], o_law_made, g__law_made, F_law_made.kp, b_law_made, .nil, fun _ => .nil⟩
  have o_law_case := ok_law_case (P := P) (base := base) (c := c) T hF h_law_draw h_law_pick F_law_case
  have b_law_case : Binds c.K fd_law_case p_law_case [] := FunD.bindsN F_law_case fun _ _ _ _ _ _ us hl => match us, hl with | [_], _ => rfl
  have h_law_case : ClD P base c 3 "_law_case" p_law_case (spP c "next" f_law_case) [] := ⟨_, _, [], [], o_law_case, g__law_case, F_law_case.kp, b_law_case, .nil, fun _ => .nil⟩
  have o_law_sum_of := ok_law_sum_of (P := P) (base := base) (c := c) T hF  F_law_sum_of
  have b_law_sum_of : Binds c.K fd_law_sum_of p_law_sum_of [] := FunD.bindsN F_law_sum_of fun _ _ _ _ _ _ us hl => match us, hl with | [_], _ => rfl
  have h_law_sum_of : ClD P base c 1 "_law_sum_of" p_law_sum_of (sp0 c f_law_sum_of) [] := ⟨_, _, [], [], o_law_sum_of, g__law_sum_of, F_law_sum_of.kp, b_law_sum_of, .nil, fun _ => .nil⟩
  have o_law_kinds := ok_law_kinds (P := P) (base := base) (c := c) T hF h_law_pick h_law_draw F_law_kinds
  have b_law_kinds : Binds c.K fd_law_kinds p_law_kinds [] := FunD.bindsN F_law_kinds fun _ _ _ _ _ _ us hl => match us, hl with | [_], _ => rfl
  have h_law_kinds : ClD P base c 3 "_law_kinds" p_law_kinds (spP c "next" f_law_kinds) [] := ⟨_, _, [], [], o_law_kinds, g__law_kinds, F_law_kinds.kp, b_law_kinds, .nil, fun _ => .nil⟩
  have o_law_some_cells := ok_law_some_cells (P := P) (base := base) (c := c) T hF h_law_draw h_law_pick F_law_some_cells
  have b_law_some_cells : Binds c.K fd_law_some_cells p_law_some_cells [] := FunD.bindsN F_law_some_cells fun _ _ _ _ _ _ us hl => match us, hl with | [_, _], _ => rfl
  have h_law_some_cells : ClD P base c 3 "_law_some_cells" p_law_some_cells (spP c "next" f_law_some_cells) [] := ⟨_, _, [], [], o_law_some_cells, g__law_some_cells, F_law_some_cells.kp, b_law_some_cells, .nil, fun _ => .nil⟩
  have o_law_value := ok_law_value (P := P) (base := base) (c := c) T hF  F_law_value
  have b_law_value : Binds c.K fd_law_value p_law_value [] := FunD.bindsN F_law_value fun _ _ _ _ _ _ us hl => match us, hl with | [_], _ => rfl
  have h_law_value : ClD P base c 1 "_law_value" p_law_value (sp0 c f_law_value) [] := ⟨_, _, [], [], o_law_value, g__law_value, F_law_value.kp, b_law_value, .nil, fun _ => .nil⟩
  have o_law_merged_value := ok_law_merged_value (P := P) (base := base) (c := c) T hF  F_law_merged_value
  have b_law_merged_value : Binds c.K fd_law_merged_value p_law_merged_value [] := FunD.bindsN F_law_merged_value fun _ _ _ _ _ _ us hl => match us, hl with | [_, _, _, _], _ => rfl
  have h_law_merged_value : ClD P base c 1 "_law_merged_value" p_law_merged_value (sp0 c f_law_merged_value) [] := ⟨_, _, [], [], o_law_merged_value, g__law_merged_value, F_law_merged_value.kp, b_law_merged_value, .nil, fun _ => .nil⟩
  have o_law_due := ok_law_due (P := P) (base := base) (c := c) T hF  F_law_due
  have b_law_due : Binds c.K fd_law_due p_law_due [] := FunD.bindsN F_law_due fun _ _ _ _ _ _ us hl => match us, hl with | [_, _, _], _ => rfl
  have h_law_due : ClD P base c 1 "_law_due" p_law_due (sp0 c f_law_due) [] := ⟨_, _, [], [], o_law_due, g__law_due, F_law_due.kp, b_law_due, .nil, fun _ => .nil⟩
  have o_law_outcome := ok_law_outcome (P := P) (base := base) (c := c) T hF h_law_merged_value h_law_due h_law_value F_law_outcome
  have b_law_outcome : Binds c.K fd_law_outcome p_law_outcome [] := FunD.bindsN F_law_outcome fun _ _ _ _ _ _ us hl => match us, hl with | [_, _, _, _, _, _, _], _ => rfl
  have h_law_outcome : ClD P base c 2 "_law_outcome" p_law_outcome (sp0 c f_law_outcome) [] := ⟨_, _, [], [], o_law_outcome, g__law_outcome, F_law_outcome.kp, b_law_outcome, .nil, fun _ => .nil⟩
  have o_law_closed := ok_law_closed (P := P) (base := base) (c := c) T hF h_law_value h_law_outcome F_law_closed
  have b_law_closed : Binds c.K fd_law_closed p_law_closed [] := FunD.bindsN F_law_closed fun _ _ _ _ _ _ us hl => match us, hl with | [_, _, _, _, _], _ => rfl
  have h_law_closed : ClD P base c 3 "_law_closed" p_law_closed (sp0 c f_law_closed) [] := ⟨_, _, [], [], o_law_closed, g__law_closed, F_law_closed.kp, b_law_closed, .nil, fun _ => .nil⟩
  have o_law_kinds_right := ok_law_kinds_right (P := P) (base := base) (c := c) T hF  F_law_kinds_right
  have b_law_kinds_right : Binds c.K fd_law_kinds_right p_law_kinds_right [] := FunD.bindsN F_law_kinds_right fun _ _ _ _ _ _ us hl => match us, hl with | [_, _], _ => rfl
  have h_law_kinds_right : ClD P base c 1 "_law_kinds_right" p_law_kinds_right (sp0 c f_law_kinds_right) [] := ⟨_, _, [], [], o_law_kinds_right, g__law_kinds_right, F_law_kinds_right.kp, b_law_kinds_right, .nil, fun _ => .nil⟩
  have o_law_sums_so := ok_law_sums_so (P := P) (base := base) (c := c) T hF h_empty_sum h_law_sum_of h_law_kinds_right h_added F_law_sums_so
  have b_law_sums_so : Binds c.K fd_law_sums_so p_law_sums_so [] := FunD.bindsN F_law_sums_so fun _ _ _ _ _ _ us hl => match us, hl with | [_, _], _ => rfl
  have h_law_sums_so : ClD P base c 3 "_law_sums_so" p_law_sums_so (spP c "next" f_law_sums_so) [] := ⟨_, _, [], [], o_law_sums_so, g__law_sums_so, F_law_sums_so.kp, b_law_sums_so, .nil, fun _ => .nil⟩
  exact ok_law T hF h_penOf h_law_draw h_law_case h_law_sums_so h_law_plan h_law_sum_of h_law_kinds h_Rule__init_0 h_law_made h_law_some_cells h_law_closed h_closed_d h_closed h_law_kinds_right hM F_law
end K61
open PySem PySem.W PySem.Calls PyProof.Rows
theorem PySem.Challenge.cw_treeshed_k61_sums_and_cells_holds_of (hM : ∀ ns : List Int, ns.length ≤ 63 → (K61.m_law (DL.rho0 K61.N_law.length) ⟨ns, 0, 0⟩).post (fun fl _ _ => fl = .rt (.bl true)) DL.noX) : PySem.Challenge.rw_treeshed_k61_sums_and_cells.Holds := by
  w_on; o_law
  refine HandSHeadRun.head_any (r := OpenLaw.row PySem.Challenge.rw_treeshed_k61_sums_and_cells) (q := view (OpenLaw.row PySem.Challenge.rw_treeshed_k61_sums_and_cells).prog [56]) (H := K61.hk) (ob := K61.ob) (M := 20000) (loose := K61.hloose) (d := HandSHeadRun.topDef (OpenLaw.row PySem.Challenge.rw_treeshed_k61_sums_and_cells).prog 56) (kwd := []) K61.ob_eq
    (by kernel_rfl) (fun s => by kernel_rfl) K61.run (by kernel_rfl) (by kernel_rfl) (by kernel_rfl) (by rfl) (by first | assumption | decide +kernel) (by decide +kernel) ⟨rfl, rfl, rfl, rfl, rfl, by decide +kernel⟩ ?hw ?hc
  case hw => w_witness2
  case hc =>
    refine L2.walk_ofE (l := PySem.Challenge.rw_treeshed_k61_sums_and_cells) (n := 63) (k := 6) (x := "_law_script") (CX := L2.CX0) rfl (by decide) (by kernel_rfl) ⟨rfl, by decide, by decide⟩ ?F (fun _ _ _ _ z => z)
    intro w mg fa h Y G hmg0
    obtain ⟨K, KX, c, cg⟩ := Y
    have hmg : mg ("law" : PySem.Str) = some (.ref fa) := by
      have e : (HandSHeadRun.topDef (OpenLaw.row PySem.Challenge.rw_treeshed_k61_sums_and_cells).prog 56).name = ("law" : PySem.Str) := by kernel_rfl
      rw [← e]
      exact hmg0
    obtain ⟨fd, hb, hF⟩ := K61.facts (P := (PySem.Challenge.rw_treeshed_k61_sums_and_cells).prog) (w := w) KX G hmg c cg hM
    exact ⟨K, fd, DL.spLaw K, KX, hb, fun H a ns hl _ hS => ⟨a, ns, rfl, hS, hl, fun _ => rfl⟩, hF⟩

open PySem PySem.W PyProof.Rows
set_option Elab.async false
set_option maxRecDepth 100000 in
set_option maxHeartbeats 8000000 in
theorem PySem.Challenge.cw_treeshed_k61_sums_and_cells_holds : PySem.Challenge.rw_treeshed_k61_sums_and_cells.Holds := by
  exact PySem.Challenge.cw_treeshed_k61_sums_and_cells_holds_of K61.hM
