import PyProof.Rows.All
import Wide.All
import OpenK.AllK
import Wide.FinOn
import KE.KStateDown
import HandS.ForMost
import HandS.Defaults
import HandS.IsInst
import HandS.SortOrd
import HandS.TupLe
import HandS.Walk
import HandS.Codes
import HandS.TupAny
import HandS.Style
import HandS.Flow
import HandS.Deep
import HandS.Small
import HandS.Rev
import HandS.Property
import HandS.More
import KE.KDictKeyed
import KE.KeyNested
import KE.SortData
import HandS.TupLen
import HandS.WordsDict
import HandS.TryOnly
import HandS.Zip
import HandS.DictComp
import HandS.Strs
import PyProof.SeqIndex
import PyProof.InstNe
import Lean
import HandS.WordsExc
import HandS.Head0
import HandS.Head1
import HandS.Head2
import HandS.HeadHook1
import HandS.HeadHook2
import HandS.HeadHook3
import HandS.HeadHook4
import HandS.HeadEnd
import Wide.Once
import PySem.Challenge.RW_treeshed_k38_whole_known_book_by_maps
set_option Elab.async false
set_option linter.all false
set_option maxRecDepth 100000
set_option maxHeartbeats 1000000
/-! ### DATA ABOVE THE HAND LAYER: what a program does with data, told without the heap -/
namespace DL
open PySem PySem.Spec PyProof.Rows L2
/-- data: what stands at a value, to the bottom -/
inductive D where
  | non | bl (b : Bool) | int (i : Int) | str (s : Str)
  | lst (xs : List D) | tup (xs : List D) | dct (ks vs : List D) | obj (c : Str) (ns : List Str) (vs : List D)
/-- a name's slot: nothing known, data that stay, a container handed in, a container of the def's own, the law's pen, the object that is being made -/
inductive Sl where
  | un | im (d : D) | bo (d : D) | ow (d : D) | pn | sf (ns : List Str) (vs : List D)
/-- the pen: the script's cells, how many are read, the digits left -/
structure Pn where
  cells : List Int
  k : Int
  z : Int
/-- what a piece of code comes to -/
inductive Ou (α : Type) where
  | ok (a : α) (ρ : List Sl) (t : Pn)
  | ex (c : Str) (ns : List Str) (vs : List D) (t : Pn)
  | bad
abbrev M (α : Type) := List Sl → Pn → Ou α
def Ou.bind {α β : Type} (r : Ou α) (k : α → M β) : Ou β := match r with
  | .ok a ρ t => k a ρ t
  | .ex c ns vs t => .ex c ns vs t
  | .bad => .bad
def mb {α β : Type} (m : M α) (k : α → M β) : M β := fun ρ t => (m ρ t).bind k
def mr {α : Type} (a : α) : M α := fun ρ t => .ok a ρ t
def mx {α : Type} : M α := fun _ _ => .bad
theorem bind_ok {α β : Type} {a : α} {ρ : List Sl} {t : Pn} {k : α → M β} : (Ou.ok a ρ t).bind k = k a ρ t := rfl
theorem bind_ex {α β : Type} {c : Str} {ns : List Str} {vs : List D} {t : Pn} {k : α → M β} : (Ou.ex c ns vs t).bind k = .ex c ns vs t := rfl
theorem bind_bad {α β : Type} {k : α → M β} : (Ou.bad : Ou α).bind k = .bad := rfl
/-- what a statement comes to -/
inductive Fl where
  | nx | rt (d : D) | bk | ct
/-- what is wanted of it -/
def Ou.post {α : Type} (r : Ou α) (P : α → List Sl → Pn → Prop) (E : Str → List Str → List D → Pn → Prop) : Prop := match r with
  | .ok a ρ t => P a ρ t
  | .ex c ns vs t => E c ns vs t
  | .bad => False
theorem post_bind {α β : Type} {r : Ou α} {k : α → M β} {P : β → List Sl → Pn → Prop} {E : Str → List Str → List D → Pn → Prop} (h : (r.bind k).post P E) : r.post (fun a ρ t => (k a ρ t).post P E) E := by
  cases r <;> exact h
theorem post_mono {α : Type} {r : Ou α} {P P' : α → List Sl → Pn → Prop} {E E' : Str → List Str → List D → Pn → Prop} (h : r.post P E) (hP : ∀ a ρ t, P a ρ t → P' a ρ t) (hE : ∀ c ns vs t, E c ns vs t → E' c ns vs t) : r.post P' E' := by
  cases r with
  | ok a ρ t => exact hP _ _ _ h
  | ex c ns vs t => exact hE _ _ _ _ h
  | bad => exact h
/-! ### the heap with some addresses hidden -/
def msk (O : List Addr) (H : Hp) : Hp := fun b => if b ∈ O then none else H b
theorem msk_in {O : List Addr} {H : Hp} {b : Addr} (h : b ∈ O) : msk O H b = none := if_pos h
theorem msk_out {O : List Addr} {H : Hp} {b : Addr} (h : b ∉ O) : msk O H b = H b := if_neg h
theorem msk_le {O : List Addr} {H : Hp} : Same (msk O H) H := fun b o e => by
  by_cases h : b ∈ O
  · rw [msk_in h] at e; cases e
  · rw [msk_out h] at e; exact e
theorem msk_same {O : List Addr} {H H' : Hp} (s : ∀ b o, b ∉ O → H b = some o → H' b = some o) : Same (msk O H) (msk O H') := fun b o e => by
  by_cases h : b ∈ O
  · rw [msk_in h] at e; cases e
  · rw [msk_out h] at e ⊢; exact s b o h e
theorem msk_sub {O O' : List Addr} {H : Hp} (s : ∀ b ∈ O', b ∈ O) : Same (msk O H) (msk O' H) := fun b o e => by
  by_cases h : b ∈ O
  · rw [msk_in h] at e; cases e
  · rw [msk_out h] at e
    rw [msk_out fun z => h (s b z)]; exact e
theorem msk_upd {O : List Addr} {H : Hp} {a : Addr} {o : HO} (h : a ∈ O) : msk O (upd H a o) = msk O H := by
  funext b
  by_cases hb : b ∈ O
  · rw [msk_in hb, msk_in hb]
  · rw [msk_out hb, msk_out hb, upd_ne (fun z => hb (by rw [z]; exact h))]
/-! ### what stands at a value -/
/-- what stays through the whole law: the written part, what the module's names hold, the world -/
structure Ct where
  K : PySem.W.Frag
  mg : Str → Option Value
  w : World
/-- the class of a name -/
def ClsOf (c : Ct) (n : Str) (C : Addr) : Prop := c.mg n = some (.ref C)
/-! ### keys -/
/-- a scalar -/
def isS : D → Bool
  | .non => true
  | .bl _ => true
  | .int _ => true
  | .str _ => true
  | _ => false
def b2n (b : Bool) : Int := if b = true then 1 else 0
def nkS : D → NestedKey
  | .bl b => .num (b2n b)
  | .int i => .num i
  | .str s => .text s
  | _ => .none
/-- a key up to == -/
def nk : D → NestedKey
  | .tup ks => .tup (ks.map nkS)
  | d => nkS d
/-- a key by value (false), a tuple of such, of truth values and of None (true) -/
def kkind : D → Option Bool
  | .int _ => some false
  | .str _ => some false
  | .tup ks => if ks.all isS = true then some true else none
  | _ => none
/-- a dict whose keys are tuples -/
def tdPhi (w : World) (a : Addr) (xs : List (NestedKey × Addr × V)) (h : Heap) : Prop :=
  xs.length ≤ sizeLine ∧ (a == sysModules) = false ∧ (xs.map (·.1)).Nodup ∧ ∃ ys : List (NestedKey × Addr × Value), Paired (fun p q => p.1 = q.1 ∧ p.2.1 = q.2.1 ∧ RelV p.2.2 q.2.2) xs ys ∧
    ∃ o es ep, h.get? a = some o ∧ o.ExactDict ∧ o.data = .dict es ep ∧ es.toList = ys.map fun y => (⟨y.1.hash w, .ref y.2.1, y.2.2⟩ : DictEntry)
def tdO (w : World) (a : Addr) (xs : List (NestedKey × Addr × V)) : HO := .ext (tdPhi w a xs)
mutual
inductive Ld (c : Ct) (H : Hp) : V → D → Prop
  | non : Ld c H .non .non
  | bl (b : Bool) : Ld c H (.bl b) (.bl b)
  | int (i : Int) : Ld c H (.int i) (.int i)
  | str (x : Str) : Ld c H (.str x) (.str x)
  | lst {a : Addr} {xs : List V} {ds : List D} : H a = some (.lst xs) → LdA c H xs ds → Ld c H (.ref a) (.lst ds)
  | tup {a : Addr} {xs : List V} {ds : List D} : SqT c.K H a xs → LdA c H xs ds → Ld c H (.ref a) (.tup ds)
  | dct {a : Addr} {kvs : List (Key × V)} {kd vd : List D} : Rd H a (.dK kvs) → LdA c H (kvs.map fun q => kV q.1) kd → LdA c H (kvs.map (·.2)) vd → Ld c H (.ref a) (.dct kd vd)
  | dctT {a : Addr} {xs : List (NestedKey × Addr × V)} {kd vd : List D} : Rd H a (tdO c.w a xs) → LdA c H (xs.map fun q => V.ref q.2.1) kd → xs.map (·.1) = kd.map nk → (kd.all fun d => decide (kkind d = some true)) = true →
      LdA c H (xs.map (·.2.2)) vd → Ld c H (.ref a) (.dct kd vd)
  | obj {a C dx : Addr} {fs : List (Str × V)} {n : Str} {vd : List D} : H a = some (.ins C dx fs) → ClsOf c n C → LdA c H (fs.map (·.2)) vd → Ld c H (.ref a) (.obj n (fs.map (·.1)) vd)
inductive LdA (c : Ct) (H : Hp) : List V → List D → Prop
  | nil : LdA c H [] []
  | cons {v : V} {vs : List V} {d : D} {ds : List D} : Ld c H v d → LdA c H vs ds → LdA c H (v :: vs) (d :: ds)
end
section
variable {c : Ct} {K : PySem.W.Frag} {H H' : Hp}
theorem rd_same {a : Addr} {u : HO} (e : Same H H') (h : Rd H a u) : Rd H' a u := by
  rcases h with h | ⟨o, h⟩
  · exact .inl (e _ _ h)
  · exact .inr ⟨o, e _ _ h⟩
theorem seqT_same {a : Addr} {xs : List V} (e : Same H H') (h : SqT K H a xs) : SqT K H' a xs := by
  rcases h with (h | ⟨ob, h⟩) | h
  · exact .inl (.inl (e _ _ h))
  · exact .inl (.inr ⟨ob, e _ _ h⟩)
  · exact .inr h
mutual
theorem Ld.same (s : Same H H') : ∀ {d : D} {v : V}, Ld c H v d → Ld c H' v d
  | _, _, .non => .non
  | _, _, .bl b => .bl b
  | _, _, .int b => .int b
  | _, _, .str b => .str b
  | _, _, .lst h a => .lst (s _ _ h) (LdA.same s a)
  | _, _, .tup h a => .tup (seqT_same s h) (LdA.same s a)
  | _, _, .dct h a b => .dct (rd_same s h) (LdA.same s a) (LdA.same s b)
  | _, _, .dctT h a e k b => .dctT (rd_same s h) (LdA.same s a) e k (LdA.same s b)
  | _, _, .obj h c a => .obj (s _ _ h) c (LdA.same s a)
theorem LdA.same (s : Same H H') : ∀ {ds : List D} {vs : List V}, LdA c H vs ds → LdA c H' vs ds
  | _, _, .nil => .nil
  | _, _, .cons h a => .cons (Ld.same s h) (LdA.same s a)
end
theorem LdA.len : ∀ {ds : List D} {vs : List V}, LdA c H vs ds → vs.length = ds.length
  | _, _, .nil => rfl
  | _, _, .cons h a => congrArg Nat.succ (LdA.len a)
theorem LdA.app : ∀ {ds es : List D} {vs ws : List V}, LdA c H vs ds → LdA c H ws es → LdA c H (vs ++ ws) (ds ++ es)
  | _, _, _, _, .nil, b => b
  | _, _, _, _, .cons h a, b => .cons h (LdA.app a b)
theorem LdA.get : ∀ {ds : List D} {vs : List V}, LdA c H vs ds → ∀ {i : Nat} {v : V}, vs[i]? = some v → ∃ d, ds[i]? = some d ∧ Ld c H v d
  | _, _, .nil, i, x, e => by cases e
  | _, _, .cons h a, 0, x, e => by cases e; exact ⟨_, rfl, h⟩
  | _, _, .cons h a, i + 1, x, e => LdA.get a (i := i) (by simpa using e)
theorem LdA.get' : ∀ {ds : List D} {vs : List V}, LdA c H vs ds → ∀ {i : Nat} {d : D}, ds[i]? = some d → ∃ v, vs[i]? = some v ∧ Ld c H v d
  | _, _, .nil, i, x, e => by cases e
  | _, _, .cons h a, 0, x, e => by cases e; exact ⟨_, rfl, h⟩
  | _, _, .cons h a, i + 1, x, e => LdA.get' a (i := i) (by simpa using e)
theorem LdA.drop : ∀ {ds : List D} {vs : List V} (n : Nat), LdA c H vs ds → LdA c H (vs.drop n) (ds.drop n)
  | _, _, 0, a => a
  | _, _, n + 1, .nil => .nil
  | _, _, n + 1, .cons h a => LdA.drop n a
theorem LdA.take : ∀ {ds : List D} {vs : List V} (n : Nat), LdA c H vs ds → LdA c H (vs.take n) (ds.take n)
  | _, _, 0, a => .nil
  | _, _, n + 1, .nil => .nil
  | _, _, n + 1, .cons h a => .cons h (LdA.take n a)
theorem LdA.rev {ds : List D} {vs : List V} (h : LdA c H vs ds) : LdA c H vs.reverse ds.reverse := by
  induction ds generalizing vs with
  | nil => cases h; exact .nil
  | cons d ds ih =>
    cases h with
    | cons h a =>
      rw [List.reverse_cons, List.reverse_cons]
      exact LdA.app (ih a) (.cons h .nil)
theorem LdA.set : ∀ {ds : List D} {vs : List V}, LdA c H vs ds → ∀ {v : V} {d : D}, Ld c H v d → ∀ i : Nat, LdA c H (vs.set i v) (ds.set i d)
  | _, _, .nil, _, _, _, _ => .nil
  | _, _, .cons _ a, _, _, h, 0 => .cons h a
  | _, _, .cons h0 a, _, _, h, i + 1 => .cons h0 (LdA.set a h i)
theorem LdA.erase : ∀ {ds : List D} {vs : List V}, LdA c H vs ds → ∀ i : Nat, LdA c H (vs.eraseIdx i) (ds.eraseIdx i)
  | _, _, .nil, _ => .nil
  | _, _, .cons _ a, 0 => a
  | _, _, .cons h a, i + 1 => .cons h (LdA.erase a i)
end
/-! ### plain data: none, truth values, whole numbers, texts, lists, tuples -/
mutual
def toP : D → PyData
  | .non => .none
  | .bl b => .bool b
  | .int i => .int i
  | .str s => .str s
  | .lst xs => .list (toPs xs)
  | .tup xs => .tuple (toPs xs)
  | .dct _ _ => .none
  | .obj _ _ _ => .none
def toPs : List D → List PyData
  | [] => []
  | x :: xs => toP x :: toPs xs
end
mutual
/-- plain, and no deeper than n -/
def plain : Nat → D → Bool
  | _, .non => true
  | _, .bl _ => true
  | _, .int _ => true
  | _, .str s => PyData.strOk s
  | 0, .lst _ => false
  | 0, .tup _ => false
  | n + 1, .lst xs => plains n xs
  | n + 1, .tup xs => plains n xs
  | _, .dct _ _ => false
  | _, .obj _ _ _ => false
def plains : Nat → List D → Bool
  | _, [] => true
  | n, x :: xs => plain n x && plains n xs
end
end DL

set_option Elab.async false
set_option linter.all false
set_option maxRecDepth 100000
set_option maxHeartbeats 1000000
namespace DL
open PySem PySem.Spec PyProof.Rows L2
/-! ### plain data read by the layer below -/
section
variable {c : Ct} {H H' : Hp}
mutual
theorem Ld.dp : ∀ {n : Nat} {d : D} {v : V}, Ld c H v d → plain n d = true → Dp c.K H v (toP d)
  | _, .non, _, .non, _ => .non
  | _, .bl _, _, .bl b, _ => .bl b
  | _, .int _, _, .int b, _ => .int b
  | _, .str _, _, .str b, _ => .str b
  | n + 1, .lst _, _, .lst h a, p => .lst (SqL.of h) (LdA.dp (n := n) a p)
  | n + 1, .tup _, _, .tup h a, p => .tup h (LdA.dp (n := n) a p)
theorem LdA.dp : ∀ {n : Nat} {ds : List D} {vs : List V}, LdA c H vs ds → plains n ds = true → DpAll c.K H vs (toPs ds)
  | _, [], _, .nil, _ => .nil
  | n, _ :: _, _, .cons h a, p => by
    have p' : (plain n _ && plains n _) = true := p
    rw [Bool.and_eq_true] at p'
    exact .cons (Ld.dp h p'.1) (LdA.dp a p'.2)
end
mutual
theorem plain_lay : ∀ {n : Nat} {d : D}, plain n d = true → (toP d).canLay0 = true ∧ (toP d).depth ≤ n
  | _, .non, _ => ⟨by simp [toP, PyData.canLay0], by simp [toP, PyData.depth]⟩
  | _, .bl _, _ => ⟨by simp [toP, PyData.canLay0], by simp [toP, PyData.depth]⟩
  | _, .int _, _ => ⟨by simp [toP, PyData.canLay0], by simp [toP, PyData.depth]⟩
  | _, .str s, p => ⟨by
      simp only [toP, PyData.canLay0]
      exact p, by simp [toP, PyData.depth]⟩
  | n + 1, .lst xs, p => by
    obtain ⟨a, b⟩ := plains_lay (n := n) (ds := xs) p
    refine ⟨?_, ?_⟩
    · simp only [toP, PyData.canLay0]; exact a
    · simp only [toP, PyData.depth]; omega
  | n + 1, .tup xs, p => by
    obtain ⟨a, b⟩ := plains_lay (n := n) (ds := xs) p
    refine ⟨?_, ?_⟩
    · simp only [toP, PyData.canLay0]; exact a
    · simp only [toP, PyData.depth]; omega
  | 0, .lst _, p => by cases p
  | 0, .tup _, p => by cases p
theorem plains_lay : ∀ {n : Nat} {ds : List D}, plains n ds = true → PyData.canLayAll0 (toPs ds) = true ∧ PyData.depthAll (toPs ds) ≤ n
  | _, [], _ => by simp [toPs, PyData.canLayAll0, PyData.depthAll]
  | n, d :: ds, p => by
    have p' : (plain n d && plains n ds) = true := p
    rw [Bool.and_eq_true] at p'
    obtain ⟨a, b⟩ := plain_lay p'.1
    obtain ⟨c, e⟩ := plains_lay p'.2
    simp only [toPs, PyData.canLayAll0, PyData.depthAll, a, c, Bool.and_self, true_and]
    omega
end
end
/-! ### the context -/
structure G where
  c : Ct
  /-- the pen: its dict, the list of its cells, the name of its counter -/
  pen : Option (Addr × Addr × Str)
  /-- the object that is being made: its address, its class, its dict -/
  slf : Option (Addr × Addr × Addr)
  /-- what callers hide -/
  O : List Addr
  /-- the heap at the entry -/
  H0 : Hp
/-- what a def may change -/
def G.out (g : G) (b : Addr) : Prop := (∀ p l n, g.pen = some (p, l, n) → b ≠ p) ∧ (∀ x C dx, g.slf = some (x, C, dx) → b ≠ x)
def Pres (g : G) (H H' : Hp) : Prop := ∀ b o, H b = some o → g.out b → H' b = some o
theorem Pres.refl {g : G} {H : Hp} : Pres g H H := fun _ _ h _ => h
theorem Pres.trans {g : G} {H H1 H2 : Hp} (a : Pres g H H1) (b : Pres g H1 H2) : Pres g H H2 := fun c o h n => b c o (a c o h n) n
theorem Same.pres {g : G} {H H' : Hp} (s : Same H H') : Pres g H H' := fun b o h _ => s b o h
abbrev pnL (l : Addr) (n : Str) (t : Pn) : List (Key × V) := [(Sum.inr "cells", .ref l), (Sum.inr n, .int t.k), (Sum.inr "left", .int t.z)]
/-- the pen as it lies -/
structure PenAt (H : Hp) (p l : Addr) (n : Str) (t : Pn) : Prop where
  d : H p = some (.dK (pnL l n t))
  l : H l = some (.lst (t.cells.map V.int))
  k0 : 0 ≤ t.k
  z0 : 0 ≤ t.z
  len : t.cells.length ≤ 63
def PenOk (g : G) (H : Hp) (t : Pn) : Prop := ∀ p l n, g.pen = some (p, l, n) → PenAt H p l n t ∧ p ∈ g.O ∧ l ∉ g.O ∧ ∃ o, g.H0 l = some o
def mo (g : G) (os : List Addr) : List Addr := g.O ++ os
/-- the hidden heap -/
abbrev hd (g : G) (os : List Addr) (H : Hp) : Hp := msk (mo g os) H
abbrev Lay (g : G) (os : List Addr) (H : Hp) (v : V) (d : D) : Prop := Ld g.c (hd g os H) v d
abbrev LayA (g : G) (os : List Addr) (H : Hp) (vs : List V) (ds : List D) : Prop := LdA g.c (hd g os H) vs ds
/-- a container at a that its owner may change: what is in it is laid -/
def Own (g : G) (os : List Addr) (H : Hp) (a : Addr) : D → Prop
  | .lst ds => ∃ vs, H a = some (.lst vs) ∧ LayA g os H vs ds
  | .dct kd vd => (∃ kvs : List (Key × V), H a = some (.dK kvs) ∧ LayA g os H (kvs.map fun q => kV q.1) kd ∧ LayA g os H (kvs.map (·.2)) vd) ∨
      ∃ xs : List (NestedKey × Addr × V), H a = some (tdO g.c.w a xs) ∧ LayA g os H (xs.map fun q => V.ref q.2.1) kd ∧ xs.map (·.1) = kd.map nk ∧ (kd.all fun d => decide (kkind d = some true)) = true ∧ LayA g os H (xs.map (·.2.2)) vd ∧ xs ≠ []
  | _ => False
def SlOk (g : G) (os : List Addr) (H : Hp) (u : Option (Option V)) : Sl → Prop
  | .un => True
  | .im d => ∃ v, u = some (some v) ∧ Lay g os H v d
  | .bo d => False
  | .ow d => ∃ a, u = some (some (.ref a)) ∧ a ∈ os ∧ Own g os H a d
  | .pn => ∃ p l n, g.pen = some (p, l, n) ∧ u = some (some (.ref p))
  | .sf ns vs => ∃ x C dx fs, g.slf = some (x, C, dx) ∧ u = some (some (.ref x)) ∧ H x = some (.ins C dx fs) ∧ fs.map (·.1) = ns ∧ LayA g os H (fs.map (·.2)) vs
structure Amb (g : G) (os : List Addr) (σ : L2.St) (H : Hp) (ρ : List Sl) (t : Pn) : Prop where
  len : ρ.length = σ.length
  sl : ∀ (i : Nat) (s : Sl), ρ[i]? = some s → SlOk g os H σ[i]? s
  dis : ∀ (i j : Nat) (d e : D) (a : Addr), i ≠ j → ρ[i]? = some (.ow d) → ρ[j]? = some (.ow e) → σ[i]? = some (some (.ref a)) → σ[j]? ≠ some (some (.ref a))
  pres : Pres g g.H0 H
  new : ∀ a ∈ os, g.H0 a = none
  live : ∀ a ∈ mo g os, ∃ o, H a = some o
  slf : ∀ x C dx, g.slf = some (x, C, dx) → x ∈ g.O
  o0 : ∀ a ∈ g.O, ∃ o, g.H0 a = some o
  pen : PenOk g H t
section
variable {g : G} {os os' : List Addr} {σ : L2.St} {H H' : Hp} {ρ : List Sl} {t : Pn}
theorem Own.same {a : Addr} {d : D} (s : Same (hd g os H) (hd g os' H')) (e : ∀ o, H a = some o → H' a = some o) (h : Own g os H a d) : Own g os' H' a d := by
  cases d with
  | lst ds => obtain ⟨vs, h1, h2⟩ := h; exact ⟨vs, e _ h1, LdA.same s h2⟩
  | dct kd vd =>
    rcases h with ⟨kvs, h1, h2, h3⟩ | ⟨xs, h1, h2, h3, h4, h5, h6⟩
    · exact .inl ⟨kvs, e _ h1, LdA.same s h2, LdA.same s h3⟩
    · exact .inr ⟨xs, e _ h1, LdA.same s h2, h3, h4, LdA.same s h5, h6⟩
  | _ => exact h
/-- the state goes on: all that is hidden lies as it lay but what may be changed -/
theorem Amb.step (A : Amb g os σ H ρ t) (s : Same (hd g os H) (hd g os H')) (ho : ∀ a ∈ os, ∀ o, H a = some o → H' a = some o) (hp : Pres g H H') (hl : ∀ a ∈ g.O, ∃ o, H' a = some o)
    (hs : ∀ x C dx, g.slf = some (x, C, dx) → ∀ o, H x = some o → H' x = some o) {t' : Pn} (hq : PenOk g H' t') : Amb g os σ H' ρ t' where
  len := A.len
  sl := fun i sx e => by
    have q := A.sl i sx e
    cases sx with
    | un => trivial
    | im d => obtain ⟨v, h1, h2⟩ := q; exact ⟨v, h1, Ld.same s h2⟩
    | bo d => exact q.elim
    | ow d => obtain ⟨a, h1, h2, h3⟩ := q; exact ⟨a, h1, h2, h3.same s (ho a h2)⟩
    | pn => exact q
    | sf ns vs => obtain ⟨x, C, dx, fs, h1, h2, h3, h4, h5⟩ := q; exact ⟨x, C, dx, fs, h1, h2, hs _ _ _ h1 _ h3, h4, LdA.same s h5⟩
  dis := A.dis
  pres := A.pres.trans hp
  new := A.new
  live := fun a ha => by
    rcases List.mem_append.mp ha with h | h
    · exact hl a h
    · obtain ⟨o, ho'⟩ := A.live a ha
      exact ⟨o, ho a h o ho'⟩
  slf := A.slf
  o0 := A.o0
  pen := hq
/-- all that lay lies -/
theorem Amb.same (A : Amb g os σ H ρ t) (s : Same H H') : Amb g os σ H' ρ t :=
  A.step (msk_same fun b o _ e => s b o e) (fun a _ o e => s a o e) (Same.pres s) (fun a ha => by obtain ⟨o, e⟩ := A.live a (List.mem_append_left _ ha); exact ⟨o, s _ _ e⟩) (fun x C dx _ o e => s _ _ e)
    (fun p l n e => by obtain ⟨q, h1, h2⟩ := A.pen p l n e; exact ⟨⟨s _ _ q.d, s _ _ q.l, q.k0, q.z0, q.len⟩, h1, h2⟩)
theorem Amb.fresh (A : Amb g os σ H ρ t) {p : Addr} (h : H p = none) : p ∉ mo g os := fun hp => by
  obtain ⟨o, e⟩ := A.live p hp
  rw [h] at e; cases e
theorem same_upd {p : Addr} {o : HO} (h : H p = none) : Same H (upd H p o) := fun b o' e => by
  rw [upd_ne (ne_of_none e h)]; exact e
theorem hd_same (s : Same H H') : Same (hd g os H) (hd g os H') := msk_same fun b o _ e => s b o e
theorem hd_drop {a : Addr} : Same (hd g (a :: os) H) (hd g os H) := msk_sub fun b hb => by
  rcases List.mem_append.mp hb with h | h
  · exact List.mem_append_left _ h
  · exact List.mem_append_right _ (List.mem_cons_of_mem _ h)
theorem Amb.new_at (A : Amb g os σ H ρ t) {p : Addr} {o : HO} (h : H p = none) : Amb g os σ (upd H p o) ρ t := A.same (same_upd h)
theorem Amb.h0 (A : Amb g os σ H ρ t) {p : Addr} (h : H p = none) (ho : g.out p) : g.H0 p = none := by
  cases e : g.H0 p with
  | none => rfl
  | some o => have := A.pres p o e ho; rw [h] at this; cases this
theorem Amb.out_fresh (A : Amb g os σ H ρ t) {p : Addr} (h : H p = none) : g.out p := by
  refine ⟨fun q l n e z => ?_, fun x C dx e z => ?_⟩
  · obtain ⟨r, _, _⟩ := A.pen q l n e
    rw [z, r.d] at h; cases h
  · obtain ⟨o, e'⟩ := A.live x (List.mem_append_left _ (A.slf x C dx e))
    rw [z, e'] at h; cases h
/-- a new object that is owned from now on -/
theorem Amb.own (A : Amb g os σ H ρ t) {p : Addr} {o : HO} (h : H p = none) : Amb g (p :: os) σ (upd H p o) ρ t := by
  have B := A.new_at (o := o) h
  have nf := A.fresh h
  have e : Same (hd g os H) (hd g (p :: os) (upd H p o)) := fun b u e => by
    by_cases hb : b ∈ mo g os
    · rw [show hd g os H b = none from msk_in hb] at e; cases e
    · rw [show hd g os H b = H b from msk_out hb] at e
      have nb : b ≠ p := ne_of_none e h
      have nb2 : b ∉ mo g (p :: os) := fun z => by
        rcases List.mem_append.mp z with z | z
        · exact hb (List.mem_append_left _ z)
        · rcases List.mem_cons.mp z with z | z
          · exact nb z
          · exact hb (List.mem_append_right _ z)
      rw [show hd g (p :: os) (upd H p o) b = upd H p o b from msk_out nb2, upd_ne nb]
      exact e
  have old : ∀ {a : Addr} {u : HO}, H a = some u → upd H p o a = some u := fun {a u} z => by rw [upd_ne (ne_of_none z h)]; exact z
  refine ⟨B.len, fun i sx ei => ?_, B.dis, B.pres, fun a ha => ?_, fun a ha => ?_, B.slf, B.o0, B.pen⟩
  · have q := A.sl i sx ei
    cases sx with
    | un => trivial
    | im d => obtain ⟨v, h1, h2⟩ := q; exact ⟨v, h1, Ld.same e h2⟩
    | bo d => exact q.elim
    | ow d => obtain ⟨a, h1, h2, h3⟩ := q; exact ⟨a, h1, List.mem_cons_of_mem _ h2, h3.same e fun o z => old z⟩
    | pn => exact q
    | sf ns vs => obtain ⟨x, C, dx, fs, h1, h2, h3, h4, h5⟩ := q; exact ⟨x, C, dx, fs, h1, h2, old h3, h4, LdA.same e h5⟩
  · rcases List.mem_cons.mp ha with rfl | ha
    · exact A.h0 h (A.out_fresh h)
    · exact A.new a ha
  · rcases List.mem_append.mp ha with z | z
    · exact B.live a (List.mem_append_left _ z)
    · rcases List.mem_cons.mp z with rfl | z
      · exact ⟨o, upd_same⟩
      · exact B.live a (List.mem_append_right _ z)
theorem hd_own {p : Addr} {o : HO} (A : Amb g os σ H ρ t) (h : H p = none) : Same (hd g os H) (hd g (p :: os) (upd H p o)) := fun b u e => by
  by_cases hb : b ∈ mo g os
  · rw [show hd g os H b = none from msk_in hb] at e; cases e
  · rw [show hd g os H b = H b from msk_out hb] at e
    have nb : b ≠ p := ne_of_none e h
    have nb2 : b ∉ mo g (p :: os) := fun z => by
      rcases List.mem_append.mp z with z | z
      · exact hb (List.mem_append_left _ z)
      · rcases List.mem_cons.mp z with z | z
        · exact nb z
        · exact hb (List.mem_append_right _ z)
    rw [show hd g (p :: os) (upd H p o) b = upd H p o b from msk_out nb2, upd_ne nb]
    exact e
/-- what an expression leaves: all that was seen is seen, what is owned lies as it lay -/
structure Go (g : G) (os : List Addr) (H : Hp) (os' : List Addr) (H' : Hp) : Prop where
  s : Same (hd g os H) (hd g os' H')
  k : ∀ b ∈ os, b ∈ os' ∧ ∀ o, H b = some o → H' b = some o
  x : ∀ x C dx, g.slf = some (x, C, dx) → ∀ o, H x = some o → H' x = some o
theorem Go.refl : Go g os H os H := ⟨Same.refl _, fun b h => ⟨h, fun _ e => e⟩, fun _ _ _ _ _ e => e⟩
theorem Go.trans {os1 os2 : List Addr} {H1 H2 : Hp} (a : Go g os H os1 H1) (b : Go g os1 H1 os2 H2) : Go g os H os2 H2 :=
  ⟨a.s.trans b.s, fun c h => ⟨(b.k c (a.k c h).1).1, fun o e => (b.k c (a.k c h).1).2 o ((a.k c h).2 o e)⟩, fun x C dx e o z => b.x x C dx e o (a.x x C dx e o z)⟩
theorem Go.same (s : Same H H') : Go g os H os H' := ⟨hd_same s, fun b h => ⟨h, fun _ e => s _ _ e⟩, fun _ _ _ _ _ e => s _ _ e⟩
theorem Go.own {p : Addr} {o : HO} (A : Amb g os σ H ρ t) (h : H p = none) : Go g os H (p :: os) (upd H p o) :=
  ⟨hd_own A h, fun b h => ⟨List.mem_cons_of_mem _ h, fun _ e => same_upd ‹_› _ _ e⟩, fun _ _ _ _ _ e => same_upd h _ _ e⟩
theorem Go.none {os1 : List Addr} {H1 : Hp} {σ1 : L2.St} {ρ1 : List Sl} {t1 : Pn} (s : Go g os H os1 H1) (A : Amb g os1 σ1 H1 ρ1 t1) {p : Addr} (h : H1 p = .none) : H p = .none := by
  cases e : H p with
  | none => rfl
  | some o =>
    by_cases hp : p ∈ mo g os
    · rcases List.mem_append.mp hp with z | z
      · obtain ⟨o', e'⟩ := A.live p (List.mem_append_left _ z)
        rw [h] at e'; cases e'
      · have := (s.k p z).2 o e
        rw [h] at this; cases this
    · have := s.s p o (by rw [show hd g os H p = H p from msk_out hp]; exact e)
      have := msk_le _ _ this
      rw [h] at this; cases this
theorem Go.drop {os1 : List Addr} {H1 : Hp} {p : Addr} (A : Amb g os σ H ρ t) (s : Go g os H (p :: os1) H1) (h : H p = .none) : Go g os H os1 H1 :=
  ⟨s.s.trans hd_drop, fun b hb => ⟨by
    rcases List.mem_cons.mp (s.k b hb).1 with e | e
    · obtain ⟨o, z⟩ := A.live b (List.mem_append_right _ hb)
      rw [e, h] at z; cases z
    · exact e, (s.k b hb).2⟩, s.x⟩
instance : CoeOut (Go g os H os' H') (Same (hd g os H) (hd g os' H')) := ⟨Go.s⟩
end
end DL

set_option Elab.async false
set_option linter.all false
set_option maxRecDepth 100000
set_option maxHeartbeats 1000000
namespace DL
open PySem PySem.Spec PyProof.Rows L2
/-! ### readings by data -/
def noX : Str → List Str → List D → Pn → Prop := fun _ _ _ _ => False
/-- an expression -/
def tD (g : G) (f : M D) : TE := fun σ H Q => ∃ os ρ t, Amb g os σ H ρ t ∧
  (f ρ t).post (fun d ρ' t' => ∀ v H' os', Amb g os' σ H' ρ' t' → Lay g os' H' v d → Go g os H os' H' → Q v H') noX
/-- arguments, items -/
def aD (g : G) (f : M (List D)) : TA := fun σ H Q => ∃ os ρ t, Amb g os σ H ρ t ∧
  (f ρ t).post (fun ds ρ' t' => ∀ vs H' os', Amb g os' σ H' ρ' t' → LayA g os' H' vs ds → Go g os H os' H' → Q vs H') noX
/-- a test -/
def bD (g : G) (f : M Bool) : TT := fun σ H Q => ∃ os ρ t, Amb g os σ H ρ t ∧
  (f ρ t).post (fun b ρ' t' => ∀ H' os', Amb g os' σ H' ρ' t' → Go g os H os' H' → Q b H') noX
/-- no name owns the object at p -/
def NOw (σ : L2.St) (ρ : List Sl) (p : Addr) : Prop := ∀ (i : Nat) (d : D), ρ[i]? = some (.ow d) → σ[i]? ≠ some (some (.ref p))
/-- an expression that makes a new container -/
def fD (g : G) (f : M D) : TE := fun σ H Q => ∃ os ρ t, Amb g os σ H ρ t ∧
  (f ρ t).post (fun d ρ' t' => ∀ p H' os', Amb g (p :: os') σ H' ρ' t' → Own g (p :: os') H' p d → (p ∉ mo g os' ∧ H p = none) → NOw σ ρ' p → Go g os H (p :: os') H' → Q (.ref p) H') noX
/-- a statement, a block -/
def sQ (g : G) (Dn : Ends) (B : Hp) (fl : Fl) (ρ' : List Sl) (t' : Pn) : Prop := match fl with
  | .nx => ∀ σ' H' os', Amb g os' σ' H' ρ' t' → Same B (hd g os' H') → Dn.nx σ' H'
  | .bk => ∀ σ' H' os', Amb g os' σ' H' ρ' t' → Same B (hd g os' H') → Dn.bk σ' H'
  | .ct => ∀ σ' H' os', Amb g os' σ' H' ρ' t' → Same B (hd g os' H') → Dn.ct σ' H'
  | .rt d => ∀ v σ' H' os', Amb g os' σ' H' ρ' t' → Lay g os' H' v d → Same B (hd g os' H') → Dn.rt v H'
def sD (g : G) (f : M Fl) : TS := fun Dn σ H => ∃ os ρ t, Amb g os σ H ρ t ∧ (f ρ t).post (sQ g Dn (hd g os H)) noX
theorem sQ.base {g : G} {Dn : Ends} {B B' : Hp} (s : Same B B') {fl : Fl} {ρ : List Sl} {t : Pn} (h : sQ g Dn B fl ρ t) : sQ g Dn B' fl ρ t := by
  cases fl with
  | nx => exact fun σ' H' os' A z => h σ' H' os' A (s.trans z)
  | bk => exact fun σ' H' os' A z => h σ' H' os' A (s.trans z)
  | ct => exact fun σ' H' os' A z => h σ' H' os' A (s.trans z)
  | rt d => exact fun v σ' H' os' A l z => h v σ' H' os' A l (s.trans z)
abbrev SE (X : Cx) (g : G) (e : Expr) (f : M D) : Prop := PE X e (tD g f)
abbrev SF (X : Cx) (g : G) (e : Expr) (f : M D) : Prop := PE X e (fD g f)
abbrev SA (X : Cx) (g : G) (es : List Expr) (f : M (List D)) : Prop := PA X es (aD g f)
abbrev ST (X : Cx) (g : G) (e : Expr) (f : M Bool) : Prop := PT X e (bD g f)
abbrev SS (X : Cx) (g : G) (s : Stmt) (f : M Fl) : Prop := PS X s (sD g f)
abbrev SSs (X : Cx) (g : G) (s : List Stmt) (f : M Fl) : Prop := PSs X s (sD g f)
/-- the layer's context suits -/
structure Fx (X : Cx) (g : G) : Prop where
  k : X.K = g.c.K
  m : X.mg = g.c.mg
  w : X.w = g.c.w
  u : X.A.units + 65 < cLine
  c : X.calm = true
  n : X.N.Nodup
  p : PassesOwn (model X.prog X.w) X.A X.env X.xe
section
variable {X : Cx} {g : G}
theorem Fx.blk (fx : Fx X g) {s : Shared} {H : Hp} {scope : Scope} {ce : Env} {fp : List Addr} : Fx (X.blk s H scope ce fp) g := ⟨fx.k, fx.m, fx.w, fx.u, fx.c, fx.n, PassesOwn.never⟩
theorem Fx.u1 (fx : Fx X g) : X.A.units + 1 < cLine := by have := fx.u; omega
theorem Fx.u64 (fx : Fx X g) : X.A.units + 64 < cLine := by have := fx.u; omega
theorem PE.imp {e : Expr} {t t' : TE} (h : PE X e t) (w : ∀ σ H Q, t' σ H Q → t σ H Q) : PE X e t' := ⟨fun pins s σ H Q I q => h.run pins s σ H Q I (w σ H Q q)⟩
theorem PT.imp {e : Expr} {t t' : TT} (h : PT X e t) (w : ∀ σ H Q, t' σ H Q → t σ H Q) : PT X e t' := ⟨fun pins s σ H Q I q => h.run pins s σ H Q I (w σ H Q q)⟩
theorem PW.imp {e : Expr} {t t' : TT} (h : PW X e t) (w : ∀ σ H Q, t' σ H Q → t σ H Q) : PW X e t' := ⟨fun wh pins s σ H Q I q => h.run wh pins s σ H Q I (w σ H Q q)⟩
theorem PA.imp {e : List Expr} {t t' : TA} (h : PA X e t) (w : ∀ σ H Q, t' σ H Q → t σ H Q) : PA X e t' := ⟨fun pos pins s σ H Q I q => h.run pos pins s σ H Q I (w σ H Q q)⟩
theorem PS.imp {e : Stmt} {t t' : TS} (h : PS X e t) (w : ∀ Dn σ H, t' Dn σ H → t Dn σ H) : PS X e t' := ⟨fun pins s σ H Dn I q => h.run pins s σ H Dn I (w Dn σ H q)⟩
theorem PSs.imp {e : List Stmt} {t t' : TS} (h : PSs X e t) (w : ∀ Dn σ H, t' Dn σ H → t Dn σ H) : PSs X e t' := ⟨fun pins s σ H Dn I q => h.run pins s σ H Dn I (w Dn σ H q)⟩
theorem PE.or {e : Expr} {t1 t2 : TE} (h1 : PE X e t1) (h2 : PE X e t2) : PE X e (fun σ H Q => t1 σ H Q ∨ t2 σ H Q) :=
  ⟨fun pins s σ H Q I h => h.elim (h1.run pins s σ H Q I) (h2.run pins s σ H Q I)⟩
end
/-! ### names, constants -/
def evar (i : Nat) : M D := fun ρ t => match ρ[i]? with
  | some (.im d) => .ok d ρ t
  | _ => .bad
section
variable {X : Cx} {g : G}
theorem se_var (i : Nat) {x : Str} {pos : Pos} (h : PE X (.Name x pos) (tVar i)) : SE X g (.Name x pos) (evar i) := PE.imp h fun σ H Q q => by
  obtain ⟨os, ρ, t, A, q⟩ := q
  unfold evar at q
  cases e : ρ[i]? with
  | none => rw [e] at q; exact q.elim
  | some s =>
    rw [e] at q
    cases s with
    | im d =>
      obtain ⟨v, h1, h2⟩ := A.sl i _ e
      exact ⟨v, h1, q v H os A h2 Go.refl⟩
    | _ => exact q.elim
theorem se_c {e : Expr} {v : V} {d : D} (h : PE X e (tC v)) (l : ∀ c H, Ld c H v d) : SE X g e (mr d) := PE.imp h fun σ H Q q => by
  obtain ⟨os, ρ, t, A, q⟩ := q
  exact q v H os A (l _ _) Go.refl
theorem se_int {i : Int} {j pos} : SE X g (.Constant (.int i) j pos) (mr (.int i)) := se_c pe_int fun _ _ => .int i
theorem se_bl {b : Bool} {j pos} : SE X g (.Constant (.bool b) j pos) (mr (.bl b)) := se_c pe_bl fun _ _ => .bl b
theorem se_non {j pos} : SE X g (.Constant .none j pos) (mr .non) := se_c pe_non fun _ _ => .non
theorem se_str {x : Str} {j pos} : SE X g (.Constant (.str x) j pos) (mr (.str x)) := se_c pe_str fun _ _ => .str x
/-- a constant of the module -/
theorem se_glob {x : Str} {pos : Pos} {d : D} (fx : Fx X g) (hg : Gl X x) (h : ∃ u v, g.c.mg x = some u ∧ RelV v u ∧ ∀ H, Ld g.c H v d) (hd : (x == ("__debug__" : Str)) = false := by decide) : SE X g (.Name x pos) (mr d) := by
  obtain ⟨u, v, h1, h2, h3⟩ := h
  exact PE.imp (pe_glob hg (by rw [fx.m]; exact h1) h2 hd) fun σ H Q q => by
      obtain ⟨os, ρ, t, A, q⟩ := q
      exact q v H os A (h3 _) Go.refl
end
end DL

set_option Elab.async false
set_option linter.all false
set_option maxRecDepth 100000
set_option maxHeartbeats 1000000
namespace DL
open PySem PySem.Spec PyProof.Rows L2
/-! ### operators -/
abbrev lim : Nat := 1000000
theorem lim_le {n : Nat} (h : n ≤ lim) : n ≤ sizeLine := Nat.le_trans h (by decide)
theorem lim_lt {n : Nat} (h : n ≤ lim) : n < sizeLine := Nat.lt_of_le_of_lt h (by decide)
/-- what a two-place operation does with data -/
def OpS (g : G) (r : R2) (f : D → D → M D) : Prop := ∀ (os : List Addr) (σ : L2.St) (H : Hp) (ρ : List Sl) (t : Pn) (x y : V) (d e : D) (Q : VK), Amb g os σ H ρ t → Lay g os H x d → Lay g os H y e →
  (f d e ρ t).post (fun z ρ' t' => ∀ v H' os', Amb g os' σ H' ρ' t' → Lay g os' H' v z → Go g os H os' H' → Q v H') noX → r x y H Q
def e2 (f : D → D → M D) (a b : M D) : M D := mb a fun x => mb b fun y => f x y
section
variable {g : G}
theorem op_w {r : R2} {f : D → D → M D} {a b : M D} (hs : OpS g r f) : ∀ σ H Q, tD g (e2 f a b) σ H Q → tOp r (tD g a) (tD g b) σ H Q := fun σ H Q q => by
  obtain ⟨os, ρ, t, A, q⟩ := q
  refine ⟨os, ρ, t, A, post_mono (post_bind q) (fun d ρ1 t1 q1 v H1 os1 A1 l1 s1 => ?_) fun _ _ _ _ h => h⟩
  refine ⟨os1, ρ1, t1, A1, post_mono (post_bind q1) (fun e ρ2 t2 q2 u H2 os2 A2 l2 s2 => ?_) fun _ _ _ _ h => h⟩
  refine hs os2 σ H2 ρ2 t2 v u d e Q A2 (Ld.same (Go.s s2) l1) l2 (post_mono q2 (fun z ρ3 t3 q3 w H3 os3 A3 l3 s3 => q3 w H3 os3 A3 l3 ((s1.trans s2).trans s3)) fun _ _ _ _ h => h)
theorem OpS.or {r r' : R2} {f : D → D → M D} (h : ∀ os σ H ρ t x y d e Q, Amb g os σ H ρ t → Lay g os H x d → Lay g os H y e →
    (f d e ρ t).post (fun z ρ' t' => ∀ v H' os', Amb g os' σ H' ρ' t' → Lay g os' H' v z → Go g os H os' H' → Q v H') noX → r x y H Q ∨ r' x y H Q) : OpS g (fun x y H Q => r x y H Q ∨ r' x y H Q) f := h
end
/-- a sum -/
def dadd : D → D → M D
  | .int i, .int j => mr (.int (i + j))
  | .int i, .bl b => mr (.int (i + b2i b))
  | .str x, .str y => if x.length + y.length ≤ lim then mr (.str (x ++ y)) else mx
  | .tup (x :: xs), .tup ys => if (x :: xs).length + ys.length ≤ lim then mr (.tup ((x :: xs) ++ ys)) else mx
  | .lst xs, .lst ys => if xs.length + ys.length ≤ lim then mr (.lst (xs ++ ys)) else mx
  | _, _ => mx
def dsub : D → D → M D
  | .int i, .int j => mr (.int (i - j))
  | _, _ => mx
def dmul : D → D → M D
  | .int i, .int j => if -(2 ^ 64) < i ∧ i < 2 ^ 64 then mr (.int (i * j)) else if -(2 ^ 64) < j ∧ j < 2 ^ 64 then mr (.int (i * j)) else mx
  | _, _ => mx
def dmod : D → D → M D
  | .int i, .int j => if 0 < j then mr (.int (i % j)) else mx
  | _, _ => mx
def dfdiv : D → D → M D
  | .int i, .int j => if 0 < j ∧ j < 1073741824 then mr (.int (i / j)) else mx
  | _, _ => mx
def deq : D → D → M D := fun x y => if plain 60 x = true ∧ plain 60 y = true then mr (.bl (PyData.eqv (toP x) (toP y))) else mx
def dne : D → D → M D := fun x y => if plain 60 x = true ∧ plain 60 y = true then mr (.bl (!PyData.eqv (toP x) (toP y))) else mx
def dcmp (p : Int → Int → Bool) : D → D → M D
  | .int i, .int j => mr (.bl (p i j))
  | _, _ => mx
abbrev dlt := dcmp fun i j => decide (i < j)
abbrev dle := dcmp fun i j => decide (i ≤ j)
abbrev dgt := dcmp fun i j => decide (j < i)
abbrev dge := dcmp fun i j => decide (j ≤ i)
section
variable {X : Cx} {g : G}
theorem post_if {α : Type} {c : Prop} [Decidable c] {m m' : M α} {ρ : List Sl} {t : Pn} {P : α → List Sl → Pn → Prop} {E : Str → List Str → List D → Pn → Prop} (h : ((if c then m else m') ρ t).post P E) : (c ∧ (m ρ t).post P E) ∨ (¬ c ∧ (m' ρ t).post P E) := by
  by_cases hc : c
  · rw [if_pos hc] at h; exact .inl ⟨hc, h⟩
  · rw [if_neg hc] at h; exact .inr ⟨hc, h⟩
/-- a new object that stays as it is, its items laid ahead -/
theorem lay_new {os : List Addr} {σ : L2.St} {H : Hp} {ρ : List Sl} {t : Pn} {p : Addr} {o : HO} (A : Amb g os σ H ρ t) (h : H p = none) : Amb g os σ (upd H p o) ρ t ∧ hd g os (upd H p o) p = some o ∧ Go g os H os (upd H p o) :=
  ⟨A.new_at h, by rw [show hd g os (upd H p o) p = upd H p o p from msk_out (A.fresh h)]; exact upd_same, Go.same (same_upd h)⟩
theorem Lay.seqT {os : List Addr} {H : Hp} {a : Addr} {xs : List V} (h : SqT g.c.K (hd g os H) a xs) : SqT g.c.K H a xs := seqT_same msk_le h
def RAdd (K : PySem.W.Frag) : R2 := fun x y H Q => (∃ i j, x = .int i ∧ y = .int j ∧ Q (.int (i + j)) H) ∨ (∃ i k, x = .int i ∧ y = .bl k ∧ Q (.int (i + b2i k)) H) ∨
  (∃ i j, x = .str i ∧ y = .str j ∧ i.length + j.length ≤ sizeLine ∧ Q (.str (i ++ j)) H) ∨ rCatT K x y H Q ∨ rCat x y H Q
theorem op_addA : OpR X (binaryOp .Add) (RAdd X.K) := op_add.or (op_add_ib.or (op_add_str.or (op_catT.or op_cat)))
theorem os_add : OpS g (RAdd g.c.K) dadd := by
  intro os σ H ρ t x y d e Q A lx ly q
  cases lx with
  | int i => cases ly with
    | int j => exact .inl ⟨i, j, rfl, rfl, q _ H os A (.int _) Go.refl⟩
    | bl b => exact .inr (.inl ⟨i, b, rfl, rfl, q _ H os A (.int _) Go.refl⟩)
    | _ => exact q.elim
  | str x => cases ly with
    | str y =>
      rcases post_if q with ⟨c, q⟩ | ⟨_, q⟩
      · exact .inr (.inr (.inl ⟨x, y, rfl, rfl, lim_le c, q _ H os A (.str _) Go.refl⟩))
      · exact q.elim
    | _ => exact q.elim
  | @tup a xs ds hx ax => cases ly with
    | @tup b ys es hy ay => cases ax with
      | nil => exact q.elim
      | @cons v vs d0 ds0 h0 a0 =>
        rcases post_if q with ⟨c, q⟩ | ⟨_, q⟩
        · have l1 := a0.len
          have l2 := ay.len
          refine .inr (.inr (.inr (.inl ⟨a, b, v :: vs, ys, rfl, rfl, Lay.seqT hx, Lay.seqT hy, (fun z => by cases z), lim_le (by rw [List.length_cons] at c ⊢; omega), fun e0 => ?_, fun n0 p hp => ?_⟩)))
          · subst e0
            cases ay
            refine q _ H os A ?_ Go.refl
            rw [List.append_nil]
            exact .tup hx (.cons h0 a0)
          · obtain ⟨A1, h1, s1⟩ := lay_new (o := .tup (v :: vs ++ ys)) A hp
            exact q _ _ os A1 (.tup (SqT.of h1) (LdA.same (Go.s s1) (LdA.app (.cons h0 a0) ay))) s1
        · exact q.elim
    | _ => cases ax <;> exact q.elim
  | @lst a xs ds hx ax => cases ly with
    | @lst b ys es hy ay =>
      rcases post_if q with ⟨c, q⟩ | ⟨_, q⟩
      · have l1 := ax.len
        have l2 := ay.len
        refine .inr (.inr (.inr (.inr ⟨a, b, xs, ys, rfl, rfl, msk_le _ _ hx, msk_le _ _ hy, lim_le (by omega), fun p hp => ?_⟩)))
        obtain ⟨A1, h1, s1⟩ := lay_new (o := .lst (xs ++ ys)) A hp
        exact q _ _ os A1 (.lst h1 (LdA.same (Go.s s1) (LdA.app ax ay))) s1
      · exact q.elim
    | _ => exact q.elim
  | _ => exact q.elim
theorem se_add {a b : Expr} {pos : Pos} {f h : M D} (fx : Fx X g) (ha : SE X g a f) (hb : SE X g b h) : SE X g (.BinOp a .Add b pos) (e2 dadd f h) :=
  PE.imp (pe_op op_addA ha hb) (by rw [fx.k]; exact op_w os_add)
theorem os_sub : OpS g (rI0 fun i j => .int (i - j)) dsub := by
  intro os σ H ρ t x y d e Q A lx ly q
  cases lx with
  | int i => cases ly with
    | int j => exact ⟨i, j, rfl, rfl, q _ H os A (.int _) Go.refl⟩
    | _ => exact q.elim
  | _ => exact q.elim
theorem se_sub {a b : Expr} {pos : Pos} {f h : M D} (ha : SE X g a f) (hb : SE X g b h) : SE X g (.BinOp a .Sub b pos) (e2 dsub f h) := PE.imp (pe_op op_sub ha hb) (op_w os_sub)
theorem os_mul : OpS g (rI CMul fun i j => .int (i * j)) dmul := by
  intro os σ H ρ t x y d e Q A lx ly q
  cases lx with
  | int i => cases ly with
    | int j =>
      rcases post_if q with ⟨c, q⟩ | ⟨_, q⟩
      · exact ⟨i, j, rfl, rfl, .inl c, q _ H os A (.int _) Go.refl⟩
      · rcases post_if q with ⟨c, q⟩ | ⟨_, q⟩
        · exact ⟨i, j, rfl, rfl, .inr c, q _ H os A (.int _) Go.refl⟩
        · exact q.elim
    | _ => exact q.elim
  | _ => exact q.elim
theorem se_mul {a b : Expr} {pos : Pos} {f h : M D} (ha : SE X g a f) (hb : SE X g b h) : SE X g (.BinOp a .Mult b pos) (e2 dmul f h) := PE.imp (pe_op op_mul ha hb) (op_w os_mul)
theorem os_mod : OpS g (rI (fun _ j => 0 < j) fun i j => .int (i % j)) dmod := by
  intro os σ H ρ t x y d e Q A lx ly q
  cases lx with
  | int i => cases ly with
    | int j =>
      rcases post_if q with ⟨c, q⟩ | ⟨_, q⟩
      · exact ⟨i, j, rfl, rfl, c, q _ H os A (.int _) Go.refl⟩
      · exact q.elim
    | _ => exact q.elim
  | _ => exact q.elim
theorem se_mod {a b : Expr} {pos : Pos} {f h : M D} (ha : SE X g a f) (hb : SE X g b h) : SE X g (.BinOp a .Mod b pos) (e2 dmod f h) := PE.imp (pe_op op_mod ha hb) (op_w os_mod)
theorem os_fdiv : OpS g (rI CDiv fun i j => .int (i / j)) dfdiv := by
  intro os σ H ρ t x y d e Q A lx ly q
  cases lx with
  | int i => cases ly with
    | int j =>
      rcases post_if q with ⟨c, q⟩ | ⟨_, q⟩
      · exact ⟨i, j, rfl, rfl, c, q _ H os A (.int _) Go.refl⟩
      · exact q.elim
    | _ => exact q.elim
  | _ => exact q.elim
theorem se_fdiv {a b : Expr} {pos : Pos} {f h : M D} (ha : SE X g a f) (hb : SE X g b h) : SE X g (.BinOp a .FloorDiv b pos) (e2 dfdiv f h) := PE.imp (pe_op op_fdiv ha hb) (op_w os_fdiv)
/-! comparisons -/
theorem plain_shaped {x : D} (h : plain 60 x = true) : SeqAt.shaped (toP x) = true := by
  obtain ⟨a, b⟩ := plain_lay h
  show ((toP x).canLay0 && decide ((toP x).depth ≤ 64)) = true
  rw [a, Bool.true_and]
  exact decide_eq_true (by omega)
theorem Lay.dp {os : List Addr} {H : Hp} {v : V} {d : D} (h : Lay g os H v d) (p : plain 60 d = true) : Dp g.c.K H v (toP d) := Ld.dp (Ld.same msk_le h) p
theorem os_eq : OpS g (rEqD g.c.K) deq := by
  intro os σ H ρ t x y d e Q A lx ly q
  rcases post_if q with ⟨⟨c1, c2⟩, q⟩ | ⟨_, q⟩
  · exact ⟨toP d, toP e, lx.dp c1, ly.dp c2, plain_shaped c1, plain_shaped c2, q _ H os A (.bl _) Go.refl⟩
  · exact q.elim
theorem os_ne : OpS g (rNeD g.c.K) dne := by
  intro os σ H ρ t x y d e Q A lx ly q
  rcases post_if q with ⟨⟨c1, c2⟩, q⟩ | ⟨_, q⟩
  · exact ⟨toP d, toP e, lx.dp c1, ly.dp c2, plain_shaped c1, plain_shaped c2, q _ H os A (.bl _) Go.refl⟩
  · exact q.elim
theorem os_cmp {p : Int → Int → Bool} : OpS g (rI0 fun i j => .bl (p i j)) (dcmp p) := by
  intro os σ H ρ t x y d e Q A lx ly q
  cases lx with
  | int i => cases ly with
    | int j => exact ⟨i, j, rfl, rfl, q _ H os A (.bl _) Go.refl⟩
    | _ => exact q.elim
  | _ => exact q.elim
/-- a comparison that data answer -/
structure CmS (X : Cx) (g : G) (op : CmpOp) (b : Expr) (f : D → D → M D) : Prop where
  ex : ∃ r, OpR X (compareOp op) r ∧ OpS g r f ∧ behindInMarks op b = false
theorem cs_eq {b : Expr} (fx : Fx X g) : CmS X g .Eq b deq := ⟨_, op_eqD fx.u64, by rw [fx.k]; exact os_eq, nomark _⟩
theorem cs_ne {b : Expr} (fx : Fx X g) : CmS X g .NotEq b dne := ⟨_, op_neD fx.u64, by rw [fx.k]; exact os_ne, nomark _⟩
theorem cs_lt {b : Expr} : CmS X g .Lt b dlt := ⟨_, op_lt, os_cmp, nomark _⟩
theorem cs_le {b : Expr} : CmS X g .LtE b dle := ⟨_, op_le, os_cmp, nomark _⟩
theorem cs_gt {b : Expr} : CmS X g .Gt b dgt := ⟨_, op_gt, os_cmp, nomark _⟩
theorem cs_ge {b : Expr} : CmS X g .GtE b dge := ⟨_, op_ge, os_cmp, nomark _⟩
theorem se_cmp {a b : Expr} {op : CmpOp} {pos : Pos} {f h : M D} {c : D → D → M D} (hc : CmS X g op b c) (ha : SE X g a f) (hb : SE X g b h) : SE X g (.Compare a [op] [b] pos) (e2 c f h) := by
  obtain ⟨r, h1, h2, h3⟩ := hc.ex
  exact PE.imp (pe_cmpR h1 ha hb h3) (op_w h2)
/-- a truth value -/
def asB (f : M D) : M Bool := mb f fun d => match d with
  | .bl b => mr b
  | _ => mx
theorem test_w {f : M D} : ∀ σ H Q, bD g (asB f) σ H Q → tTest (tD g f) σ H Q := fun σ H Q q => by
  obtain ⟨os, ρ, t, A, q⟩ := q
  refine ⟨os, ρ, t, A, post_mono (post_bind q) (fun d ρ1 t1 q1 v H1 os1 A1 l1 s1 => ?_) fun _ _ _ _ h => h⟩
  cases l1 with
  | bl b => exact ⟨b, rfl, q1 H1 os1 A1 s1⟩
  | _ => exact q1.elim
theorem tTest_mono {t t' : TE} (h : ∀ σ H Q, t' σ H Q → t σ H Q) : ∀ σ H Q, tTest t' σ H Q → tTest t σ H Q := fun σ H Q q => h _ _ _ q
theorem st_cmp {a b : Expr} {op : CmpOp} {pos : Pos} {f h : M D} {c : D → D → M D} (hc : CmS X g op b c) (ha : SE X g a f) (hb : SE X g b h) : ST X g (.Compare a [op] [b] pos) (asB (e2 c f h)) := by
  obtain ⟨r, h1, h2, h3⟩ := hc.ex
  exact PT.imp (pt_cmpR h1 ha hb h3) fun σ H Q q => tTest_mono (op_w h2) σ H Q (test_w σ H Q q)
/-- a <= b <= c -/
def e3 (f1 f2 : D → D → M D) (a b c : M D) : M D := mb a fun x => mb b fun y => mb (f1 x y) fun z => match z with
  | .bl true => mb c fun w => f2 y w
  | .bl false => mr (.bl false)
  | _ => mx
theorem chain_w {r r' : R2} {f1 f2 : D → D → M D} {a b c : M D} (h1 : OpS g r f1) (h2 : OpS g r' f2) : ∀ σ H Q, tD g (e3 f1 f2 a b c) σ H Q → tChain r r' (tD g a) (tD g b) (tD g c) σ H Q := fun σ H Q q => by
  obtain ⟨os, ρ, t, A, q⟩ := q
  refine ⟨os, ρ, t, A, post_mono (post_bind q) (fun d ρ1 t1 q1 v H1 os1 A1 l1 s1 => ?_) fun _ _ _ _ h => h⟩
  refine ⟨os1, ρ1, t1, A1, post_mono (post_bind q1) (fun e ρ2 t2 q2 u H2 os2 A2 l2 s2 => ?_) fun _ _ _ _ h => h⟩
  refine h1 os2 σ H2 ρ2 t2 v u d e _ A2 (Ld.same (Go.s s2) l1) l2 (post_mono (post_bind q2) (fun z ρ3 t3 q3 w H3 os3 A3 l3 s3 => ?_) fun _ _ _ _ h => h)
  cases l3 with
  | bl b =>
    refine ⟨b, rfl, ?_⟩
    cases b with
    | true =>
      rw [if_pos rfl]
      refine ⟨os3, ρ3, t3, A3, post_mono (post_bind q3) (fun e' ρ4 t4 q4 w' H4 os4 A4 l4 s4 => ?_) fun _ _ _ _ h => h⟩
      exact h2 os4 σ H4 ρ4 t4 u w' e e' Q A4 (Ld.same (Go.s s4) (Ld.same (Go.s s3) l2)) l4 (post_mono q4 (fun z5 ρ5 t5 q5 w5 H5 os5 A5 l5 s5 => q5 w5 H5 os5 A5 l5 ((((s1.trans s2).trans s3).trans s4).trans s5)) fun _ _ _ _ h => h)
    | false =>
      rw [if_neg Bool.false_ne_true]
      exact q3 _ H3 os3 A3 (.bl _) ((s1.trans s2).trans s3)
  | _ => exact q3.elim
theorem se_chain {a b c : Expr} {op op' : CmpOp} {pos : Pos} {f h k : M D} {c1 c2 : D → D → M D} (hc : CmS X g op b c1) (hc' : CmS X g op' c c2) (ha : SE X g a f) (hb : SE X g b h) (hcc : SE X g c k) (hm : lastMarks [op, op'] [b, c] = false := by with_unfolding_all rfl) :
    SE X g (.Compare a [op, op'] [b, c] pos) (e3 c1 c2 f h k) := by
  obtain ⟨r, h1, h2, h3⟩ := hc.ex
  obtain ⟨r', h4, h5, h6⟩ := hc'.ex
  exact PE.imp (pe_chain h1 h4 ha hb hcc hm) (chain_w h2 h5)
theorem st_chain {a b c : Expr} {op op' : CmpOp} {pos : Pos} {f h k : M D} {c1 c2 : D → D → M D} (hc : CmS X g op b c1) (hc' : CmS X g op' c c2) (ha : SE X g a f) (hb : SE X g b h) (hcc : SE X g c k) (hm : lastMarks [op, op'] [b, c] = false := by with_unfolding_all rfl) :
    ST X g (.Compare a [op, op'] [b, c] pos) (asB (e3 c1 c2 f h k)) := by
  obtain ⟨r, h1, h2, h3⟩ := hc.ex
  obtain ⟨r', h4, h5, h6⟩ := hc'.ex
  exact PT.imp (pt_chain h1 h4 ha hb hcc hm) fun σ H Q q => tTest_mono (chain_w h2 h5) σ H Q (test_w σ H Q q)
end
end DL

set_option Elab.async false
set_option linter.all false
set_option maxRecDepth 100000
set_option maxHeartbeats 1000000
namespace DL
open PySem PySem.Spec PyProof.Rows L2
/-! ### none, truth, and, or, not, if -/
def isNon : D → Bool
  | .non => true
  | _ => false
def enon (f : M D) : M D := mb f fun d => mr (.bl (isNon d))
def enno (f : M D) : M D := mb f fun d => mr (.bl (!isNon d))
section
variable {X : Cx} {g : G}
theorem Ld.non_iff {c : Ct} {H : Hp} {v : V} {d : D} (h : Ld c H v d) : decide (v = .non) = isNon d := by
  cases h <;> rfl
theorem non_w {f : M D} : ∀ σ H Q, tD g (enon f) σ H Q → tIsN (tD g f) σ H Q := fun σ H Q q => by
  obtain ⟨os, ρ, t, A, q⟩ := q
  refine ⟨os, ρ, t, A, post_mono (post_bind q) (fun d ρ1 t1 q1 v H1 os1 A1 l1 s1 => ?_) fun _ _ _ _ h => h⟩
  show Q (.bl (decide (v = .non))) H1
  rw [l1.non_iff]
  exact q1 _ H1 os1 A1 (.bl _) s1
theorem nno_w {f : M D} : ∀ σ H Q, tD g (enno f) σ H Q → tNotN (tD g f) σ H Q := fun σ H Q q => by
  obtain ⟨os, ρ, t, A, q⟩ := q
  refine ⟨os, ρ, t, A, post_mono (post_bind q) (fun d ρ1 t1 q1 v H1 os1 A1 l1 s1 => ?_) fun _ _ _ _ h => h⟩
  show Q (.bl (!decide (v = .non))) H1
  rw [l1.non_iff]
  exact q1 _ H1 os1 A1 (.bl _) s1
theorem se_isN {a : Expr} {pos pos' : Pos} {j} {f : M D} (ha : SE X g a f) : SE X g (.Compare a [.Is] [.Constant .none j pos'] pos) (enon f) := PE.imp (pe_cmp (pc_isN ha)) non_w
theorem se_noN {a : Expr} {pos pos' : Pos} {j} {f : M D} (ha : SE X g a f) : SE X g (.Compare a [.IsNot] [.Constant .none j pos'] pos) (enno f) := PE.imp (pe_cmp (pc_notN ha)) nno_w
theorem st_isN {a : Expr} {pos pos' : Pos} {j} {f : M D} (ha : SE X g a f) : ST X g (.Compare a [.Is] [.Constant .none j pos'] pos) (asB (enon f)) :=
  PT.imp (pt_cmp (pc_isN ha)) fun σ H Q q => tTest_mono non_w σ H Q (test_w σ H Q q)
theorem st_noN {a : Expr} {pos pos' : Pos} {j} {f : M D} (ha : SE X g a f) : ST X g (.Compare a [.IsNot] [.Constant .none j pos'] pos) (asB (enno f)) :=
  PT.imp (pt_cmp (pc_notN ha)) fun σ H Q q => tTest_mono nno_w σ H Q (test_w σ H Q q)
/-- what a value is worth as a test -/
def truth : D → Option Bool
  | .non => some false
  | .bl b => some b
  | .int i => some (i != 0)
  | .str s => if s.length ≤ lim then some ((s.length : Int) != 0) else none
  | .lst xs => some (!xs.isEmpty)
  | .tup xs => some (!xs.isEmpty)
  | .dct _ _ => none
  | .obj _ _ _ => none
theorem LdA.empty {c : Ct} {H : Hp} {vs : List V} {ds : List D} (h : LdA c H vs ds) : vs.isEmpty = ds.isEmpty := by
  cases h <;> rfl
theorem Lay.tru {os : List Addr} {H : Hp} {v : V} {d : D} {b : Bool} (h : Lay g os H v d) (e : truth d = some b) : TruV g.c.K v H b := by
  cases h with
  | non => exact (Option.some.inj e).symm
  | bl b => exact (Option.some.inj e).symm
  | int i => exact (Option.some.inj e).symm
  | str s =>
    have e : (if s.length ≤ lim then some ((s.length : Int) != 0) else none) = some b := e
    by_cases c : s.length ≤ lim
    · rw [if_pos c] at e
      exact ⟨lim_le c, (Option.some.inj e).symm⟩
    · rw [if_neg c] at e; cases e
  | lst h a => exact .inl ⟨_, SqL.of (msk_le _ _ h), by rw [a.empty]; exact (Option.some.inj e).symm⟩
  | tup h a => exact .inr (.inl ⟨_, Lay.seqT h, by rw [a.empty]; exact (Option.some.inj e).symm⟩)
  | dct h a b => cases e
  | dctT h a b k z => cases e
  | obj h c a => cases e
def eand (f h : M D) : M D := mb f fun d => match truth d with
  | some true => h
  | some false => mr d
  | none => mx
def eor (f h : M D) : M D := mb f fun d => match truth d with
  | some false => h
  | some true => mr d
  | none => mx
def enot (f : M D) : M D := mb f fun d => match truth d with
  | some b => mr (.bl (!b))
  | none => mx
theorem and_w {f h : M D} : ∀ σ H Q, tD g (eand f h) σ H Q → tAndT g.c.K (tD g f) (tD g h) σ H Q := fun σ H Q q => by
  obtain ⟨os, ρ, t, A, q⟩ := q
  refine ⟨os, ρ, t, A, post_mono (post_bind q) (fun d ρ1 t1 q1 v H1 os1 A1 l1 s1 => ?_) fun _ _ _ _ h => h⟩
  cases e : truth d with
  | none => simp only [e] at q1; exact q1.elim
  | some b =>
    simp only [e] at q1
    refine ⟨b, l1.tru e, ?_⟩
    cases b with
    | true =>
      rw [if_pos rfl]
      exact ⟨os1, ρ1, t1, A1, post_mono q1 (fun z ρ2 t2 q2 w H2 os2 A2 l2 s2 => q2 w H2 os2 A2 l2 (s1.trans s2)) fun _ _ _ _ h => h⟩
    | false =>
      rw [if_neg Bool.false_ne_true]
      exact q1 _ H1 os1 A1 l1 s1
theorem or_w {f h : M D} : ∀ σ H Q, tD g (eor f h) σ H Q → tOrT g.c.K (tD g f) (tD g h) σ H Q := fun σ H Q q => by
  obtain ⟨os, ρ, t, A, q⟩ := q
  refine ⟨os, ρ, t, A, post_mono (post_bind q) (fun d ρ1 t1 q1 v H1 os1 A1 l1 s1 => ?_) fun _ _ _ _ h => h⟩
  cases e : truth d with
  | none => simp only [e] at q1; exact q1.elim
  | some b =>
    simp only [e] at q1
    refine ⟨b, l1.tru e, ?_⟩
    cases b with
    | true =>
      rw [if_pos rfl]
      exact q1 _ H1 os1 A1 l1 s1
    | false =>
      rw [if_neg Bool.false_ne_true]
      exact ⟨os1, ρ1, t1, A1, post_mono q1 (fun z ρ2 t2 q2 w H2 os2 A2 l2 s2 => q2 w H2 os2 A2 l2 (s1.trans s2)) fun _ _ _ _ h => h⟩
theorem not_w {f : M D} : ∀ σ H Q, tD g (enot f) σ H Q → tNotT g.c.K (tD g f) σ H Q := fun σ H Q q => by
  obtain ⟨os, ρ, t, A, q⟩ := q
  refine ⟨os, ρ, t, A, post_mono (post_bind q) (fun d ρ1 t1 q1 v H1 os1 A1 l1 s1 => ?_) fun _ _ _ _ h => h⟩
  cases e : truth d with
  | none => simp only [e] at q1; exact q1.elim
  | some b =>
    simp only [e] at q1
    exact ⟨b, l1.tru e, q1 _ H1 os1 A1 (.bl _) s1⟩
theorem se_one {op : BoolOp} {a : Expr} {pos : Pos} {f : M D} (ha : SE X g a f) : SE X g (.BoolOp op [a] pos) f := pe_one ha
theorem se_and {a b : Expr} {rest : List Expr} {pos : Pos} {f h : M D} (fx : Fx X g) (ha : SE X g a f) (hb : SE X g (.BoolOp .And (b :: rest) pos) h) : SE X g (.BoolOp .And (a :: b :: rest) pos) (eand f h) :=
  PE.imp (pe_andT ha hb) (by rw [fx.k]; exact and_w)
theorem se_or {a b : Expr} {rest : List Expr} {pos : Pos} {f h : M D} (fx : Fx X g) (ha : SE X g a f) (hb : SE X g (.BoolOp .Or (b :: rest) pos) h) : SE X g (.BoolOp .Or (a :: b :: rest) pos) (eor f h) :=
  PE.imp (pe_orT ha hb) (by rw [fx.k]; exact or_w)
theorem se_not {a : Expr} {pos : Pos} {f : M D} (fx : Fx X g) (ha : SE X g a f) : SE X g (.UnaryOp .Not a pos) (enot f) := PE.imp (pe_notT ha) (by rw [fx.k]; exact not_w)
/-! tests -/
abbrev SW (X : Cx) (g : G) (e : Expr) (f : M Bool) : Prop := PW X e (bD g f)
def btru (f : M D) : M Bool := mb f fun d => match truth d with
  | some b => mr b
  | none => mx
theorem st_val {a : Expr} {f : M D} (fx : Fx X g) (ha : SE X g a f) (he : ∀ whole, isTrue a X.env whole = (do let v ← whole; standAt a.pos; holding [v] (truthy v)) := by intro _; rfl) : ST X g a (btru f) :=
  PT.imp (pt_truth ha he) fun σ H Q q => by
    obtain ⟨os, ρ, t, A, q⟩ := q
    refine ⟨os, ρ, t, A, post_mono (post_bind q) (fun d ρ1 t1 q1 v H1 os1 A1 l1 s1 => ?_) fun _ _ _ _ h => h⟩
    cases e : truth d with
    | none => simp only [e] at q1; exact q1.elim
    | some b =>
      simp only [e] at q1
      exact ⟨b, by rw [fx.k]; exact l1.tru e, q1 H1 os1 A1 s1⟩
def band (f h : M Bool) : M Bool := mb f fun b => if b = true then h else mr false
def bor (f h : M Bool) : M Bool := mb f fun b => if b = true then mr true else h
def bnot (f : M Bool) : M Bool := mb f fun b => mr (!b)
theorem sw_and1 {a : Expr} {pos : Pos} {f : M Bool} (ha : ST X g a f) : SW X g (.BoolOp .And [a] pos) f := pw_and1 ha
theorem sw_or1 {a : Expr} {pos : Pos} {f : M Bool} (ha : ST X g a f) : SW X g (.BoolOp .Or [a] pos) f := pw_or1 ha
theorem sw_and {a b : Expr} {rest : List Expr} {pos : Pos} {f h : M Bool} (ha : ST X g a f) (hb : SW X g (.BoolOp .And (b :: rest) pos) h) : SW X g (.BoolOp .And (a :: b :: rest) pos) (band f h) :=
  PW.imp (pw_and ha hb) fun σ H Q q => by
    obtain ⟨os, ρ, t, A, q⟩ := q
    refine ⟨os, ρ, t, A, post_mono (post_bind q) (fun b ρ1 t1 q1 H1 os1 A1 s1 => ?_) fun _ _ _ _ h => h⟩
    rcases post_if q1 with ⟨c, q1⟩ | ⟨c, q1⟩
    · rw [if_pos c]
      exact ⟨os1, ρ1, t1, A1, post_mono q1 (fun z ρ2 t2 q2 H2 os2 A2 s2 => q2 H2 os2 A2 (s1.trans s2)) fun _ _ _ _ h => h⟩
    · rw [if_neg c]
      exact q1 H1 os1 A1 s1
theorem sw_or {a b : Expr} {rest : List Expr} {pos : Pos} {f h : M Bool} (ha : ST X g a f) (hb : SW X g (.BoolOp .Or (b :: rest) pos) h) : SW X g (.BoolOp .Or (a :: b :: rest) pos) (bor f h) :=
  PW.imp (pw_or ha hb) fun σ H Q q => by
    obtain ⟨os, ρ, t, A, q⟩ := q
    refine ⟨os, ρ, t, A, post_mono (post_bind q) (fun b ρ1 t1 q1 H1 os1 A1 s1 => ?_) fun _ _ _ _ h => h⟩
    rcases post_if q1 with ⟨c, q1⟩ | ⟨c, q1⟩
    · rw [if_pos c]
      exact q1 H1 os1 A1 s1
    · rw [if_neg c]
      exact ⟨os1, ρ1, t1, A1, post_mono q1 (fun z ρ2 t2 q2 H2 os2 A2 s2 => q2 H2 os2 A2 (s1.trans s2)) fun _ _ _ _ h => h⟩
theorem st_w {e : Expr} {f : M Bool} (h : SW X g e f) : ST X g e f := PW.pt h
theorem st_not {a : Expr} {pos : Pos} {f : M Bool} (ha : ST X g a f) : ST X g (.UnaryOp .Not a pos) (bnot f) :=
  PT.imp (pt_not ha) fun σ H Q q => by
    obtain ⟨os, ρ, t, A, q⟩ := q
    exact ⟨os, ρ, t, A, post_mono (post_bind q) (fun b ρ1 t1 q1 H1 os1 A1 s1 => q1 H1 os1 A1 s1) fun _ _ _ _ h => h⟩
def eif (c : M Bool) (f h : M D) : M D := mb c fun b => if b = true then f else h
theorem se_if {c a b : Expr} {pos : Pos} {k : M Bool} {f h : M D} (hc : ST X g c k) (ha : SE X g a f) (hb : SE X g b h) : SE X g (.IfExp c a b pos) (eif k f h) :=
  PE.imp (pe_ifExp hc ha hb) fun σ H Q q => by
    obtain ⟨os, ρ, t, A, q⟩ := q
    refine ⟨os, ρ, t, A, post_mono (post_bind q) (fun b ρ1 t1 q1 H1 os1 A1 s1 => ?_) fun _ _ _ _ h => h⟩
    rcases post_if q1 with ⟨c, q1⟩ | ⟨c, q1⟩
    · rw [if_pos c]
      exact ⟨os1, ρ1, t1, A1, post_mono q1 (fun z ρ2 t2 q2 w H2 os2 A2 l2 s2 => q2 w H2 os2 A2 l2 (s1.trans s2)) fun _ _ _ _ h => h⟩
    · rw [if_neg c]
      exact ⟨os1, ρ1, t1, A1, post_mono q1 (fun z ρ2 t2 q2 w H2 os2 A2 l2 s2 => q2 w H2 os2 A2 l2 (s1.trans s2)) fun _ _ _ _ h => h⟩
/-! ### displays -/
def anil : M (List D) := mr []
def acons (f : M D) (h : M (List D)) : M (List D) := mb f fun x => mb h fun xs => mr (x :: xs)
theorem sa_nil : SA X g [] anil := PA.imp pa_nil fun σ H Q q => by
  obtain ⟨os, ρ, t, A, q⟩ := q
  exact q [] H os A .nil Go.refl
theorem sa_cons {e : Expr} {es : List Expr} {f : M D} {h : M (List D)} (he : SE X g e f) (hs : SA X g es h) (hst : starEach (e :: es) X.env = (false, eval e X.env) :: starEach es X.env := by rfl) : SA X g (e :: es) (acons f h) :=
  PA.imp (pa_cons he hs hst) fun σ H Q q => by
    obtain ⟨os, ρ, t, A, q⟩ := q
    refine ⟨os, ρ, t, A, post_mono (post_bind q) (fun d ρ1 t1 q1 v H1 os1 A1 l1 s1 => ?_) fun _ _ _ _ h => h⟩
    exact ⟨os1, ρ1, t1, A1, post_mono (post_bind q1) (fun ds ρ2 t2 q2 vs H2 os2 A2 l2 s2 => q2 (v :: vs) H2 os2 A2 (.cons (Ld.same (Go.s s2) l1) l2) (s1.trans s2)) fun _ _ _ _ h => h⟩
def etup (h : M (List D)) : M D := mb h fun ds => if ds.length ≤ lim then mr (.tup ds) else mx
def elst (h : M (List D)) : M D := mb h fun ds => if ds.length ≤ lim then mr (.lst ds) else mx
theorem se_tup {es : List Expr} {x1} {pos : Pos} {h : M (List D)} (hs : SA X g es h) : SE X g (.Tuple es x1 pos) (etup h) :=
  PE.imp (pe_tup hs) fun σ H Q q => by
    obtain ⟨os, ρ, t, A, q⟩ := q
    refine ⟨os, ρ, t, A, post_mono (post_bind q) (fun ds ρ1 t1 q1 vs H1 os1 A1 l1 s1 => ?_) fun _ _ _ _ h => h⟩
    rcases post_if q1 with ⟨c, q1⟩ | ⟨c, q1⟩
    · refine ⟨lim_le (by rw [l1.len]; exact c), fun p hp => ?_⟩
      obtain ⟨A2, h2, s2⟩ := lay_new (o := .tup vs) A1 hp
      exact q1 _ _ os1 A2 (.tup (SqT.of h2) (LdA.same (Go.s s2) l1)) (s1.trans s2)
    · exact q1.elim
/-- the owned becomes what stays -/
theorem Amb.drop {os : List Addr} {σ : L2.St} {H : Hp} {ρ : List Sl} {t : Pn} {p : Addr} (A : Amb g (p :: os) σ H ρ t) (n : NOw σ ρ p) : Amb g os σ H ρ t where
  len := A.len
  sl := fun i sx e => by
    have q := A.sl i sx e
    cases sx with
    | un => trivial
    | im d => obtain ⟨v, h1, h2⟩ := q; exact ⟨v, h1, Ld.same hd_drop h2⟩
    | bo d => exact q.elim
    | ow d =>
      obtain ⟨a, h1, h2, h3⟩ := q
      refine ⟨a, h1, ?_, h3.same hd_drop fun _ z => z⟩
      rcases List.mem_cons.mp h2 with z | z
      · exact absurd (by rw [h1, z]) (n i d e)
      · exact z
    | pn => exact q
    | sf ns vs => obtain ⟨x, C, dx, fs, h1, h2, h3, h4, h5⟩ := q; exact ⟨x, C, dx, fs, h1, h2, h3, h4, LdA.same hd_drop h5⟩
  dis := A.dis
  pres := A.pres
  new := fun a ha => A.new a (List.mem_cons_of_mem _ ha)
  live := fun a ha => A.live a (by
    rcases List.mem_append.mp ha with z | z
    · exact List.mem_append_left _ z
    · exact List.mem_append_right _ (List.mem_cons_of_mem _ z))
  slf := A.slf
  o0 := A.o0
  pen := A.pen
theorem own_lay {os : List Addr} {H : Hp} {p : Addr} {d : D} (h : Own g (p :: os) H p d) (n : p ∉ mo g os) : Lay g os H (.ref p) d := by
  have at_ : ∀ {o : HO}, H p = some o → hd g os H p = some o := fun {o} e => by rw [show hd g os H p = H p from msk_out n]; exact e
  cases d with
  | lst ds => obtain ⟨vs, h1, h2⟩ := h; exact .lst (at_ h1) (LdA.same hd_drop h2)
  | dct kd vd =>
    rcases h with ⟨kvs, h1, h2, h3⟩ | ⟨xs, h1, h2, h3, h4, h5, _⟩
    · exact .dct (.inl (at_ h1)) (LdA.same hd_drop h2) (LdA.same hd_drop h3)
    · exact .dctT (.inl (at_ h1)) (LdA.same hd_drop h2) h3 h4 (LdA.same hd_drop h5)
  | _ => exact h.elim
theorem se_of {e : Expr} {f : M D} (h : SF X g e f) : SE X g e f := PE.imp h fun σ H Q q => by
  obtain ⟨os, ρ, t, A, q⟩ := q
  exact ⟨os, ρ, t, A, post_mono q (fun d ρ1 t1 q1 p H1 os1 A1 o1 n1 w1 s1 => q1 _ H1 os1 (A1.drop w1) (own_lay o1 n1.1) (s1.drop A n1.2)) fun _ _ _ _ h => h⟩
/-- a fresh object is owned -/
theorem own_new {os : List Addr} {σ : L2.St} {H : Hp} {ρ : List Sl} {t : Pn} {p : Addr} {o : HO} (A : Amb g os σ H ρ t) (h : H p = none) :
    Amb g (p :: os) σ (upd H p o) ρ t ∧ p ∉ mo g os ∧ NOw σ ρ p ∧ Go g os H (p :: os) (upd H p o) := by
  refine ⟨A.own h, A.fresh h, fun i d e z => ?_, Go.own A h⟩
  obtain ⟨a, h1, h2, h3⟩ := A.sl i _ e
  have e1 := h1.symm.trans z
  cases e1
  obtain ⟨o', e'⟩ := A.live _ (List.mem_append_right _ h2)
  rw [h] at e'
  cases e'
theorem sf_lst {es : List Expr} {pos : Pos} {h : M (List D)} (hs : SA X g es h) : SF X g (.List es pos) (elst h) :=
  PE.imp (pe_lst hs) fun σ H Q q => by
    obtain ⟨os, ρ, t, A, q⟩ := q
    refine ⟨os, ρ, t, A, post_mono (post_bind q) (fun ds ρ1 t1 q1 vs H1 os1 A1 l1 s1 => ?_) fun _ _ _ _ h => h⟩
    rcases post_if q1 with ⟨c, q1⟩ | ⟨c, q1⟩
    · refine ⟨lim_le (by rw [l1.len]; exact c), fun p hp => ?_⟩
      obtain ⟨A2, n2, w2, s2⟩ := own_new (o := .lst vs) A1 hp
      exact q1 p _ os1 A2 ⟨vs, upd_same, LdA.same (Go.s s2) l1⟩ ⟨n2, s1.none A1 hp⟩ w2 (s1.trans s2)
    · exact q1.elim
theorem sf_dnew {pos : Pos} : SF X g (.Dict [] [] pos) (mr (.dct [] [])) := PE.imp pe_dnewK fun σ H Q q => by
  obtain ⟨os, ρ, t, A, q⟩ := q
  intro p hp
  obtain ⟨A2, n2, w2, s2⟩ := own_new (o := .dK []) A hp
  exact q p _ os A2 (.inl ⟨[], upd_same, .nil, .nil⟩) ⟨n2, hp⟩ w2 s2
end
end DL

set_option Elab.async false
set_option linter.all false
set_option maxRecDepth 100000
set_option maxHeartbeats 1000000
namespace DL
open PySem PySem.Spec PyProof.Rows L2
/-! ### dicts: looking up -/
def dlook : List D → List D → NestedKey → Option D
  | k :: ks, v :: vs, n => if nk k = n then some v else dlook ks vs n
  | _, _, _ => none
/-- are these keys of the kind of k -/
def sameKind (ks : List D) (k : D) : Bool := match kkind k with
  | none => false
  | some b => ks.all fun d => decide (kkind d = some b)
section
variable {c : Ct} {H : Hp} {X : Cx} {g : G}
theorem nk_key {k : Key} {d : D} (h : Ld c H (kV k) d) : (∃ i, k = .inl i ∧ d = .int i) ∨ ∃ s, k = .inr s ∧ d = .str s := by
  cases k with
  | inl i => cases h; exact .inl ⟨i, rfl, rfl⟩
  | inr s => cases h; exact .inr ⟨s, rfl, rfl⟩
theorem nk_inj {k k' : Key} {d d' : D} (h : Ld c H (kV k) d) (h' : Ld c H (kV k') d') : nk d = nk d' ↔ k = k' := by
  rcases nk_key h with ⟨i, rfl, rfl⟩ | ⟨s, rfl, rfl⟩ <;> rcases nk_key h' with ⟨j, rfl, rfl⟩ | ⟨r, rfl, rfl⟩ <;> simp [nk, nkS]
theorem look_k : ∀ {kvs : List (Key × V)} {kd vd : List D}, LdA c H (kvs.map fun q => kV q.1) kd → LdA c H (kvs.map (·.2)) vd → ∀ {k : Key} {d : D}, Ld c H (kV k) d →
    (valV kvs k = none ∧ dlook kd vd (nk d) = none) ∨ ∃ v z, valV kvs k = some v ∧ dlook kd vd (nk d) = some z ∧ Ld c H v z
  | [], _, _, .nil, .nil, _, _, _ => .inl ⟨rfl, rfl⟩
  | q :: kvs, _, _, .cons h0 a, .cons h1 b, k, d, h => by
    by_cases e : q.1 = k
    · refine .inr ⟨q.2, _, valV_pos e, ?_, h1⟩
      exact if_pos ((nk_inj h0 h).mpr e)
    · rw [valV_neg e]
      have ih := look_k a b h
      have e' : ¬ nk _ = nk d := fun z => e ((nk_inj h0 h).mp z)
      rw [dlook, if_neg e']
      exact ih
theorem look_t : ∀ {xs : List (NestedKey × Addr × V)} {kd vd : List D}, xs.map (·.1) = kd.map nk → LdA c H (xs.map (·.2.2)) vd → ∀ (n : NestedKey),
    ((xs.find? fun x => decide (x.1 = n)) = none ∧ dlook kd vd n = none) ∨ ∃ x z, (xs.find? fun x => decide (x.1 = n)) = some x ∧ dlook kd vd n = some z ∧ Ld c H x.2.2 z
  | [], [], _, _, .nil, _ => .inl ⟨rfl, rfl⟩
  | [], _ :: _, _, e, _, _ => by cases e
  | _ :: _, [], _, e, _, _ => by cases e
  | x :: xs, k :: kd, _, e, .cons h1 b, n => by
    rw [List.map_cons, List.map_cons] at e
    obtain ⟨e1, e2⟩ := List.cons.inj e
    by_cases z : x.1 = n
    · refine .inr ⟨x, _, by rw [List.find?_cons, decide_eq_true z], ?_, h1⟩
      exact if_pos (e1.symm.trans z)
    · rw [List.find?_cons, decide_eq_false z, dlook, if_neg (fun y => z (e1.trans y))]
      exact look_t e2 b n
/-! the layer below -/
theorem nested_S {h : Heap} {v : V} {u : Value} {d : D} (l : Ld c H v d) (r : RelV v u) (hk : isS d = true) : NestedIs h (nkS d) u := by
  cases l with
  | non => cases r; exact .none
  | bl b => cases r; exact .bool rfl
  | int i => obtain ⟨t, rfl⟩ := r; exact .int i t
  | str s => obtain ⟨t, rfl⟩ := r; exact .text s t
  | _ => cases hk
theorem nested_all {h : Heap} : ∀ {vs : List V} {us : List Value} {ds : List D}, LdA c H vs ds → Vals vs us → ds.all isS = true → NestedAll h (ds.map nkS) us
  | _, _, _, .nil, .nil, _ => .nil
  | _, _, _, .cons l a, .cons r t, hk => by
    rw [List.all_cons, Bool.and_eq_true] at hk
    exact .cons (nested_S l r hk.1) (nested_all a t hk.2)
theorem depthS : ∀ ds : List D, NestedKey.depthAll (ds.map nkS) ≤ 1
  | [] => by simp [NestedKey.depthAll]
  | d :: ds => by
    have := depthS ds
    cases d <;> simp [nkS, NestedKey.depthAll, NestedKey.depth] <;> omega
/-- a tuple is a key -/
theorem tup_key {pins : List (Addr × Obj)} {σ : L2.St} {s : Shared} {v : V} {d : D} (I : Inv X pins σ H s) (hc : c.K = X.K) (l : Ld c H v d) (hk : kkind d = some true) : ∃ b, v = .ref b ∧ (nestedKind X.prog X.w).is s.heap (nk d) b := by
  cases l with
  | tup h a =>
    rename_i b xs ds
    by_cases z : ds.all isS = true
    · rw [hc] at h
      obtain ⟨its, r, ⟨o, h1, h2, n, h3⟩, _⟩ := I.tuple h
      refine ⟨b, rfl, .tup h1 h2 h3 (by simpa using nested_all a r z), ?_⟩
      have := depthS ds
      simp only [nk, NestedKey.depth]
      omega
    · have hk : (if ds.all isS = true then some true else none) = some true := hk
      rw [if_neg z] at hk; cases hk
  | _ => cases hk
theorem tup_keys {pins : List (Addr × Obj)} {σ : L2.St} {s : Shared} (I : Inv X pins σ H s) (hc : c.K = X.K) : ∀ {xs : List (NestedKey × Addr × V)} {kd : List D}, LdA c H (xs.map fun q => V.ref q.2.1) kd → xs.map (·.1) = kd.map nk → (kd.all fun d => decide (kkind d = some true)) = true →
    ∀ x ∈ xs, (nestedKind X.prog X.w).is s.heap x.1 x.2.1
  | [], _, _, _, _, x, hx => by cases hx
  | q :: xs, _, .cons l a, e, hk, x, hx => by
    rw [List.map_cons, List.map_cons] at e
    obtain ⟨e1, e2⟩ := List.cons.inj e
    rw [List.all_cons, Bool.and_eq_true] at hk
    rcases List.mem_cons.mp hx with rfl | hx
    · obtain ⟨b, e3, e4⟩ := tup_key I hc l (of_decide_eq_true hk.1)
      cases e3
      rw [e1]; exact e4
    · exact tup_keys I hc a e2 hk.2 x hx
theorem td_of {pins : List (Addr × Obj)} {σ : L2.St} {s : Shared} {a : Addr} {xs : List (NestedKey × Addr × V)} (I : Inv X pins σ H s) (h : Rd H a (tdO X.w a xs)) : tdPhi X.w a xs s.heap := by
  have q : ObjOk X.prog X.w H s.heap a (.ext (tdPhi X.w a xs)) := h.ok I.hok
  exact q.1
theorem paired_mem {α β : Type} {F : α → β → Prop} : ∀ {xs : List α} {ys : List β}, Paired F xs ys → ∀ y ∈ ys, ∃ x ∈ xs, F x y
  | _, _, .nil, y, hy => by cases hy
  | _, _, .cons r t, y, hy => by
    rcases List.mem_cons.mp hy with rfl | hy
    · exact ⟨_, List.mem_cons_self, r⟩
    · obtain ⟨x, h1, h2⟩ := paired_mem t y hy
      exact ⟨x, List.mem_cons_of_mem _ h1, h2⟩
abbrev PT3 : List (NestedKey × Addr × V) → List (NestedKey × Addr × Value) → Prop := Paired fun p q => p.1 = q.1 ∧ p.2.1 = q.2.1 ∧ RelV p.2.2 q.2.2
theorem pt3_keys : ∀ {xs : List (NestedKey × Addr × V)} {ys : List (NestedKey × Addr × Value)}, PT3 xs ys → xs.map (·.1) = ys.map (·.1)
  | _, _, .nil => rfl
  | _, _, .cons r t => by rw [List.map_cons, List.map_cons, r.1, pt3_keys t]
theorem pt3_find : ∀ {xs : List (NestedKey × Addr × V)} {ys : List (NestedKey × Addr × Value)}, PT3 xs ys → ∀ n : NestedKey,
    ((xs.find? fun x => decide (x.1 = n)) = none ∧ atKey ys n = none) ∨ ∃ x p, (xs.find? fun x => decide (x.1 = n)) = some x ∧ atKey ys n = some p ∧ RelV x.2.2 p.2
  | _, _, .nil, _ => .inl ⟨rfl, rfl⟩
  | _, _, .cons (b := y) r t, n => by
    rename_i x xs ys
    by_cases z : x.1 = n
    · refine .inr ⟨x, y.2, by rw [List.find?_cons, decide_eq_true z], ?_, r.2.2⟩
      unfold atKey
      rw [List.find?_cons, decide_eq_true (r.1.symm.trans z)]
      rfl
    · have e : atKey (y :: ys) n = atKey ys n := by
        unfold atKey
        rw [List.find?_cons, decide_eq_false (fun q => z (r.1.trans q))]
      rw [List.find?_cons, decide_eq_false z, e]
      exact pt3_find t n
/-- the dict as the library has it -/
theorem td_dict {pins : List (Addr × Obj)} {σ : L2.St} {s : Shared} {a : Addr} {xs : List (NestedKey × Addr × V)} (I : Inv X pins σ H s) (h : Rd H a (tdO X.w a xs)) (hk : ∀ x ∈ xs, (nestedKind X.prog X.w).is s.heap x.1 x.2.1) :
    xs.length ≤ sizeLine ∧ (a == sysModules) = false ∧ ∃ ys, PT3 xs ys ∧ s.heap.DictOfH (nestedKind X.prog X.w) a ys := by
  obtain ⟨h1, h2, h3, ys, h4, o, es, ep, h5, h6, h7, h8⟩ := td_of I h
  refine ⟨h1, h2, ys, h4, o, es, ep, h5, h6, h7, h8, fun y hy => ?_, by rw [← pt3_keys h4]; exact h3⟩
  obtain ⟨x, hx, e1, e2, _⟩ := paired_mem h4 y hy
  rw [← e1, ← e2]
  exact hk x hx
/-- d[k], there -/
def rTG (c : Ct) : R2 := fun x y H Q => ∃ a xs kd d x0, x = .ref a ∧ Rd H a (tdO c.w a xs) ∧ LdA c H (xs.map fun q => V.ref q.2.1) kd ∧ xs.map (·.1) = kd.map nk ∧ (kd.all fun d => decide (kkind d = some true)) = true ∧
  Ld c H y d ∧ kkind d = some true ∧ (xs.find? fun x => decide (x.1 = nk d)) = some x0 ∧ Q x0.2.2 H
theorem ix_td (hc : c.K = X.K) (hw : c.w = X.w) (hu : X.A.units + 60 < cLine) : IxR X (rTG c) := by
  intro value slice pins s σ H x y v u Q I rx ry h hs
  obtain ⟨a, xs, kd, d, x0, rfl, h1, h2, h3, h4, h6, h7, h8, q⟩ := h
  cases rx
  obtain ⟨b, rfl, hb⟩ := tup_key I hc h6 h7
  cases ry
  rw [hw] at h1
  obtain ⟨k1, k2, ys, k3, k4⟩ := td_dict I h1 (tup_keys I hc h2 h3 h4)
  rcases pt3_find k3 (nk d) with ⟨e, _⟩ | ⟨x', p, e4, e5, e6⟩
  · rw [h8] at e; cases e
  · rw [h8] at e4; cases e4
    refine subscriptTail_builtinR (x := p.2) k4.typeIs PySem.F.slot_dict_getitem.lookup ?_ hs
    exact wpAny_getItem_heap (show (nestedKind X.prog X.w).room X.A.in1 from by show X.A.units + 1 + 8 < cLine; omega) hb k4 e5 ⟨rfl, x0.2.2, H, I.tok _, e6, q⟩
/-- k in d, k not in d -/
def rTI (c : Ct) (neg : Bool) : R2 := fun y x H Q => ∃ a xs kd d, x = .ref a ∧ Rd H a (tdO c.w a xs) ∧ LdA c H (xs.map fun q => V.ref q.2.1) kd ∧ xs.map (·.1) = kd.map nk ∧ (kd.all fun d => decide (kkind d = some true)) = true ∧
  Ld c H y d ∧ kkind d = some true ∧ Q (.bl (if neg = true then !(xs.find? fun x => decide (x.1 = nk d)).isSome else (xs.find? fun x => decide (x.1 = nk d)).isSome)) H
theorem pt3_some {xs : List (NestedKey × Addr × V)} {ys : List (NestedKey × Addr × Value)} (h : PT3 xs ys) (n : NestedKey) : (atKey ys n).isSome = (xs.find? fun x => decide (x.1 = n)).isSome := by
  rcases pt3_find h n with ⟨e1, e2⟩ | ⟨x, p, e1, e2, _⟩ <;> rw [e1, e2] <;> rfl
theorem in_td (hc : c.K = X.K) (hw : c.w = X.w) (hu : X.A.units + 60 < cLine) : OpR X (compareOp .In) (rTI c false) := by
  intro pins s σ H y x u v Q I ry rx h
  obtain ⟨a, xs, kd, d, rfl, h1, h2, h3, h4, h6, h7, q⟩ := h
  cases rx
  obtain ⟨b, rfl, hb⟩ := tup_key I hc h6 h7
  cases ry
  rw [hw] at h1
  obtain ⟨k1, k2, ys, k3, k4⟩ := td_dict I h1 (tup_keys I hc h2 h3 h4)
  refine in_keyed (show (nestedKind X.prog X.w).room X.A.in1 from by show X.A.units + 1 + 8 < cLine; omega) hb k2 ⟨ys, k4, rfl⟩ ?_
  rw [valueAt_pairsH, Option.isSome_map, pt3_some k3]
  exact ⟨.bl _, H, I.tok _, rfl, q⟩
theorem notIn_td (hc : c.K = X.K) (hw : c.w = X.w) (hu : X.A.units + 60 < cLine) : OpR X (compareOp .NotIn) (rTI c true) := by
  intro pins s σ H y x u v Q I ry rx h
  obtain ⟨a, xs, kd, d, rfl, h1, h2, h3, h4, h6, h7, q⟩ := h
  cases rx
  obtain ⟨b, rfl, hb⟩ := tup_key I hc h6 h7
  cases ry
  rw [hw] at h1
  obtain ⟨k1, k2, ys, k3, k4⟩ := td_dict I h1 (tup_keys I hc h2 h3 h4)
  refine notIn_keyed (show (nestedKind X.prog X.w).room X.A.in1 from by show X.A.units + 1 + 8 < cLine; omega) hb k2 ⟨ys, k4, rfl⟩ ?_
  rw [valueAt_pairsH, Option.isSome_map, pt3_some k3]
  exact ⟨.bl _, H, I.tok _, rfl, q⟩
/-- an empty dict of the layer below is an empty one of tuples, and the other way round -/
theorem dk_td {pins : List (Addr × Obj)} {σ : L2.St} {H : Hp} {s : Shared} {a : Addr} (I : Inv X pins σ H s) (h : Rd H a (.dK [])) : (a == sysModules) = false ∧ s.heap.DictOfH (nestedKind X.prog X.w) a [] := by
  obtain ⟨_, hd, vs, rel, o, es, ep, h1, h2, h3, h4, h5, h6⟩ := dk_rd I.hok h
  cases rel
  refine ⟨hd, o, es, ep, h1, h2, h3, ?_, (fun x hx => by cases hx), List.nodup_nil⟩
  have := h5.length
  exact List.length_eq_zero_iff.mp this
theorem td_dk {pins : List (Addr × Obj)} {σ : L2.St} {H : Hp} {s : Shared} {a : Addr} (I : Inv X pins σ H s) (h : Rd H a (tdO X.w a [])) : (a == sysModules) = false ∧ s.heap.DictOf (mixKind X.prog X.w) a [] := by
  obtain ⟨h1, h2, h3, ys, h4, o, es, ep, h5, h6, h7, h8⟩ := td_of I h
  cases h4
  have e : es = #[] := by
    have : es.toList = [] := h8
    exact Array.toList_eq_nil_iff.mp this
  subst e
  exact ⟨h2, o, #[], ep, h5, h6, h7, (fun x hx => by simp at hx), .nil, List.nodup_nil⟩
def rE0 (c : Ct) (neg : Bool) : R2 := fun y x H Q => ∃ a, x = .ref a ∧ Q (.bl neg) H ∧ ((Rd H a (.dK []) ∧ ∃ d, Ld c H y d ∧ kkind d = some true) ∨ (Rd H a (tdO c.w a []) ∧ ∃ k, y = kV k))
theorem in_0 (hc : c.K = X.K) (hw : c.w = X.w) (hu : X.A.units + 60 < cLine) : OpR X (compareOp .In) (rE0 c false) := by
  intro pins s σ H y x u v Q I ry rx h
  obtain ⟨a, rfl, q, ⟨h1, d, h2, h3⟩ | ⟨h1, k, rfl⟩⟩ := h
  · cases rx
    obtain ⟨b, rfl, hb⟩ := tup_key I hc h2 h3
    cases ry
    obtain ⟨k2, k4⟩ := dk_td I h1
    exact in_keyed (show (nestedKind X.prog X.w).room X.A.in1 from by show X.A.units + 1 + 8 < cLine; omega) hb k2 ⟨[], k4, rfl⟩ ⟨.bl _, H, I.tok _, rfl, q⟩
  · cases rx
    rw [hw] at h1
    obtain ⟨k2, k4⟩ := td_dk I h1
    exact wpAny_in_of (kV_is ry) k2 k4.mapOf ⟨.bl _, H, I.tok _, rfl, q⟩
theorem notIn_0 (hc : c.K = X.K) (hw : c.w = X.w) (hu : X.A.units + 60 < cLine) : OpR X (compareOp .NotIn) (rE0 c true) := by
  intro pins s σ H y x u v Q I ry rx h
  obtain ⟨a, rfl, q, ⟨h1, d, h2, h3⟩ | ⟨h1, k, rfl⟩⟩ := h
  · cases rx
    obtain ⟨b, rfl, hb⟩ := tup_key I hc h2 h3
    cases ry
    obtain ⟨k2, k4⟩ := dk_td I h1
    exact notIn_keyed (show (nestedKind X.prog X.w).room X.A.in1 from by show X.A.units + 1 + 8 < cLine; omega) hb k2 ⟨[], k4, rfl⟩ ⟨.bl _, H, I.tok _, rfl, q⟩
  · cases rx
    rw [hw] at h1
    obtain ⟨k2, k4⟩ := td_dk I h1
    exact wpAny_notIn_of (kV_is ry) k2 k4.mapOf ⟨.bl _, H, I.tok _, rfl, q⟩
end
end DL

set_option Elab.async false
set_option linter.all false
set_option maxRecDepth 100000
set_option maxHeartbeats 1000000
namespace DL
open PySem PySem.Spec PyProof.Rows L2
section
variable {c : Ct} {X : Cx} {g : G}
theorem LdA.atI {H : Hp} {vs : List V} {ds : List D} (a : LdA c H vs ds) {i : Int} {d : D} (h : atI ds i = some d) : ∃ v, atI vs i = some v ∧ Ld c H v d := by
  have hl := a.len
  unfold L2.atI at h ⊢
  rw [hl]
  cases e : ixN ds.length i with
  | none => rw [e] at h; cases h
  | some j =>
    rw [e] at h
    exact a.get' (i := j) h
def rDK (c : Ct) : R2 := fun x y H Q => ∃ a kvs k v, x = .ref a ∧ Rd H a (.dK kvs) ∧ y = kV k ∧ valV kvs k = some v ∧ Q v H
theorem ix_dk : IxR X (rDK c) := by
  intro value slice pins s σ H x y v u Q I rx ry h hs
  obtain ⟨a, kvs, k, z, rfl, h1, rfl, h2, q⟩ := h
  cases rx
  obtain ⟨_, hd, vs, rel, dd⟩ := dk_rd I.hok h1
  obtain ⟨w', hw, rw'⟩ := RelO.some_of (v := z) (o := valueAt vs k) (by rw [← h2]; exact rel.val k)
  refine subscriptTail_builtinR (x := w') dd.typeIs PySem.F.slot_dict_getitem.lookup ?_ hs
  exact wpAny_getItem_of (kV_is ry) dd.mapOf hw ⟨rfl, z, H, I.tok _, rw', q⟩
/-- d[e] -/
def dix : D → D → M D
  | .lst xs, .int i => match atI xs i with
    | some d => mr d
    | none => mx
  | .tup xs, .int i => match atI xs i with
    | some d => mr d
    | none => mx
  | .str s, .int i => if s.length ≤ lim then match atI s.cps.toList i with
    | some x => mr (.str ⟨#[x]⟩)
    | none => mx else mx
  | .dct kd vd, k => if sameKind kd k = true then match dlook kd vd (nk k) with
    | some d => mr d
    | none => mx else mx
  | _, _ => mx
def RIx (c : Ct) : R2 := fun x y H Q => rIx c.K x y H Q ∨ rDK c x y H Q ∨ rTG c x y H Q
theorem kkind_f {H : Hp} {v : V} {d : D} (l : Ld c H v d) (h : kkind d = some false) : ∃ k : Key, v = kV k := by
  cases l with
  | int i => exact ⟨.inl i, rfl⟩
  | str s => exact ⟨.inr s, rfl⟩
  | @tup a xs ds h0 a0 =>
    have h : (if ds.all isS = true then some true else none) = some false := h
    split at h <;> cases h
  | _ => cases h
theorem all_f {H : Hp} : ∀ {kvs : List (Key × V)} {kd : List D}, LdA c H (kvs.map fun q => kV q.1) kd → ∀ {b : Bool}, (kd.all fun d => decide (kkind d = some b)) = true → kd = [] ∨ b = false
  | [], _, .nil, _, _ => .inl rfl
  | q :: kvs, _, .cons l a, b, h => by
    rw [List.all_cons, Bool.and_eq_true] at h
    have h1 := of_decide_eq_true h.1
    rcases nk_key l with ⟨i, _, rfl⟩ | ⟨s, _, rfl⟩ <;> exact .inr (Option.some.inj h1).symm
theorem os_ix : OpS g (RIx g.c) dix := by
  intro os σ H ρ t x y d e Q A lx ly q
  cases lx with
  | @lst a xs ds hx ax => cases ly with
    | int i =>
      simp only [dix] at q
      cases ei : atI ds i with
      | none => simp only [ei] at q; exact q.elim
      | some z =>
        simp only [ei] at q
        obtain ⟨v, h1, h2⟩ := ax.atI ei
        exact .inl (.inl ⟨a, xs, i, v, rfl, rfl, SqL.of (msk_le _ _ hx), h1, q _ H os A h2 Go.refl⟩)
    | _ => exact q.elim
  | @tup a xs ds hx ax => cases ly with
    | int i =>
      simp only [dix] at q
      cases ei : atI ds i with
      | none => simp only [ei] at q; exact q.elim
      | some z =>
        simp only [ei] at q
        obtain ⟨v, h1, h2⟩ := ax.atI ei
        exact .inl (.inr (.inl ⟨a, xs, i, v, rfl, rfl, Lay.seqT hx, h1, q _ H os A h2 Go.refl⟩))
    | _ => exact q.elim
  | str s => cases ly with
    | int i =>
      simp only [dix] at q
      rcases post_if q with ⟨cl, q⟩ | ⟨_, q⟩
      · cases ei : atI s.cps.toList i with
        | none => simp only [ei] at q; exact q.elim
        | some z =>
          simp only [ei] at q
          exact .inl (.inr (.inr ⟨s, i, z, rfl, rfl, lim_le cl, ei, q _ H os A (.str _) Go.refl⟩))
      · exact q.elim
    | _ => exact q.elim
  | @dct a kvs kd vd h1 h2 h3 =>
    simp only [dix] at q
    rcases post_if q with ⟨sk, q⟩ | ⟨_, q⟩
    · unfold sameKind at sk
      cases ek : kkind e with
      | none => rw [ek] at sk; cases sk
      | some b =>
        simp only [ek] at sk
        rcases all_f h2 sk with rfl | rfl
        · simp only [dlook] at q; exact q.elim
        · obtain ⟨k, rfl⟩ := kkind_f ly ek
          rcases look_k h2 h3 ly with ⟨_, e2⟩ | ⟨v, z, e1, e2, e3⟩
          · simp only [e2] at q; exact q.elim
          · simp only [e2] at q
            exact .inr (.inl ⟨a, kvs, k, v, rfl, rd_same msk_le h1, rfl, e1, q _ H os A e3 Go.refl⟩)
    · exact q.elim
  | @dctT a xs kd vd h1 h2 h3 h4 h5 =>
    simp only [dix] at q
    rcases post_if q with ⟨sk, q⟩ | ⟨_, q⟩
    · unfold sameKind at sk
      cases ek : kkind e with
      | none => rw [ek] at sk; cases sk
      | some b =>
        simp only [ek] at sk
        cases e2 : dlook kd vd (nk e) with
        | none => simp only [e2] at q; exact q.elim
        | some z =>
          simp only [e2] at q
          have hb : b = true := by
            cases kd with
            | nil => cases e2
            | cons k0 kd0 =>
              rw [List.all_cons, Bool.and_eq_true] at sk h4
              have z1 := of_decide_eq_true sk.1
              have z2 := of_decide_eq_true h4.1
              rw [z1] at z2
              exact Option.some.inj z2
          subst hb
          rcases look_t h3 h5 (nk e) with ⟨_, n2⟩ | ⟨x, z', n1, n2, n3⟩
          · rw [e2] at n2; cases n2
          · rw [e2] at n2; cases n2
            exact .inr (.inr ⟨a, xs, kd, e, x, rfl, rd_same msk_le h1, LdA.same msk_le h2, h3, h4, Ld.same msk_le ly, ek, n1, q _ H os A n3 Go.refl⟩)
    · exact q.elim
  | _ => exact q.elim
theorem se_ix {a b : Expr} {pos : Pos} {f h : M D} (fx : Fx X g) (ha : SE X g a f) (hb : SE X g b h) (hs : PlainIx b := by exact fun _ _ => rfl) : SE X g (.Subscript a b pos) (e2 dix f h) :=
  PE.imp (pe_ix (ix_seq.or (ix_dk.or (ix_td (c := g.c) fx.k.symm fx.w.symm (by have := fx.u; omega)))) ha hb hs) (by rw [fx.k]; exact op_w os_ix)
/-! ### in -/
def dinS (ds : List D) (d : D) : Bool := ds.any fun z => PyData.eqv (toP z) (toP d)
def din (neg : Bool) : D → D → M D := fun d e => match e with
  | .lst ds => if plain 60 d = true ∧ plains 60 ds = true then mr (.bl (if neg = true then !dinS ds d else dinS ds d)) else mx
  | .tup ds => if plain 60 d = true ∧ plains 60 ds = true then mr (.bl (if neg = true then !dinS ds d else dinS ds d)) else mx
  | .str y => match d with
    | .str x => mr (.bl (if neg = true then !(!(Builtin.Str.occurrences y x 0 y.length 1).isEmpty) else !(Builtin.Str.occurrences y x 0 y.length 1).isEmpty))
    | _ => mx
  | .dct kd vd => if sameKind kd d = true then mr (.bl (if neg = true then !(dlook kd vd (nk d)).isSome else (dlook kd vd (nk d)).isSome)) else mx
  | _ => mx
/-- x in c of data -/
def rInA (K : PySem.W.Frag) (neg : Bool) : R2 := fun x y H Q => ∃ d ds, Dp K H x d ∧ (Dp K H y (.list ds) ∨ Dp K H y (.tuple ds)) ∧ PyData.canLay0 d = true ∧ PyData.canLayAll0 ds = true ∧ d.depth ≤ 60 ∧
  Q (.bl (if neg = true then !ds.any fun z => PyData.eqv z d else ds.any fun z => PyData.eqv z d)) H
theorem room_in {A : Around} {ds : List PyData} {d : PyData} (hd : d.depth ≤ 60) (hu : A.units + 64 < cLine) : A.units + 1 + min (PyData.depthAll ds) d.depth < cLine := by
  have h := Nat.min_le_right (PyData.depthAll ds) d.depth
  omega
theorem op_inA (hu : X.A.units + 64 < cLine) : OpR X (compareOp .In) (rInA X.K false) := by
  intro pins s σ H x y v u Q I rx ry h
  obtain ⟨d, ds, hd, he, sd, se, hl, q⟩ := h
  obtain ⟨as, r1⟩ := Dp.reads I d x v hd rx
  rcases he with he | he
  · obtain ⟨bs, r2⟩ := Dp.reads I (.list ds) y u he ry
    exact SeqAt.in_list_reads r2 r1 se sd (room_in hl hu) ⟨.bl _, H, I, rfl, q⟩
  · obtain ⟨bs, r2⟩ := Dp.reads I (.tuple ds) y u he ry
    exact SeqAt.in_tuple_reads r2 r1 se sd (room_in hl hu) ⟨.bl _, H, I, rfl, q⟩
theorem op_notInA (hu : X.A.units + 64 < cLine) : OpR X (compareOp .NotIn) (rInA X.K true) := by
  intro pins s σ H x y v u Q I rx ry h
  obtain ⟨d, ds, hd, he, sd, se, hl, q⟩ := h
  obtain ⟨as, r1⟩ := Dp.reads I d x v hd rx
  rcases he with he | he
  · obtain ⟨bs, r2⟩ := Dp.reads I (.list ds) y u he ry
    exact SeqAt.notIn_list_reads r2 r1 se sd (room_in hl hu) ⟨.bl _, H, I, rfl, q⟩
  · obtain ⟨bs, r2⟩ := Dp.reads I (.tuple ds) y u he ry
    exact SeqAt.notIn_tuple_reads r2 r1 se sd (room_in hl hu) ⟨.bl _, H, I, rfl, q⟩
/-- k in d of values -/
def rKI (neg : Bool) : R2 := fun y x H Q => ∃ a kvs k, x = .ref a ∧ Rd H a (.dK kvs) ∧ y = kV k ∧ Q (.bl (if neg = true then !(valV kvs k).isSome else (valV kvs k).isSome)) H
theorem in_dk (hu : X.A.units + 1 < cLine) : OpR X (compareOp .In) (rKI false) := by
  intro pins s σ H y x u v Q I ry rx h
  obtain ⟨a, kvs, k, rfl, h1, rfl, q⟩ := h
  cases rx
  exact d_in hu I (.inl ⟨kvs, k, h1, rfl, rfl⟩) ry fun s' I' => ⟨.bl _, H, I', rfl, q⟩
theorem notIn_dk (hu : X.A.units + 1 < cLine) : OpR X (compareOp .NotIn) (rKI true) := by
  intro pins s σ H y x u v Q I ry rx h
  obtain ⟨a, kvs, k, rfl, h1, rfl, q⟩ := h
  cases rx
  exact d_notIn hu I (.inl ⟨kvs, k, h1, rfl, rfl⟩) ry fun s' I' => ⟨.bl _, H, I', rfl, q⟩
def RIn (c : Ct) (neg : Bool) : R2 := fun x y H Q => rInA c.K neg x y H Q ∨ (∃ i j, x = .str i ∧ y = .str j ∧ Q (.bl (if neg = true then !(!(Builtin.Str.occurrences j i 0 j.length 1).isEmpty) else !(Builtin.Str.occurrences j i 0 j.length 1).isEmpty)) H) ∨ rKI neg x y H Q ∨ rTI c neg x y H Q ∨ rE0 c neg x y H Q
theorem any_toP (d : D) : ∀ ds : List D, ((toPs ds).any fun z => PyData.eqv z (toP d)) = dinS ds d
  | [] => rfl
  | x :: ds => by
    have ih := any_toP d ds
    show (PyData.eqv (toP x) (toP d) || (toPs ds).any _) = (PyData.eqv (toP x) (toP d) || ds.any _)
    rw [ih]; rfl
theorem os_in {neg : Bool} : OpS g (RIn g.c neg) (din neg) := by
  intro os σ H ρ t x y d e Q A lx ly q
  have seq : ∀ {ds : List D}, (plain 60 d = true ∧ plains 60 ds = true) → (Dp g.c.K H y (.list (toPs ds)) ∨ Dp g.c.K H y (.tuple (toPs ds))) → Q (.bl (if neg = true then !dinS ds d else dinS ds d)) H → rInA g.c.K neg x y H Q := fun {ds} hp hy hq =>
    ⟨toP d, toPs ds, lx.dp hp.1, hy, (plain_lay hp.1).1, (plains_lay hp.2).1, (plain_lay hp.1).2, by rw [any_toP]; exact hq⟩
  cases ly with
  | @lst a xs ds hx ax =>
    simp only [din] at q
    rcases post_if q with ⟨cl, q⟩ | ⟨_, q⟩
    · exact .inl (seq cl (.inl (.lst (SqL.of (msk_le _ _ hx)) (LdA.dp (LdA.same msk_le ax) cl.2))) (q _ H os A (.bl _) Go.refl))
    · exact q.elim
  | @tup a xs ds hx ax =>
    simp only [din] at q
    rcases post_if q with ⟨cl, q⟩ | ⟨_, q⟩
    · exact .inl (seq cl (.inr (.tup (Lay.seqT hx) (LdA.dp (LdA.same msk_le ax) cl.2))) (q _ H os A (.bl _) Go.refl))
    · exact q.elim
  | str y => cases lx with
    | str x => exact .inr (.inl ⟨x, y, rfl, rfl, q _ H os A (.bl _) Go.refl⟩)
    | _ => exact q.elim
  | @dct a kvs kd vd h1 h2 h3 =>
    simp only [din] at q
    rcases post_if q with ⟨sk, q⟩ | ⟨_, q⟩
    · unfold sameKind at sk
      cases ek : kkind d with
      | none => rw [ek] at sk; cases sk
      | some b =>
        simp only [ek] at sk
        rcases all_f h2 sk with rfl | rfl
        · cases kvs with
          | cons q0 l => cases h2
          | nil =>
            have q' := q _ H os A (.bl _) Go.refl
            simp only [dlook, Option.isSome_none, Bool.not_false] at q'
            cases b with
            | true => exact .inr (.inr (.inr (.inr ⟨a, rfl, by cases neg <;> simpa using q', .inl ⟨rd_same msk_le h1, d, Ld.same msk_le lx, ek⟩⟩)))
            | false =>
              obtain ⟨k, rfl⟩ := kkind_f lx ek
              refine .inr (.inr (.inl ⟨a, [], k, rfl, rd_same msk_le h1, rfl, ?_⟩))
              rw [valV_nil]
              cases neg <;> simpa using q'
        · obtain ⟨k, rfl⟩ := kkind_f lx ek
          refine .inr (.inr (.inl ⟨a, kvs, k, rfl, rd_same msk_le h1, rfl, ?_⟩))
          have q' := q _ H os A (.bl _) Go.refl
          rcases look_k h2 h3 lx with ⟨e1, e2⟩ | ⟨v, z, e1, e2, e3⟩
          · rw [e1]; rw [e2] at q'; exact q'
          · rw [e1]; rw [e2] at q'; exact q'
    · exact q.elim
  | @dctT a xs kd vd h1 h2 h3 h4 h5 =>
    simp only [din] at q
    rcases post_if q with ⟨sk, q⟩ | ⟨_, q⟩
    · unfold sameKind at sk
      cases ek : kkind d with
      | none => rw [ek] at sk; cases sk
      | some b =>
        simp only [ek] at sk
        have q' := q _ H os A (.bl _) Go.refl
        cases b with
        | true =>
          refine .inr (.inr (.inr (.inl ⟨a, xs, kd, d, rfl, rd_same msk_le h1, LdA.same msk_le h2, h3, h4, Ld.same msk_le lx, ek, ?_⟩)))
          rcases look_t h3 h5 (nk d) with ⟨e1, e2⟩ | ⟨x, z, e1, e2, e3⟩
          · rw [e1]; rw [e2] at q'; exact q'
          · rw [e1]; rw [e2] at q'; exact q'
        | false =>
          cases kd with
          | cons k0 kd0 =>
            rw [List.all_cons, Bool.and_eq_true] at sk h4
            have z1 := of_decide_eq_true sk.1
            have z2 := of_decide_eq_true h4.1
            rw [z1] at z2; cases z2
          | nil =>
            cases xs with
            | cons x0 l => cases h3
            | nil =>
              obtain ⟨k, rfl⟩ := kkind_f lx ek
              simp only [dlook, Option.isSome_none, Bool.not_false] at q'
              exact .inr (.inr (.inr (.inr ⟨a, rfl, by cases neg <;> simpa using q', .inr ⟨rd_same msk_le h1, k, rfl⟩⟩)))
    · exact q.elim
  | _ => exact q.elim
theorem OpR.str_in : OpR X (compareOp .In) (fun x y H Q => ∃ i j, x = .str i ∧ y = .str j ∧ Q (.bl (if (false : Bool) = true then !(!(Builtin.Str.occurrences j i 0 j.length 1).isEmpty) else !(Builtin.Str.occurrences j i 0 j.length 1).isEmpty)) H) := op_in_str
theorem cs_in {b : Expr} (fx : Fx X g) (hm : behindInMarks .In b = false := by rfl) : CmS X g .In b (din false) := by
  refine ⟨RIn g.c false, ?_, os_in, hm⟩
  have hu := fx.u
  exact OpR.or (by rw [← fx.k]; exact op_inA fx.u64) (OpR.or op_in_str (OpR.or (in_dk fx.u1) (OpR.or (in_td fx.k.symm fx.w.symm (by omega)) (in_0 fx.k.symm fx.w.symm (by omega)))))
theorem cs_notIn {b : Expr} (fx : Fx X g) (hm : behindInMarks .NotIn b = false := by rfl) : CmS X g .NotIn b (din true) := by
  refine ⟨RIn g.c true, ?_, os_in, hm⟩
  have hu := fx.u
  exact OpR.or (by rw [← fx.k]; exact op_notInA fx.u64) (OpR.or op_notIn_str (OpR.or (notIn_dk fx.u1) (OpR.or (notIn_td fx.k.symm fx.w.symm (by omega)) (notIn_0 fx.k.symm fx.w.symm (by omega)))))
end
end DL

set_option Elab.async false
set_option linter.all false
set_option maxRecDepth 100000
set_option maxHeartbeats 1000000
namespace DL
open PySem PySem.Spec PyProof.Rows L2
/-! ### built-ins called -/
/-- what a call does with data -/
def CaS (g : G) (r : List V → Hp → VK → Prop) (f : List D → M D) : Prop := ∀ (os : List Addr) (σ : L2.St) (H : Hp) (ρ : List Sl) (t : Pn) (xs : List V) (ds : List D) (Q : VK), Amb g os σ H ρ t → LayA g os H xs ds →
  (f ds ρ t).post (fun z ρ' t' => ∀ v H' os', Amb g os' σ H' ρ' t' → Lay g os' H' v z → Go g os H os' H' → Q v H') noX → r xs H Q
/-- .. that makes a new container -/
def CaF (g : G) (r : List V → Hp → VK → Prop) (f : List D → M D) : Prop := ∀ (os : List Addr) (σ : L2.St) (H : Hp) (ρ : List Sl) (t : Pn) (xs : List V) (ds : List D) (Q : VK), Amb g os σ H ρ t → LayA g os H xs ds →
  (f ds ρ t).post (fun z ρ' t' => ∀ p H' os', Amb g (p :: os') σ H' ρ' t' → Own g (p :: os') H' p z → (p ∉ mo g os' ∧ H p = none) → NOw σ ρ' p → Go g os H (p :: os') H' → Q (.ref p) H') noX → r xs H Q
section
variable {X : Cx} {g : G}
theorem ca_w {r : List V → Hp → VK → Prop} {f : List D → M D} {h : M (List D)} (hs : CaS g r f) : ∀ σ H Q, tD g (mb h f) σ H Q → tCB r (aD g h) σ H Q := fun σ H Q q => by
  obtain ⟨os, ρ, t, A, q⟩ := q
  exact ⟨os, ρ, t, A, post_mono (post_bind q) (fun ds ρ1 t1 q1 vs H1 os1 A1 l1 s1 => hs os1 σ H1 ρ1 t1 vs ds Q A1 l1 (post_mono q1 (fun z ρ2 t2 q2 w H2 os2 A2 l2 s2 => q2 w H2 os2 A2 l2 (s1.trans s2)) fun _ _ _ _ h => h)) fun _ _ _ _ h => h⟩
theorem caF_w {r : List V → Hp → VK → Prop} {f : List D → M D} {h : M (List D)} (hs : CaF g r f) : ∀ σ H Q, fD g (mb h f) σ H Q → tCB r (aD g h) σ H Q := fun σ H Q q => by
  obtain ⟨os, ρ, t, A, q⟩ := q
  exact ⟨os, ρ, t, A, post_mono (post_bind q) (fun ds ρ1 t1 q1 vs H1 os1 A1 l1 s1 => hs os1 σ H1 ρ1 t1 vs ds Q A1 l1 (post_mono q1 (fun z ρ2 t2 q2 w H2 os2 A2 l2 n2 w2 s2 => q2 w H2 os2 A2 l2 ⟨n2.1, s1.none A1 n2.2⟩ w2 (s1.trans s2)) fun _ _ _ _ h => h)) fun _ _ _ _ h => h⟩
theorem se_callB {x : Str} {id : String} {p pos : Pos} {e : Expr} {es : List Expr} {r : List V → Hp → VK → Prop} {f : List D → M D} {h : M (List D)} (fx : Fx X g) (hc : CallR X (.builtin id) r) (hs : CaS g r f) (hg : Gl X x) (hm : g.c.mg x = none) (hv : bootBuiltins x = some (.builtin id)) (ha : SA X g (e :: es) h)
    (hn : x ≠ "__name__" := by decide) (hdb : (x == ("__debug__" : Str)) = false := by decide) (he : starEach (e :: es) X.env = (false, eval e X.env) :: starEach es X.env := by rfl) (hpl : (backTo pos (starEach es X.env)).any (·.1) = false := by rfl) :
    SE X g (.Call (.Name x p) (e :: es) [] pos) (mb h f) := PE.imp (pe_callB hc hg (by rw [fx.m]; exact hm) hv ha hn hdb he hpl) (ca_w hs)
theorem sf_callB {x : Str} {id : String} {p pos : Pos} {e : Expr} {es : List Expr} {r : List V → Hp → VK → Prop} {f : List D → M D} {h : M (List D)} (fx : Fx X g) (hc : CallR X (.builtin id) r) (hs : CaF g r f) (hg : Gl X x) (hm : g.c.mg x = none) (hv : bootBuiltins x = some (.builtin id)) (ha : SA X g (e :: es) h)
    (hn : x ≠ "__name__" := by decide) (hdb : (x == ("__debug__" : Str)) = false := by decide) (he : starEach (e :: es) X.env = (false, eval e X.env) :: starEach es X.env := by rfl) (hpl : (backTo pos (starEach es X.env)).any (·.1) = false := by rfl) :
    SF X g (.Call (.Name x p) (e :: es) [] pos) (mb h f) := PE.imp (pe_callB hc hg (by rw [fx.m]; exact hm) hv ha hn hdb he hpl) (caF_w hs)
theorem se_callT {x : Str} {id : String} {p pos : Pos} {e : Expr} {es : List Expr} {r : List V → Hp → VK → Prop} {f : List D → M D} {h : M (List D)} (fx : Fx X g) (hc : CallR X (.type id) r) (hs : CaS g r f) (hg : Gl X x) (hm : g.c.mg x = none) (hv : bootBuiltins x = some (.type id)) (ha : SA X g (e :: es) h)
    (hn : x ≠ "__name__" := by decide) (hdb : (x == ("__debug__" : Str)) = false := by decide) (he : starEach (e :: es) X.env = (false, eval e X.env) :: starEach es X.env := by rfl) (hpl : (backTo pos (starEach es X.env)).any (·.1) = false := by rfl) :
    SE X g (.Call (.Name x p) (e :: es) [] pos) (mb h f) := PE.imp (pe_callTy hc hg (by rw [fx.m]; exact hm) hv ha hn hdb he hpl) (ca_w hs)
theorem sf_callT {x : Str} {id : String} {p pos : Pos} {e : Expr} {es : List Expr} {r : List V → Hp → VK → Prop} {f : List D → M D} {h : M (List D)} (fx : Fx X g) (hc : CallR X (.type id) r) (hs : CaF g r f) (hg : Gl X x) (hm : g.c.mg x = none) (hv : bootBuiltins x = some (.type id)) (ha : SA X g (e :: es) h)
    (hn : x ≠ "__name__" := by decide) (hdb : (x == ("__debug__" : Str)) = false := by decide) (he : starEach (e :: es) X.env = (false, eval e X.env) :: starEach es X.env := by rfl) (hpl : (backTo pos (starEach es X.env)).any (·.1) = false := by rfl) :
    SF X g (.Call (.Name x p) (e :: es) [] pos) (mb h f) := PE.imp (pe_callTy hc hg (by rw [fx.m]; exact hm) hv ha hn hdb he hpl) (caF_w hs)
/-! len -/
def dlen : List D → M D
  | [.str s] => if s.length ≤ lim then mr (.int s.length) else mx
  | [.lst xs] => mr (.int xs.length)
  | [.tup xs] => mr (.int xs.length)
  | [.dct ks _] => mr (.int ks.length)
  | _ => mx
def rLenX (c : Ct) : List V → Hp → VK → Prop := fun xs H Q => (∃ x n, xs = [x] ∧ LenV c.K x H n ∧ Q (.int n) H) ∨ (∃ a kvs, xs = [V.ref a] ∧ Rd H a (.dK kvs) ∧ Q (.int kvs.length) H) ∨
  ∃ a ts kd, xs = [V.ref a] ∧ Rd H a (tdO c.w a ts) ∧ LdA c H (ts.map fun q => V.ref q.2.1) kd ∧ ts.map (·.1) = kd.map nk ∧ (kd.all fun d => decide (kkind d = some true)) = true ∧ Q (.int ts.length) H
theorem cr_len {c : Ct} (hc : c.K = X.K) (hw : c.w = X.w) : CallR X (.builtin "len") (rLenX c) := by
  intro pins s σ H xs us Q I r h
  rcases h with h | h | ⟨a, ts, kd, rfl, h1, h2, h3, h4, q⟩
  · exact call_len pins s σ H xs us Q I r (by rw [← hc]; exact h)
  · obtain ⟨a, kvs, rfl, ha, q⟩ := h
    obtain ⟨u, rfl, ru⟩ := vals1 r
    cases ru
    exact d_len I ha fun t s' I' => ⟨.int kvs.length, H, I', ⟨t, rfl⟩, q⟩
  · obtain ⟨u, rfl, rx⟩ := vals1 r
    cases rx
    rw [hw] at h1
    obtain ⟨k1, k2, ys, k3, k4⟩ := td_dict I h1 (tup_keys I hc h2 h3 h4)
    have hl : ts.length = ys.length := Paired.length k3
    have hz := line63
    refine call_len_dictH k2 k4 (by omega) ⟨.int ts.length, H, I.tok _, ⟨_, by rw [hl]⟩, q⟩
theorem ca_len : CaS g (rLenX g.c) dlen := by
  intro os σ H ρ t xs ds Q A l q
  cases l with
  | nil => exact q.elim
  | cons l a => cases a with
    | cons _ _ => cases l <;> exact q.elim
    | nil => cases l with
      | str s =>
        simp only [dlen] at q
        rcases post_if q with ⟨c, q⟩ | ⟨_, q⟩
        · exact .inl ⟨_, s.length, rfl, ⟨lim_le c, rfl⟩, q _ H os A (.int _) Go.refl⟩
        · exact q.elim
      | @lst b xs ds hx ax => exact .inl ⟨_, xs.length, rfl, .inl ⟨xs, SqL.of (msk_le _ _ hx), rfl⟩, by rw [ax.len]; exact q _ H os A (.int _) Go.refl⟩
      | @tup b xs ds hx ax => exact .inl ⟨_, xs.length, rfl, .inr ⟨xs, Lay.seqT hx, rfl⟩, by rw [ax.len]; exact q _ H os A (.int _) Go.refl⟩
      | @dct b kvs kd vd h1 h2 h3 =>
        have e := h2.len
        rw [List.length_map] at e
        exact .inr (.inl ⟨b, kvs, rfl, rd_same msk_le h1, by rw [e]; exact q _ H os A (.int _) Go.refl⟩)
      | @dctT b ts kd vd h1 h2 h3 h4 h5 =>
        have e := h2.len
        rw [List.length_map] at e
        exact .inr (.inr ⟨b, ts, kd, rfl, rd_same msk_le h1, LdA.same msk_le h2, h3, h4, by rw [e]; exact q _ H os A (.int _) Go.refl⟩)
      | _ => exact q.elim
theorem boot_len' : bootBuiltins "len" = some (.builtin "len") := PySem.boot_len
theorem se_len {p pos : Pos} {e : Expr} {h : M D} (fx : Fx X g) (hg : Gl X "len") (hm : g.c.mg "len" = none) (he : SE X g e h) (hst : starEach [e] X.env = (false, eval e X.env) :: starEach [] X.env := by rfl) : SE X g (.Call (.Name "len" p) [e] [] pos) (mb (acons h anil) dlen) :=
  se_callB fx (cr_len fx.k.symm fx.w.symm) ca_len hg hm boot_len' (sa_cons he sa_nil hst) (by decide) (by decide) hst
/-! int, abs, min, max -/
def dint : List D → M D
  | [.int i] => mr (.int i)
  | [.bl b] => mr (.int (if b then 1 else 0))
  | _ => mx
theorem ca_int : CaS g (fun xs H Q => (∃ i, xs = [.int i] ∧ Q (.int i) H) ∨ ∃ k, xs = [.bl k] ∧ Q (.int (if k then 1 else 0)) H) dint := by
  intro os σ H ρ t xs ds Q A l q
  cases l with
  | nil => exact q.elim
  | cons l a => cases a with
    | cons _ _ => cases l <;> exact q.elim
    | nil => cases l with
      | int i => exact .inl ⟨i, rfl, q _ H os A (.int _) Go.refl⟩
      | bl b => exact .inr ⟨b, rfl, q _ H os A (.int _) Go.refl⟩
      | _ => exact q.elim
theorem se_intC {p pos : Pos} {e : Expr} {h : M D} (fx : Fx X g) (hg : Gl X "int") (hm : g.c.mg "int" = none) (he : SE X g e h) (hst : starEach [e] X.env = (false, eval e X.env) :: starEach [] X.env := by rfl) : SE X g (.Call (.Name "int" p) [e] [] pos) (mb (acons h anil) dint) :=
  se_callT fx call_int1 ca_int hg hm PyProof.Rows.boot_int (sa_cons he sa_nil hst) (by decide) (by decide) hst
def dabs : List D → M D
  | [.int i] => mr (.int (if i < 0 then -i else i))
  | _ => mx
theorem ca_abs : CaS g (fun xs H Q => ∃ i, xs = [.int i] ∧ Q (.int (if i < 0 then -i else i)) H) dabs := by
  intro os σ H ρ t xs ds Q A l q
  cases l with
  | nil => exact q.elim
  | cons l a => cases a with
    | cons _ _ => cases l <;> exact q.elim
    | nil => cases l with
      | int i => exact ⟨i, rfl, q _ H os A (.int _) Go.refl⟩
      | _ => exact q.elim
theorem se_abs {p pos : Pos} {e : Expr} {h : M D} (fx : Fx X g) (hg : Gl X "abs") (hm : g.c.mg "abs" = none) (he : SE X g e h) (hst : starEach [e] X.env = (false, eval e X.env) :: starEach [] X.env := by rfl) : SE X g (.Call (.Name "abs" p) [e] [] pos) (mb (acons h anil) dabs) :=
  se_callB fx call_abs ca_abs hg hm PyProof.Rows.boot_abs (sa_cons he sa_nil hst) (by decide) (by decide) hst
def dmin2 : List D → M D
  | [.int i, .int j] => mr (.int (if j < i then j else i))
  | _ => mx
def dmax2 : List D → M D
  | [.int i, .int j] => mr (.int (if j > i then j else i))
  | _ => mx
theorem two_ints {os : List Addr} {H : Hp} {xs : List V} {ds : List D} (l : LayA g os H xs ds) : (∃ i j, xs = [.int i, .int j] ∧ ds = [.int i, .int j]) ∨ (dmin2 ds = mx ∧ dmax2 ds = mx) := by
  cases l with
  | nil => exact .inr ⟨rfl, rfl⟩
  | cons l a => cases a with
    | nil => exact .inr ⟨by cases l <;> rfl, by cases l <;> rfl⟩
    | cons l2 a2 => cases a2 with
      | cons _ _ => exact .inr ⟨by cases l <;> first | rfl | (cases l2 <;> rfl), by cases l <;> first | rfl | (cases l2 <;> rfl)⟩
      | nil => cases l with
        | int i => cases l2 with
          | int j => exact .inl ⟨i, j, rfl, rfl⟩
          | _ => exact .inr ⟨rfl, rfl⟩
        | _ => exact .inr ⟨rfl, rfl⟩
theorem ca_min2 : CaS g (fun xs H Q => ∃ i j, xs = [.int i, .int j] ∧ Q (.int (if j < i then j else i)) H) dmin2 := by
  intro os σ H ρ t xs ds Q A l q
  rcases two_ints l with ⟨i, j, rfl, rfl⟩ | ⟨e, _⟩
  · exact ⟨i, j, rfl, q _ H os A (.int _) Go.refl⟩
  · rw [e] at q; exact q.elim
theorem ca_max2 : CaS g (fun xs H Q => ∃ i j, xs = [.int i, .int j] ∧ Q (.int (if j > i then j else i)) H) dmax2 := by
  intro os σ H ρ t xs ds Q A l q
  rcases two_ints l with ⟨i, j, rfl, rfl⟩ | ⟨_, e⟩
  · exact ⟨i, j, rfl, q _ H os A (.int _) Go.refl⟩
  · rw [e] at q; exact q.elim
theorem se_min2 {p pos : Pos} {a b : Expr} {h : M (List D)} (fx : Fx X g) (hg : Gl X "min") (hm : g.c.mg "min" = none) (ha : SA X g [a, b] h) (he : starEach (a :: [b]) X.env = (false, eval a X.env) :: starEach [b] X.env := by rfl) (hpl : (backTo pos (starEach [b] X.env)).any (·.1) = false := by rfl) :
    SE X g (.Call (.Name "min" p) [a, b] [] pos) (mb h dmin2) := se_callB fx (call_min2 fx.c) ca_min2 hg hm (by decide +kernel) ha (by decide) (by decide) he hpl
theorem se_max2 {p pos : Pos} {a b : Expr} {h : M (List D)} (fx : Fx X g) (hg : Gl X "max") (hm : g.c.mg "max" = none) (ha : SA X g [a, b] h) (he : starEach (a :: [b]) X.env = (false, eval a X.env) :: starEach [b] X.env := by rfl) (hpl : (backTo pos (starEach [b] X.env)).any (·.1) = false := by rfl) :
    SE X g (.Call (.Name "max" p) [a, b] [] pos) (mb h dmax2) := se_callB fx (call_max2 fx.c) ca_max2 hg hm (by decide +kernel) ha (by decide) (by decide) he hpl
/-! list(x), tuple(x) of lists and tuples -/
def dlist : List D → M D
  | [.lst xs] => mr (.lst xs)
  | [.tup xs] => mr (.lst xs)
  | _ => mx
theorem ca_list : CaF g (fun xs H Q => ∃ p ys, xs = [.ref p] ∧ (SqL g.c.K H p ys ∨ SqT g.c.K H p ys) ∧ ∀ l, H l = none → Q (.ref l) (upd H l (.lst ys))) dlist := by
  intro os σ H ρ t xs ds Q A l q
  cases l with
  | nil => exact q.elim
  | cons l a => cases a with
    | cons _ _ => cases l <;> exact q.elim
    | nil =>
      have fin : ∀ {p : Addr} {ys : List V} {es : List D}, (SqL g.c.K H p ys ∨ SqT g.c.K H p ys) → LayA g os H ys es → (∀ p H' os', Amb g (p :: os') σ H' ρ t → Own g (p :: os') H' p (.lst es) → (p ∉ mo g os' ∧ H p = none) → NOw σ ρ p → Go g os H (p :: os') H' → Q (.ref p) H') →
          ∃ p' ys', [V.ref p] = [.ref p'] ∧ (SqL g.c.K H p' ys' ∨ SqT g.c.K H p' ys') ∧ ∀ l, H l = none → Q (.ref l) (upd H l (.lst ys')) := fun {p ys es} hs ha hq =>
        ⟨p, ys, rfl, hs, fun l hl => by
          obtain ⟨A2, n2, w2, s2⟩ := own_new (o := .lst ys) A hl
          exact hq l _ os A2 ⟨ys, upd_same, LdA.same (Go.s s2) ha⟩ ⟨n2, hl⟩ w2 s2⟩
      cases l with
      | lst hx ax => exact fin (.inl (SqL.of (msk_le _ _ hx))) ax q
      | tup hx ax => exact fin (.inr (Lay.seqT hx)) ax q
      | _ => exact q.elim
theorem sf_listC {p pos : Pos} {e : Expr} {h : M D} (fx : Fx X g) (hg : Gl X "list") (hm : g.c.mg "list" = none) (he : SE X g e h) (hst : starEach [e] X.env = (false, eval e X.env) :: starEach [] X.env := by rfl) : SF X g (.Call (.Name "list" p) [e] [] pos) (mb (acons h anil) dlist) :=
  sf_callT fx (by have := call_list_of (X := X); rw [fx.k] at this; exact this) ca_list hg hm PyProof.Rows.boot_list (sa_cons he sa_nil hst) (by decide) (by decide) hst
def dtuple : List D → M D
  | [.lst xs] => mr (.tup xs)
  | [.tup xs] => mr (.tup xs)
  | _ => mx
theorem ca_tuple : CaS g (fun xs H Q => ∃ p ys, xs = [.ref p] ∧ ((SqL g.c.K H p ys ∧ ∀ l, H l = none → Q (.ref l) (upd H l (.tup ys))) ∨ (SqT g.c.K H p ys ∧ Q (.ref p) H))) dtuple := by
  intro os σ H ρ t xs ds Q A l q
  cases l with
  | nil => exact q.elim
  | cons l a => cases a with
    | cons _ _ => cases l <;> exact q.elim
    | nil => cases l with
      | @lst b xs es hx ax =>
        refine ⟨b, xs, rfl, .inl ⟨SqL.of (msk_le _ _ hx), fun p hp => ?_⟩⟩
        obtain ⟨A2, h2, s2⟩ := lay_new (o := .tup xs) A hp
        exact q _ _ os A2 (.tup (SqT.of h2) (LdA.same (Go.s s2) ax)) s2
      | @tup b xs es hx ax => exact ⟨b, xs, rfl, .inr ⟨Lay.seqT hx, q _ H os A (.tup hx ax) Go.refl⟩⟩
      | _ => exact q.elim
theorem se_tupleC {p pos : Pos} {e : Expr} {h : M D} (fx : Fx X g) (hg : Gl X "tuple") (hm : g.c.mg "tuple" = none) (he : SE X g e h) (hst : starEach [e] X.env = (false, eval e X.env) :: starEach [] X.env := by rfl) : SE X g (.Call (.Name "tuple" p) [e] [] pos) (mb (acons h anil) dtuple) :=
  se_callT fx (by have := call_tuple_of (X := X); rw [fx.k] at this; exact this) ca_tuple hg hm PyProof.Rows.boot_tuple (sa_cons he sa_nil hst) (by decide) (by decide) hst
/-! all, any of truth values -/
def bools : List D → Option (List Bool)
  | [] => some []
  | .bl b :: ds => (bools ds).map (b :: ·)
  | _ => none
theorem bools_lay {c : Ct} {H : Hp} : ∀ {vs : List V} {ds : List D}, LdA c H vs ds → ∀ {bs : List Bool}, bools ds = some bs → vs = bs.map V.bl
  | _, _, .nil, bs, e => by cases e; rfl
  | _, _, .cons l a, bs, e => by
    cases l with
    | bl b =>
      obtain ⟨cs, e1, e2⟩ := Option.map_eq_some_iff.mp e
      subst e2
      rw [List.map_cons, bools_lay a e1]
    | _ => cases e
def dall : List D → M D
  | [.lst xs] => match bools xs with
    | some bs => mr (.bl (bs.all id))
    | none => mx
  | _ => mx
def dany : List D → M D
  | [.lst xs] => match bools xs with
    | some bs => mr (.bl (bs.any id))
    | none => mx
  | _ => mx
theorem ca_all : CaS g (rAll g.c.K) dall := by
  intro os σ H ρ t xs ds Q A l q
  cases l with
  | nil => exact q.elim
  | cons l a => cases a with
    | cons _ _ => cases l <;> exact q.elim
    | nil => cases l with
      | @lst b xs es hx ax =>
        simp only [dall] at q
        cases e : bools es with
        | none => simp only [e] at q; exact q.elim
        | some bs =>
          simp only [e] at q
          refine ⟨b, bs, rfl, ?_, q _ H os A (.bl _) Go.refl⟩
          rw [← bools_lay ax e]; exact SqL.of (msk_le _ _ hx)
      | _ => exact q.elim
theorem ca_any : CaS g (rAny g.c.K) dany := by
  intro os σ H ρ t xs ds Q A l q
  cases l with
  | nil => exact q.elim
  | cons l a => cases a with
    | cons _ _ => cases l <;> exact q.elim
    | nil => cases l with
      | @lst b xs es hx ax =>
        simp only [dany] at q
        cases e : bools es with
        | none => simp only [e] at q; exact q.elim
        | some bs =>
          simp only [e] at q
          refine ⟨b, bs, rfl, ?_, q _ H os A (.bl _) Go.refl⟩
          rw [← bools_lay ax e]; exact SqL.of (msk_le _ _ hx)
      | _ => exact q.elim
theorem se_all {p pos : Pos} {e : Expr} {h : M D} (fx : Fx X g) (hg : Gl X "all") (hm : g.c.mg "all" = none) (he : SE X g e h) (hst : starEach [e] X.env = (false, eval e X.env) :: starEach [] X.env := by rfl) : SE X g (.Call (.Name "all" p) [e] [] pos) (mb (acons h anil) dall) :=
  se_callB fx (by have := cr_all (X := X) fx.c; rw [fx.k] at this; exact this) ca_all hg hm (by decide +kernel) (sa_cons he sa_nil hst) (by decide) (by decide) hst
theorem se_any {p pos : Pos} {e : Expr} {h : M D} (fx : Fx X g) (hg : Gl X "any") (hm : g.c.mg "any" = none) (he : SE X g e h) (hst : starEach [e] X.env = (false, eval e X.env) :: starEach [] X.env := by rfl) : SE X g (.Call (.Name "any" p) [e] [] pos) (mb (acons h anil) dany) :=
  se_callB fx (by have := cr_any (X := X) fx.c; rw [fx.k] at this; exact this) ca_any hg hm (by decide +kernel) (sa_cons he sa_nil hst) (by decide) (by decide) hst
end
end DL

set_option Elab.async false
set_option linter.all false
set_option maxRecDepth 100000
set_option maxHeartbeats 1000000
namespace DL
open PySem PySem.Spec PyProof.Rows L2
/-! ### slices -/
def oD (g : G) (f : M (Option Int)) : TO := fun σ H Q => ∃ os ρ t, Amb g os σ H ρ t ∧
  (f ρ t).post (fun d ρ' t' => ∀ H' os', Amb g os' σ H' ρ' t' → Go g os H os' H' → Q d H') noX
abbrev SO (X : Cx) (g : G) (e : Option Expr) (f : M (Option Int)) : Prop := PO X e (oD g f)
def osome (f : M D) : M (Option Int) := mb f fun d => match d with
  | .int i => mr (some i)
  | _ => mx
def cutD (xs : List D) (lo hi : Option Int) : List D := (xs.drop (HT.sIx xs.length 0 lo)).take (HT.sIx xs.length xs.length hi - HT.sIx xs.length 0 lo)
/-- x[lo:hi] -/
def dsl (x : D) (lo hi : Option Int) : M D := match x with
  | .lst xs => mr (.lst (cutD xs lo hi))
  | .tup xs => if ¬ (HT.sIx xs.length 0 lo = 0 ∧ HT.sIx xs.length xs.length hi = xs.length) then mr (.tup (cutD xs lo hi)) else mx
  | .str s => if s.length ≤ lim then mr (.str (cutS s lo hi)) else mx
  | _ => mx
def esl (f : M D) (lo hi : M (Option Int)) : M D := mb f fun x => mb lo fun l => mb hi fun h => dsl x l h
section
variable {X : Cx} {g : G}
theorem so_none : SO X g none (mr none) := ⟨fun pins s σ H Q I q => (po_none (X := X)).run pins s σ H Q I (by
  obtain ⟨os, ρ, t, A, q⟩ := q
  exact q H os A Go.refl)⟩
theorem so_some {e : Expr} {f : M D} (h : SE X g e f) : SO X g (some e) (osome f) := ⟨fun pins s σ H Q I q => (po_some h).run pins s σ H Q I (by
  obtain ⟨os, ρ, t, A, q⟩ := q
  refine ⟨os, ρ, t, A, post_mono (post_bind q) (fun d ρ1 t1 q1 v H1 os1 A1 l1 s1 => ?_) fun _ _ _ _ h => h⟩
  cases l1 with
  | int i => exact ⟨i, rfl, q1 H1 os1 A1 s1⟩
  | _ => exact q1.elim)⟩
theorem LdA.cut {c : Ct} {H : Hp} {vs : List V} {ds : List D} (a : LdA c H vs ds) (lo hi : Option Int) : LdA c H (cutV vs lo hi) (cutD ds lo hi) := by
  unfold cutV cutD
  rw [a.len]
  exact LdA.take _ (LdA.drop _ a)
def RSl (K : PySem.W.Frag) : V → Option Int → Option Int → Hp → VK → Prop := fun x lo hi H Q => rSlL K x lo hi H Q ∨ rSlT K x lo hi H Q ∨ rSlS x lo hi H Q
theorem se_sl {e : Expr} {lo hi : Option Expr} {pos p2 : Pos} {f : M D} {fl fh : M (Option Int)} (fx : Fx X g) (he : SE X g e f) (hl : SO X g lo fl) (hh : SO X g hi fh) : SE X g (.Subscript e (.Slice lo hi none p2) pos) (esl f fl fh) :=
  PE.imp (pe_slice (r := RSl X.K) (sl_list.or (sl_tup.or sl_str)) he hl hh) fun σ H Q q => by
    rw [fx.k]
    obtain ⟨os, ρ, t, A, q⟩ := q
    refine ⟨os, ρ, t, A, post_mono (post_bind q) (fun d ρ1 t1 q1 v H1 os1 A1 l1 s1 => ?_) fun _ _ _ _ h => h⟩
    refine ⟨os1, ρ1, t1, A1, post_mono (post_bind q1) (fun i ρ2 t2 q2 H2 os2 A2 s2 => ?_) fun _ _ _ _ h => h⟩
    refine ⟨os2, ρ2, t2, A2, post_mono (post_bind q2) (fun j ρ3 t3 q3 H3 os3 A3 s3 => ?_) fun _ _ _ _ h => h⟩
    have s := (s1.trans s2).trans s3
    cases Ld.same (Go.s s3) (Ld.same (Go.s s2) l1) with
    | @lst a xs ds hx ax =>
      refine .inl ⟨a, xs, rfl, SqL.of (msk_le _ _ hx), fun p hp => ?_⟩
      obtain ⟨A4, h4, s4⟩ := lay_new (o := .lst (cutV xs i j)) A3 hp
      exact q3 _ _ os3 A4 (.lst h4 (LdA.same (Go.s s4) (ax.cut i j))) (s.trans s4)
    | @tup a xs ds hx ax =>
      simp only [dsl] at q3
      rcases post_if q3 with ⟨c, q3⟩ | ⟨_, q3⟩
      · refine .inr (.inl ⟨a, xs, rfl, Lay.seqT hx, by rw [ax.len]; exact c, fun p hp => ?_⟩)
        obtain ⟨A4, h4, s4⟩ := lay_new (o := .tup (cutV xs i j)) A3 hp
        exact q3 _ _ os3 A4 (.tup (SqT.of h4) (LdA.same (Go.s s4) (ax.cut i j))) (s.trans s4)
      · exact q3.elim
    | str z =>
      simp only [dsl] at q3
      rcases post_if q3 with ⟨c, q3⟩ | ⟨_, q3⟩
      · exact .inr (.inr ⟨z, rfl, lim_le c, q3 _ H3 os3 A3 (.str _) s⟩)
      · exact q3.elim
    | _ => exact q3.elim
/-- xs[::-1] of a list -/
def drev : D → M D
  | .lst xs => mr (.lst xs.reverse)
  | _ => mx
theorem se_revL {e : Expr} {p1 p2 p3 pos : Pos} {k} {f : M D} (fx : Fx X g) (he : SE X g e f) : SE X g (.Subscript e (.Slice none none (some (.UnaryOp .USub (.Constant (.int 1) k p1) p2)) p3) pos) (mb f drev) :=
  PE.imp (pe_revL he) fun σ H Q q => by
    obtain ⟨os, ρ, t, A, q⟩ := q
    refine ⟨os, ρ, t, A, post_mono (post_bind q) (fun d ρ1 t1 q1 v H1 os1 A1 l1 s1 => ?_) fun _ _ _ _ h => h⟩
    cases l1 with
    | @lst a xs ds hx ax =>
      refine ⟨a, xs, rfl, SqL.of (msk_le _ _ hx), fun p hp => ?_⟩
      obtain ⟨A4, h4, s4⟩ := lay_new (o := .lst xs.reverse) A1 hp
      exact q1 _ _ os1 A4 (.lst h4 (LdA.same (Go.s s4) ax.rev)) (s1.trans s4)
    | _ => exact q1.elim
/-! ### isinstance -/
def isT (T : String) : D → Option Bool := fun d => match T, d with
  | _, .obj _ _ _ => none
  | "int", .int _ => some true
  | "int", .bl _ => some true
  | "int", _ => some false
  | "bool", .bl _ => some true
  | "bool", _ => some false
  | "str", .str _ => some true
  | "str", _ => some false
  | "list", .lst _ => some true
  | "list", _ => some false
  | "tuple", .tup _ => some true
  | "tuple", _ => some false
  | "dict", .dct _ _ => some true
  | "dict", _ => some false
  | _, _ => none
def tyN : D → String
  | .non => "NoneType"
  | .bl _ => "bool"
  | .int _ => "int"
  | .str _ => "str"
  | .lst _ => "list"
  | .tup _ => "tuple"
  | .dct _ _ => "dict"
  | .obj _ _ _ => "?"
/-- built-in names that isinstance asks here -/
inductive Ask : String → Prop
  | int : Ask "int" | bool : Ask "bool" | str : Ask "str" | list : Ask "list" | tuple : Ask "tuple" | dict : Ask "dict"
theorem isT_kit {T : String} (h : Ask T) {d : D} {b : Bool} (e : isT T d = some b) : kitB (tyN d) T = some b := by
  cases h <;> cases d <;> first | (cases e; done) | (injection e with e; subst e; dsimp only [tyN]; decide +kernel)
theorem Ld.tyx {c : Ct} {H : Hp} {v : V} {d : D} (l : Ld c H v d) : (∃ n x ns, d = .obj n x ns) ∨ ((∃ a kvs, v = .ref a ∧ Rd H a (.dK kvs) ∧ tyN d = "dict") ∨ ∃ a xs, v = .ref a ∧ Rd H a (tdO c.w a xs) ∧ tyN d = "dict") ∨ TyX c.K H v (.type (tyN d)) := by
  cases l with
  | non => exact .inr (.inr (.base .non))
  | bl b => exact .inr (.inr (.base (.bl b)))
  | int i => exact .inr (.inr (.base (.int i)))
  | str s => exact .inr (.inr (.base (.str s)))
  | lst h a => exact .inr (.inr (.base (.lst h)))
  | tup h a =>
    refine .inr (.inr ?_)
    rcases h with (h | ⟨ob, h⟩) | ⟨o, its, n, h1, h2, _⟩
    · exact .base (.tup h)
    · exact .fTuple h
    · exact .kTuple h1 h2
  | dct h a b => exact .inr (.inl (.inl ⟨_, _, rfl, h, rfl⟩))
  | dctT h a e k b => exact .inr (.inl (.inr ⟨_, _, rfl, h, rfl⟩))
  | obj h cl a => exact .inl ⟨_, _, _, rfl⟩
def rIsiD (c : Ct) (T : String) : List V → Hp → VK → Prop := fun xs H Q => ∃ v d b, xs = [v, .ty T] ∧ Ld c H v d ∧ isT T d = some b ∧ Q (.bl b) H
theorem isT_obj {T : String} {n : Str} {x : List Str} {ns : List D} : isT T (.obj n x ns) = none := by
  unfold isT
  split <;> first | rfl | (rename_i z; cases z)
theorem cr_isiD {c : Ct} {T : String} (hc : c.K = X.K) (hw : c.w = X.w) (ha : Ask T) : CallR X (.builtin "isinstance") (rIsiD c T) := by
  intro pins s σ H xs us Q I r h
  obtain ⟨v, d, b, rfl, l, e, q⟩ := h
  obtain ⟨u1, u2, rfl, r1, r2⟩ := vals2 r
  cases (show u2 = Value.type T from r2)
  have k := isT_kit ha e
  rcases l.tyx with ⟨n, x, ns, rfl⟩ | (⟨a, ts, rfl, h1, h2⟩ | ⟨a, ts, rfl, h1, h2⟩) | ty
  · rw [isT_obj] at e; cases e
  · cases r1
    rw [h2] at k
    obtain ⟨_, _, vs, _, o, es, ep, h5, h6, _⟩ := dk_rd I.hok h1
    exact PySem.W.kia_one PySem.W.kitx_dict I.kIn ⟨o, h5, h6.1⟩ (kit_ty k) (fun z => nomatch z) fun tk => ⟨.bl b, H, I.tok tk, rfl, q⟩
  · cases r1
    rw [h2] at k
    rw [hw] at h1
    obtain ⟨_, _, _, ys, _, o, es, ep, h5, h6, _⟩ := td_of I h1
    exact PySem.W.kia_one PySem.W.kitx_dict I.kIn ⟨o, h5, h6.1⟩ (kit_ty k) (fun z => nomatch z) fun tk => ⟨.bl b, H, I.tok tk, rfl, q⟩
  · rw [hc] at ty
    obtain ⟨P, Z, p, hx⟩ := kit_of I r1 ty
    exact PySem.W.kia_one Z I.kIn p (kit_ty k) hx fun tk => ⟨.bl b, H, I.tok tk, rfl, q⟩
def eisi (T : String) (f : M D) : M D := mb f fun d => match isT T d with
  | some b => mr (.bl b)
  | none => mx
theorem se_isi {e : Expr} {T : String} {x : Str} {p p2 pos : Pos} {f : M D} (fx : Fx X g) (ha : Ask T) (hg : Gl X "isinstance") (hm : g.c.mg "isinstance" = none) (hT : PE X (.Name x p2) (tC (.ty T))) (he : SE X g e f)
    (hst : starEach [e, .Name x p2] X.env = (false, eval e X.env) :: starEach [.Name x p2] X.env := by rfl) (hst2 : starEach [.Name x p2] X.env = (false, eval (.Name x p2) X.env) :: starEach [] X.env := by rfl)
    (hpl : (backTo pos (starEach [.Name x p2] X.env)).any (·.1) = false := by rfl) : SE X g (.Call (.Name "isinstance" p) [e, .Name x p2] [] pos) (eisi T f) :=
  PE.imp (pe_callB (cr_isiD (c := g.c) fx.k.symm fx.w.symm ha) hg (by rw [fx.m]; exact hm) PyProof.Rows.boot_isinstance (pa_cons he (pa_cons hT pa_nil hst2) hst) (by decide) (by decide) hst hpl) fun σ H Q q => by
    obtain ⟨os, ρ, t, A, q⟩ := q
    refine ⟨os, ρ, t, A, post_mono (post_bind q) (fun d ρ1 t1 q1 v H1 os1 A1 l1 s1 => ?_) fun _ _ _ _ h => h⟩
    cases e : isT T d with
    | none => simp only [e] at q1; exact q1.elim
    | some b =>
      simp only [e] at q1
      exact ⟨v, d, b, rfl, Ld.same msk_le l1, e, q1 _ H1 os1 A1 (.bl _) s1⟩
/-- isinstance(x, (list, tuple)) -/
def isRow : D → Option Bool
  | .lst _ => some true
  | .tup _ => some true
  | .obj _ _ _ => none
  | _ => some false
def kit2 (n a b : String) : Option Bool := match kitB n a with | some true => some true | some false => (match kitB n b with | some true => some true | some false => some false | none => none) | none => none
theorem kit_2 {K : PySem.W.Frag} {n a b : String} {r : Bool} (h : kit2 n a b = some r) : PySem.W.kitAny K (.type n) [.type a, .type b] = some r := by
  unfold kit2 at h
  cases ha : kitB n a with
  | none => rw [ha] at h; cases h
  | some x =>
    rw [ha] at h
    refine kitAny_cons (kit_ty ha) (fun e => ?_) (fun e => ?_)
    · subst e
      cases hb : kitB n b with
      | none => rw [hb] at h; cases h
      | some y =>
        rw [hb] at h
        refine kitAny_cons (kit_ty hb) (fun e => ?_) (fun e => ?_)
        · subst e
          rw [← Option.some.inj h]
          exact kitAny_nil
        · subst e
          exact (Option.some.inj h).symm
    · subst e
      exact (Option.some.inj h).symm
inductive Ask2 : String → String → Prop
  | lt : Ask2 "list" "tuple" | tl : Ask2 "tuple" "list"
theorem isRow_kit {S T : String} (h : Ask2 S T) {d : D} {b : Bool} (e : isRow d = some b) : kit2 (tyN d) S T = some b := by
  cases h <;> cases d <;> first | (cases e; done) | (injection e with e; subst e; dsimp only [tyN]; decide +kernel)
def rIsiD2 (c : Ct) (S T : String) : List V → Hp → VK → Prop := fun xs H Q => ∃ v tp d b, xs = [v, .ref tp] ∧ H tp = some (.tup [.ty S, .ty T]) ∧ Ld c H v d ∧ isRow d = some b ∧ Q (.bl b) H
theorem cr_isiD2 {c : Ct} {S T : String} (hc : c.K = X.K) (hw : c.w = X.w) (ha : Ask2 S T) : CallR X (.builtin "isinstance") (rIsiD2 c S T) := by
  intro pins s σ H xs us Q I r h
  obtain ⟨v, tp, d, b, rfl, hT, l, e, q⟩ := h
  have k := kit_2 (K := X.K) (isRow_kit ha e)
  rcases l.tyx with ⟨n, x, ns, rfl⟩ | (⟨a, ts, rfl, h1, h2⟩ | ⟨a, ts, rfl, h1, h2⟩) | ty
  · cases e
  · obtain ⟨u1, u2, rfl, r1, r2⟩ := vals2 r
    cases r1
    cases (show u2 = Value.ref tp from r2)
    rw [h2] at k
    obtain ⟨_, _, vs, _, o, es, ep, h5, h6, _⟩ := dk_rd I.hok h1
    obtain ⟨_, its, rv, o2, g1, g2, n, g3⟩ := (show ObjOk X.prog X.w H s.heap tp (.tup [.ty S, .ty T]) from I.hok tp _ hT)
    have e3 := ClsV.all (cs := [.ty S, .ty T]) (us := [.type S, .type T]) (.cons (.ty _) (.cons (.ty _) .nil)) rv
    subst e3
    obtain ⟨oc, od, dt, sl⟩ := o2
    simp only at g2 g3
    subst g2 g3
    exact PySem.W.kia_tup PySem.W.kitx_dict I.kIn ⟨o, h5, h6.1⟩ g1 k (fun z => nomatch z) fun tk => ⟨.bl b, H, I.tok tk, rfl, q⟩
  · obtain ⟨u1, u2, rfl, r1, r2⟩ := vals2 r
    cases r1
    cases (show u2 = Value.ref tp from r2)
    rw [h2] at k
    rw [hw] at h1
    obtain ⟨_, _, _, ys, _, o, es, ep, h5, h6, _⟩ := td_of I h1
    obtain ⟨_, its, rv, o2, g1, g2, n, g3⟩ := (show ObjOk X.prog X.w H s.heap tp (.tup [.ty S, .ty T]) from I.hok tp _ hT)
    have e3 := ClsV.all (cs := [.ty S, .ty T]) (us := [.type S, .type T]) (.cons (.ty _) (.cons (.ty _) .nil)) rv
    subst e3
    obtain ⟨oc, od, dt, sl⟩ := o2
    simp only at g2 g3
    subst g2 g3
    exact PySem.W.kia_tup PySem.W.kitx_dict I.kIn ⟨o, h5, h6.1⟩ g1 k (fun z => nomatch z) fun tk => ⟨.bl b, H, I.tok tk, rfl, q⟩
  · rw [hc] at ty
    exact call_isiT pins s σ H _ us Q I r ⟨v, tp, [.ty S, .ty T], _, [.type S, .type T], b, rfl, hT, .cons (.ty _) (.cons (.ty _) .nil), ty, k, q⟩
def eisr (f : M D) : M D := mb f fun d => match isRow d with
  | some b => mr (.bl b)
  | none => mx
theorem se_isr {e : Expr} {S T : String} {x y : Str} {p p2 p3 p4 pos : Pos} {x1} {f : M D} (fx : Fx X g) (ha : Ask2 S T) (hg : Gl X "isinstance") (hm : g.c.mg "isinstance" = none) (hS : PE X (.Name x p2) (tC (.ty S))) (hT : PE X (.Name y p3) (tC (.ty T))) (he : SE X g e f)
    (hst : starEach [e, .Tuple [.Name x p2, .Name y p3] x1 p4] X.env = (false, eval e X.env) :: starEach [.Tuple [.Name x p2, .Name y p3] x1 p4] X.env := by rfl)
    (hst2 : starEach [.Tuple [.Name x p2, .Name y p3] x1 p4] X.env = (false, eval (.Tuple [.Name x p2, .Name y p3] x1 p4) X.env) :: starEach [] X.env := by rfl)
    (hst3 : starEach [.Name x p2, .Name y p3] X.env = (false, eval (.Name x p2) X.env) :: starEach [.Name y p3] X.env := by rfl) (hst4 : starEach [.Name y p3] X.env = (false, eval (.Name y p3) X.env) :: starEach [] X.env := by rfl)
    (hpl : (backTo pos (starEach [.Tuple [.Name x p2, .Name y p3] x1 p4] X.env)).any (·.1) = false := by rfl) : SE X g (.Call (.Name "isinstance" p) [e, .Tuple [.Name x p2, .Name y p3] x1 p4] [] pos) (eisr f) :=
  PE.imp (pe_callB (cr_isiD2 (c := g.c) fx.k.symm fx.w.symm ha) hg (by rw [fx.m]; exact hm) PyProof.Rows.boot_isinstance (pa_cons he (pa_cons (pe_tup (pa_cons hS (pa_cons hT pa_nil hst4) hst3)) pa_nil hst2) hst) (by decide) (by decide) hst hpl) fun σ H Q q => by
    obtain ⟨os, ρ, t, A, q⟩ := q
    refine ⟨os, ρ, t, A, post_mono (post_bind q) (fun d ρ1 t1 q1 v H1 os1 A1 l1 s1 => ?_) fun _ _ _ _ h => h⟩
    refine ⟨(by show 2 ≤ sizeLine; decide), fun p hp => ?_⟩
    obtain ⟨A4, h4, s4⟩ := lay_new (o := .tup [.ty S, .ty T]) A1 hp
    cases e : isRow d with
    | none => simp only [e] at q1; exact q1.elim
    | some b =>
      simp only [e] at q1
      exact ⟨v, p, d, b, rfl, upd_same, Ld.same msk_le (Ld.same (Go.s s4) l1), e, q1 _ _ os1 A4 (.bl _) (s1.trans s4)⟩
end
end DL

set_option Elab.async false
set_option linter.all false
set_option maxRecDepth 100000
set_option maxHeartbeats 1000000
namespace DL
open PySem PySem.Spec PyProof.Rows L2
/-! ### statements -/
section
variable {g : G} {os : List Addr} {σ : L2.St} {H : Hp} {ρ : List Sl} {t : Pn}
theorem get_set {α : Type} {l : List α} {i j : Nat} {a b : α} (h : (l.set i a)[j]? = some b) : (i = j ∧ i < l.length ∧ b = a) ∨ (i ≠ j ∧ l[j]? = some b) := by
  by_cases e : i = j
  · subst e
    by_cases hl : i < l.length
    · rw [List.getElem?_set_self hl] at h
      exact .inl ⟨rfl, hl, (Option.some.inj h).symm⟩
    · rw [List.getElem?_eq_none (by rw [List.length_set]; omega)] at h; cases h
  · rw [List.getElem?_set_ne e] at h
    exact .inr ⟨e, h⟩
/-- a slot takes a value: sx says of it what is known -/
theorem Amb.put (A : Amb g os σ H ρ t) (i : Nat) (v : V) (sx : Sl) (h : SlOk g os H (some (some v)) sx) (hn : ∀ d, sx = .ow d → ∀ p, v = .ref p → NOw σ ρ p) : Amb g os (σ.set i (some v)) H (ρ.set i sx) t where
  len := by rw [List.length_set, List.length_set]; exact A.len
  sl := fun j s e => by
    rcases get_set e with ⟨rfl, hl, rfl⟩ | ⟨ne, e⟩
    · rw [List.getElem?_set_self (by rw [← A.len]; exact hl)]
      exact h
    · rw [List.getElem?_set_ne ne]
      exact A.sl j s e
  dis := fun j k d e a ne h1 h2 h3 h4 => by
    rcases get_set h1 with ⟨rfl, hl, e1⟩ | ⟨n1, h1⟩ <;> rcases get_set h2 with ⟨rfl, hl2, e2⟩ | ⟨n2, h2⟩
    · exact ne rfl
    · rw [List.getElem?_set_self (by rw [← A.len]; exact hl)] at h3
      rw [List.getElem?_set_ne n2] at h4
      exact hn d e1.symm a (Option.some.inj (Option.some.inj h3)) k e h2 h4
    · rw [List.getElem?_set_self (by rw [← A.len]; exact hl2)] at h4
      rw [List.getElem?_set_ne n1] at h3
      exact hn e e2.symm a (Option.some.inj (Option.some.inj h4)) j d h1 h3
    · rw [List.getElem?_set_ne n1] at h3
      rw [List.getElem?_set_ne n2] at h4
      exact A.dis j k d e a ne h1 h2 h3 h4
  pres := A.pres
  new := A.new
  live := A.live
  slf := A.slf
  o0 := A.o0
  pen := A.pen
theorem Amb.putI (A : Amb g os σ H ρ t) {i : Nat} {v : V} {d : D} (l : Lay g os H v d) : Amb g os (σ.set i (some v)) H (ρ.set i (.im d)) t :=
  A.put i v (.im d) ⟨v, rfl, l⟩ fun _ z => by cases z
theorem Amb.putO {p : Addr} (A : Amb g (p :: os) σ H ρ t) {i : Nat} {d : D} (l : Own g (p :: os) H p d) (n : NOw σ ρ p) : Amb g (p :: os) (σ.set i (some (.ref p))) H (ρ.set i (.ow d)) t :=
  A.put i _ (.ow d) ⟨p, rfl, List.mem_cons_self, l⟩ fun _ _ q z => by
    cases z
    exact n
end
def sq (f k : M Fl) : M Fl := mb f fun fl => match fl with
  | .nx => k
  | .rt d => mr (.rt d)
  | .bk => mr .bk
  | .ct => mr .ct
def sret (f : M D) : M Fl := mb f fun d => mr (.rt d)
def sif (c : M Bool) (f h : M Fl) : M Fl := mb c fun b => if b = true then f else h
def asg (i : Nat) (f : M D) : M Fl := mb f fun d ρ t => .ok .nx (ρ.set i (.im d)) t
def asgO (i : Nat) (f : M D) : M Fl := mb f fun d ρ t => .ok .nx (ρ.set i (.ow d)) t
section
variable {X : Cx} {g : G}
theorem ss_cons {st : Stmt} {rest : List Stmt} {f k : M Fl} (h1 : SS X g st f) (h2 : SSs X g rest k) : SSs X g (st :: rest) (sq f k) :=
  PSs.imp (pss_cons h1 h2) fun Dn σ H q => by
    obtain ⟨os, ρ, t, A, q⟩ := q
    refine ⟨os, ρ, t, A, post_mono (post_bind q) (fun fl ρ1 t1 q1 => ?_) fun _ _ _ _ h => h⟩
    cases fl with
    | nx => exact fun σ' H' os' A' s' => ⟨os', ρ1, t1, A', post_mono q1 (fun _ _ _ h => sQ.base s' h) fun _ _ _ _ h => h⟩
    | rt d => exact q1
    | bk => exact q1
    | ct => exact q1
theorem ss_one {st : Stmt} {f : M Fl} (h1 : SS X g st f) : SSs X g [st] f := pss_one h1
theorem ss_nil : SSs X g [] (mr .nx) := PSs.imp pss_nil fun Dn σ H q => by
  obtain ⟨os, ρ, t, A, q⟩ := q
  exact q σ H os A (Same.refl _)
theorem ss_pass {pos : Pos} : SS X g (.Pass pos) (mr .nx) := PS.imp ps_pass fun Dn σ H q => by
  obtain ⟨os, ρ, t, A, q⟩ := q
  exact q σ H os A (Same.refl _)
theorem ss_break {pos : Pos} : SS X g (.Break pos) (mr .bk) := PS.imp ps_break fun Dn σ H q => by
  obtain ⟨os, ρ, t, A, q⟩ := q
  exact q σ H os A (Same.refl _)
theorem ss_cont {pos : Pos} : SS X g (.Continue pos) (mr .ct) := PS.imp ps_continue fun Dn σ H q => by
  obtain ⟨os, ρ, t, A, q⟩ := q
  exact q σ H os A (Same.refl _)
theorem ss_ret {e : Expr} {pos : Pos} {f : M D} (he : SE X g e f) : SS X g (.Return (some e) pos) (sret f) := PS.imp (ps_ret he) fun Dn σ H q => by
  obtain ⟨os, ρ, t, A, q⟩ := q
  exact ⟨os, ρ, t, A, post_mono (post_bind q) (fun d ρ1 t1 q1 v H1 os1 A1 l1 s1 => q1 v σ H1 os1 A1 l1 s1) fun _ _ _ _ h => h⟩
theorem ss_retN {pos : Pos} : SS X g (.Return none pos) (mr (.rt .non)) := PS.imp ps_retN fun Dn σ H q => by
  obtain ⟨os, ρ, t, A, q⟩ := q
  exact q .non σ H os A .non (Same.refl _)
theorem ss_expr {e : Expr} {pos : Pos} {f : M D} (he : SE X g e f) (hs : swapsWith e none pos.line X.env = pure false := by rfl) : SS X g (.Expr e pos) (mb f fun _ => mr .nx) := PS.imp (ps_expr he hs) fun Dn σ H q => by
  obtain ⟨os, ρ, t, A, q⟩ := q
  exact ⟨os, ρ, t, A, post_mono (post_bind q) (fun d ρ1 t1 q1 v H1 os1 A1 l1 s1 => q1 σ H1 os1 A1 s1) fun _ _ _ _ h => h⟩
theorem ss_if {c : Expr} {a b : List Stmt} {pos : Pos} {k : M Bool} {f h : M Fl} (hc : ST X g c k) (ha : SSs X g a f) (hb : SSs X g b h) : SS X g (.If c a b pos) (sif k f h) :=
  PS.imp (ps_if hc ha hb) fun Dn σ H q => by
    obtain ⟨os, ρ, t, A, q⟩ := q
    refine ⟨os, ρ, t, A, post_mono (post_bind q) (fun b ρ1 t1 q1 H1 os1 A1 s1 => ?_) fun _ _ _ _ h => h⟩
    rcases post_if q1 with ⟨c, q1⟩ | ⟨c, q1⟩
    · rw [if_pos c]; exact ⟨os1, ρ1, t1, A1, post_mono q1 (fun _ _ _ h => sQ.base s1 h) fun _ _ _ _ h => h⟩
    · rw [if_neg c]; exact ⟨os1, ρ1, t1, A1, post_mono q1 (fun _ _ _ h => sQ.base s1 h) fun _ _ _ _ h => h⟩
/-- a statement that these data never come to -/
theorem ss_never {st : Stmt} : SS X g st mx := PS.imp ps_never fun Dn σ H q => by
  obtain ⟨os, ρ, t, A, q⟩ := q
  exact q
theorem ss_set {i : Nat} {x : Str} {e : Expr} {pos pos' : Pos} {f : M D} (fx : Fx X g) (hi : X.N[i]? = some x) (hx : Loc X.env.scope x) (he : SE X g e f) (hs : swapsWith e (some (.Name x pos')) pos.line X.env = pure false := by rfl)
    (hf : X.fn x = true ∨ X.env.scope.names.lookup x = some .local := by first | exact .inl rfl | exact .inr rfl | assumption) : SS X g (.Assign [.Name x pos'] e pos) (asg i f) :=
  PS.imp (ps_set fx.n hi hx he hs hf) fun Dn σ H q => by
    obtain ⟨os, ρ, t, A, q⟩ := q
    exact ⟨os, ρ, t, A, post_mono (post_bind q) (fun d ρ1 t1 q1 v H1 os1 A1 l1 s1 => q1 _ H1 os1 (A1.putI l1) s1) fun _ _ _ _ h => h⟩
theorem ss_setO {i : Nat} {x : Str} {e : Expr} {pos pos' : Pos} {f : M D} (fx : Fx X g) (hi : X.N[i]? = some x) (hx : Loc X.env.scope x) (he : SF X g e f) (hs : swapsWith e (some (.Name x pos')) pos.line X.env = pure false := by rfl)
    (hf : X.fn x = true ∨ X.env.scope.names.lookup x = some .local := by first | exact .inl rfl | exact .inr rfl | assumption) : SS X g (.Assign [.Name x pos'] e pos) (asgO i f) :=
  PS.imp (ps_set fx.n hi hx he hs hf) fun Dn σ H q => by
    obtain ⟨os, ρ, t, A, q⟩ := q
    exact ⟨os, ρ, t, A, post_mono (post_bind q) (fun d ρ1 t1 q1 p H1 os1 A1 o1 n1 w1 s1 => q1 _ H1 (p :: os1) (A1.putO o1 w1) s1) fun _ _ _ _ h => h⟩
/-- the name's container stays as it is from now on -/
def frz (i : Nat) : M Fl := fun ρ t => match ρ[i]? with
  | some (.ow d) => .ok .nx (ρ.set i (.im d)) t
  | _ => .ok .nx ρ t
theorem Amb.freeze' {os : List Addr} {σ : L2.St} {H : Hp} {ρ : List Sl} {t : Pn} (A : Amb g os σ H ρ t) {i : Nat} {d : D} {a : Addr} (e : ρ[i]? = some (.ow d)) (h1 : σ[i]? = some (some (.ref a))) : ∃ os', Amb g os' σ H (ρ.set i (.im d)) t ∧ Same (hd g os H) (hd g os' H) ∧ ∀ b, b ∈ os' ↔ b ∈ os ∧ b ≠ a := by
  obtain ⟨a', h1', h2, h3⟩ := A.sl i _ e
  rw [h1] at h1'
  cases h1'
  have sub : ∀ b ∈ mo g (os.filter (· ≠ a)), b ∈ mo g os := fun b hb => by
    rcases List.mem_append.mp hb with z | z
    · exact List.mem_append_left _ z
    · exact List.mem_append_right _ (List.mem_filter.mp z).1
  have le : Same (hd g os H) (hd g (os.filter (· ≠ a)) H) := msk_sub sub
  have out : a ∉ mo g (os.filter (· ≠ a)) := fun z => by
    rcases List.mem_append.mp z with z | z
    · obtain ⟨o, e0⟩ := A.o0 a z
      rw [A.new a h2] at e0; cases e0
    · have := (List.mem_filter.mp z).2
      simp at this
  have hi : i < ρ.length := (List.getElem?_eq_some_iff.mp e).1
  refine ⟨os.filter (· ≠ a), ⟨by rw [List.length_set]; exact A.len, fun j s es => ?_, fun j k d1 e1 b ne z1 z2 z3 => ?_, A.pres, fun b hb => A.new b (List.mem_filter.mp hb).1, fun b hb => A.live b (sub b hb), A.slf, A.o0, A.pen⟩, le, fun b => by rw [List.mem_filter]; simp⟩
  · rcases get_set es with ⟨rfl, _, rfl⟩ | ⟨nj, es⟩
    · refine ⟨.ref a, h1, ?_⟩
      have at_ : ∀ {o : HO}, H a = some o → hd g (os.filter (· ≠ a)) H a = some o := fun {o} z => by rw [show hd g (os.filter (· ≠ a)) H a = H a from msk_out out]; exact z
      cases d with
      | lst ds => obtain ⟨vs, k1, k2⟩ := h3; exact .lst (at_ k1) (LdA.same le k2)
      | dct kd vd =>
        rcases h3 with ⟨kvs, k1, k2, k3⟩ | ⟨xs, k1, k2, k3, k4, k5, _⟩
        · exact .dct (.inl (at_ k1)) (LdA.same le k2) (LdA.same le k3)
        · exact .dctT (.inl (at_ k1)) (LdA.same le k2) k3 k4 (LdA.same le k5)
      | _ => exact h3.elim
    · have q := A.sl j s es
      cases s with
      | un => trivial
      | im d => obtain ⟨v, h1, h2⟩ := q; exact ⟨v, h1, Ld.same le h2⟩
      | bo d => exact q.elim
      | ow d' =>
        obtain ⟨b, k1, k2, k3⟩ := q
        refine ⟨b, k1, List.mem_filter.mpr ⟨k2, ?_⟩, k3.same le fun _ z => z⟩
        have : b ≠ a := fun z => A.dis i j d d' a nj e es h1 (by rw [k1, z])
        simpa using this
      | pn => exact q
      | sf ns vs => obtain ⟨x, C, dx, fs, h1, h2, h3, h4, h5⟩ := q; exact ⟨x, C, dx, fs, h1, h2, h3, h4, LdA.same le h5⟩
  · rcases get_set z1 with ⟨_, _, w⟩ | ⟨n1, z1⟩
    · cases w
    · rcases get_set z2 with ⟨_, _, w⟩ | ⟨n2, z2⟩
      · cases w
      · exact A.dis j k d1 e1 b ne z1 z2 z3
theorem Amb.freeze {os : List Addr} {σ : L2.St} {H : Hp} {ρ : List Sl} {t : Pn} (A : Amb g os σ H ρ t) {i : Nat} {d : D} (e : ρ[i]? = some (.ow d)) : ∃ os', Amb g os' σ H (ρ.set i (.im d)) t ∧ Same (hd g os H) (hd g os' H) := by
  obtain ⟨a, h1, h2, h3⟩ := A.sl i _ e
  obtain ⟨os', A', le, _⟩ := A.freeze' e h1
  exact ⟨os', A', le⟩
theorem ss_frz (i : Nat) {st : List Stmt} {f : M Fl} (h : SSs X g st f) : SSs X g st (sq (frz i) f) := PSs.imp h fun Dn σ H q => by
  obtain ⟨os, ρ, t, A, q⟩ := q
  unfold sq mb frz at q
  cases e : ρ[i]? with
  | none => simp only [e] at q; exact ⟨os, ρ, t, A, q⟩
  | some s =>
    simp only [e] at q
    cases s with
    | ow d =>
      obtain ⟨os', A', le⟩ := A.freeze e
      exact ⟨os', _, t, A', post_mono q (fun _ _ _ h => sQ.base le h) fun _ _ _ _ h => h⟩
    | _ => exact ⟨os, ρ, t, A, q⟩
end
end DL

set_option Elab.async false
set_option linter.all false
set_option maxRecDepth 100000
set_option maxHeartbeats 1000000
namespace DL
open PySem PySem.Spec PyProof.Rows L2
/-! ### targets -/
/-- what a target does with a datum: only the slots of is change -/
def gD (g : G) (is : List Nat) (f : D → M Unit) : TG := fun v σ H Q => ∃ os ρ t d, Amb g os σ H ρ t ∧ Lay g os H v d ∧
  (f d ρ t).post (fun _ ρ' t' => ∀ σ', Amb g os σ' H ρ' t' → (∀ j, j ∉ is → σ'[j]? = σ[j]?) → σ'.length = σ.length → Q σ' H) noX
def gsD (g : G) (is : List Nat) (f : List D → M Unit) : TGs := fun vs σ H Q => ∃ os ρ t ds, Amb g os σ H ρ t ∧ LayA g os H vs ds ∧
  (f ds ρ t).post (fun _ ρ' t' => ∀ σ', Amb g os σ' H ρ' t' → (∀ j, j ∉ is → σ'[j]? = σ[j]?) → σ'.length = σ.length → Q σ' H) noX
abbrev SG (X : Cx) (g : G) (tg : Expr) (is : List Nat) (f : D → M Unit) : Prop := PG X tg (gD g is f)
abbrev SGs (X : Cx) (g : G) (tgs : List Expr) (is : List Nat) (f : List D → M Unit) : Prop := PGs X tgs (gsD g is f)
def gname (i : Nat) : D → M Unit := fun d ρ t => .ok () (ρ.set i (.im d)) t
def gnil : List D → M Unit := fun ds => match ds with
  | [] => mr ()
  | _ => mx
def gcons (f : D → M Unit) (h : List D → M Unit) : List D → M Unit := fun ds => match ds with
  | d :: r => mb (f d) fun _ => h r
  | [] => mx
def gtup (n : Nat) (f : List D → M Unit) : D → M Unit := fun d => match d with
  | .tup ds => if ds.length = n then f ds else mx
  | .lst ds => if ds.length = n then f ds else mx
  | _ => mx
section
variable {X : Cx} {g : G}
theorem PG.imp {tg : Expr} {t t' : TG} (h : PG X tg t) (w : ∀ v σ H Q, t' v σ H Q → t v σ H Q) : PG X tg t' := ⟨fun pins s σ H v u Q I r q => h.run pins s σ H v u Q I r (w v σ H Q q)⟩
theorem PGs.imp {tg : List Expr} {t t' : TGs} (h : PGs X tg t) (w : ∀ v σ H Q, t' v σ H Q → t v σ H Q) : PGs X tg t' := ⟨fun pins s σ H v u Q I r q => h.run pins s σ H v u Q I r (w v σ H Q q)⟩
theorem PG.or {tg : Expr} {t t' : TG} (h : PG X tg t) (h' : PG X tg t') : PG X tg (fun v σ H Q => t v σ H Q ∨ t' v σ H Q) := ⟨fun pins s σ H v u Q I r q => q.elim (h.run pins s σ H v u Q I r) (h'.run pins s σ H v u Q I r)⟩
theorem sg_name {i : Nat} {x : Str} {pos : Pos} (fx : Fx X g) (hi : X.N[i]? = some x) (hx : Loc X.env.scope x) (hf : X.fn x = true ∨ X.env.scope.names.lookup x = some .local := by first | exact .inl rfl | exact .inr rfl | assumption) : SG X g (.Name x pos) [i] (gname i) :=
  PG.imp (pg_name fx.n hi hx hf) fun v σ H Q q => by
    obtain ⟨os, ρ, t, d, A, l, q⟩ := q
    exact q _ (A.putI l) (fun j hj => List.getElem?_set_ne (fun e => hj (by rw [e]; exact List.mem_singleton.mpr rfl))) (List.length_set ..)
theorem sg_nil : SGs X g [] [] gnil := PGs.imp pgs_nil fun v σ H Q q => by
  obtain ⟨os, ρ, t, ds, A, l, q⟩ := q
  cases l with
  | nil => exact ⟨rfl, q σ A (fun _ _ => rfl) rfl⟩
  | cons _ _ => exact q.elim
theorem sg_cons {e : Expr} {es : List Expr} {is js : List Nat} {f : D → M Unit} {h : List D → M Unit} (h1 : SG X g e is f) (h2 : SGs X g es js h) (hs : (assignEach (e :: es) X.env).map (·.2) = assign e X.env :: (assignEach es X.env).map (·.2) := by rfl) : SGs X g (e :: es) (is ++ js) (gcons f h) :=
  PGs.imp (pgs_cons h1 h2 hs) fun v σ H Q q => by
    obtain ⟨os, ρ, t, ds, A, l, q⟩ := q
    cases l with
    | nil => exact q.elim
    | @cons v vs d ds l a =>
      refine ⟨v, vs, rfl, os, ρ, t, d, A, l, post_mono (post_bind q) (fun _ ρ1 t1 q1 σ1 A1 k1 n1 => ?_) fun _ _ _ _ h => h⟩
      exact ⟨os, ρ1, t1, ds, A1, a, post_mono q1 (fun _ ρ2 t2 q2 σ2 A2 k2 n2 => q2 σ2 A2 (fun j hj => (k2 j fun z => hj (List.mem_append_right _ z)).trans (k1 j fun z => hj (List.mem_append_left _ z))) (n2.trans n1)) fun _ _ _ _ h => h⟩
theorem sg_tup {es : List Expr} {k : Nat} {pos : Pos} {is : List Nat} {n : Nat} {f : List D → M Unit} (fx : Fx X g) (h : SGs X g es is f) (hn : (assignEach es X.env).length = n := by rfl) (hst : (assignEach es X.env).findIdx? (·.1) = none := by rfl) : SG X g (.Tuple es k pos) is (gtup n f) :=
  PG.imp (PG.or (pg_tup fx.c h hn hst) (pg_lst fx.c h hn hst)) fun v σ H Q q => by
    obtain ⟨os, ρ, t, d, A, l, q⟩ := q
    cases l with
    | @tup a xs ds hx ax =>
      simp only [gtup] at q
      rcases post_if q with ⟨c, q⟩ | ⟨_, q⟩
      · exact .inl ⟨a, xs, rfl, by rw [fx.k]; exact Lay.seqT hx, by rw [ax.len]; exact c, os, ρ, t, ds, A, ax, q⟩
      · exact q.elim
    | @lst a xs ds hx ax =>
      simp only [gtup] at q
      rcases post_if q with ⟨c, q⟩ | ⟨_, q⟩
      · exact .inr ⟨a, xs, rfl, SqL.of (msk_le _ _ hx), by rw [ax.len]; exact c, os, ρ, t, ds, A, ax, q⟩
      · exact q.elim
    | _ => exact q.elim
def sasg (f : M D) (h : D → M Unit) : M Fl := mb f fun d => mb (h d) fun _ => mr .nx
theorem ss_asg {tg e : Expr} {pos : Pos} {is : List Nat} {f : M D} {h : D → M Unit} (he : SE X g e f) (hg : SG X g tg is h) (hs : swapsWithSole [tg] e pos.line X.env = pure false := by rfl) (hw : swappedStores [tg] e X.env = pure none := by rfl)
    (h1 : (assignEach [tg] X.env).map (·.2) = [assign tg X.env] := by rfl) : SS X g (.Assign [tg] e pos) (sasg f h) :=
  PS.imp (ps_asg he hg hs hw h1) fun Dn σ H q => by
    obtain ⟨os, ρ, t, A, q⟩ := q
    refine ⟨os, ρ, t, A, post_mono (post_bind q) (fun d ρ1 t1 q1 v H1 os1 A1 l1 s1 => ?_) fun _ _ _ _ h => h⟩
    exact ⟨os1, ρ1, t1, d, A1, l1, post_mono (post_bind q1) (fun _ ρ2 t2 q2 σ2 A2 k2 n2 => q2 σ2 H1 os1 A2 s1) fun _ _ _ _ h => h⟩
/-! x, y = a, b -/
def spar (i j : Nat) (h : M (List D)) : M Fl := mb h fun ds => match ds with
  | [a, b] => fun ρ t => .ok .nx ((ρ.set i (.im a)).set j (.im b)) t
  | _ => mx
theorem ss_par {i j : Nat} {x y : Str} {a b : Expr} {px py pt pos : Pos} {kt k2 pt2} {h : M (List D)} (fx : Fx X g) (hi : X.N[i]? = some x) (hj : X.N[j]? = some y) (hij : i ≠ j) (hx : X.env.scope.names.lookup x = some .local) (hy : X.env.scope.names.lookup y = some .local) (ha : SA X g [a, b] h)
    (hw : swappedStores [.Tuple [.Name x px, .Name y py] kt pt] (.Tuple [a, b] k2 pt2) X.env = pure (some [x, y])) (hs : swapsWithSole [.Tuple [.Name x px, .Name y py] kt pt] (.Tuple [a, b] k2 pt2) pos.line X.env = pure false := by rfl) :
    SS X g (.Assign [.Tuple [.Name x px, .Name y py] kt pt] (.Tuple [a, b] k2 pt2) pos) (spar i j h) :=
  PS.imp (ps_par fx.c fx.n hi hj hij hx hy ha hw hs) fun Dn σ H q => by
    obtain ⟨os, ρ, t, A, q⟩ := q
    refine ⟨os, ρ, t, A, post_mono (post_bind q) (fun ds ρ1 t1 q1 vs H1 os1 A1 l1 s1 => ?_) fun _ _ _ _ h => h⟩
    match ds, l1, q1 with
    | [d, e], .cons l (.cons l2 .nil), q1 => exact ⟨_, _, rfl, q1 _ H1 os1 ((A1.putI l).putI l2) s1⟩
    | [], _, q1 => exact q1.elim
    | [_], _, q1 => exact q1.elim
    | _ :: _ :: _ :: _, _, q1 => exact q1.elim
/-- the second a container of its own -/
def sparO (i j : Nat) (f h : M D) : M Fl := mb f fun a => mb h fun b => fun ρ t => .ok .nx ((ρ.set i (.im a)).set j (.ow b)) t
theorem ss_parO {i j : Nat} {x y : Str} {a b : Expr} {px py pt pos : Pos} {kt k2 pt2} {f h : M D} (fx : Fx X g) (hi : X.N[i]? = some x) (hj : X.N[j]? = some y) (hij : i ≠ j) (hx : X.env.scope.names.lookup x = some .local) (hy : X.env.scope.names.lookup y = some .local) (ha : SE X g a f) (hb : SF X g b h)
    (hw : swappedStores [.Tuple [.Name x px, .Name y py] kt pt] (.Tuple [a, b] k2 pt2) X.env = pure (some [x, y])) (hs : swapsWithSole [.Tuple [.Name x px, .Name y py] kt pt] (.Tuple [a, b] k2 pt2) pos.line X.env = pure false := by rfl)
    (hst : starEach [a, b] X.env = (false, eval a X.env) :: starEach [b] X.env := by rfl) (hst2 : starEach [b] X.env = (false, eval b X.env) :: starEach [] X.env := by rfl) :
    SS X g (.Assign [.Tuple [.Name x px, .Name y py] kt pt] (.Tuple [a, b] k2 pt2) pos) (sparO i j f h) :=
  PS.imp (ps_par fx.c fx.n hi hj hij hx hy (pa_cons ha (pa_cons hb pa_nil hst2) hst) hw hs) fun Dn σ H q => by
    obtain ⟨os, ρ, t, A, q⟩ := q
    refine ⟨os, ρ, t, A, post_mono (post_bind q) (fun d ρ1 t1 q1 v H1 os1 A1 l1 s1 => ?_) fun _ _ _ _ h => h⟩
    refine ⟨os1, ρ1, t1, A1, post_mono (post_bind q1) (fun e ρ2 t2 q2 p H2 os2 A2 o2 n2 w2 s2 => ?_) fun _ _ _ _ h => h⟩
    have A3 := A2.putI (i := i) (Ld.same (Go.s s2) l1)
    refine ⟨v, .ref p, rfl, q2 _ H2 (p :: os2) (A3.putO o2 fun k z e1 e2 => ?_) (s1.trans s2)⟩
    rcases get_set e1 with ⟨_, _, w⟩ | ⟨nk, e1⟩
    · cases w
    · rw [List.getElem?_set_ne nk] at e2
      exact w2 k z e1 e2
end
/-! ### what is walked -/
/-- J gives the data ds, whatever is done to what is hidden -/
def Wk (g : G) (os0 : List Addr) (H0 : Hp) (J : It) (ds : List D) : Prop := ∀ (i : Nat) (os : List Addr) (H : Hp), Same (hd g os0 H0) (hd g os H) → (∀ a ∈ mo g os, ∃ o, H a = some o) →
  (i = ds.length → J.stop i H) ∧ ∀ d, ds[i]? = some d → J.go i H ∧ ∀ x H', J.yld i H x H' → Same H H' ∧ Lay g os H' x d
def iD (g : G) (it : M (List D)) : TI := fun σ H R => ∃ os ρ t, Amb g os σ H ρ t ∧
  (it ρ t).post (fun ds ρ' t' => ∀ J H' os', Amb g os' σ H' ρ' t' → Go g os H os' H' → Wk g os' H' J ds → R J H') noX
abbrev SI (X : Cx) (g : G) (tg e : Expr) (it : M (List D)) : Prop := PI X tg e (iD g it)
section
variable {X : Cx} {g : G}
theorem PI.imp {tg e : Expr} {t t' : TI} (h : PI X tg e t) (w : ∀ σ H R, t' σ H R → t σ H R) : PI X tg e t' := ⟨fun pins s σ H R I q => h.run pins s σ H R I (w σ H R q)⟩
theorem PI.or {tg e : Expr} {t t' : TI} (h : PI X tg e t) (h' : PI X tg e t') : PI X tg e (fun σ H R => t σ H R ∨ t' σ H R) := ⟨fun pins s σ H R I q => q.elim (h.run pins s σ H R I) (h'.run pins s σ H R I)⟩
theorem wk_list {os : List Addr} {H : Hp} {a : Addr} {xs : List V} {ds : List D} (h : hd g os H a = some (.lst xs)) (ax : LayA g os H xs ds) : Wk g os H (Itl g.c.K a) ds := fun i os' H' s lv => by
  have h' := msk_le _ _ (s _ _ h)
  refine ⟨fun e => ⟨xs, SqL.of h', by rw [ax.len]; omega⟩, fun d e => ?_⟩
  obtain ⟨v, e1, e2⟩ := ax.get' e
  exact ⟨⟨xs, v, SqL.of h', e1⟩, fun x H2 y => by
    obtain ⟨rfl, y⟩ := y
    have := y xs (SqL.of h')
    rw [e1] at this
    cases this
    exact ⟨Same.refl _, Ld.same s e2⟩⟩
theorem wk_tup {os : List Addr} {H : Hp} {a : Addr} {xs : List V} {ds : List D} (h : SqT g.c.K (hd g os H) a xs) (ax : LayA g os H xs ds) : Wk g os H (Itt g.c.K a) ds := fun i os' H' s lv => by
  have h' := Lay.seqT (seqT_same s h)
  refine ⟨fun e => ⟨xs, h', by rw [ax.len]; omega⟩, fun d e => ?_⟩
  obtain ⟨v, e1, e2⟩ := ax.get' e
  exact ⟨⟨xs, v, h', e1⟩, fun x H2 y => by
    obtain ⟨rfl, y⟩ := y
    have := y xs h'
    rw [e1] at this
    cases this
    exact ⟨Same.refl _, Ld.same s e2⟩⟩
def chars (s : Str) : List D := s.cps.toList.map fun c => .str ⟨#[c]⟩
/-- the items of a list, a tuple, a text -/
def items : D → M (List D)
  | .lst ds => mr ds
  | .tup ds => mr ds
  | .str s => mr (chars s)
  | _ => mx
theorem wk_str {os : List Addr} {H : Hp} {z : Str} : Wk g os H (Its z) (chars z) := fun i os' H' s lv => by
  have hl : (chars z).length = z.cps.size := by simp [chars]
  refine ⟨fun e => (walk_str (z := z)).stops H' trivial |> fun q => by rw [e, hl]; exact q, fun d e => ?_⟩
  have hi : i < z.cps.size := by rw [← hl]; exact (List.getElem?_eq_some_iff.mp e).1
  refine ⟨walk_str.goes i H' hi trivial, fun x H2 y => ?_⟩
  obtain ⟨rfl, c, e1, rfl⟩ := walk_str.yields i H' x H2 hi trivial y
  refine ⟨Same.refl _, ?_⟩
  have : (chars z)[i]? = some (.str ⟨#[c]⟩) := by
    unfold chars
    rw [List.getElem?_map, Array.getElem?_toList, e1]; rfl
  rw [this] at e
  cases e
  exact .str _
theorem si_seq {tg e : Expr} {f : M D} (fx : Fx X g) (he : SE X g e f) : SI X g tg e (mb f items) :=
  PI.imp (PI.or (pi_list he) (PI.or (pi_tup he) (pi_str he))) fun σ H R q => by
    rw [fx.k]
    obtain ⟨os, ρ, t, A, q⟩ := q
    have q := post_bind q
    cases ef : f ρ t with
    | ok d ρ1 t1 =>
      rw [ef] at q
      have q : (items d ρ1 t1).post _ _ := q
      have mk : ∀ {Q : VK}, (∀ v H1 os1, Amb g os1 σ H1 ρ1 t1 → Lay g os1 H1 v d → Go g os H os1 H1 → Q v H1) → tD g f σ H Q := fun {Q} h => ⟨os, ρ, t, A, by rw [ef]; exact h⟩
      cases d with
      | lst ds => exact .inl (mk fun v H1 os1 A1 l1 s1 => by
          cases l1 with
          | @lst a xs _ hx ax => exact ⟨a, rfl, ⟨xs, SqL.of (msk_le _ _ hx)⟩, q _ H1 os1 A1 s1 (wk_list hx ax)⟩)
      | tup ds => exact .inr (.inl (mk fun v H1 os1 A1 l1 s1 => by
          cases l1 with
          | @tup a xs _ hx ax => exact ⟨a, rfl, ⟨xs, Lay.seqT hx⟩, q _ H1 os1 A1 s1 (wk_tup hx ax)⟩))
      | str z => exact .inr (.inr (mk fun v H1 os1 A1 l1 s1 => by
          cases l1
          exact ⟨z, rfl, q _ H1 os1 A1 s1 wk_str⟩))
      | _ => exact q.elim
    | ex c ns vs t' => rw [ef] at q; exact q.elim
    | bad => rw [ef] at q; exact q.elim
def rng (lo : Int) (n : Nat) : List D := (List.range n).map fun (i : Nat) => .int (lo + i)
theorem wk_rng {os : List Addr} {H : Hp} {lo : Int} {n : Nat} : Wk g os H (Itr lo n) (rng lo n) := fun i os' H' s lv => by
  have hl : (rng lo n).length = n := by simp [rng]
  refine ⟨fun e => by rw [e, hl]; exact Nat.le_refl _, fun d e => ?_⟩
  have hi : i < n := by rw [← hl]; exact (List.getElem?_eq_some_iff.mp e).1
  refine ⟨hi, fun x H2 y => ?_⟩
  obtain ⟨rfl, rfl⟩ := y
  have : (rng lo n)[i]? = some (.int (lo + i)) := by
    unfold rng
    rw [List.getElem?_map, List.getElem?_range hi]; rfl
  rw [this] at e
  cases e
  exact ⟨Same.refl _, .int _⟩
def drng1 : List D → M (List D)
  | [.int j] => if -(2 ^ 62) ≤ j ∧ j < 2 ^ 62 then mr (rng 0 j.toNat) else mx
  | _ => mx
def drng2 : List D → M (List D)
  | [.int i, .int j] => if -(2 ^ 62) ≤ i ∧ i < 2 ^ 62 ∧ -(2 ^ 62) ≤ j ∧ j < 2 ^ 62 then mr (rng i (j - i).toNat) else mx
  | _ => mx
theorem si_range1 {tg a : Expr} {p pos : Pos} {f : M (List D)} (fx : Fx X g) (hg : Gl X "range") (hm : g.c.mg "range" = none) (ha : SA X g [a] f) (hs : starEach [a] X.env = [(false, eval a X.env)] := by rfl) : SI X g tg (.Call (.Name "range" p) [a] [] pos) (mb f drng1) :=
  PI.imp (pi_range1 hg (by rw [fx.m]; exact hm) ha hs) fun σ H R q => by
    obtain ⟨os, ρ, t, A, q⟩ := q
    refine ⟨os, ρ, t, A, post_mono (post_bind q) (fun ds ρ1 t1 q1 vs H1 os1 A1 l1 s1 => ?_) fun _ _ _ _ h => h⟩
    cases l1 with
    | nil => exact q1.elim
    | cons l a => cases a with
      | cons _ _ => cases l <;> exact q1.elim
      | nil => cases l with
        | int j =>
          simp only [drng1] at q1
          rcases post_if q1 with ⟨c, q1⟩ | ⟨_, q1⟩
          · exact ⟨j, rfl, c.1, c.2, q1 _ H1 os1 A1 s1 wk_rng⟩
          · exact q1.elim
        | _ => exact q1.elim
/-! ### for -/
def forD (tgt : D → M Unit) (body : M Fl) : List D → M Fl
  | [] => mr .nx
  | d :: ds => mb (tgt d) fun _ => mb body fun fl => match fl with
    | .nx => forD tgt body ds
    | .ct => forD tgt body ds
    | .bk => mr .nx
    | .rt r => mr (.rt r)
def sfor (it : M (List D)) (tgt : D → M Unit) (body : M Fl) : M Fl := mb it (forD tgt body)
theorem ss_for {tg iter : Expr} {body : List Stmt} {pos : Pos} {it : M (List D)} {is : List Nat} {tgt : D → M Unit} {f : M Fl} (fx : Fx X g) (hi : SI X g tg iter it) (hg : SG X g tg is tgt) (hb : SSs X g body f) (hs : ∀ x, foldedSetIterable iter X.env x = pure x := by intro _; rfl) :
    SS X g (.For tg iter body [] pos) (sfor it tgt f) :=
  PS.imp (ps_for fx.p fx.c hi hg hb hs) fun Dn σ H q => by
    obtain ⟨os, ρ, t, A, q⟩ := q
    refine ⟨os, ρ, t, A, post_mono (post_bind q) (fun ds ρ1 t1 q1 J H1 os1 A1 s1 wk => ?_) fun _ _ _ _ h => h⟩
    refine ⟨fun i m σ' H' => m = ds.length - i ∧ i ≤ ds.length ∧ ∃ os' ρ' t', Amb g os' σ' H' ρ' t' ∧ Same (hd g os1 H1) (hd g os' H') ∧ (forD tgt f (ds.drop i) ρ' t').post (sQ g Dn (hd g os' H')) noX, ⟨ds.length, by simp, Nat.zero_le _, os1, ρ1, t1, A1, Same.refl _, by rw [List.drop_zero]; exact post_mono q1 (fun _ _ _ h => sQ.base s1 h) fun _ _ _ _ h => h⟩, ?_⟩
    rintro i m σ2 H2 ⟨rfl, hi, os2, ρ2, t2, A2, s2, q2⟩
    obtain ⟨w1, w2⟩ := wk i os2 H2 s2 A2.live
    by_cases hlt : i < ds.length
    · obtain ⟨go, yl⟩ := w2 ds[i] (List.getElem?_eq_getElem hlt)
      rw [List.drop_eq_getElem_cons hlt] at q2
      refine .inr ⟨go, fun σ' H' => ∃ os' ρ' t', Amb g os' σ' H' ρ' t' ∧ Same (hd g os1 H1) (hd g os' H') ∧ (forD tgt f (ds.drop (i + 1)) ρ' t').post (sQ g Dn (hd g os' H')) noX, fun σ' H' ⟨os', ρ', t', a, b, c⟩ => ⟨ds.length - (i + 1), by omega, rfl, hlt, os', ρ', t', a, b, c⟩, fun x H3 y => ?_⟩
      obtain ⟨s3, l3⟩ := yl x H3 y
      refine ⟨os2, ρ2, t2, ds[i], A2.same s3, l3, post_mono (post_bind q2) (fun _ ρ4 t4 q4 σ4 A4 k4 n4 => ?_) fun _ _ _ _ h => h⟩
      have s5 := s2.trans (hd_same (g := g) (os := os2) s3)
      have st : ∀ σ' H' os' ρ' t', Amb g os' σ' H' ρ' t' → Same (hd g os2 H3) (hd g os' H') → (forD tgt f (ds.drop (i + 1)) ρ' t').post (sQ g Dn (hd g os2 H2)) noX →
          ∃ os' ρ' t', Amb g os' σ' H' ρ' t' ∧ Same (hd g os1 H1) (hd g os' H') ∧ (forD tgt f (ds.drop (i + 1)) ρ' t').post (sQ g Dn (hd g os' H')) noX := fun σ' H' os' ρ' t' a b c =>
        ⟨os', ρ', t', a, s5.trans b, post_mono c (fun _ _ _ h => sQ.base ((hd_same (g := g) (os := os2) s3).trans b) h) fun _ _ _ _ h => h⟩
      refine ⟨os2, ρ4, t4, A4, post_mono (post_bind q4) (fun fl ρ5 t5 q5 => ?_) fun _ _ _ _ h => h⟩
      cases fl with
      | nx => exact fun σ' H' os' A' s' => st σ' H' os' ρ5 t5 A' s' q5
      | ct => exact fun σ' H' os' A' s' => st σ' H' os' ρ5 t5 A' s' q5
      | bk => exact fun σ' H' os' A' s' => q5 σ' H' os' A' ((hd_same (g := g) (os := os2) s3).trans s')
      | rt d => exact fun v σ' H' os' A' l' s' => q5 v σ' H' os' A' l' ((hd_same (g := g) (os := os2) s3).trans s')
    · have e : i = ds.length := by omega
      subst e
      rw [List.drop_length] at q2
      exact .inl ⟨w1 rfl, q2 σ2 H2 os2 A2 (Same.refl _)⟩
end
end DL

set_option Elab.async false
set_option linter.all false
set_option maxRecDepth 100000
set_option maxHeartbeats 1000000
namespace DL
open PySem PySem.Spec PyProof.Rows L2
/-! ### the state behind an expression: the slots as they were -/
section
variable {g : G} {os os' : List Addr} {σ σ' : L2.St} {H H' : Hp} {ρ ρ' : List Sl} {t t' : Pn}
theorem Go.sub (s : Go g os H os' H') : ∀ b ∈ mo g os, b ∈ mo g os' := fun b h => by
  rcases List.mem_append.mp h with z | z
  · exact List.mem_append_left _ z
  · exact List.mem_append_right _ (s.k b z).1
theorem Go.base (s : Go g os H os' H') : Go g os H os H' :=
  ⟨s.s.trans (msk_sub s.sub), fun b h => ⟨h, (s.k b h).2⟩, s.x⟩
theorem Go.back (s : Go g os H os' H') : Same (hd g os' H') (hd g os H') := msk_sub s.sub
theorem Amb.go (A : Amb g os σ H ρ t) (s : Go g os H os' H') (A' : Amb g os' σ' H' ρ' t') : Amb g os σ H' ρ t' :=
  A.step s.base.s (fun a h o e => (s.k a h).2 o e) (fun b o e ho => by
    by_cases h : b ∈ mo g os
    · rcases List.mem_append.mp h with z | z
      · obtain ⟨o0, e0⟩ := A.o0 b z
        have := A.pres b o0 e0 ho
        rw [e] at this
        cases this
        exact A'.pres b o e0 ho
      · exact (s.k b z).2 o e
    · exact msk_le _ _ (s.s b o (by rw [show hd g os H b = H b from msk_out h]; exact e))) (fun a h => A'.live a (List.mem_append_left _ h)) s.x A'.pen
/-- an owned object that no name owns takes another form -/
theorem Amb.write (A : Amb g os σ H ρ t) {a : Addr} {o : HO} (ha : a ∈ os) (n : NOw σ ρ a) : Amb g os σ (upd H a o) ρ t := by
  have hm : a ∈ mo g os := List.mem_append_right _ ha
  have out : ∀ b, H b = none → False ∨ b ≠ a := fun b h => .inr fun z => by
    obtain ⟨o, e⟩ := A.live a hm
    rw [← z, h] at e; cases e
  have nO : ∀ b ∈ g.O, b ≠ a := fun b h z => by
    obtain ⟨o, e⟩ := A.o0 b h
    rw [z, A.new a ha] at e; cases e
  have s : Same (hd g os H) (hd g os (upd H a o)) := by rw [show hd g os (upd H a o) = hd g os H from msk_upd hm]; exact Same.refl _
  refine ⟨A.len, fun i sx e => ?_, A.dis, fun b o' e ho => ?_, A.new, fun b hb => ?_, A.slf, A.o0, fun p l n e => ?_⟩
  · have q := A.sl i sx e
    cases sx with
    | un => trivial
    | im d => obtain ⟨v, h1, h2⟩ := q; exact ⟨v, h1, Ld.same s h2⟩
    | bo d => exact q.elim
    | ow d =>
      obtain ⟨b, h1, h2, h3⟩ := q
      exact ⟨b, h1, h2, h3.same s fun o' z => by rw [upd_ne fun w => n i d e (by rw [h1, w])]; exact z⟩
    | pn => exact q
    | sf ns vs => obtain ⟨x, C, dx, fs, h1, h2, h3, h4, h5⟩ := q; exact ⟨x, C, dx, fs, h1, h2, by rw [upd_ne (nO _ (A.slf _ _ _ h1))]; exact h3, h4, LdA.same s h5⟩
  · have := A.pres b o' e ho
    rw [upd_ne fun w => by rw [w, A.new a ha] at e; cases e]
    exact this
  · by_cases z : b = a
    · exact ⟨o, by rw [z]; exact upd_same⟩
    · obtain ⟨o', e⟩ := A.live b hb
      exact ⟨o', by rw [upd_ne z]; exact e⟩
  · obtain ⟨q, h1, h2⟩ := A.pen p l n e
    exact ⟨⟨by rw [upd_ne (nO _ h1)]; exact q.d, by rw [upd_ne fun w => by obtain ⟨o, e⟩ := h2.2; rw [w, A.new a ha] at e; cases e]; exact q.l, q.k0, q.z0, q.len⟩, h1, h2⟩
/-- names of no account -/
def unS (ρ : List Sl) : List Nat → List Sl
  | [] => ρ
  | v :: vs => (unS ρ vs).set v .un
theorem Amb.wipe (A : Amb g os σ H ρ t) : ∀ vs : List Nat, Amb g os (wipe σ vs) H (unS ρ vs) t
  | [] => A
  | v :: vs => by
    have B := A.wipe vs
    refine ⟨by rw [wipe.eq_2, unS, List.length_set, List.length_set]; exact B.len, fun i sx e => ?_, fun i j d e a ne h1 h2 h3 h4 => ?_, B.pres, B.new, B.live, B.slf, B.o0, B.pen⟩
    · rcases get_set e with ⟨rfl, _, rfl⟩ | ⟨n, e⟩
      · trivial
      · rw [wipe.eq_2, List.getElem?_set_ne n]
        exact B.sl i sx e
    · rw [wipe.eq_2] at h3 h4
      rcases get_set h1 with ⟨_, _, w⟩ | ⟨n1, h1⟩
      · cases w
      · rcases get_set h2 with ⟨_, _, w⟩ | ⟨n2, h2⟩
        · cases w
        · rw [List.getElem?_set_ne n1] at h3
          rw [List.getElem?_set_ne n2] at h4
          exact B.dis i j d e a ne h1 h2 h3 h4
theorem wipe_len : ∀ (vs : List Nat), (L2.wipe σ vs).length = σ.length
  | [] => rfl
  | v :: vs => by rw [wipe.eq_2, List.length_set]; exact wipe_len vs
theorem wipe_get : ∀ (vs : List Nat) (j : Nat), (L2.wipe σ vs)[j]? = if j ∈ vs then (if j < σ.length then some none else none) else σ[j]?
  | [], j => by rw [wipe.eq_1]; simp
  | v :: vs, j => by
    rw [wipe.eq_2]
    by_cases e : v = j
    · subst e
      rw [List.getElem?_set_self', if_pos List.mem_cons_self]
      by_cases hl : v < σ.length
      · rw [List.getElem?_eq_getElem (by rw [wipe_len]; exact hl), if_pos hl]; rfl
      · rw [List.getElem?_eq_none (by rw [wipe_len]; omega), if_neg hl]; rfl
    · rw [List.getElem?_set_ne e, wipe_get vs j]
      by_cases h : j ∈ vs
      · rw [if_pos h, if_pos (List.mem_cons_of_mem _ h)]
      · rw [if_neg h, if_neg (fun z => by rcases List.mem_cons.mp z with z | z; exact e z.symm; exact h z)]
theorem wipe_eq {σ2 : L2.St} {vs is : List Nat} (hs : ∀ j ∈ is, j ∈ vs) (hl : σ2.length = (L2.wipe σ vs).length) (h : ∀ j, j ∉ is → σ2[j]? = (L2.wipe σ vs)[j]?) : L2.wipe σ2 vs = L2.wipe σ vs := by
  rw [wipe_len] at hl
  apply List.ext_getElem?
  intro j
  rw [wipe_get, wipe_get, hl]
  by_cases e : j ∈ vs
  · rw [if_pos e, if_pos e]
  · rw [if_neg e, if_neg e, h j fun z => e (hs j z), wipe_get, if_neg e]
end
/-! ### tests of a comprehension -/
section
variable {X : Cx} {g : G}
theorem PTs.imp {es : List Expr} {t t' : TT} (h : PTs X es t) (w : ∀ σ H Q, t' σ H Q → t σ H Q) : PTs X es t' := ⟨fun pins s σ H Q I q => h.run pins s σ H Q I (w σ H Q q)⟩
end
/-! ### list comprehensions -/
def lcGo (tgt : D → M Unit) (tst : M Bool) (el : M D) (vs : List Nat) (ρ : List Sl) : List D → List D → Pn → Ou (List D)
  | [], acc, t => .ok acc ρ t
  | d :: ds, acc, t => ((tgt d) (unS ρ vs) t).bind fun _ ρ1 t1 => (tst ρ1 t1).bind fun b ρ2 t2 =>
    if b = true then (el ρ2 t2).bind fun y _ t3 => if acc.length < lim then lcGo tgt tst el vs ρ ds (acc ++ [y]) t3 else .bad
    else lcGo tgt tst el vs ρ ds acc t2
def lcD (it : M (List D)) (tgt : D → M Unit) (tst : M Bool) (el : M D) (vs : List Nat) : M D := mb it fun ds ρ t => (lcGo tgt tst el vs ρ ds [] t).bind fun acc ρ' t' => .ok (.lst acc) ρ' t'
section
variable {X : Cx} {g : G}
theorem sf_lc {elt tg iter : Expr} {ifs : List Expr} {scope : Scope} {own : List (Str × Nat)} {pos : Pos} {it : M (List D)} {is : List Nat} {tgt : D → M Unit} {tst : M Bool} {el : M D} (fx : Fx X g) (hi : SI X g tg iter it) (ok : BlkOk X.N X.env.scope scope own)
    (hg : ∀ (s : Shared) (H : Hp) (C : Addr) (cl : List (Str × Addr)) (fp : List Addr), SG (X.blk s H scope (compEnvC scope cl C X.env) fp) g tg is tgt)
    (ht : ∀ (s : Shared) (H : Hp) (C : Addr) (cl : List (Str × Addr)) (fp : List Addr), PTs (X.blk s H scope (compEnvC scope cl C X.env) fp) ifs (bD g tst))
    (he : ∀ (s : Shared) (H : Hp) (C : Addr) (cl : List (Str × Addr)) (fp : List Addr), SE (X.blk s H scope (compEnvC scope cl C X.env) fp) g elt el)
    (hv : ∀ j ∈ is, j ∈ own.map (·.2) := by decide) (hs : ∀ (x : Value), foldedSetIterable iter X.env x = pure x := by intro _; rfl) :
    SF X g (.ListComp elt [⟨tg, iter, ifs, 0⟩] scope pos) (lcD it tgt tst el (own.map (·.2))) :=
  PE.imp (pe_lc fx.c fx.n hi ok hg ht he hs) fun σ H Q q => by
    obtain ⟨os, ρ, t, A, q⟩ := q
    refine ⟨os, ρ, t, A, post_mono (post_bind q) (fun ds ρ1 t1 q1 J H1 os1 A1 s1 wk => ?_) fun _ _ _ _ h => h⟩
    intro Da hD
    obtain ⟨A2, n2, w2, s2⟩ := own_new (o := HO.lst []) A1 hD
    have ff : ∀ b ∈ os1, b ≠ Da := fun b hb z => by
      obtain ⟨o, e⟩ := A1.live b (List.mem_append_right _ hb)
      rw [z, hD] at e; cases e
    generalize hvs : own.map (·.2) = vs at *
    refine ⟨fun i m H' => m = ds.length - i ∧ i ≤ ds.length ∧ ∃ t' acc accv, Amb g (Da :: os1) σ H' ρ1 t' ∧ H' Da = some (.lst accv) ∧ LayA g (Da :: os1) H' accv acc ∧ Go g os1 H1 (Da :: os1) H' ∧
      (lcGo tgt tst el vs ρ1 (ds.drop i) acc t').post (fun acc ρ' t' => ∀ p H' os', Amb g (p :: os') σ H' ρ' t' → Own g (p :: os') H' p (.lst acc) → (p ∉ mo g os' ∧ H p = none) → NOw σ ρ' p → Go g os H (p :: os') H' → Q (.ref p) H') noX,
      ⟨ds.length, by simp, Nat.zero_le _, t1, [], [], A2, upd_same, .nil, s2, by rw [List.drop_zero]; exact post_bind q1⟩, ?_⟩
    rintro i m H2 ⟨rfl, hi, t2, acc, accv, A2, h2, l2, s2, q2⟩
    obtain ⟨wz, wy⟩ := wk i _ H2 s2.s A2.live
    by_cases hlt : i < ds.length
    · obtain ⟨go, yl⟩ := wy ds[i] (List.getElem?_eq_getElem hlt)
      rw [List.drop_eq_getElem_cons hlt] at q2
      refine .inr ⟨go, fun H' => ∃ t' acc accv, Amb g (Da :: os1) σ H' ρ1 t' ∧ H' Da = some (.lst accv) ∧ LayA g (Da :: os1) H' accv acc ∧ Go g os1 H1 (Da :: os1) H' ∧
          (lcGo tgt tst el vs ρ1 (ds.drop (i + 1)) acc t').post (fun acc ρ' t' => ∀ p H' os', Amb g (p :: os') σ H' ρ' t' → Own g (p :: os') H' p (.lst acc) → (p ∉ mo g os' ∧ H p = none) → NOw σ ρ' p → Go g os H (p :: os') H' → Q (.ref p) H') noX,
        fun H' ⟨t', acc, accv, a, b, c, d, e⟩ => ⟨ds.length - (i + 1), by omega, rfl, hlt, t', acc, accv, a, b, c, d, e⟩, fun x H3 y => ?_⟩
      obtain ⟨s3, l3⟩ := yl x H3 y
      have q2 := post_bind (show (((tgt ds[i]) (unS ρ1 vs) t2).bind _).post _ _ from q2)
      have A3 := (A2.same s3).wipe vs
      refine ⟨_, unS ρ1 vs, t2, ds[i], A3, l3, post_mono q2 (fun _ ρ4 t4 q4 σ4 A4 k4 n4 => ?_) fun _ _ _ _ h => h⟩
      refine ⟨wipe_eq hv n4 k4, _, ρ4, t4, A4, post_mono (post_bind q4) (fun b ρ5 t5 q5 H5 os5 A5 s5 => ?_) fun _ _ _ _ h => h⟩
      have g5 := (Go.same (g := g) (os := Da :: os1) s3).trans s5
      by_cases hb : b = true
      · show ite (b = true) _ _
        rw [if_pos hb] at q5 ⊢
        refine ⟨os5, ρ5, t5, A5, post_mono (post_bind q5) (fun d ρ6 t6 q6 u H6 os6 A6 l6 s6 => ?_) fun _ _ _ _ h => h⟩
        have g6 := g5.trans s6
        have B := A2.go g6 A6
        have h6 := (g6.k Da List.mem_cons_self).2 _ h2
        by_cases hc : acc.length < lim
        · rw [if_pos hc] at q6
          refine ⟨accv, h6, by rw [l2.len]; exact Nat.lt_of_lt_of_le hc (by decide), t6, acc ++ [d], accv ++ [u], B.write List.mem_cons_self w2, upd_same, ?_, ?_, q6⟩
          · have hm : hd g (Da :: os1) (upd H6 Da (.lst (accv ++ [u]))) = hd g (Da :: os1) H6 := msk_upd (List.mem_append_right _ List.mem_cons_self)
            show LdA g.c (hd g (Da :: os1) (upd H6 Da (.lst (accv ++ [u])))) _ _
            rw [hm]
            exact LdA.app (LdA.same g6.base.s l2) (.cons (Ld.same g6.back l6) .nil)
          · have g7 := s2.trans g6.base
            refine ⟨?_, fun b hb => ⟨(g7.k b hb).1, fun o e => by rw [upd_ne (ff b hb)]; exact (g7.k b hb).2 o e⟩, fun x C dx e o z => ?_⟩
            · rw [show hd g (Da :: os1) (upd H6 Da (.lst (accv ++ [u]))) = hd g (Da :: os1) H6 from msk_upd (List.mem_append_right _ List.mem_cons_self)]
              exact g7.s
            · rw [upd_ne fun w => by rw [w, hD] at z; cases z]
              exact g7.x x C dx e o z
        · rw [if_neg hc] at q6; exact q6.elim
      · show ite (b = true) _ _
        rw [if_neg hb] at q5 ⊢
        exact ⟨t5, acc, accv, A2.go g5 A5, (g5.k Da List.mem_cons_self).2 _ h2, LdA.same g5.base.s l2, s2.trans g5.base, q5⟩
    · have e : i = ds.length := by omega
      subst e
      rw [List.drop_length] at q2
      exact .inl ⟨wz rfl, q2 Da H2 os1 A2 ⟨accv, h2, l2⟩ ⟨n2, s1.none A1 hD⟩ w2 (s1.trans s2)⟩
theorem ts_nil : PTs X [] (bD g (mr true)) := PTs.imp pts_nil fun σ H Q q => by
  obtain ⟨os, ρ, t, A, q⟩ := q
  exact q H os A Go.refl
theorem ts_one {e : Expr} {f : M Bool} (h : ST X g e f) : PTs X [e] (bD g f) := pts_one h
end
end DL

set_option Elab.async false
set_option linter.all false
set_option maxRecDepth 100000
set_option maxHeartbeats 1000000
namespace DL
open PySem PySem.Spec PyProof.Rows L2
/-! ### the pen -/
theorem pn_c {l : Addr} {n : Str} {t : Pn} : valV (pnL l n t) (Sum.inr "cells") = some (.ref l) := valV_pos rfl
theorem pn_k {l : Addr} {n : Str} {t : Pn} (h : ¬ (("cells" : Str) = n)) : valV (pnL l n t) (Sum.inr n) = some (.int t.k) := by
  unfold pnL
  rw [valV_neg (fun e => h (Sum.inr.inj e)), valV_pos rfl]
theorem pn_z {l : Addr} {n : Str} {t : Pn} (h : ¬ (n = ("left" : Str))) : valV (pnL l n t) (Sum.inr "left") = some (.int t.z) := by
  unfold pnL
  rw [valV_neg (fun e => absurd (Sum.inr.inj e) (by decide +kernel)), valV_neg (fun e => h (Sum.inr.inj e)), valV_pos rfl]
theorem put_k {l : Addr} {n : Str} {t : Pn} (h1 : ¬ (("cells" : Str) = n)) (h2 : ¬ (n = ("left" : Str))) (y : Int) : putK (pnL l n t) (Sum.inr n) (.int y) = pnL l n { t with k := y } := by
  have h3 : ¬ (("left" : Str) = n) := fun e => h2 e.symm
  simp [pnL, putK, h1, h3]
theorem put_z {l : Addr} {n : Str} {t : Pn} (h2 : ¬ (n = ("left" : Str))) (y : Int) : putK (pnL l n t) (Sum.inr "left") (.int y) = pnL l n { t with z := y } := by
  have h1 : ¬ (("cells" : Str) = "left") := by decide +kernel
  simp [pnL, putK, h1, h2]
section
variable {g : G} {os : List Addr} {σ : L2.St} {H : Hp} {ρ : List Sl} {t : Pn}
theorem Amb.penS (A : Amb g os σ H ρ t) {p l : Addr} {n : Str} {t' : Pn} (e : g.pen = some (p, l, n)) (hs : g.slf = none) (hc : t'.cells = t.cells) (hk : 0 ≤ t'.k) (hz : 0 ≤ t'.z) :
    Amb g os σ (upd H p (.dK (pnL l n t'))) ρ t' ∧ Go g os H os (upd H p (.dK (pnL l n t'))) := by
  obtain ⟨q, h1, h2, h3⟩ := A.pen p l n e
  have hm : p ∈ mo g os := List.mem_append_left _ h1
  have hp : ∀ b ∈ os, b ≠ p := fun b hb z => by
    obtain ⟨o, e⟩ := A.o0 p h1
    rw [← z, A.new b hb] at e; cases e
  have s : Same (hd g os H) (hd g os (upd H p (.dK (pnL l n t')))) := by rw [show hd g os (upd H p (.dK (pnL l n t'))) = hd g os H from msk_upd hm]; exact Same.refl _
  refine ⟨A.step s (fun b hb o z => by rw [upd_ne (hp b hb)]; exact z) (fun b o z ho => by rw [upd_ne (ho.1 p l n e)]; exact z) (fun b hb => ?_) (fun x C dx e2 => by rw [hs] at e2; cases e2) fun p' l' n' e' => ?_,
    s, fun b hb => ⟨hb, fun o z => by rw [upd_ne (hp b hb)]; exact z⟩, fun x C dx e2 => by rw [hs] at e2; cases e2⟩
  · by_cases z : b = p
    · exact ⟨_, by rw [z]; exact upd_same⟩
    · obtain ⟨o, e'⟩ := A.live b (List.mem_append_left _ hb)
      exact ⟨o, by rw [upd_ne z]; exact e'⟩
  · rw [e] at e'
    cases e'
    refine ⟨⟨upd_same, ?_, hk, hz, by rw [hc]; exact q.len⟩, h1, h2, h3⟩
    rw [upd_ne (ne_of q.d q.l (by intro z; cases z)).symm, hc]
    exact q.l
end
def pget (r : Pn → D) (i : Nat) : M D := fun ρ t => match ρ[i]? with
  | some .pn => .ok (r t) ρ t
  | _ => .bad
def pput (w : Pn → Int → Pn) (i : Nat) (f : M D) : M Fl := mb f fun d => match d with
  | .int y => fun ρ t => match ρ[i]? with
    | some .pn => if 0 ≤ y then .ok .nx ρ (w t y) else .bad
    | _ => .bad
  | _ => mx
abbrev rC (t : Pn) : D := .lst (t.cells.map D.int)
abbrev rK (t : Pn) : D := .int t.k
abbrev rZ (t : Pn) : D := .int t.z
abbrev wK (t : Pn) (y : Int) : Pn := { t with k := y }
abbrev wZ (t : Pn) (y : Int) : Pn := { t with z := y }
theorem ldA_ints {c : Ct} {H : Hp} : ∀ ns : List Int, LdA c H (ns.map V.int) (ns.map D.int)
  | [] => .nil
  | n :: ns => .cons (.int n) (ldA_ints ns)
section
variable {X : Cx} {g : G}
/-- the counter's name -/
def PenN (g : G) (n : Str) : Prop := g.slf = none ∧ ∀ p l m, g.pen = some (p, l, m) → m = n
theorem se_pC {i : Nat} {x : Str} {pos pos' : Pos} {j pp} (fx : Fx X g) (h : PE X (.Name x pos) (tVar i)) : SE X g (.Subscript (.Name x pos) (.Constant (.str "cells") j pp) pos') (pget rC i) :=
  PE.imp (pe_dget fx.u1 h pe_str (fun _ _ => rfl)) fun σ H Q q => by
    obtain ⟨os, ρ, t, A, q⟩ := q
    unfold pget at q
    cases e : ρ[i]? with
    | none => rw [e] at q; exact q.elim
    | some s =>
      rw [e] at q
      cases s with
      | pn =>
        obtain ⟨p, l, n, h1, h2⟩ := A.sl i _ e
        obtain ⟨pa, m1, m2, o, m3⟩ := A.pen p l _ h1
        have dg := DGet.k (k := Sum.inr "cells") pa.d
        rw [pn_c] at dg
        refine ⟨_, h2, p, _, rfl, dg, q _ H os A ?_ Go.refl⟩
        refine .lst ?_ (ldA_ints _)
        rw [show hd g os H l = H l from msk_out fun z => ?_]
        · exact pa.l
        · rcases List.mem_append.mp z with z | z
          · exact m2 z
          · rw [A.new l z] at m3; cases m3
      | _ => exact q.elim
theorem se_pK {i : Nat} {x n : Str} {pos pos' : Pos} {j pp} (fx : Fx X g) (pn : PenN g n) (hn : ¬ (("cells" : Str) = n)) (h : PE X (.Name x pos) (tVar i)) : SE X g (.Subscript (.Name x pos) (.Constant (.str n) j pp) pos') (pget rK i) :=
  PE.imp (pe_dget fx.u1 h pe_str (fun _ _ => rfl)) fun σ H Q q => by
    obtain ⟨os, ρ, t, A, q⟩ := q
    unfold pget at q
    cases e : ρ[i]? with
    | none => rw [e] at q; exact q.elim
    | some s =>
      rw [e] at q
      cases s with
      | pn =>
        obtain ⟨p, l, m, h1, h2⟩ := A.sl i _ e
        obtain rfl := pn.2 p l m h1
        obtain ⟨pa, m1, m2, o, m3⟩ := A.pen p l _ h1
        have dg := DGet.k (k := Sum.inr m) pa.d
        rw [pn_k hn] at dg
        exact ⟨_, h2, p, _, rfl, dg, q _ H os A (.int _) Go.refl⟩
      | _ => exact q.elim
theorem se_pZ {i : Nat} {x n : Str} {pos pos' : Pos} {j pp} (fx : Fx X g) (pn : PenN g n) (hn : ¬ (n = ("left" : Str))) (h : PE X (.Name x pos) (tVar i)) : SE X g (.Subscript (.Name x pos) (.Constant (.str "left") j pp) pos') (pget rZ i) :=
  PE.imp (pe_dget fx.u1 h pe_str (fun _ _ => rfl)) fun σ H Q q => by
    obtain ⟨os, ρ, t, A, q⟩ := q
    unfold pget at q
    cases e : ρ[i]? with
    | none => rw [e] at q; exact q.elim
    | some s =>
      rw [e] at q
      cases s with
      | pn =>
        obtain ⟨p, l, m, h1, h2⟩ := A.sl i _ e
        obtain rfl := pn.2 p l m h1
        obtain ⟨pa, m1, m2, o, m3⟩ := A.pen p l _ h1
        have dg := DGet.k (k := Sum.inr "left") pa.d
        rw [pn_z hn] at dg
        exact ⟨_, h2, p, _, rfl, dg, q _ H os A (.int _) Go.refl⟩
      | _ => exact q.elim
theorem ss_pK {i : Nat} {x n : Str} {pos pos' pos2 : Pos} {j pp} {e : Expr} {f : M D} (fx : Fx X g) (pn : PenN g n) (hn : ¬ (("cells" : Str) = n)) (hn2 : ¬ (n = ("left" : Str))) (h : PE X (.Name x pos) (tVar i)) (he : SE X g e f)
    (hs : swapsWith e (some (.Subscript (.Name x pos) (.Constant (.str n) j pp) pos')) pos2.line X.env = pure false := by rfl) : SS X g (.Assign [.Subscript (.Name x pos) (.Constant (.str n) j pp) pos'] e pos2) (pput wK i f) :=
  PS.imp (ps_dput fx.u1 h pe_str he hs) fun Dn σ H q => by
    obtain ⟨os, ρ, t, A, q⟩ := q
    refine ⟨os, ρ, t, A, post_mono (post_bind q) (fun d ρ1 t1 q1 v H1 os1 A1 l1 s1 => ?_) fun _ _ _ _ h => h⟩
    cases l1 with
    | int y =>
      simp only at q1
      cases e : ρ1[i]? with
      | none => rw [e] at q1; exact q1.elim
      | some s =>
        rw [e] at q1
        cases s with
        | pn =>
          obtain ⟨p, l, m, h1, h2⟩ := A1.sl i _ e
          obtain rfl := pn.2 p l m h1
          obtain ⟨pa, m1, m2, o, m3⟩ := A1.pen p l _ h1
          have dp := DPut.k (k := Sum.inr m) (v := .int y) pa.d (by show 3 < sizeLine; decide)
          rw [put_k hn hn2] at dp
          by_cases hy : 0 ≤ y
          · simp only [if_pos hy] at q1
            obtain ⟨B, s2⟩ := A1.penS (t' := wK t1 y) h1 pn.1 rfl hy pa.z0
            exact ⟨_, h2, p, _, rfl, dp, q1 σ _ os1 B (s1.trans s2).s⟩
          · simp only [if_neg hy] at q1
            exact q1.elim
        | _ => exact q1.elim
    | _ => exact q1.elim
theorem ss_pZ {i : Nat} {x n : Str} {pos pos' pos2 : Pos} {j pp} {e : Expr} {f : M D} (fx : Fx X g) (pn : PenN g n) (hn2 : ¬ (n = ("left" : Str))) (h : PE X (.Name x pos) (tVar i)) (he : SE X g e f)
    (hs : swapsWith e (some (.Subscript (.Name x pos) (.Constant (.str "left") j pp) pos')) pos2.line X.env = pure false := by rfl) : SS X g (.Assign [.Subscript (.Name x pos) (.Constant (.str "left") j pp) pos'] e pos2) (pput wZ i f) :=
  PS.imp (ps_dput fx.u1 h pe_str he hs) fun Dn σ H q => by
    obtain ⟨os, ρ, t, A, q⟩ := q
    refine ⟨os, ρ, t, A, post_mono (post_bind q) (fun d ρ1 t1 q1 v H1 os1 A1 l1 s1 => ?_) fun _ _ _ _ h => h⟩
    cases l1 with
    | int y =>
      simp only at q1
      cases e : ρ1[i]? with
      | none => rw [e] at q1; exact q1.elim
      | some s =>
        rw [e] at q1
        cases s with
        | pn =>
          obtain ⟨p, l, m, h1, h2⟩ := A1.sl i _ e
          obtain rfl := pn.2 p l m h1
          obtain ⟨pa, m1, m2, o, m3⟩ := A1.pen p l _ h1
          have dp := DPut.k (k := Sum.inr "left") (v := .int y) pa.d (by show 3 < sizeLine; decide)
          rw [put_z hn2] at dp
          by_cases hy : 0 ≤ y
          · simp only [if_pos hy] at q1
            obtain ⟨B, s2⟩ := A1.penS (t' := wZ t1 y) h1 pn.1 rfl pa.k0 hy
            exact ⟨_, h2, p, _, rfl, dp, q1 σ _ os1 B (s1.trans s2).s⟩
          · simp only [if_neg hy] at q1
            exact q1.elim
        | _ => exact q1.elim
    | _ => exact q1.elim
end
/-! ### a name's own container, read for a moment -/
def peekB (i : Nat) (f : M Bool) : M Bool := fun ρ t => match ρ[i]? with
  | some (.ow d) => (f (ρ.set i (.im d)) t).bind fun b _ t' => .ok b ρ t'
  | _ => f ρ t
def peekS (i : Nat) (f : M D) : M D := fun ρ t => match ρ[i]? with
  | some (.ow d) => (f (ρ.set i (.im d)) t).bind fun b _ t' => if isS b = true then .ok b ρ t' else .bad
  | _ => f ρ t
section
variable {X : Cx} {g : G}
theorem Amb.peek {os : List Addr} {σ : L2.St} {H : Hp} {ρ : List Sl} {t : Pn} (A : Amb g os σ H ρ t) {i : Nat} {d : D} (e : ρ[i]? = some (.ow d)) : ∃ os', Amb g os' σ H (ρ.set i (.im d)) t ∧ ∀ os1 H1 σ1 ρ1 t1, Amb g os1 σ1 H1 ρ1 t1 → Go g os' H os1 H1 → Amb g os σ H1 ρ t1 ∧ Go g os H os H1 := by
  obtain ⟨a, h1, h2, h3⟩ := A.sl i _ e
  obtain ⟨os', A', hos⟩ : ∃ os', Amb g os' σ H (ρ.set i (.im d)) t ∧ ∀ b, b ∈ os' ↔ b ∈ os ∧ b ≠ a := by
    obtain ⟨os', A', _, z⟩ := A.freeze' e h1
    exact ⟨os', A', z⟩
  refine ⟨os', A', fun os1 H1 σ1 ρ1 t1 A1 s1 => ?_⟩
  have sub : ∀ b ∈ mo g os', b ∈ mo g os := fun b hb => by
    rcases List.mem_append.mp hb with z | z
    · exact List.mem_append_left _ z
    · exact List.mem_append_right _ ((hos b).mp z).1
  have vis : a ∉ mo g os' := fun z => by
    rcases List.mem_append.mp z with z | z
    · obtain ⟨o, e0⟩ := A.o0 a z
      rw [A.new a h2] at e0; cases e0
    · exact ((hos a).mp z).2 rfl
  have kp : ∀ b ∈ os, ∀ o, H b = some o → H1 b = some o := fun b hb o z => by
    by_cases hba : b = a
    · rw [hba] at z ⊢
      exact msk_le _ _ (s1.s a o (by rw [show hd g os' H a = H a from msk_out vis]; exact z))
    · exact (s1.k b ((hos b).mpr ⟨hb, hba⟩)).2 o z
  have s : Same (hd g os H) (hd g os H1) := msk_same fun b o hb z => msk_le _ _ (s1.s b o (by rw [show hd g os' H b = H b from msk_out fun w => hb (sub b w)]; exact z))
  have G1 : Go g os H os H1 := ⟨s, fun b hb => ⟨hb, kp b hb⟩, s1.x⟩
  refine ⟨A.step s kp (fun b o z ho => ?_) (fun b hb => A1.live b (List.mem_append_left _ hb)) s1.x A1.pen, G1⟩
  by_cases h : b ∈ mo g os
  · rcases List.mem_append.mp h with w | w
    · obtain ⟨o0, e0⟩ := A.o0 b w
      have := A.pres b o0 e0 ho
      rw [z] at this
      cases this
      exact A1.pres b o e0 ho
    · exact kp b w o z
  · exact msk_le _ _ (s b o (by rw [show hd g os H b = H b from msk_out h]; exact z))
theorem st_peek (i : Nat) {e : Expr} {f : M Bool} (h : ST X g e f) : ST X g e (peekB i f) := PT.imp h fun σ H Q q => by
  obtain ⟨os, ρ, t, A, q⟩ := q
  unfold peekB at q
  cases e : ρ[i]? with
  | none => simp only [e] at q; exact ⟨os, ρ, t, A, q⟩
  | some s =>
    simp only [e] at q
    cases s with
    | ow d =>
      obtain ⟨os', A', k⟩ := A.peek e
      refine ⟨os', _, t, A', post_mono (post_bind q) (fun b ρ1 t1 q1 H1 os1 A1 s1 => ?_) fun _ _ _ _ h => h⟩
      obtain ⟨B, s2⟩ := k os1 H1 σ ρ1 t1 A1 s1
      exact q1 H1 os B s2
    | _ => exact ⟨os, ρ, t, A, q⟩
theorem se_peek (i : Nat) {e : Expr} {f : M D} (h : SE X g e f) : SE X g e (peekS i f) := PE.imp h fun σ H Q q => by
  obtain ⟨os, ρ, t, A, q⟩ := q
  unfold peekS at q
  cases e : ρ[i]? with
  | none => simp only [e] at q; exact ⟨os, ρ, t, A, q⟩
  | some s =>
    simp only [e] at q
    cases s with
    | ow d =>
      obtain ⟨os', A', k⟩ := A.peek e
      refine ⟨os', _, t, A', post_mono (post_bind q) (fun b ρ1 t1 q1 v H1 os1 A1 l1 s1 => ?_) fun _ _ _ _ h => h⟩
      obtain ⟨B, s2⟩ := k os1 H1 σ ρ1 t1 A1 s1
      by_cases hb : isS b = true
      · rw [if_pos hb] at q1
        refine q1 v H1 os B ?_ s2
        cases l1 with
        | non => exact .non
        | bl b => exact .bl b
        | int b => exact .int b
        | str b => exact .str b
        | _ => cases hb
      · rw [if_neg hb] at q1; exact q1.elim
    | _ => exact ⟨os, ρ, t, A, q⟩
end
end DL

set_option Elab.async false
set_option linter.all false
set_option maxRecDepth 100000
set_option maxHeartbeats 1000000
namespace DL
open PySem PySem.Spec PyProof.Rows L2
/-! ### containers of one's own that change -/
/-- what a dict of tuples holds behind d[k] = v -/
def stT (xs : List (NestedKey × Addr × V)) (n : NestedKey) (b : Addr) (v : V) : List (NestedKey × Addr × V) :=
  if (xs.find? fun x => decide (x.1 = n)).isSome = true then xs.map (fun x => if x.1 = n then (x.1, x.2.1, v) else x) else xs ++ [(n, b, v)]
theorem pt3_map {xs : List (NestedKey × Addr × V)} {ys : List (NestedKey × Addr × Value)} {n : NestedKey} {v : V} {u : Value} (h : PT3 xs ys) (r : RelV v u) : PT3 (xs.map fun x => if x.1 = n then (x.1, x.2.1, v) else x) (ys.map (putAt n u)) := by
  induction h with
  | nil => exact .nil
  | @cons x y xs ys e t ih =>
    refine .cons ?_ ih
    obtain ⟨e1, e2, e3⟩ := e
    by_cases z : x.1 = n
    · have z2 : y.1 = n := by rw [← e1]; exact z
      simp only [putAt, if_pos z, if_pos z2]
      exact ⟨e1, e2, r⟩
    · have z2 : ¬ y.1 = n := by rw [← e1]; exact z
      simp only [putAt, if_neg z, if_neg z2]
      exact ⟨e1, e2, e3⟩
theorem pt3_app {xs : List (NestedKey × Addr × V)} {ys : List (NestedKey × Addr × Value)} {n : NestedKey} {b : Addr} {v : V} {u : Value} (h : PT3 xs ys) (r : RelV v u) : PT3 (xs ++ [(n, b, v)]) (ys ++ [(n, b, u)]) := by
  induction h with
  | nil => exact .cons ⟨rfl, rfl, r⟩ .nil
  | cons e t ih => exact .cons e ih
theorem pt3_st {xs : List (NestedKey × Addr × V)} {ys : List (NestedKey × Addr × Value)} (n : NestedKey) (b : Addr) {v : V} {u : Value} (h : PT3 xs ys) (r : RelV v u) : PT3 (stT xs n b v) (storedH ys n b u) := by
  unfold stT storedH
  rw [pt3_some h n]
  split
  · exact pt3_map h r
  · exact pt3_app h r
theorem pt3_len {xs : List (NestedKey × Addr × V)} {ys : List (NestedKey × Addr × Value)} (h : PT3 xs ys) : xs.length = ys.length := h.length
theorem st_len {xs : List (NestedKey × Addr × V)} {n : NestedKey} {b : Addr} {v : V} : (stT xs n b v).length ≤ xs.length + 1 := by
  unfold stT
  split
  · rw [List.length_map]; omega
  · rw [List.length_append]; exact Nat.le_refl _
section
variable {c : Ct} {X : Cx} {pins : List (Addr × Obj)} {σ : L2.St} {H : Hp} {s : Shared}
theorem td_written {a b : Addr} {n : NestedKey} {xs : List (NestedKey × Addr × V)} {ys : List (NestedKey × Addr × Value)} {v : V} {u : Value} {h' : Heap} {t' : Nat} (I : Inv X pins σ H s) (hm : Mut (H a)) (ha : (a == sysModules) = false) (hl : xs.length < sizeLine) (p : PT3 xs ys) (r : RelV v u)
    (hd : h'.DictOfH (nestedKind X.prog X.w) a (storedH ys n b u)) (hs : Heap.SameBut a s.heap h') : Inv X pins σ (upd H a (tdO X.w a (stT xs n b v))) ⟨h', s.gens, s.drawn, t', s.os⟩ := by
  obtain ⟨o, es, ep, h1, h2, h3, h4, h5, h6⟩ := hd
  have p2 := pt3_st n b p r
  refine d_write I hm hs ⟨o, h1⟩ ⟨⟨Nat.le_trans st_len hl, ha, by rw [pt3_keys p2]; exact h6, _, p2, o, es, ep, h1, h2, h3, h4⟩, ⟨o, h1⟩, ?_⟩
  rintro k1 k2 ⟨q1, q2, q3, zs, q4, o', es', ep', q5, q6⟩ hh
  exact ⟨q1, q2, q3, zs, q4, o', es', ep', hh _ q5, q6⟩
/-- d[k] = v for a tuple k -/
def rSetT (c : Ct) : TSet := fun o i v H Q => ∃ a d, o = .ref a ∧ Ld c H i d ∧ kkind d = some true ∧ ∀ b, i = .ref b →
  (H a = some (.dK []) ∧ Q (upd H a (tdO c.w a [(nk d, b, v)]))) ∨
  ∃ xs kd, H a = some (tdO c.w a xs) ∧ LdA c H (xs.map fun q => V.ref q.2.1) kd ∧ xs.map (·.1) = kd.map nk ∧ (kd.all fun d => decide (kkind d = some true)) = true ∧ xs.length < sizeLine ∧ Q (upd H a (tdO c.w a (stT xs (nk d) b v)))
theorem set_td (hc : c.K = X.K) (hw : c.w = X.w) (hu : X.A.units + 60 < cLine) : PSet X (rSetT c) := by
  intro pins s σ H o i v ov iv u Q I ro ri rv h
  obtain ⟨a, d, rfl, h1, h2, h3⟩ := h
  cases ro
  obtain ⟨b, rfl, hb⟩ := tup_key I hc h1 h2
  cases ri
  have hr : (nestedKind X.prog X.w).room X.A.in1 := by show X.A.units + 1 + 8 < cLine; omega
  rcases h3 b rfl with ⟨e, q⟩ | ⟨xs, kd, e, k1, k2, k3, k4, q⟩
  · obtain ⟨m1, m2⟩ := dk_td I (.inl e)
    refine wpAny_setItem_heap hr hb m2 (fun h' hd hs => ⟨_, ?_, q⟩) (Nat.zero_le _)
    rw [hw]
    exact td_written (xs := []) I (by rw [e]; trivial) m1 (by decide) .nil rv hd hs
  · rw [hw] at e
    obtain ⟨m1, m2, ys, m3, m4⟩ := td_dict I (.inl e) (tup_keys I hc k1 k2 k3)
    refine wpAny_setItem_heap hr hb m4 (fun h' hd hs => ⟨_, ?_, q⟩) (by rw [← pt3_len m3]; exact m1)
    rw [hw]
    exact td_written I (by rw [e]; trivial) m2 k4 m3 rv hd hs
/-- the same when a comprehension stores it -/
theorem d_dictSetT {E : Value → Shared → Prop} {D0 b : Addr} {n : NestedKey} {v : V} {r : Value} {xs : List (NestedKey × Addr × V)} {ys : List (NestedKey × Addr × Value)} {Q : Unit → Shared → Prop} (hu : X.A.units + 60 < cLine) (I : Inv X pins σ H s) (hm : Mut (H D0)) (ha : (D0 == sysModules) = false)
    (hl : xs.length < sizeLine) (p : PT3 xs ys) (hd : s.heap.DictOfH (nestedKind X.prog X.w) D0 ys) (hb : (nestedKind X.prog X.w).is s.heap n b) (rv : RelV v r) (q : ∀ s', Inv X pins σ (upd H D0 (tdO X.w D0 (stT xs n b v))) s' → Q () s') : wpAny (model X.prog X.w) X.A (dictSet D0 (.ref b) r) Q E s :=
  wpAny_dictSet_heap (show (nestedKind X.prog X.w).room X.A from by show X.A.units + 8 < cLine; omega) hb hd (fun h' hd hs => q _ (td_written I hm ha hl p rv hd hs)) (by rw [← pt3_len p]; omega)
end
end DL

set_option Elab.async false
set_option linter.all false
set_option maxRecDepth 100000
set_option maxHeartbeats 1000000
namespace DL
open PySem PySem.Spec PyProof.Rows L2
/-! ### a dict comprehension that stores as told -/
abbrev Stp := Hp → Addr → V → V → (Hp → Prop) → Prop
def tDR (St : Stp) (wi : TI) (g : TG) (tt : TT) (tk tv : TE) (vs : List Nat) : TE := fun σ H Q =>
  wi σ H fun J H1 => ∀ D0 : Addr, H1 D0 = none → ∃ W : Nat → Nat → Hp → Prop, (∃ m, W 0 m (upd H1 D0 (.dK []))) ∧ ∀ (i m : Nat) (H : Hp), W i m H →
    (J.stop i H ∧ Q (.ref D0) H) ∨ (J.go i H ∧ ∃ Nx : Hp → Prop, (∀ H' : Hp, Nx H' → ∃ m', m' < m ∧ W (i + 1) m' H') ∧
      ∀ (x : V) (H' : Hp), J.yld i H x H' → g x (wipe σ vs) H' fun σ2 H2 => wipe σ2 vs = wipe σ vs ∧ tt σ2 H2 fun b H3 =>
        if b = true then tk σ2 H3 fun y H4 => tv σ2 H4 fun z H5 => St H5 D0 y z Nx else Nx H3)
/-- the model's store does what is told -/
def StOk (X : Cx) (St : Stp) : Prop := ∀ (X' : Cx), X'.prog = X.prog → X'.w = X.w → X'.K = X.K → X'.A = X.A → ∀ (pins : List (Addr × Obj)) (σ : L2.St) (H : Hp) (s : Shared) (D0 : Addr) (y z : V) (u r : Value) (Nx : Hp → Prop), Inv X' pins σ H s → RelV y u → RelV z r →
  St H D0 y z Nx → wpAny (model X.prog X.w) X.A (dictSet D0 u r) (fun _ s' => ∃ H', Inv X' pins σ H' s' ∧ Nx H') (fun _ _ => False) s
section
variable {X : Cx}
theorem pe_dcR {kx vx tg iter : Expr} {ifs : List Expr} {scope : Scope} {own : List (Str × Nat)} {pos : Pos} {wi : TI} {g : TG} {tt : TT} {tk tv : TE} {St : Stp} (hc : X.calm = true) (hN : X.N.Nodup) (hi : PI X tg iter wi) (ok : BlkOk X.N X.env.scope scope own)
    (hg : ∀ (s : Shared) (H : Hp) (C : Addr) (cl : List (Str × Addr)) (fp : List Addr), PG (X.blk s H scope (compEnvC scope cl C X.env) fp) tg g)
    (ht : ∀ (s : Shared) (H : Hp) (C : Addr) (cl : List (Str × Addr)) (fp : List Addr), PTs (X.blk s H scope (compEnvC scope cl C X.env) fp) ifs tt)
    (hk : ∀ (s : Shared) (H : Hp) (C : Addr) (cl : List (Str × Addr)) (fp : List Addr), PE (X.blk s H scope (compEnvC scope cl C X.env) fp) kx tk)
    (he : ∀ (s : Shared) (H : Hp) (C : Addr) (cl : List (Str × Addr)) (fp : List Addr), PE (X.blk s H scope (compEnvC scope cl C X.env) fp) vx tv)
    (hs : ∀ (x : Value), foldedSetIterable iter X.env x = pure x) (hSt : StOk X St) : PE X (.DictComp kx vx [⟨tg, iter, ifs, 0⟩] scope pos) (tDR St wi g tt tk tv (own.map (·.2))) := by
  refine ⟨fun pins s σ H Q I h => ?_⟩
  rw [arm_eval_DictComp]
  refine wpAny_comprehension_free rfl hs (closure_ok fun y hy e => Or.casesOn (ok.free y hy e) (fun k => I.ok.has y.1 (.inl k)) fun k => I.ok.has y.1 (.inr k)) ok.kind (fun y hy e => by rw [ok.uniq y hy, e]) ?_
  generalize hvs : own.map (·.2) = vs at h
  refine thn (hi.run pins s σ H _ I h) fun xv s1 hx => thn hx fun itv s2 h2 => ?_
  obtain ⟨it, fp, tn, J, H2, rfl, I2, T, st2, f2, q⟩ := h2
  refine wpAny_newObj_type (newEnv_comp ?_) (Nat.zero_le _)
  have hDn : H2 s2.heap.objs.size = none := HOk.fresh I2.hok (Nat.le_refl _)
  obtain ⟨W, ⟨m0, w0⟩, turn⟩ := q _ hDn
  have I3 : Inv X pins σ (upd H2 s2.heap.objs.size (.dK [])) ⟨s2.heap.push { cls := .type "dict", data := .dict #[] }, s2.gens, s2.drawn, s2.toks, s2.os⟩ :=
    Inv.laid I2 (fun b o e => Heap.get?_push_of_some _ e) (Nat.le_refl _) (dk_empty s2.heap (Inv.big I2))
  generalize hD0 : s2.heap.objs.size = D0 at *
  generalize hs3 : (⟨s2.heap.push { cls := .type "dict", data := .dict #[] }, s2.gens, s2.drawn, s2.toks, s2.os⟩ : Shared) = s3 at *
  have h3 : s3.heap = s2.heap.push { cls := .type "dict", data := .dict #[] } := by rw [← hs3]
  have hm : pushCells (s3.heap.push { cls := .type "dict", data := .dict #[] }) scope.names = pushCells (s3.heap.push { cls := .type "dict", data := .dict #[] }) scope.names := rfl
  have sz : ∀ b ∈ fp, b < s2.heap.objs.size := fun b hb => by
    obtain ⟨o, e, _⟩ := T.obj 0 s2.heap st2 b hb
    exact Heap.lt_size e
  have f3 : ∀ b ∈ fp, FpOk X pins (upd H2 D0 (.dK [])) b ∧ b < s3.heap.objs.size := fun b hb => by
    have hlt := sz b hb
    refine ⟨⟨?_, (f2 b hb).2⟩, ?_⟩
    · rw [upd_ne (by rw [← hD0]; exact Nat.ne_of_lt hlt)]
      exact (f2 b hb).1
    · rw [h3, Heap.size_push]; exact Nat.lt_succ_of_lt hlt
  have st3 : tn 0 s3.heap := T.keep 0 s2.heap s3.heap st2 fun b _ o e => by rw [h3]; exact Heap.get?_push_of_some _ e
  have I4 := block_start I3 ok hN f3
  rw [hvs] at I4
  have pg := hg s3 (upd H2 D0 (.dK [])) s3.heap.objs.size (cellsFrom (s3.heap.objs.size + 1) scope.names (cloFrom X.env.cells scope.names [])) fp
  have pt := ht s3 (upd H2 D0 (.dK [])) s3.heap.objs.size (cellsFrom (s3.heap.objs.size + 1) scope.names (cloFrom X.env.cells scope.names [])) fp
  have pk := hk s3 (upd H2 D0 (.dK [])) s3.heap.objs.size (cellsFrom (s3.heap.objs.size + 1) scope.names (cloFrom X.env.cells scope.names [])) fp
  have pe := he s3 (upd H2 D0 (.dK [])) s3.heap.objs.size (cellsFrom (s3.heap.objs.size + 1) scope.names (cloFrom X.env.cells scope.names [])) fp
  have nfp : ∀ b ∈ fp, (upd H2 D0 (.dK [])) b = none := fun b hb => (f3 b hb).1.1
  have st4 : tn 0 (pushCells (s3.heap.push { cls := .type "dict", data := .dict #[] }) scope.names) := T.keep 0 s3.heap _ st3 fun b _ o e => pushCells_keeps _ _ _ _ (Heap.get?_push_of_some _ e)
  have cL : (compEnvC scope (cellsFrom (s3.heap.objs.size + 1) scope.names (cloFrom X.env.cells scope.names [])) s3.heap.objs.size X.env).locals = s3.heap.objs.size := rfl
  refine (fun loop => codeAny_compStart_dict loop (T.self _ 0 _ _ _ st4 loop)) ?_
  have nf : ∀ {H' : Hp} {s' : Shared} {σ' : L2.St}, Inv (X.blk s3 (upd H2 D0 (.dK [])) scope (compEnvC scope (cellsFrom (s3.heap.objs.size + 1) scope.names (cloFrom X.env.cells scope.names [])) s3.heap.objs.size X.env) fp) [] σ' H' s' → (∀ b ∈ fp, H' b = none) →
      ∀ b ∈ fp, FpOk (X.blk s3 (upd H2 D0 (.dK [])) scope (compEnvC scope (cellsFrom (s3.heap.objs.size + 1) scope.names (cloFrom X.env.cells scope.names [])) s3.heap.objs.size X.env) fp) [] H' b := fun I' n' b hb =>
    ⟨n' b hb, (I'.ok.exf b hb).1, I'.ok.exfs b hb, .inl hb, (I'.ok.exf b hb).2, fun p hp => by cases hp⟩
  refine compLoop_anyD (fun m s' => ∃ i H', Inv (X.blk s3 (upd H2 D0 (.dK [])) scope (compEnvC scope (cellsFrom (s3.heap.objs.size + 1) scope.names (cloFrom X.env.cells scope.names [])) s3.heap.objs.size X.env) fp) [] (wipe σ vs) H' s' ∧ tn i s'.heap ∧ (∀ b ∈ fp, H' b = none) ∧ W i m H') ?_ m0 ⟨0, _, I4, st4, nfp, w0⟩
  rintro m s5 ⟨i, H5, I5, st5, n5, w5⟩
  rcases turn i m H5 w5 with ⟨stp, qq⟩ | ⟨go, Nx, hNx, step⟩
  · refine thnF (T.done (X.blk s3 (upd H2 D0 (.dK [])) scope (compEnvC scope (cellsFrom (s3.heap.objs.size + 1) scope.names (cloFrom X.env.cells scope.names [])) s3.heap.objs.size X.env) fp) rfl rfl rfl hc i [] s5 _ H5 (fun _ _ => False) I5 (nf I5 n5) st5 stp) fun r s6 hr => ?_
    obtain ⟨rfl, I6⟩ := hr
    have I7 : Inv X pins σ H5 s6 := Inv.call' I3 I6.os I6.base I6.hok I6.bare fun b hb => ⟨(f3 b hb).1.2.2.2.1, (f3 b hb).1.2.1, (f3 b hb).1.2.2.2.2.1, (f3 b hb).1.2.2.2.2.2⟩
    have nC : H5 s3.heap.objs.size = none := I6.free
    obtain ⟨mm, hn, _⟩ := I6.loc
    obtain ⟨f0, f1, f2', f3', f4, f5⟩ := Inv.fpOk (H' := H5) I3 (Nat.le_refl _) nC
    exact ⟨mm, hn, fun h'' sb => ⟨.ref D0, H5, Inv.turned I7 (fun b o hb e => (sb.2 b hb).trans e) f0 f1 f3' f4 f5, rfl, qq⟩⟩
  · refine thnF (T.item (X.blk s3 (upd H2 D0 (.dK [])) scope (compEnvC scope (cellsFrom (s3.heap.objs.size + 1) scope.names (cloFrom X.env.cells scope.names [])) s3.heap.objs.size X.env) fp) rfl rfl rfl hc i [] s5 _ H5 (fun _ _ => False) I5 (nf I5 n5) st5 go) fun r s6 hr => ?_
    obtain ⟨u, rfl, h6⟩ := hr
    refine thnF h6 fun _ s7 h7 => ?_
    obtain ⟨x, H7, I7, r7, y7, st7, n7⟩ := h7
    have I7' := Inv.pinned I7 (nf I7 n7) (T.obj (i + 1) s7.heap st7)
    refine thnF (pg.run ([] ++ pinsAt fp s7.heap) s7 _ H7 x u _ I7' r7 (step x H7 y7)) fun _ s8 h8 => ?_
    obtain ⟨σ8, H8, I8, hw8, q8⟩ := h8
    refine thnF (pt.run ([] ++ pinsAt fp s7.heap) s8 σ8 H8 _ I8 q8) fun b s9 h9 => ?_
    obtain ⟨H9, I9, q9⟩ := h9
    have fin : ∀ {s' : Shared} {H' : Hp}, Inv (X.blk s3 (upd H2 D0 (.dK [])) scope (compEnvC scope (cellsFrom (s3.heap.objs.size + 1) scope.names (cloFrom X.env.cells scope.names [])) s3.heap.objs.size X.env) fp) ([] ++ pinsAt fp s7.heap) σ8 H' s' → Nx H' →
        ∃ m', m' < m ∧ ∃ i H', Inv (X.blk s3 (upd H2 D0 (.dK [])) scope (compEnvC scope (cellsFrom (s3.heap.objs.size + 1) scope.names (cloFrom X.env.cells scope.names [])) s3.heap.objs.size X.env) fp) [] (wipe σ vs) H' s' ∧ tn i s'.heap ∧ (∀ b ∈ fp, H' b = none) ∧ W i m' H' := fun {s' H'} I' nx => by
      obtain ⟨m', hm, w'⟩ := hNx H' nx
      have pin' : ∀ b ∈ fp, ∀ o, s7.heap.get? b = some o → s'.heap.get? b = some o ∧ H' b = none := fun b hb o e =>
        let z := I'.pin (b, o) (List.mem_append_right _ (List.mem_append_right [] (mem_pinsAt hb e)))
        ⟨z.1, z.2.1⟩
      have hl : (wipe σ vs).length = σ8.length := by rw [← hw8]; exact wipe_length σ8 vs
      refine ⟨m', hm, i + 1, H', Inv.weak (Inv.unpinned I') hl (fun j v e => (wipe_some (by rw [hw8]; exact e)).1), T.keep (i + 1) s7.heap s'.heap st7 (fun b hb o e => (pin' b hb o e).1), fun b hb => ?_, w'⟩
      obtain ⟨o, e, _⟩ := T.obj (i + 1) s7.heap st7 b hb
      exact (pin' b hb o e).2
    cases b with
    | false => exact fin I9 q9
    | true =>
      refine thnF (pk.run ([] ++ pinsAt fp s7.heap) s9 σ8 H9 _ I9 q9) fun kv s10 h10 => ?_
      obtain ⟨y, H10, I10, r10, q10⟩ := h10
      refine thnF (pe.run ([] ++ pinsAt fp s7.heap) s10 σ8 H10 _ I10 q10) fun vv s11 h11 => ?_
      obtain ⟨z, H11, I11, r11, q11⟩ := h11
      refine thnF (hSt (X.blk s3 (upd H2 D0 (.dK [])) scope (compEnvC scope (cellsFrom (s3.heap.objs.size + 1) scope.names (cloFrom X.env.cells scope.names [])) s3.heap.objs.size X.env) fp) rfl rfl rfl rfl _ _ _ _ _ _ _ _ _ _ I11 r10 r11 q11) fun _ s12 h12 => ?_
      obtain ⟨H12, I12, nx⟩ := h12
      exact fin I12 nx
end
end DL

set_option Elab.async false
set_option linter.all false
set_option maxRecDepth 100000
set_option maxHeartbeats 1000000
namespace DL
open PySem PySem.Spec PyProof.Rows L2
/-! ### d[k] = v -/
def hasK (kd : List D) (n : NestedKey) : Bool := kd.any fun k => decide (nk k = n)
def dmapV (n : NestedKey) (v : D) : List D → List D → List D
  | k0 :: ks, v0 :: vs => (if nk k0 = n then v else v0) :: dmapV n v ks vs
  | _, vs => vs
def dputK (kd : List D) (k : D) : List D := if hasK kd (nk k) = true then kd else kd ++ [k]
def dputV (kd vd : List D) (k v : D) : List D := if hasK kd (nk k) = true then dmapV (nk k) v kd vd else vd ++ [v]
section
variable {c : Ct} {H : Hp}
theorem has_k : ∀ {kvs : List (Key × V)} {kd : List D}, LdA c H (kvs.map fun q => kV q.1) kd → ∀ {k : Key} {d : D}, Ld c H (kV k) d → (kvs.any fun kv => decide (kv.1 = k)) = hasK kd (nk d)
  | [], _, .nil, _, _, _ => rfl
  | q :: kvs, _, .cons h0 a, k, d, h => by
    have ih := has_k a h
    unfold hasK at ih ⊢
    rw [List.any_cons, List.any_cons, ih]
    congr 1
    exact decide_eq_decide.mpr (nk_inj h0 h).symm
theorem map_k : ∀ {kvs : List (Key × V)} {kd vd : List D}, LdA c H (kvs.map fun q => kV q.1) kd → LdA c H (kvs.map (·.2)) vd → ∀ {k : Key} {d : D}, Ld c H (kV k) d → ∀ {z : V} {e : D}, Ld c H z e →
    LdA c H ((kvs.map fun kv => if kv.1 = k then (kv.1, z) else kv).map fun q => kV q.1) kd ∧ LdA c H ((kvs.map fun kv => if kv.1 = k then (kv.1, z) else kv).map (·.2)) (dmapV (nk d) e kd vd)
  | [], _, _, .nil, .nil, _, _, _, _, _, _ => ⟨.nil, .nil⟩
  | q :: kvs, _, _, .cons h0 a, .cons h1 b, k, d, h, z, e, hz => by
    obtain ⟨i1, i2⟩ := map_k a b h hz
    by_cases w : q.1 = k
    · simp only [List.map_cons, if_pos w, dmapV, if_pos ((nk_inj h0 h).mpr w)]
      exact ⟨.cons h0 i1, .cons hz i2⟩
    · simp only [List.map_cons, if_neg w, dmapV, if_neg (fun x => w ((nk_inj h0 h).mp x))]
      exact ⟨.cons h0 i1, .cons h1 i2⟩
theorem put_kd {kvs : List (Key × V)} {kd vd : List D} (a : LdA c H (kvs.map fun q => kV q.1) kd) (b : LdA c H (kvs.map (·.2)) vd) {k : Key} {d : D} (h : Ld c H (kV k) d) {z : V} {e : D} (hz : Ld c H z e) :
    LdA c H ((putK kvs k z).map fun q => kV q.1) (dputK kd d) ∧ LdA c H ((putK kvs k z).map (·.2)) (dputV kd vd d e) := by
  unfold putK dputK dputV
  rw [has_k a h]
  split
  · exact map_k a b h hz
  · rw [List.map_append, List.map_append]
    exact ⟨LdA.app a (.cons h .nil), LdA.app b (.cons hz .nil)⟩
theorem has_t : ∀ {xs : List (NestedKey × Addr × V)} {kd : List D}, xs.map (·.1) = kd.map nk → ∀ n : NestedKey, (xs.find? fun x => decide (x.1 = n)).isSome = hasK kd n
  | [], [], _, _ => rfl
  | [], _ :: _, e, _ => by cases e
  | _ :: _, [], e, _ => by cases e
  | x :: xs, k :: kd, e, n => by
    rw [List.map_cons, List.map_cons] at e
    obtain ⟨e1, e2⟩ := List.cons.inj e
    have ih := has_t e2 n
    unfold hasK at ih ⊢
    rw [List.any_cons, List.find?_cons, e1]
    by_cases z : nk k = n
    · rw [decide_eq_true z]; rfl
    · rw [decide_eq_false z, ← ih]; rfl
theorem map_t : ∀ {xs : List (NestedKey × Addr × V)} {kd vd : List D}, xs.map (·.1) = kd.map nk → LdA c H (xs.map fun q => V.ref q.2.1) kd → LdA c H (xs.map (·.2.2)) vd → ∀ {n : NestedKey} {z : V} {e : D}, Ld c H z e →
    LdA c H ((xs.map fun x => if x.1 = n then (x.1, x.2.1, z) else x).map fun q => V.ref q.2.1) kd ∧ (xs.map fun x => if x.1 = n then (x.1, x.2.1, z) else x).map (·.1) = kd.map nk ∧ LdA c H ((xs.map fun x => if x.1 = n then (x.1, x.2.1, z) else x).map (·.2.2)) (dmapV n e kd vd)
  | [], _, _, e, .nil, .nil, _, _, _, _ => ⟨.nil, e, .nil⟩
  | x :: xs, _, _, e, .cons h0 a, .cons h1 b, n, z, d, hz => by
    rw [List.map_cons, List.map_cons] at e
    obtain ⟨e1, e2⟩ := List.cons.inj e
    obtain ⟨i1, i2, i3⟩ := map_t e2 a b (n := n) hz
    by_cases w : x.1 = n
    · simp only [List.map_cons, if_pos w, dmapV, if_pos (e1.symm.trans w)]
      exact ⟨.cons h0 i1, by rw [← e1, i2], .cons hz i3⟩
    · simp only [List.map_cons, if_neg w, dmapV, if_neg (fun q => w (e1.trans q))]
      exact ⟨.cons h0 i1, by rw [← e1, i2], .cons h1 i3⟩
theorem put_td {xs : List (NestedKey × Addr × V)} {kd vd : List D} (e : xs.map (·.1) = kd.map nk) (a : LdA c H (xs.map fun q => V.ref q.2.1) kd) (b : LdA c H (xs.map (·.2.2)) vd) {d : D} {p : Addr} (h : Ld c H (.ref p) d) {z : V} {u : D} (hz : Ld c H z u) :
    LdA c H ((stT xs (nk d) p z).map fun q => V.ref q.2.1) (dputK kd d) ∧ (stT xs (nk d) p z).map (·.1) = (dputK kd d).map nk ∧ LdA c H ((stT xs (nk d) p z).map (·.2.2)) (dputV kd vd d u) := by
  unfold stT dputK dputV
  rw [has_t e]
  split
  · exact map_t e a b hz
  · rw [List.map_append, List.map_append, List.map_append, List.map_append, e]
    exact ⟨LdA.app a (.cons h .nil), rfl, LdA.app b (.cons hz .nil)⟩
theorem all_put {kd : List D} {k : D} {b : Bool} (h : (kd.all fun d => decide (kkind d = some b)) = true) (hk : kkind k = some b) : ((dputK kd k).all fun d => decide (kkind d = some b)) = true := by
  unfold dputK
  split
  · exact h
  · rw [List.all_append, h]; simp [hk]
theorem stT_ne {xs : List (NestedKey × Addr × V)} {n : NestedKey} {b : Addr} {v : V} : stT xs n b v ≠ [] := by
  unfold stT
  split
  · rename_i h
    intro e
    have : xs = [] := List.map_eq_nil_iff.mp e
    rw [this] at h
    cases h
  · simp
end
/-- the stores of the layer below, as one -/
def rSetU (c : Ct) : TSet := fun o i v H Q => (∃ a kvs k, o = .ref a ∧ i = kV k ∧ H a = some (.dK kvs) ∧ kvs.length < sizeLine ∧ Q (upd H a (.dK (putK kvs k v)))) ∨ rSetT c o i v H Q ∨ rSetL o i v H Q
section
variable {X : Cx} {g : G}
theorem set_u (fx : Fx X g) : PSet X (rSetU g.c) := by
  intro pins s σ H o i v ov iv u Q I ro ri rv h
  rcases h with ⟨a, kvs, k, rfl, rfl, h1, h2, q⟩ | h | h
  · exact set_dict fx.u1 pins s σ H _ _ v ov iv u Q I ro ri rv ⟨a, _, rfl, DPut.k h1 h2, q⟩
  · exact set_td fx.k.symm fx.w.symm (by have := fx.u; omega) pins s σ H o i v ov iv u Q I ro ri rv h
  · exact set_list pins s σ H o i v ov iv u Q I ro ri rv h
theorem put_dct {os : List Addr} {H : Hp} {a : Addr} {kd vd : List D} {k d : D} {y z : V} (ha : a ∈ os) (hl : Own g os H a (.dct kd vd)) (ly : Lay g os H y k) (lz : Lay g os H z d) (sk : sameKind kd k = true) (hn : kd.length < lim) {Q : Hp → Prop}
    (q : ∀ o, Own g os (upd H a o) a (.dct (dputK kd k) (dputV kd vd k d)) → Q (upd H a o)) :
    (∃ kvs k', y = kV k' ∧ H a = some (.dK kvs) ∧ kvs.length < sizeLine ∧ Q (upd H a (.dK (putK kvs k' z)))) ∨ rSetT g.c (.ref a) y z H Q := by
  have hm : a ∈ mo g os := List.mem_append_right _ ha
  have hh : ∀ o, hd g os (upd H a o) = hd g os H := fun o => msk_upd hm
  unfold sameKind at sk
  cases ek : kkind k with
  | none => rw [ek] at sk; cases sk
  | some b =>
    simp only [ek] at sk
    have one : b = true → H a = some (.dK []) → kd = [] → vd = [] → rSetT g.c (.ref a) y z H Q := fun hb h1 hkd hvd => by
      subst hb
      refine ⟨a, k, rfl, Ld.same msk_le ly, ek, fun p hp => .inl ⟨h1, q _ (.inr ⟨[(nk k, p, z)], upd_same, ?_, ?_, ?_, ?_, by simp⟩)⟩⟩
      · show LdA g.c (hd g os (upd H a _)) _ _
        rw [hh, hkd]; rw [hp] at ly; exact .cons ly .nil
      · rw [hkd]; rfl
      · exact all_put sk ek
      · show LdA g.c (hd g os (upd H a _)) _ _
        rw [hh, hkd, hvd]; exact .cons lz .nil
    rcases hl with ⟨kvs, h1, h2, h3⟩ | ⟨xs, h1, h2, h3, h4, h5, h6⟩
    · cases b with
      | false =>
        obtain ⟨k', rfl⟩ := kkind_f ly ek
        obtain ⟨p1, p2⟩ := put_kd h2 h3 ly lz
        refine .inl ⟨kvs, k', rfl, h1, ?_, q _ (.inl ⟨_, upd_same, ?_, ?_⟩)⟩
        · have := h2.len
          rw [List.length_map] at this
          rw [this]
          exact Nat.lt_of_lt_of_le hn (by decide)
        · show LdA g.c (hd g os (upd H a _)) _ _
          rw [hh]; exact p1
        · show LdA g.c (hd g os (upd H a _)) _ _
          rw [hh]; exact p2
      | true =>
        rcases all_f h2 sk with e | e
        · subst e
          have e0 : kvs = [] := by
            cases kvs with
            | nil => rfl
            | cons _ _ => cases h2
          subst e0
          cases h3
          exact .inr (one rfl h1 rfl rfl)
        · cases e
    · have eb : b = true := by
        cases kd with
        | nil => cases xs with
          | nil => exact absurd rfl h6
          | cons _ _ => cases h3
        | cons k0 kd =>
          rw [List.all_cons, Bool.and_eq_true] at sk h4
          exact Option.some.inj ((of_decide_eq_true sk.1).symm.trans (of_decide_eq_true h4.1))
      subst eb
      refine .inr ⟨a, k, rfl, Ld.same msk_le ly, ek, fun p hp => .inr ⟨xs, kd, h1, LdA.same msk_le h2, h3, h4, ?_, ?_⟩⟩
      · have := h2.len
        rw [List.length_map] at this
        rw [this]
        exact Nat.lt_of_lt_of_le hn (by decide)
      · rw [hp] at ly
        obtain ⟨p1, p2, p3⟩ := put_td h3 h2 h5 ly lz
        refine q _ (.inr ⟨_, upd_same, ?_, p2, all_put h4 ek, ?_, stT_ne⟩)
        · show LdA g.c (hd g os (upd H a _)) _ _
          rw [hh]; exact p1
        · show LdA g.c (hd g os (upd H a _)) _ _
          rw [hh]; exact p3
/-- a name's own container takes another form -/
theorem Amb.writeS {os : List Addr} {σ : L2.St} {H : Hp} {ρ : List Sl} {t : Pn} (A : Amb g os σ H ρ t) {i : Nat} {d d' : D} {a : Addr} {o : HO} (e : ρ[i]? = some (.ow d)) (ea : σ[i]? = some (some (.ref a))) (hw : Own g os (upd H a o) a d') :
    Amb g os σ (upd H a o) (ρ.set i (.ow d')) t ∧ Same (hd g os H) (hd g os (upd H a o)) := by
  obtain ⟨a', h1, h2, _⟩ := A.sl i _ e
  rw [ea] at h1
  cases h1
  have hi : i < ρ.length := (List.getElem?_eq_some_iff.mp e).1
  have B : Amb g os σ H (ρ.set i .un) t := by
    refine ⟨by rw [List.length_set]; exact A.len, fun j s es => ?_, fun j k d1 e1 b ne z1 z2 => ?_, A.pres, A.new, A.live, A.slf, A.o0, A.pen⟩
    · rcases get_set es with ⟨rfl, _, rfl⟩ | ⟨nj, es⟩
      · trivial
      · exact A.sl j s es
    · rcases get_set z1 with ⟨_, _, w⟩ | ⟨n1, z1⟩
      · cases w
      · rcases get_set z2 with ⟨_, _, w⟩ | ⟨n2, z2⟩
        · cases w
        · exact A.dis j k d1 e1 b ne z1 z2
  have nw : NOw σ (ρ.set i .un) a := fun j dj z1 z2 => by
    rcases get_set z1 with ⟨_, _, w⟩ | ⟨n1, z1⟩
    · cases w
    · exact A.dis i j d dj a n1 e z1 ea z2
  have C := B.write (o := o) h2 nw
  have F := C.put i (.ref a) (.ow d') ⟨a, rfl, h2, hw⟩ fun _ _ p hp => by cases hp; exact nw
  rw [List.set_set] at F
  have es : σ.set i (some (.ref a)) = σ := by
    apply List.ext_getElem?
    intro j
    by_cases z : i = j
    · subst z
      rw [List.getElem?_set_self (by rw [← A.len]; exact hi), ea]
    · rw [List.getElem?_set_ne z]
  rw [es] at F
  refine ⟨F, ?_⟩
  rw [show hd g os (upd H a o) = hd g os H from msk_upd (List.mem_append_right _ h2)]
  exact Same.refl _
/-- x[k] = v for a name of one's own container -/
def isOw : Option Sl → Bool
  | some (.ow _) => true
  | _ => false
theorem isOw_ok {s : Option Sl} (h : isOw s = true) : ∃ d, s = some (.ow d) := by
  cases s with
  | none => cases h
  | some s => cases s <;> first | exact ⟨_, rfl⟩ | cases h
def dsput (i : Nat) (v k : D) : M Fl := fun ρ t => match ρ[i]? with
  | some (.ow (.dct kd vd)) => if sameKind kd k = true ∧ kd.length < lim then .ok .nx (ρ.set i (.ow (.dct (dputK kd k) (dputV kd vd k v)))) t else .bad
  | some (.ow (.lst ds)) => match k with
    | .int j => match ixN ds.length j with
      | some n => .ok .nx (ρ.set i (.ow (.lst (ds.set n v)))) t
      | none => .bad
    | _ => .bad
  | _ => .bad
def sput (i : Nat) (fv fk : M D) : M Fl := mb fv fun v ρ t => if isOw ρ[i]? = true then mb fk (fun k => dsput i v k) ρ t else .bad
theorem ss_put {i : Nat} {x : Str} {e ek : Expr} {px ps pos : Pos} {fv fk : M D} (fx : Fx X g) (hx : PE X (.Name x px) (tVar i)) (he : SE X g e fv) (hk : SE X g ek fk)
    (ha : ∀ v, assign (.Subscript (.Name x px) ek ps) X.env v = (do
      let ov ← holding [v] (eval (.Name x px) X.env)
      let iv ← holding [v, ov] (eval ek X.env)
      standAt ps
      holding [v, ov, iv] (setItem ov iv v)
      release [v, ov, iv] []) := by intro _; rfl)
    (hs : swapsWithSole [.Subscript (.Name x px) ek ps] e pos.line X.env = pure false := by rfl)
    (hw : swappedStores [.Subscript (.Name x px) ek ps] e X.env = pure none := by rfl) (h1 : (assignEach [.Subscript (.Name x px) ek ps] X.env).map (·.2) = [assign (.Subscript (.Name x px) ek ps) X.env] := by rfl) :
    SS X g (.Assign [.Subscript (.Name x px) ek ps] e pos) (sput i fv fk) :=
  PS.imp (ps_asg he (pg_sub hx hk (set_u fx) ha) hs hw h1) fun Dn σ H q => by
    obtain ⟨os, ρ, t, A, q⟩ := q
    refine ⟨os, ρ, t, A, post_mono (post_bind q) (fun v ρ1 t1 q1 vv H1 os1 A1 l1 s1 => ?_) fun _ _ _ _ h => h⟩
    by_cases hi : isOw ρ1[i]? = true
    · rw [if_pos hi] at q1
      obtain ⟨d1, e1⟩ := isOw_ok hi
      obtain ⟨a, ha, _, _⟩ := A1.sl i _ e1
      refine ⟨_, ha, os1, ρ1, t1, A1, post_mono (post_bind q1) (fun k ρ2 t2 q2 y H2 os2 A2 l2 s2 => ?_) fun _ _ _ _ h => h⟩
      unfold dsput at q2
      have lv := Ld.same s2.s l1
      cases e2 : ρ2[i]? with
      | none => simp only [e2] at q2; exact q2.elim
      | some s =>
        cases s with
        | ow d =>
          obtain ⟨a2, ha2, m2, ow⟩ := A2.sl i _ e2
          rw [ha] at ha2
          cases ha2
          cases d with
          | dct kd vd =>
            simp only [e2] at q2
            by_cases c : sameKind kd k = true ∧ kd.length < lim
            · rw [if_pos c] at q2
              rcases put_dct m2 ow l2 lv c.1 c.2 (Q := fun H4 => Dn.nx σ H4) (fun o w => by
                obtain ⟨B, s3⟩ := A2.writeS e2 ha w
                exact q2 σ _ os2 B ((s1.trans s2).s.trans s3)) with ⟨kvs, k', rfl, h1, h2, h3⟩ | h
              · exact .inl ⟨a, kvs, k', rfl, rfl, h1, h2, h3⟩
              · exact .inr (.inl h)
            · rw [if_neg c] at q2; exact q2.elim
          | lst ds =>
            simp only [e2] at q2
            cases l2 with
            | int j =>
              simp only at q2
              cases ej : ixN ds.length j with
              | none => simp only [ej] at q2; exact q2.elim
              | some n =>
                simp only [ej] at q2
                obtain ⟨vs, h1, h2⟩ := ow
                refine .inr (.inr ⟨a, vs, j, n, rfl, rfl, h1, by rw [h2.len]; exact ej, ?_⟩)
                obtain ⟨B, s3⟩ := A2.writeS (o := .lst (vs.set n vv)) (d' := .lst (ds.set n v)) e2 ha ⟨_, upd_same, by
                  show LdA g.c (hd g os2 (upd H2 a _)) _ _
                  rw [show hd g os2 (upd H2 a (.lst (vs.set n vv))) = hd g os2 H2 from msk_upd (List.mem_append_right _ m2)]
                  exact LdA.set h2 lv n⟩
                exact q2 σ _ os2 B ((s1.trans s2).s.trans s3)
            | _ => exact q2.elim
          | _ => simp only [e2] at q2; exact q2.elim
        | _ => simp only [e2] at q2; exact q2.elim
    · rw [if_neg hi] at q1; exact q1.elim
/-! x.append(e) -/
def isOwL : Option Sl → Bool
  | some (.ow (.lst _)) => true
  | _ => false
theorem isOwL_ok {s : Option Sl} (h : isOwL s = true) : ∃ ds, s = some (.ow (.lst ds)) := by
  cases s with
  | none => cases h
  | some s => cases s with
    | ow d => cases d <;> first | exact ⟨_, rfl⟩ | cases h
    | _ => cases h
def sapp (i : Nat) (f : M D) : M Fl := fun ρ t => if isOwL ρ[i]? = true then mb f (fun v ρ t => match ρ[i]? with
  | some (.ow (.lst ds)) => if ds.length < lim then .ok .nx (ρ.set i (.ow (.lst (ds ++ [v])))) t else .bad
  | _ => .bad) ρ t else .bad
theorem ss_append {i : Nat} {x : Str} {e : Expr} {px ap cp pos : Pos} {f : M D} (hx : PE X (.Name x px) (tVar i)) (he : SE X g e f)
    (hab : attributeBase (.Name x px) "append" X.env (eval (.Name x px) X.env) = eval (.Name x px) X.env := by rfl)
    (h1 : ((((backTo cp (starEach [e] X.env)).all fun x => !x.1) && (backToKw cp (keywordEach [] X.env)).all fun x => x.1.isSome) && decide ((([e] : List Expr).length + ([] : List (Option Str × Expr)).length + if ([] : List (Option Str × Expr)).isEmpty = true then 0 else 1) < 30)) = true := by rfl)
    (h2 : (ap.endLine == cp.line) = true := by rfl) (h3 : starEach (e :: []) X.env = (false, eval e X.env) :: starEach [] X.env := by rfl) (h4 : ((backTo cp (starEach [] X.env)).any fun x => x.1) = false := by rfl)
    (hs : swapsWith (.Call (.Attribute (.Name x px) "append" ap) [e] [] cp) none pos.line X.env = pure false := by rfl) :
    SS X g (.Expr (.Call (.Attribute (.Name x px) "append" ap) [e] [] cp) pos) (sapp i f) :=
  PS.imp (ps_expr (pe_bm PySem.F.plainAttrs_list PySem.F.slot_list_append PySem.F.type_list_append mt_append hx (pa_cons he pa_nil h3) hab h1 h2 h3 h4) hs) fun Dn σ H q => by
    obtain ⟨os, ρ, t, A, q⟩ := q
    unfold sapp at q
    by_cases hi : isOwL ρ[i]? = true
    · rw [if_pos hi] at q
      obtain ⟨d1, e1⟩ := isOwL_ok hi
      obtain ⟨a, ha, m, vs0, hv0, _⟩ := A.sl i _ e1
      refine ⟨_, ha, ?_, os, ρ, t, A, post_mono (post_bind q) (fun v ρ1 t1 q1 y H1 os1 A1 l1 s1 => ?_) fun _ _ _ _ h => h⟩
      · exact .inl ⟨rfl, vs0, SqL.of hv0⟩
      · cases e2 : ρ1[i]? with
        | none => simp only [e2] at q1; exact q1.elim
        | some s =>
          cases s with
          | ow d =>
            obtain ⟨a2, ha2, m2, ow⟩ := A1.sl i _ e2
            rw [ha] at ha2
            cases ha2
            cases d with
            | lst ds =>
              simp only [e2] at q1
              by_cases c : ds.length < lim
              · rw [if_pos c] at q1
                obtain ⟨vs, h1, h2⟩ := ow
                refine ⟨a, vs, y, rfl, rfl, h1, by rw [h2.len]; exact Nat.lt_of_lt_of_le c (by decide), ?_⟩
                obtain ⟨B, s3⟩ := A1.writeS (o := .lst (vs ++ [y])) (d' := .lst (ds ++ [v])) e2 ha ⟨_, upd_same, by
                  show LdA g.c (hd g os1 (upd H1 a _)) _ _
                  rw [show hd g os1 (upd H1 a (.lst (vs ++ [y]))) = hd g os1 H1 from msk_upd (List.mem_append_right _ m2)]
                  exact LdA.app h2 (.cons l1 .nil)⟩
                exact q1 σ _ os1 B (s1.s.trans s3)
              · rw [if_neg c] at q1; exact q1.elim
            | _ => simp only [e2] at q1; exact q1.elim
          | _ => simp only [e2] at q1; exact q1.elim
    · rw [if_neg hi] at q; exact q.elim
end
end DL

set_option Elab.async false
set_option linter.all false
set_option maxRecDepth 100000
set_option maxHeartbeats 1000000
namespace DL
open PySem PySem.Spec PyProof.Rows L2
/-! ### dict comprehensions -/
def stD (c : Ct) : Stp := fun H D0 y z Nx => (∃ kvs k', y = kV k' ∧ H D0 = some (.dK kvs) ∧ kvs.length < sizeLine ∧ Nx (upd H D0 (.dK (putK kvs k' z)))) ∨ rSetT c (.ref D0) y z H Nx
theorem st_ok {X : Cx} {g : G} (fx : Fx X g) : StOk X (stD g.c) := by
  intro X' hp hw hK hA pins σ H s D0 y z u r Nx I ry rz h
  rw [← hp, ← hw, ← hA]
  have hu : X'.A.units + 60 < cLine := by rw [hA]; have := fx.u; omega
  rcases h with ⟨kvs, k', rfl, h1, h2, q⟩ | ⟨a, d, e, h1, h2, h3⟩
  · exact d_dictSet I h1 h2 ry rz fun s' I' => ⟨_, I', q⟩
  · cases e
    have hc : g.c.K = X'.K := by rw [hK]; exact fx.k.symm
    have hw' : g.c.w = X'.w := by rw [hw]; exact fx.w.symm
    obtain ⟨b, rfl, hb⟩ := tup_key I hc h1 h2
    cases ry
    rcases h3 b rfl with ⟨e, q⟩ | ⟨xs, kd, e, k1, k2, k3, k4, q⟩
    · obtain ⟨m1, m2⟩ := dk_td I (.inl e)
      refine d_dictSetT (xs := []) hu I (by rw [e]; trivial) m1 (by decide) .nil m2 hb rz fun s' I' => ⟨_, I', ?_⟩
      rw [hw'] at q
      exact q
    · rw [hw'] at e
      obtain ⟨m1, m2, ys, m3, m4⟩ := td_dict I (.inl e) (tup_keys I hc k1 k2 k3)
      refine d_dictSetT hu I (by rw [e]; trivial) m2 k4 m3 m4 hb rz fun s' I' => ⟨_, I', ?_⟩
      rw [hw'] at q
      exact q
def dcGo (tgt : D → M Unit) (tst : M Bool) (ek ev : M D) (vs : List Nat) (ρ : List Sl) : List D → List D → List D → Pn → Ou (List D × List D)
  | [], kd, vd, t => .ok (kd, vd) ρ t
  | d :: ds, kd, vd, t => ((tgt d) (unS ρ vs) t).bind fun _ ρ1 t1 => (tst ρ1 t1).bind fun b ρ2 t2 =>
    if b = true then (ek ρ2 t2).bind fun k ρ3 t3 => (ev ρ3 t3).bind fun v _ t4 => if sameKind kd k = true ∧ kd.length < lim then dcGo tgt tst ek ev vs ρ ds (dputK kd k) (dputV kd vd k v) t4 else .bad
    else dcGo tgt tst ek ev vs ρ ds kd vd t2
def dcD (it : M (List D)) (tgt : D → M Unit) (tst : M Bool) (ek ev : M D) (vs : List Nat) : M D := mb it fun ds ρ t => (dcGo tgt tst ek ev vs ρ ds [] [] t).bind fun r ρ' t' => .ok (.dct r.1 r.2) ρ' t'
section
variable {X : Cx} {g : G}
theorem st_dct {os : List Addr} {H : Hp} {a : Addr} {kd vd : List D} {k d : D} {y z : V} (ha : a ∈ os) (hl : Own g os H a (.dct kd vd)) (ly : Lay g os H y k) (lz : Lay g os H z d) (sk : sameKind kd k = true) (hn : kd.length < lim) {Q : Hp → Prop}
    (q : ∀ o, Own g os (upd H a o) a (.dct (dputK kd k) (dputV kd vd k d)) → Q (upd H a o)) : stD g.c H a y z Q := put_dct ha hl ly lz sk hn q
theorem sf_dc {kx vx tg iter : Expr} {ifs : List Expr} {scope : Scope} {own : List (Str × Nat)} {pos : Pos} {it : M (List D)} {is : List Nat} {tgt : D → M Unit} {tst : M Bool} {ek ev : M D} (fx : Fx X g) (hi : SI X g tg iter it) (ok : BlkOk X.N X.env.scope scope own)
    (hg : ∀ (s : Shared) (H : Hp) (C : Addr) (cl : List (Str × Addr)) (fp : List Addr), SG (X.blk s H scope (compEnvC scope cl C X.env) fp) g tg is tgt)
    (ht : ∀ (s : Shared) (H : Hp) (C : Addr) (cl : List (Str × Addr)) (fp : List Addr), PTs (X.blk s H scope (compEnvC scope cl C X.env) fp) ifs (bD g tst))
    (hk : ∀ (s : Shared) (H : Hp) (C : Addr) (cl : List (Str × Addr)) (fp : List Addr), SE (X.blk s H scope (compEnvC scope cl C X.env) fp) g kx ek)
    (he : ∀ (s : Shared) (H : Hp) (C : Addr) (cl : List (Str × Addr)) (fp : List Addr), SE (X.blk s H scope (compEnvC scope cl C X.env) fp) g vx ev)
    (hv : ∀ j ∈ is, j ∈ own.map (·.2) := by decide) (hs : ∀ (x : Value), foldedSetIterable iter X.env x = pure x := by intro _; rfl) :
    SF X g (.DictComp kx vx [⟨tg, iter, ifs, 0⟩] scope pos) (dcD it tgt tst ek ev (own.map (·.2))) :=
  PE.imp (pe_dcR fx.c fx.n hi ok hg ht hk he hs (st_ok fx)) fun σ H Q q => by
    obtain ⟨os, ρ, t, A, q⟩ := q
    refine ⟨os, ρ, t, A, post_mono (post_bind q) (fun ds ρ1 t1 q1 J H1 os1 A1 s1 wk => ?_) fun _ _ _ _ h => h⟩
    intro Da hD
    obtain ⟨A2, n2, w2, s2⟩ := own_new (o := HO.dK []) A1 hD
    have ff : ∀ b ∈ os1, b ≠ Da := fun b hb z => by
      obtain ⟨o, e⟩ := A1.live b (List.mem_append_right _ hb)
      rw [z, hD] at e; cases e
    generalize hvs : own.map (·.2) = vs at *
    refine ⟨fun i m H' => m = ds.length - i ∧ i ≤ ds.length ∧ ∃ t' kd vd, Amb g (Da :: os1) σ H' ρ1 t' ∧ Own g (Da :: os1) H' Da (.dct kd vd) ∧ Go g os1 H1 (Da :: os1) H' ∧
      (dcGo tgt tst ek ev vs ρ1 (ds.drop i) kd vd t').post (fun r ρ' t' => ∀ p H' os', Amb g (p :: os') σ H' ρ' t' → Own g (p :: os') H' p (.dct r.1 r.2) → (p ∉ mo g os' ∧ H p = none) → NOw σ ρ' p → Go g os H (p :: os') H' → Q (.ref p) H') noX,
      ⟨ds.length, by simp, Nat.zero_le _, t1, [], [], A2, .inl ⟨[], upd_same, .nil, .nil⟩, s2, by rw [List.drop_zero]; exact post_bind q1⟩, ?_⟩
    rintro i m H2 ⟨rfl, hi, t2, kd, vd, A2, o2, s2, q2⟩
    obtain ⟨wz, wy⟩ := wk i _ H2 s2.s A2.live
    by_cases hlt : i < ds.length
    · obtain ⟨go, yl⟩ := wy ds[i] (List.getElem?_eq_getElem hlt)
      rw [List.drop_eq_getElem_cons hlt] at q2
      refine .inr ⟨go, fun H' => ∃ t' kd vd, Amb g (Da :: os1) σ H' ρ1 t' ∧ Own g (Da :: os1) H' Da (.dct kd vd) ∧ Go g os1 H1 (Da :: os1) H' ∧
          (dcGo tgt tst ek ev vs ρ1 (ds.drop (i + 1)) kd vd t').post (fun r ρ' t' => ∀ p H' os', Amb g (p :: os') σ H' ρ' t' → Own g (p :: os') H' p (.dct r.1 r.2) → (p ∉ mo g os' ∧ H p = none) → NOw σ ρ' p → Go g os H (p :: os') H' → Q (.ref p) H') noX,
        fun H' ⟨t', kd, vd, a, b, c, d⟩ => ⟨ds.length - (i + 1), by omega, rfl, hlt, t', kd, vd, a, b, c, d⟩, fun x H3 y => ?_⟩
      obtain ⟨s3, l3⟩ := yl x H3 y
      have q2 := post_bind (show (((tgt ds[i]) (unS ρ1 vs) t2).bind _).post _ _ from q2)
      have A3 := (A2.same s3).wipe vs
      refine ⟨_, unS ρ1 vs, t2, ds[i], A3, l3, post_mono q2 (fun _ ρ4 t4 q4 σ4 A4 k4 n4 => ?_) fun _ _ _ _ h => h⟩
      refine ⟨wipe_eq hv n4 k4, _, ρ4, t4, A4, post_mono (post_bind q4) (fun b ρ5 t5 q5 H5 os5 A5 s5 => ?_) fun _ _ _ _ h => h⟩
      have g5 := (Go.same (g := g) (os := Da :: os1) s3).trans s5
      by_cases hb : b = true
      · show ite (b = true) _ _
        rw [if_pos hb] at q5 ⊢
        refine ⟨os5, ρ5, t5, A5, post_mono (post_bind q5) (fun k ρ6 t6 q6 u H6 os6 A6 l6 s6 => ?_) fun _ _ _ _ h => h⟩
        refine ⟨os6, ρ6, t6, A6, post_mono (post_bind q6) (fun d ρ7 t7 q7 v H7 os7 A7 l7 s7 => ?_) fun _ _ _ _ h => h⟩
        have g7 := (g5.trans s6).trans s7
        have B := A2.go g7 A7
        have o7 : Own g (Da :: os1) H7 Da (.dct kd vd) := o2.same g7.base.s (g7.k Da List.mem_cons_self).2
        have lk : Lay g (Da :: os1) H7 u k := Ld.same g7.back (Ld.same s7.s l6)
        by_cases hc : sameKind kd k = true ∧ kd.length < lim
        · rw [if_pos hc] at q7
          show stD g.c H7 Da u v _
          refine st_dct List.mem_cons_self o7 lk (Ld.same g7.back l7) hc.1 hc.2 fun o w => ⟨t7, _, _, B.write List.mem_cons_self w2, w, ?_, q7⟩
          have g8 := s2.trans g7.base
          refine ⟨?_, fun b hb => ⟨(g8.k b hb).1, fun o' e => by rw [upd_ne (ff b hb)]; exact (g8.k b hb).2 o' e⟩, fun x C dx e o' z => ?_⟩
          · rw [show hd g (Da :: os1) (upd H7 Da o) = hd g (Da :: os1) H7 from msk_upd (List.mem_append_right _ List.mem_cons_self)]
            exact g8.s
          · rw [upd_ne fun w => by rw [w, hD] at z; cases z]
            exact g8.x x C dx e o' z
        · rw [if_neg hc] at q7; exact q7.elim
      · show ite (b = true) _ _
        rw [if_neg hb] at q5 ⊢
        exact ⟨t5, kd, vd, A2.go g5 A5, o2.same g5.base.s (g5.k Da List.mem_cons_self).2, s2.trans g5.base, q5⟩
    · have e : i = ds.length := by omega
      subst e
      rw [List.drop_length] at q2
      exact .inl ⟨wz rfl, q2 Da H2 os1 A2 o2 ⟨n2, s1.none A1 hD⟩ w2 (s1.trans s2)⟩
end
/-! ### range(a, b), zip, enumerate -/
section
variable {X : Cx} {g : G}
theorem si_range2 {tg a b : Expr} {p pos : Pos} {f : M (List D)} (fx : Fx X g) (hg : Gl X "range") (hm : g.c.mg "range" = none) (ha : SA X g [a, b] f) (hs : starEach [a, b] X.env = [(false, eval a X.env), (false, eval b X.env)] := by rfl) (hs2 : starEach [b] X.env = [(false, eval b X.env)] := by rfl) :
    SI X g tg (.Call (.Name "range" p) [a, b] [] pos) (mb f drng2) :=
  PI.imp (pi_range2 hg (by rw [fx.m]; exact hm) ha hs hs2) fun σ H R q => by
    obtain ⟨os, ρ, t, A, q⟩ := q
    refine ⟨os, ρ, t, A, post_mono (post_bind q) (fun ds ρ1 t1 q1 vs H1 os1 A1 l1 s1 => ?_) fun _ _ _ _ h => h⟩
    cases l1 with
    | nil => exact q1.elim
    | cons l a => cases a with
      | nil => cases l <;> exact q1.elim
      | cons l2 a => cases a with
        | cons _ _ => cases l <;> cases l2 <;> exact q1.elim
        | nil => cases l with
          | int i => cases l2 with
            | int j =>
              simp only [drng2] at q1
              rcases post_if q1 with ⟨c, q1⟩ | ⟨_, q1⟩
              · exact ⟨i, j, rfl, ⟨c.1, c.2.1, c.2.2.1, c.2.2.2⟩, q1 _ H1 os1 A1 s1 wk_rng⟩
              · exact q1.elim
            | _ => exact q1.elim
          | _ => cases l2 <;> exact q1.elim
def enumL : Nat → List D → List D
  | _, [] => []
  | n, d :: ds => .tup [.int n, d] :: enumL (n + 1) ds
theorem enumL_get : ∀ (ds : List D) (n i : Nat), (enumL n ds)[i]? = (ds[i]?).map fun d => .tup [.int ((n + i : Nat) : Int), d]
  | [], n, i => by simp [enumL]
  | d :: ds, n, 0 => by simp [enumL]
  | d :: ds, n, i + 1 => by
    have := enumL_get ds (n + 1) i
    simp only [enumL, List.getElem?_cons_succ]
    rw [this, show n + 1 + i = n + (i + 1) by omega]
theorem enumL_len : ∀ (ds : List D) (n : Nat), (enumL n ds).length = ds.length
  | [], _ => rfl
  | d :: ds, n => congrArg Nat.succ (enumL_len ds (n + 1))
def denum : List D → M (List D)
  | [.lst ds] => mr (enumL 0 ds)
  | _ => mx
theorem wk_enum {os : List Addr} {H : Hp} {a : Addr} {xs : List V} {ds : List D} (h : hd g os H a = some (.lst xs)) (ax : LayA g os H xs ds) : Wk g os H (Ite g.c.K a) (enumL 0 ds) := fun i os' H' s lv => by
  have h' := msk_le _ _ (s _ _ h)
  refine ⟨fun e => ⟨xs, SqL.of h', by rw [ax.len, ← enumL_len ds 0]; omega⟩, fun d e => ?_⟩
  rw [enumL_get] at e
  cases ed : ds[i]? with
  | none => rw [ed] at e; cases e
  | some d0 =>
    rw [ed] at e
    cases e
    obtain ⟨v, e1, e2⟩ := ax.get' ed
    refine ⟨⟨xs, v, SqL.of h', e1⟩, fun x H2 y => ?_⟩
    obtain ⟨T, x0, rfl, hT, rfl, y⟩ := y
    have := y xs (SqL.of h')
    rw [e1] at this
    cases this
    have sm : Same H' (upd H' T (.tup [V.int (i : Int), v])) := same_upd hT
    refine ⟨sm, ?_⟩
    have nT : T ∉ mo g os' := fun z => by
      obtain ⟨o, e⟩ := lv T z
      rw [hT] at e; cases e
    refine .tup (SqT.of (by rw [show hd g os' (upd H' T (.tup [V.int (i : Int), v])) T = upd H' T (.tup [V.int (i : Int), v]) T from msk_out nT]; exact upd_same)) ?_
    refine .cons ?_ (.cons (Ld.same (hd_same sm) (Ld.same s e2)) .nil)
    rw [Nat.zero_add]
    exact .int _
theorem si_enum {e : Expr} {p pos tpos : Pos} {elts : List Expr} {kk : Nat} {f : M (List D)} (fx : Fx X g) (hg : Gl X "enumerate") (hm : g.c.mg "enumerate" = none) (ha : SA X g [e] f) (hs : starEach [e] X.env = [(false, eval e X.env)] := by rfl) :
    SI X g (.Tuple elts kk tpos) (.Call (.Name "enumerate" p) [e] [] pos) (mb f denum) :=
  PI.imp (pi_enum hg (by rw [fx.m]; exact hm) ha hs) fun σ H R q => by
    obtain ⟨os, ρ, t, A, q⟩ := q
    refine ⟨os, ρ, t, A, post_mono (post_bind q) (fun ds ρ1 t1 q1 vs H1 os1 A1 l1 s1 => ?_) fun _ _ _ _ h => h⟩
    cases l1 with
    | nil => exact q1.elim
    | cons l a => cases a with
      | cons _ _ => cases l <;> exact q1.elim
      | nil => cases l with
        | @lst b xs es hx ax =>
          rw [fx.k]
          exact ⟨b, xs, rfl, SqL.of (msk_le _ _ hx), q1 _ H1 os1 A1 s1 (wk_enum hx ax)⟩
        | _ => exact q1.elim
end
end DL

set_option Elab.async false
set_option linter.all false
set_option maxRecDepth 100000
set_option maxHeartbeats 1000000
namespace DL
open PySem PySem.Spec PyProof.Rows L2
/-! ### defs and calls -/
def pn0 : Pn := ⟨[], 0, 0⟩
/-- slots at the entry -/
def ent (n : Nat) (ss : List Sl) : List Sl := ss ++ List.replicate (n - ss.length) .un
/-- what a body gives -/
def runD (f : M Fl) (ρ : List Sl) (t : Pn) : Ou D := (f ρ t).bind fun fl ρ' t' => match fl with
  | .nx => .ok .non ρ' t'
  | .rt d => .ok d ρ' t'
  | _ => .bad
/-- what __init__ makes -/
def runI (f : M Fl) (ρ : List Sl) (t : Pn) : Ou (List Str × List D) := (f ρ t).bind fun fl ρ' t' => match fl with
  | .nx => match (ρ'[0]? : Option Sl) with
    | some (Sl.sf ns vs) => .ok (ns, vs) ρ' t'
    | _ => .bad
  | _ => .bad
/-- what defs do with data -/
def fn0 (np n : Nat) (fM : M Fl) (ds : List D) : Ou D := if ds.length = np then runD fM (ent n (ds.map .im)) pn0 else .bad
def fnP (np n : Nat) (fM : M Fl) (ds : List D) (t : Pn) : Ou D := if ds.length + 1 = np then runD fM (ent n (.pn :: ds.map .im)) t else .bad
def fnI (np n : Nat) (fM : M Fl) (ds : List D) : Ou (List Str × List D) := if ds.length + 1 = np then runI fM (ent n (.sf [] [] :: ds.map .im)) pn0 else .bad
def keep (O : List Addr) (H H' : Hp) : Prop := ∀ b ∈ O, ∀ o, H b = some o → H' b = some o
/-- the promise of a def of data -/
def sp0 (c : Ct) (fn : List D → Ou D) : Sp := fun vs H Q _ => ∃ (O : List Addr) (ds : List D), LdA c (msk O H) vs ds ∧ (∀ a ∈ O, ∃ o, H a = some o) ∧
  (fn ds).post (fun d _ _ => ∀ v H', Ld c (msk O H') v d → Same (msk O H) (msk O H') → keep O H H' → Q v H') noX
/-- .. whose first argument is the law's pen -/
def spP (c : Ct) (n : Str) (fn : List D → Pn → Ou D) : Sp := fun vs H Q _ => ∃ (O : List Addr) (p l : Addr) (t : Pn) (us : List V) (ds : List D), vs = .ref p :: us ∧ LdA c (msk O H) us ds ∧ (∀ a ∈ O, ∃ o, H a = some o) ∧ PenAt H p l n t ∧ p ∈ O ∧ l ∉ O ∧
  (fn ds t).post (fun d _ t' => ∀ v H', Ld c (msk O H') v d → Same (msk O H) (msk O H') → (∀ b ∈ O, b ≠ p → ∀ o, H b = some o → H' b = some o) → PenAt H' p l n t' → Q v H') noX
/-- .. of __init__ -/
def spI (c : Ct) (n : Str) (fn : List D → Ou (List Str × List D)) : Sp := fun vs H Q _ => ∃ (O : List Addr) (x C dx : Addr) (us : List V) (ds : List D), vs = .ref x :: us ∧ ClsOf c n C ∧ LdA c (msk (x :: O) H) us ds ∧ (∀ a ∈ O, ∃ o, H a = some o) ∧ x ∉ O ∧ H x = some (.ins C dx []) ∧
  (fn ds).post (fun r _ _ => ∀ H', Ld c (msk O H') (.ref x) (.obj n r.1 r.2) → Same (msk (x :: O) H) (msk O H') → keep O H H' → Q .non H') noX
section
variable {c : Ct} {g : G} {os : List Addr} {σ : L2.St} {H : Hp} {ρ : List Sl} {t : Pn}
theorem ent_len {n : Nat} {ss : List Sl} {vs : List V} {N : List Str} (hn : N.length = n) (h : ss.length = vs.length) : (ent n ss).length = (L2.start N vs).length := by
  unfold ent L2.start
  rw [List.length_append, List.length_append, List.length_replicate, List.length_replicate, List.length_map, hn, h]
theorem start_get {N : List Str} {vs : List V} {i : Nat} {v : V} (h : vs[i]? = some v) : (L2.start N vs)[i]? = some (some v) := by
  unfold L2.start
  rw [List.getElem?_append_left (by rw [List.length_map]; exact (List.getElem?_eq_some_iff.mp h).1), List.getElem?_map, h]; rfl
theorem ent_get {n : Nat} {ss : List Sl} {i : Nat} {s : Sl} (h : (ent n ss)[i]? = some s) : ss[i]? = some s ∨ s = .un := by
  unfold ent at h
  by_cases z : i < ss.length
  · rw [List.getElem?_append_left z] at h; exact .inl h
  · rw [List.getElem?_append_right (by omega)] at h
    exact .inr (List.eq_of_mem_replicate (List.mem_of_getElem? h))
/-- the state at the entry -/
theorem amb_ent {N : List Str} {n : Nat} {vs : List V} {ss : List Sl} (hn : N.length = n) (h0 : g.H0 = H) (hl : ss.length = vs.length) (hs : ∀ (i : Nat) (s : Sl) (v : V), ss[i]? = some s → vs[i]? = some v → SlOk g [] H (some (some v)) s ∧ ∀ d, s ≠ .ow d) (lv : ∀ a ∈ g.O, ∃ o, H a = some o) (sf : ∀ x C dx, g.slf = some (x, C, dx) → x ∈ g.O) (pn : PenOk g H t) :
    Amb g [] (L2.start N vs) H (ent n ss) t where
  len := ent_len hn hl
  sl := fun i s e => by
    rcases ent_get e with h | rfl
    · obtain ⟨v, hv⟩ : ∃ v, vs[i]? = some v := ⟨_, List.getElem?_eq_getElem (by rw [← hl]; exact (List.getElem?_eq_some_iff.mp h).1)⟩
      rw [start_get hv]
      exact (hs i s v h hv).1
    · trivial
  dis := fun i j d e a ne h1 h2 h3 h4 => by
    rcases ent_get h1 with h | h
    · obtain ⟨v, hv⟩ : ∃ v, vs[i]? = some v := ⟨_, List.getElem?_eq_getElem (by rw [← hl]; exact (List.getElem?_eq_some_iff.mp h).1)⟩
      exact (hs i _ v h hv).2 d rfl
    · cases h
  pres := by rw [h0]; exact Pres.refl
  new := fun a ha => by cases ha
  live := fun a ha => lv a (by simpa [mo] using ha)
  slf := sf
  o0 := fun a ha => by rw [h0]; exact lv a ha
  pen := pn
theorem LdA.im {B : Hp} {vs : List V} {ds : List D} (a : LdA c B vs ds) {i : Nat} {s : Sl} {v : V} (h : (ds.map Sl.im)[i]? = some s) (hv : vs[i]? = some v) : ∃ d, s = .im d ∧ Ld c B v d := by
  rw [List.getElem?_map] at h
  cases e : ds[i]? with
  | none => rw [e] at h; cases h
  | some d =>
    rw [e] at h
    cases h
    obtain ⟨v', e1, e2⟩ := a.get' e
    rw [hv] at e1
    cases e1
    exact ⟨d, rfl, e2⟩
theorem mo_nil : mo g [] = g.O := List.append_nil _
end
/-- the layer's context of a body -/
abbrev bX (P : Program) (w : World) (K : PySem.W.Frag) (mg : Str → Option Value) (base : Heap) (N : List Str) (q : Str) (sc : Scope) (f : Addr) (cdv : Value) (A : Around) (outer : List Env) (s : Shared) (H : Hp) (E : XK) : Cx := (cxOf CX0 P w K mg base N q sc f cdv A outer s H E).nox
section
variable {c : Ct} {P : Program} {base : Heap} {x q : Str} {params : Arguments} {body : List Stmt} {scope : Scope} {dvs : List V} {kws : List (Str × V)} {f : Addr} {fd : FuncData} {N ps : List Str} {k : Nat}
theorem fx_of {g : G} {cdv : Value} {A : Around} {outer : List Env} {s : Shared} {H : Hp} {E : XK} (S : FnScope N ps scope) (hr : Room k (A.deeper (envOfC q scope s.heap.objs.size f cdv))) (hg : g.c = c) : Fx (bX P c.w c.K c.mg base N q scope f cdv A outer s H E) g :=
  ⟨by rw [hg]; rfl, by rw [hg]; rfl, by rw [hg]; rfl, by have := hr.un; show (A.deeper (envOfC q scope s.heap.objs.size f cdv)).units + 65 < cLine; omega, rfl, S.nd, PassesOwn.never⟩
/-- a def of data does what its body tells -/
theorem ok_0 (F : FunD c.K x q params body scope dvs kws f fd) (S : FnScope N ps scope) {fM : M Fl}
    (hb : ∀ (cdv : Value) (A : Around) (outer : List Env) (s : Shared) (H : Hp) (E : XK) (g : G), Room k (A.deeper (envOfC q scope s.heap.objs.size f cdv)) → g.c = c → Fx (bX P c.w c.K c.mg base N q scope f cdv A outer s H E) g → SSs (bX P c.w c.K c.mg base N q scope f cdv A outer s H E) g body fM) :
    FnOk P c.w c.K c.mg base CX0 (k + 1) f fd ps (sp0 c (fn0 ps.length N.length fM)) := by
  refine F.ok S (fun vs H Q E h => ?_) (fun cdv A outer s H vs Q E hr h => ?_)
  · obtain ⟨O, ds, l, _, p⟩ := h
    unfold fn0 at p
    by_cases e : ds.length = ps.length
    · rw [l.len]; exact e
    · rw [if_neg e] at p; exact p.elim
  · obtain ⟨O, ds, l, lv, p⟩ := h
    unfold fn0 at p
    by_cases e : ds.length = ps.length
    · rw [if_pos e] at p
      let g : G := ⟨c, none, none, O, H⟩
      refine ⟨_, PSs.nox (hb cdv A outer s H E g hr rfl (fx_of S hr rfl)), [], ent N.length (ds.map .im), pn0, ?_, ?_⟩
      · refine amb_ent rfl rfl (by rw [List.length_map, l.len]) (fun i s v h1 h2 => ?_) lv (fun _ _ _ e => by cases e) fun _ _ _ e => by cases e
        obtain ⟨d, rfl, ld⟩ := LdA.im l h1 h2
        refine ⟨⟨v, rfl, ?_⟩, fun _ z => by cases z⟩
        show Ld c (msk (mo g []) H) v d
        rw [mo_nil]; exact ld
      · refine post_mono (post_bind p) (fun fl ρ' t' h => ?_) fun _ _ _ _ h => h
        have fin : ∀ {v : V} {d : D} {σ' : L2.St} {H' : Hp} {os' : List Addr}, Amb g os' σ' H' ρ' t' → Lay g os' H' v d → Same (hd g [] H) (hd g os' H') → (∀ v H', Ld c (msk O H') v d → Same (msk O H) (msk O H') → keep O H H' → Q v H') → Q v H' := fun {v d σ' H' os'} A' l' s' h => by
          have sub : Same (hd g os' H') (msk O H') := msk_sub fun b hb => List.mem_append_left _ hb
          refine h v H' (Ld.same sub l') ?_ fun b hb o z => ?_
          · have : hd g [] H = msk O H := by show msk (mo g []) H = _; rw [mo_nil]
            rw [this] at s'
            exact s'.trans sub
          · exact A'.pres b o z ⟨fun _ _ _ e => (by cases e), fun _ _ _ e => (by cases e)⟩
        cases fl with
        | nx => exact fun σ' H' os' A' s' => fin A' .non s' h
        | rt d => exact fun v σ' H' os' A' l' s' => fin A' l' s' h
        | bk => exact h.elim
        | ct => exact h.elim
    · rw [if_neg e] at p; exact p.elim
/-- a def that draws does what its body tells -/
theorem ok_P {nc : Str} (F : FunD c.K x q params body scope dvs kws f fd) (S : FnScope N ps scope) {fM : M Fl}
    (hb : ∀ (cdv : Value) (A : Around) (outer : List Env) (s : Shared) (H : Hp) (E : XK) (g : G), Room k (A.deeper (envOfC q scope s.heap.objs.size f cdv)) → g.c = c → PenN g nc → Fx (bX P c.w c.K c.mg base N q scope f cdv A outer s H E) g → SSs (bX P c.w c.K c.mg base N q scope f cdv A outer s H E) g body fM) :
    FnOk P c.w c.K c.mg base CX0 (k + 1) f fd ps (spP c nc (fnP ps.length N.length fM)) := by
  refine F.ok S (fun vs H Q E h => ?_) (fun cdv A outer s H vs Q E hr h => ?_)
  · obtain ⟨O, p, l, t, us, ds, rfl, la, _, _, _, _, q⟩ := h
    unfold fnP at q
    by_cases e : ds.length + 1 = ps.length
    · rw [List.length_cons, la.len]; exact e
    · rw [if_neg e] at q; exact q.elim
  · obtain ⟨O, p, l, t, us, ds, rfl, la, lv, pa, hp, hl, q⟩ := h
    unfold fnP at q
    by_cases e : ds.length + 1 = ps.length
    · rw [if_pos e] at q
      let g : G := ⟨c, some (p, l, nc), none, O, H⟩
      have lm : hd g [] H = msk O H := by show msk (mo g []) H = _; rw [mo_nil]
      refine ⟨_, PSs.nox (hb cdv A outer s H E g hr rfl ⟨rfl, fun _ _ _ e => by cases e; rfl⟩ (fx_of S hr rfl)), [], ent N.length (.pn :: ds.map .im), t, ?_, ?_⟩
      · refine amb_ent rfl rfl (by rw [List.length_cons, List.length_cons, List.length_map, la.len]) (fun i s v h1 h2 => ?_) lv (fun _ _ _ e => by cases e) fun p' l' n' e => by
          cases e
          exact ⟨pa, hp, hl, _, pa.l⟩
        cases i with
        | zero =>
          cases h1
          cases h2
          exact ⟨⟨p, l, nc, rfl, rfl⟩, fun _ z => by cases z⟩
        | succ i =>
          obtain ⟨d, rfl, ld⟩ := LdA.im la (by simpa using h1) (by simpa using h2)
          refine ⟨⟨v, rfl, ?_⟩, fun _ z => by cases z⟩
          show Ld c (hd g [] H) v d
          rw [lm]; exact ld
      · refine post_mono (post_bind q) (fun fl ρ' t' h => ?_) fun _ _ _ _ h => h
        have fin : ∀ {v : V} {d : D} {σ' : L2.St} {H' : Hp} {os' : List Addr}, Amb g os' σ' H' ρ' t' → Lay g os' H' v d → Same (hd g [] H) (hd g os' H') → (∀ v H', Ld c (msk O H') v d → Same (msk O H) (msk O H') → (∀ b ∈ O, b ≠ p → ∀ o, H b = some o → H' b = some o) → PenAt H' p l nc t' → Q v H') → Q v H' := fun {v d σ' H' os'} A' l' s' h => by
          have sub : Same (hd g os' H') (msk O H') := msk_sub fun b hb => List.mem_append_left _ hb
          refine h v H' (Ld.same sub l') ?_ (fun b hb ne o z => ?_) (A'.pen p l nc rfl).1
          · rw [lm] at s'
            exact s'.trans sub
          · exact A'.pres b o z ⟨fun _ _ _ e => (by cases e; exact ne), fun _ _ _ e => (by cases e)⟩
        cases fl with
        | nx => exact fun σ' H' os' A' s' => fin A' .non s' h
        | rt d => exact fun v σ' H' os' A' l' s' => fin A' l' s' h
        | bk => exact h.elim
        | ct => exact h.elim
    · rw [if_neg e] at q; exact q.elim
/-- __init__ makes what its body tells -/
theorem ok_I {n : Str} (F : FunD c.K x q params body scope dvs kws f fd) (S : FnScope N ps scope) {fM : M Fl}
    (hb : ∀ (cdv : Value) (A : Around) (outer : List Env) (s : Shared) (H : Hp) (E : XK) (g : G), Room k (A.deeper (envOfC q scope s.heap.objs.size f cdv)) → g.c = c → (∀ x C dx, g.slf = some (x, C, dx) → ClsOf c n C) → g.pen = none → Fx (bX P c.w c.K c.mg base N q scope f cdv A outer s H E) g → SSs (bX P c.w c.K c.mg base N q scope f cdv A outer s H E) g body fM) :
    FnOk P c.w c.K c.mg base CX0 (k + 1) f fd ps (spI c n (fnI ps.length N.length fM)) := by
  refine F.ok S (fun vs H Q E h => ?_) (fun cdv A outer s H vs Q E hr h => ?_)
  · obtain ⟨O, x, C, dx, us, ds, rfl, _, la, _, _, _, q⟩ := h
    unfold fnI at q
    by_cases e : ds.length + 1 = ps.length
    · rw [List.length_cons, la.len]; exact e
    · rw [if_neg e] at q; exact q.elim
  · obtain ⟨O, x, C, dx, us, ds, rfl, hC, la, lv, nx, hx, q⟩ := h
    unfold fnI at q
    by_cases e : ds.length + 1 = ps.length
    · rw [if_pos e] at q
      let g : G := ⟨c, none, some (x, C, dx), x :: O, H⟩
      have lm : hd g [] H = msk (x :: O) H := by show msk (mo g []) H = _; rw [mo_nil]
      refine ⟨_, PSs.nox (hb cdv A outer s H E g hr rfl (fun _ _ _ e => by cases e; exact hC) rfl (fx_of S hr rfl)), [], ent N.length (.sf [] [] :: ds.map .im), pn0, ?_, ?_⟩
      · refine amb_ent rfl rfl (by rw [List.length_cons, List.length_cons, List.length_map, la.len]) (fun i s v h1 h2 => ?_) (fun a ha => ?_) (fun _ _ _ e => by cases e; exact List.mem_cons_self) fun _ _ _ e => by cases e
        · cases i with
          | zero =>
            cases h1
            cases h2
            exact ⟨⟨x, C, dx, [], rfl, rfl, hx, rfl, .nil⟩, fun _ z => by cases z⟩
          | succ i =>
            obtain ⟨d, rfl, ld⟩ := LdA.im la (by simpa using h1) (by simpa using h2)
            refine ⟨⟨v, rfl, ?_⟩, fun _ z => by cases z⟩
            show Ld c (hd g [] H) v d
            rw [lm]; exact ld
        · rcases List.mem_cons.mp ha with rfl | ha
          · exact ⟨_, hx⟩
          · exact lv a ha
      · refine post_mono (post_bind q) (fun fl ρ' t' h => ?_) fun _ _ _ _ h => h
        cases fl with
        | nx =>
          intro σ' H' os' A' s'
          simp only at h
          cases e0 : ρ'[0]? with
          | none => rw [e0] at h; exact h.elim
          | some sl =>
            rw [e0] at h
            cases sl with
            | sf ns vs =>
              obtain ⟨x', C', dx', fs, g1, g2, g3, g4, g5⟩ := A'.sl 0 _ e0
              cases g1
              have sub : Same (hd g os' H') (msk O H') := msk_sub fun b hb => List.mem_append_left _ (List.mem_cons_of_mem _ hb)
              refine h H' ?_ ?_ fun b hb o z => ?_
              · subst g4
                exact .obj (by rw [msk_out nx]; exact g3) hC (LdA.same sub g5)
              · rw [lm] at s'
                exact s'.trans sub
              · exact A'.pres b o z ⟨fun _ _ _ e => (by cases e), fun _ _ _ e => (by cases e; exact fun w => nx (w ▸ hb))⟩
            | _ => exact h.elim
        | rt d => exact h.elim
        | bk => exact h.elim
        | ct => exact h.elim
    · rw [if_neg e] at q; exact q.elim
end
end DL

set_option Elab.async false
set_option linter.all false
set_option maxRecDepth 100000
set_option maxHeartbeats 1000000
namespace DL
open PySem PySem.Spec PyProof.Rows L2
/-! ### calls, objects -/
def call0 (fn : List D → Ou D) (ds : List D) : M D := fun ρ t => (fn ds).bind fun d _ _ => .ok d ρ t
def callP (fn : List D → Pn → Ou D) (ds : List D) : M D := fun ρ t => (fn ds t).bind fun d _ t' => .ok d ρ t'
def callI (n : Str) (fn : List D → Ou (List Str × List D)) (ds : List D) : M D := fun ρ t => (fn ds).bind fun r _ _ => .ok (.obj n r.1 r.2) ρ t
/-- a def that stands -/
structure ClD (P : Program) (base : Heap) (c : Ct) (k : Nat) (x : Str) (ps : List Str) (sp : Sp) (dd : List D) : Prop where
  ex : ∃ (f : Addr) (fd : FuncData) (dvs : List V) (ds : List Value), FnOk P c.w c.K c.mg base CX0 k f fd ps sp ∧ c.mg x = some (.ref f) ∧ PySem.W.keepIn c.K (.ref f) = true ∧ Binds c.K fd ps ds ∧ Vals dvs ds ∧ ∀ B, LdA c B dvs dd
/-- a class that makes objects -/
structure ClI (P : Program) (base : Heap) (c : Ct) (k : Nat) (x : Str) (ps : List Str) (sp : Sp) (dd : List D) : Prop where
  ex : ∃ (f C : Addr) (fd : FuncData) (dvs : List V) (ds : List Value), Mk c.K C f ∧ FnOk P c.w c.K c.mg base CX0 k f fd ps sp ∧ c.mg x = some (.ref C) ∧ Binds c.K fd ps ds ∧ Vals dvs ds ∧ ∀ B, LdA c B dvs dd
/-- a property -/
structure ClR (P : Program) (base : Heap) (c : Ct) (k : Nat) (n f : Str) (fn : List D → Ou D) : Prop where
  ex : ∃ (C p q : Addr) (fd : FuncData) (ps : List Str), ClsOf c n C ∧ Cls c.K C ∧ PropOf c.K C f p q ∧ FnOk P c.w c.K c.mg base CX0 k q fd ps (sp0 c fn) ∧ Binds c.K fd ps []
/-- a method -/
structure ClM (P : Program) (base : Heap) (c : Ct) (k : Nat) (n m : Str) (sp : Sp) (dd : List D) : Prop where
  ex : ∃ (C f : Addr) (fd : FuncData) (ps : List Str) (dvs : List V) (ds : List Value), ClsOf c n C ∧ Cls c.K C ∧ Meth c.K C m f ∧ FnOk P c.w c.K c.mg base CX0 k f fd ps sp ∧ Binds c.K fd ps ds ∧ Vals dvs ds ∧ ∀ B, LdA c B dvs dd
theorem ClD.mono {P : Program} {base : Heap} {c : Ct} {j k : Nat} {x : Str} {ps : List Str} {sp : Sp} {dd : List D} (h : ClD P base c j x ps sp dd) (l : j ≤ k) : ClD P base c k x ps sp dd := by
  obtain ⟨f, fd, dvs, ds, a, b⟩ := h.ex
  exact ⟨f, fd, dvs, ds, a.mono l, b⟩
section
variable {g : G} {os : List Addr} {σ : L2.St} {H H' : Hp} {ρ : List Sl} {t t' : Pn}
theorem Amb.kept (A : Amb g os σ H ρ t) (s : Same (hd g os H) (hd g os H')) (k : keep (mo g os) H H') : Amb g os σ H' ρ t ∧ Go g os H os H' := by
  have kk : ∀ b o, H b = some o → H' b = some o := fun b o z => by
    by_cases h : b ∈ mo g os
    · exact k b h o z
    · exact msk_le _ _ (s b o (by rw [show hd g os H b = H b from msk_out h]; exact z))
  exact ⟨A.same kk, Go.same kk⟩
theorem call_0 {fn : List D → Ou D} {vs : List V} {ds : List D} {Q : VK} {E : XK} (A : Amb g os σ H ρ t) (l : LayA g os H vs ds)
    (q : (call0 fn ds ρ t).post (fun d ρ' t' => ∀ v H' os', Amb g os' σ H' ρ' t' → Lay g os' H' v d → Go g os H os' H' → Q v H') noX) : sp0 g.c fn vs H Q E :=
  ⟨mo g os, ds, l, A.live, post_mono (post_bind q) (fun d _ _ q1 v H' l' s' k' => by
    obtain ⟨B, go⟩ := A.kept s' k'
    exact q1 v H' os B l' go) fun _ _ _ _ h => h⟩
theorem call_P {n : Str} {fn : List D → Pn → Ou D} {vs : List V} {ds : List D} {Q : VK} {E : XK} (pn : PenN g n) {p l : Addr} {m : Str} (hp : g.pen = some (p, l, m)) (A : Amb g os σ H ρ t) (la : LayA g os H vs ds)
    (q : (callP fn ds ρ t).post (fun d ρ' t' => ∀ v H' os', Amb g os' σ H' ρ' t' → Lay g os' H' v d → Go g os H os' H' → Q v H') noX) : spP g.c n fn (.ref p :: vs) H Q E := by
  obtain rfl := pn.2 p l m hp
  obtain ⟨pa, m1, m2, o, m3⟩ := A.pen p l m hp
  have nl : l ∉ mo g os := fun z => by
    rcases List.mem_append.mp z with z | z
    · exact m2 z
    · rw [A.new l z] at m3; cases m3
  refine ⟨mo g os, p, l, t, vs, ds, rfl, la, A.live, pa, List.mem_append_left _ m1, nl, post_mono (post_bind q) (fun d _ t' q1 v H' l' s' k' pa' => ?_) fun _ _ _ _ h => h⟩
  have np : ∀ b ∈ os, b ≠ p := fun b hb z => by
    obtain ⟨o, e⟩ := A.o0 p m1
    rw [← z, A.new b hb] at e; cases e
  have kk : ∀ b o, H b = some o → b ≠ p → H' b = some o := fun b o z ne => by
    by_cases h : b ∈ mo g os
    · exact k' b h ne o z
    · exact msk_le _ _ (s' b o (by rw [msk_out h]; exact z))
  refine q1 v H' os (A.step s' (fun b hb o z => kk b o z (np b hb)) (fun b o z ho => kk b o z (ho.1 p l m hp)) (fun b hb => ?_) (fun x C dx e => by rw [pn.1] at e; cases e) fun p' l' n' e => ?_) l' ⟨s', fun b hb => ⟨hb, fun o z => kk b o z (np b hb)⟩, fun x C dx e => by rw [pn.1] at e; cases e⟩
  · by_cases z : b = p
    · exact ⟨_, by rw [z]; exact pa'.d⟩
    · obtain ⟨o, e⟩ := A.live b (List.mem_append_left _ hb)
      exact ⟨o, kk b o e z⟩
  · rw [hp] at e
    cases e
    exact ⟨pa', m1, m2, o, m3⟩
end
section
variable {X : Cx} {g : G} {k : Nat}
theorem fnok {P : Program} {base : Heap} {f : Addr} {fd : FuncData} {ps : List Str} {sp : Sp} (fx : Fx X g) (h : FnOk X.prog g.c.w g.c.K g.c.mg X.base CX0 k f fd ps sp) : FnOk X.prog X.w X.K X.mg X.base CX0 k f fd ps sp := by
  rw [fx.w, fx.k, fx.m]; exact h
theorem se_call0 {x : Str} {ps : List Str} {fn : List D → Ou D} {dd : List D} {p pos : Pos} {e : Expr} {es : List Expr} {h : M (List D)} (fx : Fx X g) (cl : ClD X.prog X.base g.c k x ps (sp0 g.c fn) dd) (hr : Room k X.A) (hg : Gl X x) (ha : SA X g (e :: es) h)
    (hdb : (x == ("__debug__" : Str)) = false := by decide) (hs : starEach (e :: es) X.env = (false, eval e X.env) :: starEach es X.env := by rfl) (hpl : (backTo pos (starEach es X.env)).any (·.1) = false := by rfl) :
    SE X g (.Call (.Name x p) (e :: es) [] pos) (mb h fun ds => call0 fn (ds ++ dd)) := by
  obtain ⟨f, fd, dvs, dss, F, hm, hk, hb, hd, hl⟩ := cl.ex
  refine PE.imp (pe_call (fnok (P := X.prog) (base := X.base) fx F) hr hg (by rw [fx.m]; exact hm) (by rw [fx.k]; exact hk) (by rw [fx.k]; exact hb) hd pass0 ha hdb hs hpl) fun σ H Q q => ?_
  obtain ⟨os, ρ, t, A, q⟩ := q
  exact ⟨os, ρ, t, A, post_mono (post_bind q) (fun ds ρ1 t1 q1 vs H1 os1 A1 l1 s1 => call_0 A1 (LdA.app l1 (hl _)) (post_mono q1 (fun d ρ2 t2 q2 v H2 os2 A2 l2 s2 => q2 v H2 os2 A2 l2 (s1.trans s2)) fun _ _ _ _ h => h)) fun _ _ _ _ h => h⟩
theorem se_call00 {x : Str} {ps : List Str} {fn : List D → Ou D} {dd : List D} {p pos : Pos} (fx : Fx X g) (cl : ClD X.prog X.base g.c k x ps (sp0 g.c fn) dd) (hr : Room k X.A) (hg : Gl X x) (hdb : (x == ("__debug__" : Str)) = false := by decide) :
    SE X g (.Call (.Name x p) [] [] pos) (call0 fn dd) := by
  obtain ⟨f, fd, dvs, dss, F, hm, hk, hb, hd, hl⟩ := cl.ex
  refine PE.imp (pe_call0 (fnok (P := X.prog) (base := X.base) fx F) hr hg (by rw [fx.m]; exact hm) (by rw [fx.k]; exact hk) (by rw [fx.k]; exact hb) hd pass0 hdb) fun σ H Q q => ?_
  obtain ⟨os, ρ, t, A, q⟩ := q
  exact call_0 (E := E0) A (hl _) q
def penc (i : Nat) (f : M D) : M D := fun ρ t => match ρ[i]? with
  | some .pn => f ρ t
  | _ => .bad
theorem se_callP {x n : Str} {i : Nat} {y : Str} {py : Pos} {ps : List Str} {fn : List D → Pn → Ou D} {p pos : Pos} {es : List Expr} {h : M (List D)} (fx : Fx X g) (pn : PenN g n) (cl : ClD X.prog X.base g.c k x ps (spP g.c n fn) []) (hr : Room k X.A) (hg : Gl X x) (hy : PE X (.Name y py) (tVar i)) (ha : SA X g es h)
    (hdb : (x == ("__debug__" : Str)) = false := by decide) (hs : starEach (.Name y py :: es) X.env = (false, eval (.Name y py) X.env) :: starEach es X.env := by rfl) (hpl : (backTo pos (starEach es X.env)).any (·.1) = false := by rfl) :
    SE X g (.Call (.Name x p) (.Name y py :: es) [] pos) (penc i (mb h (callP fn))) := by
  obtain ⟨f, fd, dvs, dss, F, hm, hk, hb, hd, hl⟩ := cl.ex
  refine PE.imp (pe_call (fnok (P := X.prog) (base := X.base) fx F) hr hg (by rw [fx.m]; exact hm) (by rw [fx.k]; exact hk) (by rw [fx.k]; exact hb) hd pass0 (pa_cons hy ha hs) hdb hs hpl) fun σ H Q q => ?_
  obtain ⟨os, ρ, t, A, q⟩ := q
  unfold penc at q
  cases e : ρ[i]? with
  | none => rw [e] at q; exact q.elim
  | some s =>
    rw [e] at q
    cases s with
    | pn =>
      obtain ⟨p0, l0, m0, h1, h2⟩ := A.sl i _ e
      have hdv : dvs = [] := by
        have := hl (msk [] H)
        cases this
        rfl
      subst hdv
      refine ⟨_, h2, os, ρ, t, A, post_mono (post_bind q) (fun ds ρ1 t1 q1 vs H1 os1 A1 l1 s1 => ?_) fun _ _ _ _ h => h⟩
      show spP g.c n fn (.ref p0 :: (vs ++ [])) H1 Q E0
      rw [List.append_nil]
      exact call_P pn h1 A1 l1 (post_mono q1 (fun d ρ2 t2 q2 v H2 os2 A2 l2 s2 => q2 v H2 os2 A2 l2 (s1.trans s2)) fun _ _ _ _ h => h)
    | _ => exact q.elim
theorem make_w {x : Str} {fn : List D → Ou (List Str × List D)} {C : Addr} {os : List Addr} {σ : L2.St} {H : Hp} {ρ : List Sl} {t : Pn} {vs : List V} {ds : List D} {Q : VK} {E : XK} (hC : ClsOf g.c x C) (A : Amb g os σ H ρ t) (l : LayA g os H vs ds)
    (q : (callI x fn ds ρ t).post (fun d ρ' t' => ∀ v H' os', Amb g os' σ H' ρ' t' → Lay g os' H' v d → Go g os H os' H' → Q v H') noX) :
    ∀ (y dx : Addr), H y = none → H dx = none → dx ≠ y → spI g.c x fn (.ref y :: vs) (upd (upd H dx (.own y)) y (.ins C dx [])) (fun v H2 => v = .non ∧ Q (.ref y) H2) E := fun y dx hy hdx ne => by
  have up : ∀ b o, H b = some o → upd (upd H dx (.own y)) y (.ins C dx []) b = some o := fun b o e => by
    rw [upd_ne (ne_of_none e hy), upd_ne (ne_of_none e hdx)]; exact e
  have ny : y ∉ mo g os := A.fresh hy
  refine ⟨mo g os, y, C, dx, vs, ds, rfl, hC, LdA.same (fun b o e => ?_) l, fun a ha => ?_, ny, upd_same, post_mono (post_bind q) (fun r _ _ q1 H' l' s' k' => ⟨rfl, ?_⟩) fun _ _ _ _ h => h⟩
  · by_cases hb : b ∈ mo g os
    · rw [show hd g os H b = none from msk_in hb] at e; cases e
    · rw [show hd g os H b = H b from msk_out hb] at e
      have nb : b ∉ y :: mo g os := fun z => by
        rcases List.mem_cons.mp z with z | z
        · rw [z, hy] at e; cases e
        · exact hb z
      rw [msk_out nb]
      exact up b o e
  · obtain ⟨o, e⟩ := A.live a ha
    exact ⟨o, up a o e⟩
  · have sm : Same (hd g os H) (hd g os H') := fun b o e => by
      by_cases hb : b ∈ mo g os
      · rw [show hd g os H b = none from msk_in hb] at e; cases e
      · rw [show hd g os H b = H b from msk_out hb] at e
        have nb : b ∉ y :: mo g os := fun z => by
          rcases List.mem_cons.mp z with z | z
          · rw [z, hy] at e; cases e
          · exact hb z
        exact s' b o (by rw [msk_out nb]; exact up b o e)
    obtain ⟨B, go⟩ := A.kept sm (fun b hb o z => k' b hb o (up b o z))
    exact q1 _ H' os B l' go
theorem se_make {x : Str} {ps : List Str} {fn : List D → Ou (List Str × List D)} {dd : List D} {p pos : Pos} {e : Expr} {es : List Expr} {h : M (List D)} (fx : Fx X g) (cl : ClI X.prog X.base g.c k x ps (spI g.c x fn) dd) (hr : Room (k + 1) X.A) (hg : Gl X x) (ha : SA X g (e :: es) h)
    (hdb : (x == ("__debug__" : Str)) = false := by decide) (hs : starEach (e :: es) X.env = (false, eval e X.env) :: starEach es X.env := by rfl) (hpl : (backTo pos (starEach es X.env)).any (·.1) = false := by rfl) :
    SE X g (.Call (.Name x p) (e :: es) [] pos) (mb h fun ds => callI x fn (ds ++ dd)) := by
  obtain ⟨f, C, fd, dvs, dss, mk, F, hm, hb, hd, hl⟩ := cl.ex
  refine PE.imp (pe_make (by rw [fx.k]; exact mk) (fnok (P := X.prog) (base := X.base) fx F) hr hg (by rw [fx.m]; exact hm) (by rw [fx.k]; exact hb) hd pass0 ha hdb hs hpl) fun σ H Q q => ?_
  obtain ⟨os, ρ, t, A, q⟩ := q
  exact ⟨os, ρ, t, A, post_mono (post_bind q) (fun ds ρ1 t1 q1 vs H1 os1 A1 l1 s1 => make_w hm A1 (LdA.app l1 (hl _)) (post_mono q1 (fun d ρ2 t2 q2 v H2 os2 A2 l2 s2 => q2 v H2 os2 A2 l2 (s1.trans s2)) fun _ _ _ _ h => h)) fun _ _ _ _ h => h⟩
/-! fields -/
def FldOk (c : Ct) (n f : Str) : Prop := ∀ C, ClsOf c n C → Cls c.K C ∧ NoAttr c.K C f
def dlk (ns : List Str) (vs : List D) (f : Str) : Option D := match ns, vs with
  | n :: ns, v :: vs => if f = n then some v else dlk ns vs f
  | _, _ => none
def dfld (cs : List Str) (f : Str) : D → M D
  | .obj n ns vs => if cs.contains n = true then match dlk ns vs f with
    | some d => mr d
    | none => mx else mx
  | _ => mx
theorem look_f {c : Ct} {H : Hp} {f : Str} : ∀ {fs : List (Str × V)} {vd : List D}, LdA c H (fs.map (·.2)) vd → ∀ {d : D}, dlk (fs.map (·.1)) vd f = some d → ∃ v, fs.lookup f = some v ∧ Ld c H v d
  | [], _, .nil, d, h => by cases h
  | q :: fs, _, .cons l a, d, h => by
    obtain ⟨n, v⟩ := q
    rw [List.map_cons, dlk] at h
    by_cases e : f = n
    · rw [if_pos e] at h
      cases h
      exact ⟨v, by rw [List.lookup_cons, show (f == n) = true from beq_iff_eq.mpr e], l⟩
    · rw [if_neg e] at h
      obtain ⟨v', h1, h2⟩ := look_f a h
      exact ⟨v', by rw [List.lookup_cons, show (f == n) = false from beq_eq_false_iff_ne.mpr e]; exact h1, h2⟩
theorem se_fld {e : Expr} {f : Str} {pos : Pos} {h : M D} (fx : Fx X g) (cs : List Str) (he : SE X g e h) (hf : ∀ n ∈ cs, FldOk g.c n f) (hab : attributeBase e f X.env (eval e X.env) = eval e X.env := by rfl) : SE X g (.Attribute e f pos) (mb h (dfld cs f)) :=
  PE.imp (pe_fld he hab) fun σ H Q q => by
    obtain ⟨os, ρ, t, A, q⟩ := q
    refine ⟨os, ρ, t, A, post_mono (post_bind q) (fun d ρ1 t1 q1 v H1 os1 A1 l1 s1 => ?_) fun _ _ _ _ h => h⟩
    cases l1 with
    | @obj a C dx fs n vd h1 h2 h3 =>
      simp only [dfld] at q1
      rcases post_if q1 with ⟨c, q1⟩ | ⟨_, q1⟩
      · cases el : dlk (fs.map (·.1)) vd f with
        | none => simp only [el] at q1; exact q1.elim
        | some d =>
          simp only [el] at q1
          obtain ⟨v, k1, k2⟩ := look_f h3 el
          obtain ⟨k3, k4⟩ := hf n (by simpa using c) C h2
          exact ⟨a, C, dx, fs, v, rfl, msk_le _ _ h1, by rw [fx.k]; exact k3, by rw [fx.k]; exact k4, k1, q1 v H1 os1 A1 k2 s1⟩
      · exact q1.elim
    | _ => exact q1.elim
def isSf : Sl → Bool
  | .sf _ _ => true
  | _ => false
def sfld (i : Nat) (f : Str) (h : M D) : M Fl := mb h fun d ρ t => match ρ[i]? with
  | some (Sl.sf ns vs) => if ns.contains f = false ∧ ns.length < 100 ∧ (ρ.set i .un).any isSf = false then .ok .nx (ρ.set i (.sf (ns ++ [f]) (vs ++ [d]))) t else .bad
  | _ => .bad
theorem putF_new {f : Str} {v : V} : ∀ {fs : List (Str × V)}, f ∉ fs.map (·.1) → putF f v fs = fs ++ [(f, v)]
  | [], _ => rfl
  | q :: fs, h => by
    obtain ⟨n, u⟩ := q
    rw [List.map_cons] at h
    have h1 : ¬ n = f := fun e => h (by rw [e]; exact List.mem_cons_self)
    have ih := putF_new (f := f) (v := v) (fs := fs) fun z => h (List.mem_cons_of_mem _ z)
    rw [List.cons_append, ← ih]
    simp [putF, h1]
theorem ss_fld {i : Nat} {x n f : Str} {px pos pos' : Pos} {e : Expr} {h : M D} (fx : Fx X g) (hs : ∀ x C dx, g.slf = some (x, C, dx) → ClsOf g.c n C) (hp : g.pen = none) (hf : FldOk g.c n f) (hx : PE X (.Name x px) (tVar i)) (he : SE X g e h)
    (hsw : swapsWith e (some (.Attribute (.Name x px) f pos')) pos.line X.env = pure false := by rfl) : SS X g (.Assign [.Attribute (.Name x px) f pos'] e pos) (sfld i f h) :=
  PS.imp (ps_fld hx he hsw) fun Dn σ H q => by
    obtain ⟨os, ρ, t, A, q⟩ := q
    refine ⟨os, ρ, t, A, post_mono (post_bind q) (fun d ρ1 t1 q1 v H1 os1 A1 l1 s1 => ?_) fun _ _ _ _ h => h⟩
    cases e1 : ρ1[i]? with
    | none => rw [e1] at q1; exact q1.elim
    | some sl =>
      rw [e1] at q1
      cases sl with
      | sf ns vs =>
        by_cases hc : ns.contains f = false ∧ ns.length < 100 ∧ (ρ1.set i .un).any isSf = false
        · simp only [if_pos hc] at q1
          obtain ⟨y, C, dx, fs, g1, g2, g3, g4, g5⟩ := A1.sl i _ e1
          obtain ⟨k3, k4⟩ := hf C (hs _ _ _ g1)
          have hy : y ∈ g.O := A1.slf _ _ _ g1
          have hm : y ∈ mo g os1 := List.mem_append_left _ hy
          have nf : f ∉ fs.map (·.1) := by
            rw [g4]
            intro z
            have := hc.1
            rw [List.contains_iff_mem.mpr z] at this
            cases this
          refine ⟨_, g2, y, C, dx, fs, rfl, g3, by rw [fx.k]; exact k3, by rw [fx.k]; exact k4, by have := congrArg List.length g4; have h2 := hc.2.1; rw [List.length_map] at this; omega, ?_⟩
          rw [putF_new nf]
          have sh : hd g os1 (upd H1 y (.ins C dx (fs ++ [(f, v)]))) = hd g os1 H1 := msk_upd hm
          have ne : ∀ b ∈ os1, b ≠ y := fun b hb z => by
            obtain ⟨o, e⟩ := A1.o0 y hy
            rw [← z, A1.new b hb] at e; cases e
          refine q1 σ _ os1 ⟨?_, fun j s es => ?_, fun j k d1 e1' b nj z1 z2 => ?_, fun b o z ho => ?_, A1.new, fun b hb => ?_, A1.slf, A1.o0, fun p l n' e => by rw [hp] at e; cases e⟩ ?_
          · rw [List.length_set]; exact A1.len
          · rcases get_set es with ⟨rfl, _, rfl⟩ | ⟨nj, es⟩
            · refine ⟨y, C, dx, fs ++ [(f, v)], g1, g2, upd_same, by rw [List.map_append, g4]; rfl, ?_⟩
              show LdA g.c (hd g os1 _) _ _
              rw [sh, List.map_append]
              exact LdA.app g5 (.cons l1 .nil)
            · have q := A1.sl j s es
              have sm : Same (hd g os1 H1) (hd g os1 (upd H1 y (.ins C dx (fs ++ [(f, v)])))) := by rw [sh]; exact Same.refl _
              cases s with
              | un => trivial
              | im d => obtain ⟨v, h1, h2⟩ := q; exact ⟨v, h1, Ld.same sm h2⟩
              | bo d => exact q.elim
              | ow d => obtain ⟨a, h1, h2, h3⟩ := q; exact ⟨a, h1, h2, h3.same sm fun o z => by rw [upd_ne (ne a h2)]; exact z⟩
              | pn => exact q
              | sf ns' vs' =>
                have := hc.2.2
                rw [List.any_eq_false] at this
                exact absurd rfl (this (.sf ns' vs') (List.mem_of_getElem? (i := j) (by rw [List.getElem?_set_ne nj]; exact es)))
          · rcases get_set z1 with ⟨_, _, w⟩ | ⟨n1, z1⟩
            · cases w
            · rcases get_set z2 with ⟨_, _, w⟩ | ⟨n2, z2⟩
              · cases w
              · exact A1.dis j k d1 e1' b nj z1 z2
          · rw [upd_ne (ho.2 _ _ _ g1)]; exact A1.pres b o z ho
          · by_cases z : b = y
            · exact ⟨_, by rw [z]; exact upd_same⟩
            · obtain ⟨o, e⟩ := A1.live b hb
              exact ⟨o, by rw [upd_ne z]; exact e⟩
          · rw [sh]; exact s1.s
        · simp only [if_neg hc] at q1; exact q1.elim
      | _ => exact q1.elim
end
end DL

set_option Elab.async false
set_option linter.all false
set_option maxRecDepth 100000
set_option maxHeartbeats 1000000
namespace DL
open PySem PySem.Spec PyProof.Rows L2
/-! ### properties, methods -/
section
variable {X : Cx} {g : G} {k : Nat}
def dprop (n : Str) (fn : List D → Ou D) : D → M D
  | .obj m ns vs => if m = n then call0 fn [.obj m ns vs] else mx
  | _ => mx
theorem cls_one {c : Ct} {n : Str} {C C' : Addr} (h : ClsOf c n C) (h' : ClsOf c n C') : C = C' := by
  unfold ClsOf at h h'
  rw [h] at h'
  cases h'
  rfl
theorem se_prop {n f : Str} {fn : List D → Ou D} {e : Expr} {pos : Pos} {h : M D} (fx : Fx X g) (cl : ClR X.prog X.base g.c k n f fn) (hr : Room (k + 1) X.A) (he : SE X g e h) (hab : attributeBase e f X.env (eval e X.env) = eval e X.env := by rfl) :
    SE X g (.Attribute e f pos) (mb h (dprop n fn)) := by
  obtain ⟨C, p, q0, fd, ps, hC, hcl, hpr, F, hb⟩ := cl.ex
  refine PE.imp (pe_prop he (by rw [fx.k]; exact hcl) (by rw [fx.k]; exact hpr) (fnok (P := X.prog) (base := X.base) fx F) hr (by rw [fx.k]; exact hb) .nil pass0 hab) fun σ H Q q => ?_
  obtain ⟨os, ρ, t, A, q⟩ := q
  refine ⟨os, ρ, t, A, post_mono (post_bind q) (fun d ρ1 t1 q1 v H1 os1 A1 l1 s1 => ?_) fun _ _ _ _ h => h⟩
  cases l1 with
  | @obj a C' dx fs m vd h1 h2 h3 =>
    simp only [dprop] at q1
    rcases post_if q1 with ⟨e0, q4⟩ | ⟨_, q4⟩
    · subst e0
      obtain rfl := cls_one hC h2
      refine ⟨a, dx, fs, rfl, msk_le _ _ h1, call_0 (E := E0) A1 (.cons (.obj h1 h2 h3) .nil) (post_mono q4 (fun d ρ2 t2 q2 v H2 os2 A2 l2 s2 => q2 v H2 os2 A2 l2 (s1.trans s2)) fun _ _ _ _ h => h)⟩
    · exact q4.elim
  | _ => exact q1.elim
def dmeth (n m : Str) (fn : List D → Ou D) (dd : List D) (h : M (List D)) : D → M D
  | .obj n' ns vs => if n' = n ∧ ns.contains m = false then mb h fun ds => call0 fn (.obj n' ns vs :: (ds ++ dd)) else mx
  | _ => mx
theorem look_none {m : Str} : ∀ {fs : List (Str × V)}, (fs.map (·.1)).contains m = false → fs.lookup m = none
  | [], _ => rfl
  | q :: fs, h => by
    obtain ⟨n, v⟩ := q
    rw [List.map_cons, List.contains_cons, Bool.or_eq_false_iff] at h
    rw [List.lookup_cons, h.1]
    exact look_none h.2
theorem se_meth {n m : Str} {fn : List D → Ou D} {dd : List D} {o e : Expr} {es : List Expr} {pos apos : Pos} {ho : M D} {h : M (List D)} {pl : Sem Bool} (fx : Fx X g) (cl : ClM X.prog X.base g.c k n m (sp0 g.c fn) dd) (hr : Room k X.A) (he : SE X g o ho) (ha : SA X g (e :: es) h)
    (hs : starEach (e :: es) X.env = (false, eval e X.env) :: starEach es X.env := by rfl) (hpl : (backTo pos (starEach es X.env)).any (·.1) = false := by rfl)
    (hev : eval (.Call (.Attribute o m apos) (e :: es) [] pos) X.env = (do
      let ov ← eval o X.env
      standAt apos.atName
      let (f, first) ← holding [ov] (getMethod ov m pl)
      callWith pos f first (backTo pos (starEach (e :: es) X.env)) (backToKw pos (keywordEach [] X.env))) := by rfl) :
    SE X g (.Call (.Attribute o m apos) (e :: es) [] pos) (mb ho (dmeth n m fn dd h)) := by
  obtain ⟨C, f, fd, ps, dvs, dss, hC, hcl, hme, F, hb, hd, hl⟩ := cl.ex
  refine PE.imp (pe_meth he (by rw [fx.k]; exact hcl) (by rw [fx.k]; exact hme) (fnok (P := X.prog) (base := X.base) fx F) hr (by rw [fx.k]; exact hb) hd pass0 ha hs hpl hev) fun σ H Q q => ?_
  obtain ⟨os, ρ, t, A, q⟩ := q
  refine ⟨os, ρ, t, A, post_mono (post_bind q) (fun d ρ1 t1 q1 v H1 os1 A1 l1 s1 => ?_) fun _ _ _ _ h => h⟩
  cases l1 with
  | @obj a C' dx fs n' vd h1 h2 h3 =>
    simp only [dmeth] at q1
    rcases post_if q1 with ⟨⟨e0, hm⟩, q4⟩ | ⟨_, q4⟩
    · subst e0
      obtain rfl := cls_one hC h2
      refine ⟨a, dx, fs, rfl, msk_le _ _ h1, look_none hm, os1, ρ1, t1, A1, post_mono (post_bind q4) (fun ds ρ2 t2 q2 vs H2 os2 A2 l2 s2 => ?_) fun _ _ _ _ h => h⟩
      exact call_0 (E := E0) A2 (.cons (Ld.same s2.s (.obj h1 h2 h3)) (LdA.app l2 (hl _))) (post_mono q2 (fun d ρ3 t3 q3 v H3 os3 A3 l3 s3 => q3 v H3 os3 A3 l3 ((s1.trans s2).trans s3)) fun _ _ _ _ h => h)
    · exact q4.elim
  | _ => exact q1.elim
/-! ### zip -/
def zipL : List D → List D → List D
  | a :: as, b :: bs => .tup [a, b] :: zipL as bs
  | _, _ => []
theorem zipL_get : ∀ (as bs : List D) (i : Nat) (d : D), (zipL as bs)[i]? = some d → ∃ a b, as[i]? = some a ∧ bs[i]? = some b ∧ d = .tup [a, b]
  | [], _, i, d, h => by simp [zipL] at h
  | _ :: _, [], i, d, h => by simp [zipL] at h
  | a :: as, b :: bs, 0, d, h => by simp [zipL] at h; exact ⟨a, b, rfl, rfl, h.symm⟩
  | a :: as, b :: bs, i + 1, d, h => by
    simp only [zipL, List.getElem?_cons_succ] at h
    exact zipL_get as bs i d h
theorem zipL_len : ∀ (as bs : List D), (zipL as bs).length = min as.length bs.length
  | [], _ => by simp [zipL]
  | _ :: _, [] => by simp [zipL]
  | a :: as, b :: bs => by
    simp only [zipL, List.length_cons, zipL_len as bs]
    omega
def dzip : List D → M (List D)
  | [.lst a, .lst b] => mr (zipL a b)
  | [.tup a, .tup b] => mr (zipL a b)
  | _ => mx
theorem wk_zip {os : List Addr} {H : Hp} {J : It} {as bs : List D} {xs ys : List V} (ax : LayA g os H xs as) (ay : LayA g os H ys bs)
    (hstop : ∀ i os' H', Same (hd g os H) (hd g os' H') → (xs.length ≤ i ∨ ys.length ≤ i) → J.stop i H')
    (hgo : ∀ i os' H' x y, Same (hd g os H) (hd g os' H') → xs[i]? = some x → ys[i]? = some y → J.go i H' ∧ ∀ v H2, J.yld i H' v H2 → ∃ T, v = .ref T ∧ H' T = none ∧ H2 = upd H' T (.tup [x, y])) : Wk g os H J (zipL as bs) := fun i os' H' s lv => by
  refine ⟨fun e => hstop i os' H' s ?_, fun d e => ?_⟩
  · rw [zipL_len] at e
    rw [ax.len, ay.len]
    omega
  · obtain ⟨a, b, ea, eb, rfl⟩ := zipL_get as bs i d e
    obtain ⟨x, e1, l1⟩ := ax.get' ea
    obtain ⟨y, e2, l2⟩ := ay.get' eb
    obtain ⟨h1, h2⟩ := hgo i os' H' x y s e1 e2
    refine ⟨h1, fun v H2 yl => ?_⟩
    obtain ⟨T, rfl, hT, rfl⟩ := h2 v H2 yl
    have sm : Same H' (upd H' T (.tup [x, y])) := same_upd hT
    refine ⟨sm, ?_⟩
    have nT : T ∉ mo g os' := fun z => by
      obtain ⟨o, e⟩ := lv T z
      rw [hT] at e; cases e
    refine .tup (SqT.of (by rw [show hd g os' (upd H' T (.tup [x, y])) T = upd H' T (.tup [x, y]) T from msk_out nT]; exact upd_same)) ?_
    exact .cons (Ld.same (hd_same sm) (Ld.same s l1)) (.cons (Ld.same (hd_same sm) (Ld.same s l2)) .nil)
theorem si_zip {e e2 : Expr} {p pos tpos : Pos} {elts : List Expr} {kk : Nat} {f : M (List D)} (fx : Fx X g) (hg : Gl X "zip") (hm : g.c.mg "zip" = none) (ha : SA X g [e, e2] f) (hs : starEach [e, e2] X.env = (false, eval e X.env) :: starEach [e2] X.env := by rfl) (hpl : ((backTo pos (starEach [e2] X.env)).any fun x => x.1) = false := by rfl) :
    SI X g (.Tuple elts kk tpos) (.Call (.Name "zip" p) [e, e2] [] pos) (mb f dzip) :=
  PI.imp (RZ.pi_zipA hg (by rw [fx.m]; exact hm) ha hs hpl) fun σ H R q => by
    obtain ⟨os, ρ, t, A, q⟩ := q
    refine ⟨os, ρ, t, A, post_mono (post_bind q) (fun ds ρ1 t1 q1 vs H1 os1 A1 l1 s1 => ?_) fun _ _ _ _ h => h⟩
    cases l1 with
    | nil => exact q1.elim
    | cons l a => cases a with
      | nil => cases l <;> exact q1.elim
      | cons l2 a => cases a with
        | cons _ _ => cases l <;> cases l2 <;> exact q1.elim
        | nil => cases l with
          | @lst a xs as hx ax => cases l2 with
            | @lst b ys bs hy ay =>
              rw [fx.k]
              refine ⟨a, b, xs, ys, rfl, .inl ⟨SqL.of (msk_le _ _ hx), SqL.of (msk_le _ _ hy), q1 _ H1 os1 A1 s1 (wk_zip ax ay (fun i os' H' s h => ⟨xs, ys, SqL.of (msk_le _ _ (s _ _ hx)), SqL.of (msk_le _ _ (s _ _ hy)), h⟩) fun i os' H' x y s e1 e2 => ?_)⟩⟩
              have hx' : SqL g.c.K H' a xs := SqL.of (msk_le _ _ (s _ _ hx))
              have hy' : SqL g.c.K H' b ys := SqL.of (msk_le _ _ (s _ _ hy))
              refine ⟨⟨xs, ys, x, y, hx', hy', e1, e2⟩, fun v H2 yl => ?_⟩
              obtain ⟨T, x', y', rfl, hT, rfl, k1, k2⟩ := yl
              have := k1 xs hx'
              rw [e1] at this
              cases this
              have := k2 ys hy'
              rw [e2] at this
              cases this
              exact ⟨T, rfl, hT, rfl⟩
            | _ => exact q1.elim
          | @tup a xs as hx ax => cases l2 with
            | @tup b ys bs hy ay =>
              rw [fx.k]
              refine ⟨a, b, xs, ys, rfl, .inr ⟨Lay.seqT hx, Lay.seqT hy, q1 _ H1 os1 A1 s1 (wk_zip ax ay (fun i os' H' s h => ⟨xs, ys, Lay.seqT (seqT_same s hx), Lay.seqT (seqT_same s hy), h⟩) fun i os' H' x y s e1 e2 => ?_)⟩⟩
              have hx' : SqT g.c.K H' a xs := Lay.seqT (seqT_same s hx)
              have hy' : SqT g.c.K H' b ys := Lay.seqT (seqT_same s hy)
              refine ⟨⟨xs, ys, x, y, hx', hy', e1, e2⟩, fun v H2 yl => ?_⟩
              obtain ⟨T, x', y', rfl, hT, rfl, k1, k2⟩ := yl
              have := k1 xs hx'
              rw [e1] at this
              cases this
              have := k2 ys hy'
              rw [e2] at this
              cases this
              exact ⟨T, rfl, hT, rfl⟩
            | _ => exact q1.elim
          | _ => cases l2 <;> exact q1.elim
end
end DL

set_option Elab.async false
set_option linter.all false
set_option maxRecDepth 100000
set_option maxHeartbeats 1000000
namespace DL
open PySem PySem.Spec PyProof.Rows L2
/-! ### sorted -/
section
variable {X : Cx} {g : G}
theorem each_of_vals : ∀ {bs : List (V × PyData)} {us : List Value}, Vals (bs.map (·.1)) us → PySem.W.EachIs (fun u b => RelV b.1 u) us bs
  | [], [], _ => .nil
  | b :: bs, u :: us, .cons r t => .cons r (each_of_vals t)
theorem vals_of_each : ∀ {bs : List (V × PyData)} {us : List Value}, PySem.W.EachIs (fun u b => RelV b.1 u) us bs → Vals (bs.map (·.1)) us
  | [], [], _ => .nil
  | b :: bs, u :: us, .cons r t => .cons r (vals_of_each t)
theorem each_reads {pins : List (Addr × Obj)} {σ : L2.St} {H : Hp} {s : Shared} (I : Inv X pins σ H s) : ∀ {bs : List (V × PyData)} {us : List Value}, (∀ b ∈ bs, Dp X.K H b.1 b.2) → PySem.W.EachIs (fun u b => RelV b.1 u) us bs →
    PySem.W.EachIs (fun u b => ∃ as, Reads s.heap u b.2 as) us bs
  | [], [], _, _ => .nil
  | b :: bs, u :: us, h, .cons r t => .cons (Dp.reads I b.2 b.1 u (h b (List.mem_cons_self ..)) r) (each_reads I (fun c hc => h c (List.mem_cons_of_mem _ hc)) t)
/-- sorted(xs) of data of one form -/
def rSortD (K : PySem.W.Frag) : List V → Hp → VK → Prop := fun vs H Q => ∃ (a : Addr) (bs : List (V × PyData)), vs = [V.ref a] ∧ SqL K H a (bs.map (·.1)) ∧ (∀ b ∈ bs, Dp K H b.1 b.2) ∧ PySem.W.AllAlike (bs.map (·.2)) ∧ PySem.W.Sortable (bs.map (·.2)) ∧ (∀ b ∈ bs, b.2.depth ≤ 60) ∧
  ∀ p, H p = none → Q (.ref p) (upd H p (.lst ((bs.mergeSort (PySem.W.dataLe false (·.2))).map (·.1))))
theorem cr_sortD (hu : X.A.units + 64 < cLine) : CallR X (.builtin "sorted") (rSortD X.K) := by
  intro pins s σ H vs us Q I r h
  obtain ⟨a, bs, rfl, hs, hd, hal, hk, hde, q⟩ := h
  obtain ⟨its, rv, hl, hz⟩ := I.list hs
  rw [Vals.ref1 r]
  have hl1 := rv.length
  rw [List.length_map] at hl1
  have e1 := each_of_vals rv
  have hzb : bs.length ≤ sizeLine := by rw [List.length_map] at hz; exact hz
  refine PySem.W.sorted_data (enc := fun b : V × PyData => b.2) hl.isList e1 (each_reads I hd e1) hal hk hzb (fun b hb => ?_) fun out h1 h2 => ?_
  · have := hde b hb
    omega
  · obtain ⟨ep, he'⟩ := PyProof.Rows.sortedAll_at s.heap its out.toArray
    have hlen : ((bs.mergeSort (PySem.W.dataLe false (·.2))).map (·.1)).length ≤ sizeLine := by rw [List.length_map, List.length_mergeSort]; exact hzb
    exact ⟨.ref _, upd H (s.heap.objs.size + 1) (.lst _), I.laid (t' := s.toks) (fun _ _ => PyProof.Rows.sortedAll_old) (Nat.le_succ _) ⟨hlen, out, ep, vals_of_each h2, he'⟩, rfl, q _ (I.hok.fresh (Nat.le_succ _))⟩
def dsle (a b : D) : Bool := PySem.W.dataLe false toP a b
def alikes : List D → Bool := fun ds => ds.all fun d => ds.all fun e => PySem.W.alike (toP d) (toP e)
def sortable : List D → Bool := fun ds => (ds.all fun d => match d with
  | .tup (_ :: _) => true
  | _ => false) || ds.all fun d => match d with
  | .bl _ => true
  | .int _ => true
  | .str _ => true
  | .lst _ => true
  | _ => false
def dsort : List D → M D
  | [.lst ds] => if plains 59 ds = true ∧ alikes ds = true ∧ sortable ds = true then mr (.lst (ds.mergeSort dsle)) else mx
  | _ => mx
theorem zip_fst : ∀ {c : Ct} {H : Hp} {vs : List V} {ds : List D}, LdA c H vs ds → (vs.zip ds).map (·.1) = vs ∧ (vs.zip ds).map (·.2) = ds ∧ ∀ p ∈ vs.zip ds, Ld c H p.1 p.2
  | _, _, _, _, .nil => ⟨rfl, rfl, fun p h => by cases h⟩
  | c, H, _, _, .cons l a => by
    obtain ⟨h1, h2, h3⟩ := zip_fst a
    refine ⟨?_, ?_, fun p hp => ?_⟩
    · rw [List.zip_cons_cons, List.map_cons, h1]
    · rw [List.zip_cons_cons, List.map_cons, h2]
    · rw [List.zip_cons_cons] at hp
      rcases List.mem_cons.mp hp with rfl | hp
      · exact l
      · exact h3 p hp
theorem ldA_of {c : Ct} {H : Hp} : ∀ (ps : List (V × D)), (∀ p ∈ ps, Ld c H p.1 p.2) → LdA c H (ps.map (·.1)) (ps.map (·.2))
  | [], _ => .nil
  | p :: ps, h => .cons (h p List.mem_cons_self) (ldA_of ps fun q hq => h q (List.mem_cons_of_mem _ hq))
theorem toPs_map : ∀ ds : List D, toPs ds = ds.map toP
  | [] => rfl
  | d :: ds => by rw [toPs, List.map_cons, toPs_map ds]
theorem plains_mem : ∀ {n : Nat} {ds : List D}, plains n ds = true → ∀ d ∈ ds, plain n d = true
  | n, d :: ds, h, e, he => by
    have h' : (plain n d && plains n ds) = true := h
    rw [Bool.and_eq_true] at h'
    rcases List.mem_cons.mp he with rfl | he
    · exact h'.1
    · exact plains_mem h'.2 e he
theorem ca_sort : CaF g (rSortD g.c.K) dsort := by
  intro os σ H ρ t xs ds Q A l q
  cases l with
  | nil => exact q.elim
  | cons l a => cases a with
    | cons _ _ => cases l <;> exact q.elim
    | nil => cases l with
      | @lst b vs es hx ax =>
        simp only [dsort] at q
        rcases post_if q with ⟨⟨c1, c2, c3⟩, q⟩ | ⟨_, q⟩
        · obtain ⟨z1, z2, z3⟩ := zip_fst ax
          have m1 : ((vs.zip es).map fun p => (p.1, toP p.2)).map (·.1) = vs := by rw [List.map_map]; exact z1
          have m2 : ((vs.zip es).map fun p => (p.1, toP p.2)).map (·.2) = es.map toP := by
            rw [List.map_map, ← z2, List.map_map, z2]; rfl
          refine ⟨b, (vs.zip es).map fun p => (p.1, toP p.2), rfl, by rw [m1]; exact SqL.of (msk_le _ _ hx), fun p hp => ?_, ?_, ?_, fun p hp => ?_, fun p hp => ?_⟩
          · obtain ⟨r, hr, rfl⟩ := List.mem_map.mp hp
            have hd : r.2 ∈ es := by rw [← z2]; exact List.mem_map_of_mem hr
            exact Ld.dp (Ld.same msk_le (z3 r hr)) (plains_mem c1 _ hd)
          · rw [m2]
            intro d hd d' hd'
            obtain ⟨x, hx', rfl⟩ := List.mem_map.mp hd
            obtain ⟨y, hy', rfl⟩ := List.mem_map.mp hd'
            unfold alikes at c2
            exact (List.all_eq_true.mp ((List.all_eq_true.mp c2) x hx')) y hy'
          · rw [m2]
            unfold sortable at c3
            rcases (Bool.or_eq_true _ _).mp c3 with h | h
            · left
              intro d hd
              obtain ⟨x, hx', rfl⟩ := List.mem_map.mp hd
              have := (List.all_eq_true.mp h) x hx'
              cases x with
              | tup ts => cases ts with
                | nil => cases this
                | cons y ys => exact ⟨toP y, toPs ys, rfl⟩
              | _ => cases this
            · right
              intro d hd
              obtain ⟨x, hx', rfl⟩ := List.mem_map.mp hd
              have := (List.all_eq_true.mp h) x hx'
              cases x with
              | bl b => exact ⟨fun e => by simp [toP] at e, fun _ e => by simp [toP] at e⟩
              | int b => exact ⟨fun e => by simp [toP] at e, fun _ e => by simp [toP] at e⟩
              | str b => exact ⟨fun e => by simp [toP] at e, fun _ e => by simp [toP] at e⟩
              | lst b => exact ⟨fun e => by simp [toP] at e, fun _ e => by simp [toP] at e⟩
              | _ => cases this
          · obtain ⟨r, hr, rfl⟩ := List.mem_map.mp hp
            have hd : r.2 ∈ es := by rw [← z2]; exact List.mem_map_of_mem hr
            have := (plain_lay (plains_mem c1 _ hd)).2
            show (toP r.2).depth ≤ 60
            omega
          · obtain ⟨A2, n2, w2, s2⟩ := own_new (o := .lst ((((vs.zip es).map fun p => (p.1, toP p.2)).mergeSort (PySem.W.dataLe false (·.2))).map (·.1))) A hp
            refine q p _ os A2 ⟨_, upd_same, ?_⟩ ⟨n2, hp⟩ w2 s2
            have e1 : ((vs.zip es).mergeSort fun x y => dsle x.2 y.2).map (fun p => (p.1, toP p.2)) = ((vs.zip es).map fun p => (p.1, toP p.2)).mergeSort (PySem.W.dataLe false (·.2)) := List.map_mergeSort fun _ _ _ _ => rfl
            have e2 := List.map_mergeSort (f := fun p : V × D => p.2) (l := vs.zip es) (r := fun x y => dsle x.2 y.2) (s := dsle) fun _ _ _ _ => rfl
            rw [z2] at e2
            have lay : LdA g.c (hd g os H) ((((vs.zip es).map fun p => (p.1, toP p.2)).mergeSort (PySem.W.dataLe false (·.2))).map (·.1)) (es.mergeSort dsle) := by
              rw [← e1, List.map_map, ← e2]
              exact ldA_of _ fun p hp => z3 p ((List.mergeSort_perm _ _).mem_iff.mp hp)
            exact LdA.same (Go.s s2) lay
        · exact q.elim
      | _ => exact q.elim
theorem sf_sort {p pos : Pos} {e : Expr} {h : M (List D)} (fx : Fx X g) (hg : Gl X "sorted") (hm : g.c.mg "sorted" = none) (ha : SA X g [e] h) (he : starEach (e :: []) X.env = (false, eval e X.env) :: starEach [] X.env := by rfl) (hpl : (backTo pos (starEach [] X.env)).any (·.1) = false := by rfl) :
    SF X g (.Call (.Name "sorted" p) [e] [] pos) (mb h dsort) :=
  PE.imp (pe_callB (cr_sortD fx.u64) hg (by rw [fx.m]; exact hm) (by decide +kernel) ha (by decide) (by decide) he hpl) (by rw [fx.k]; exact caF_w ca_sort)
/-! ### t.index(z) of texts -/
def strL : List D → Option (List Str)
  | [] => some []
  | .str s :: ds => match strL ds with
    | some r => some (s :: r)
    | none => none
  | _ => none
theorem strs_ok {c : Ct} {H : Hp} : ∀ {vs : List V} {ds : List D} {ss : List Str}, LdA c H vs ds → strL ds = some ss → vs = ss.map V.str
  | _, [], ss, .nil, h => by cases h; rfl
  | _, d :: ds, ss, .cons l a, h => by
    cases d with
    | str s =>
      cases l
      simp only [strL] at h
      cases e : strL ds with
      | none => rw [e] at h; cases h
      | some r =>
        rw [e] at h
        cases h
        rw [strs_ok a e]
        rfl
    | _ => cases h
def dtix (d : D) : List D → M D
  | [.str z] => match d with
    | .tup ds => match strL ds with
      | some ss => if z ∈ ss then mr (.int (ss.idxOf z : Nat)) else mx
      | none => mx
    | _ => mx
  | _ => mx
/-- a tuple of the module -/
def KTup (c : Ct) (x : Str) (ds : List D) : Prop := ∃ p o, c.mg x = some (.ref p) ∧ c.K.lookup p = some o ∧ o.cls = .type "tuple" ∧ o.dict = none ∧ ∃ xs, (∀ H, SqT c.K H p xs) ∧ ∀ H, LdA c H xs ds
theorem se_tix {x : Str} {e : Expr} {px ap cp : Pos} {ds : List D} {h : M (List D)} (fx : Fx X g) (hg : Gl X x) (hk : KTup g.c x ds) (ha : SA X g [e] h) (hd : (x == ("__debug__" : Str)) = false := by decide)
    (hab : attributeBase (.Name x px) "index" X.env (eval (.Name x px) X.env) = eval (.Name x px) X.env := by rfl)
    (h1 : ((((backTo cp (starEach [e] X.env)).all fun x => !x.1) && (backToKw cp (keywordEach [] X.env)).all fun x => x.1.isSome) && decide ((([e] : List Expr).length + ([] : List (Option Str × Expr)).length + if ([] : List (Option Str × Expr)).isEmpty = true then 0 else 1) < 30)) = true := by rfl)
    (h2 : (ap.endLine == cp.line) = true := by rfl) (h3 : starEach (e :: []) X.env = (false, eval e X.env) :: starEach [] X.env := by rfl) (h4 : ((backTo cp (starEach [] X.env)).any fun x => x.1) = false := by rfl) :
    SE X g (.Call (.Attribute (.Name x px) "index" ap) [e] [] cp) (mb h (dtix (.tup ds))) := by
  obtain ⟨p, o, k1, k2, k3, k4, xs, k5, k6⟩ := hk
  refine PE.imp (pe_bm PySem.F.plainAttrs_tuple PySem.F.slot_tuple_index PySem.F.type_tuple_index mt_tup_index (pe_glob hg (by rw [fx.m]; exact k1) (v := .ref p) rfl hd) ha hab h1 h2 h3 h4) fun σ H Q q => ?_
  obtain ⟨os, ρ, t, A, q⟩ := q
  refine ⟨by rw [fx.k]; exact .inr (.inl ⟨rfl, o, k2, k3, k4⟩), os, ρ, t, A, post_mono (post_bind q) (fun es ρ1 t1 q1 vs H1 os1 A1 l1 s1 => ?_) fun _ _ _ _ h => h⟩
  cases l1 with
  | nil => exact q1.elim
  | cons l a => cases a with
    | cons _ _ => cases l <;> exact q1.elim
    | nil => cases l with
      | str z =>
        simp only [dtix] at q1
        cases es : strL ds with
        | none => simp only [es] at q1; exact q1.elim
        | some ss =>
          simp only [es] at q1
          rcases post_if q1 with ⟨c, q1⟩ | ⟨_, q1⟩
          · have ev := strs_ok (k6 H1) es
            subst ev
            have hl := List.idxOf_lt_length_of_mem c
            refine ⟨p, ss, z, ss.idxOf z, rfl, rfl, by rw [fx.k]; exact k5 H1, ?_, fun m hm e => ?_, q1 _ H1 os1 A1 (.int _) s1⟩
            · rw [List.getElem?_eq_getElem hl, List.getElem_idxOf]
            · have hlt : m < ss.length := Nat.lt_trans hm hl
              rw [List.getElem?_eq_getElem hlt] at e
              have nn := List.not_of_lt_findIdx (p := (· == z)) (xs := ss) hm
              rw [Option.some.inj e] at nn
              simp at nn
          · exact q1.elim
      | _ => exact q1.elim
end
end DL

set_option Elab.async false
set_option linter.all false
set_option maxRecDepth 100000
set_option maxHeartbeats 1000000
namespace DL
open PySem PySem.Spec PyProof.Rows L2
section
variable {X : Cx} {g : G}
/-! ### powers, signs -/
def dpow : D → D → M D
  | .int i, .int j => if 0 ≤ j ∧ j ≤ 64 ∧ 0 ≤ i ∧ i ≤ 64 then mr (.int (i ^ j.toNat)) else mx
  | _, _ => mx
theorem os_pow : OpS g (rI CPow fun i j => .int (i ^ j.toNat)) dpow := by
  intro os σ H ρ t x y d e Q A lx ly q
  cases lx with
  | int i => cases ly with
    | int j =>
      rcases post_if q with ⟨c, q⟩ | ⟨_, q⟩
      · exact ⟨i, j, rfl, rfl, ⟨by omega, by omega, by omega⟩, q _ H os A (.int _) Go.refl⟩
      · exact q.elim
    | _ => exact q.elim
  | _ => exact q.elim
theorem se_pow {a b : Expr} {pos : Pos} {f h : M D} (ha : SE X g a f) (hb : SE X g b h) : SE X g (.BinOp a .Pow b pos) (e2 dpow f h) := PE.imp (pe_op op_pow ha hb) (op_w os_pow)
def dneg : D → M D
  | .int i => mr (.int (-i))
  | _ => mx
theorem se_neg {a : Expr} {pos : Pos} {f : M D} (ha : SE X g a f) : SE X g (.UnaryOp .USub a pos) (mb f dneg) := PE.imp (pe_un un_neg ha) fun σ H Q q => by
  obtain ⟨os, ρ, t, A, q⟩ := q
  refine ⟨os, ρ, t, A, post_mono (post_bind q) (fun d ρ1 t1 q1 v H1 os1 A1 l1 s1 => ?_) fun _ _ _ _ h => h⟩
  cases l1 with
  | int i => exact ⟨i, rfl, q1 _ H1 os1 A1 (.int _) s1⟩
  | _ => exact q1.elim
end
/-! ### what the module's names hold -/
def scal : Value → D → Bool
  | .none, .non => true
  | .bool b, .bl c => b == c
  | .int i _, .int j => decide (i = j)
  | .str s _, .str t => decide (s = t)
  | _, _ => false
def all2 (f : Value → D → Bool) : List Value → List D → Bool
  | [], [] => true
  | v :: vs, d :: ds => f v d && all2 f vs ds
  | _, _ => false
def kTup (K : PySem.W.Frag) (f : Value → D → Bool) : Value → D → Bool
  | .ref a, .tup ds => match K.lookup a with
    | some ⟨.type T, _, .seq its _, _⟩ => decide (T = "tuple") && decide (its.size ≤ sizeLine) && all2 f its.toList ds
    | _ => false
  | _, _ => false
def kLd : Nat → PySem.W.Frag → Value → D → Bool
  | 0, _, u, d => scal u d
  | n + 1, K, u, d => scal u d || kTup K (kLd n K) u d
theorem scal_ok {c : Ct} {u : Value} {d : D} (h : scal u d = true) : ∃ v, RelV v u ∧ ∀ H, Ld c H v d := by
  unfold scal at h
  split at h
  · exact ⟨.non, rfl, fun _ => .non⟩
  · cases (beq_iff_eq.mp h)
    exact ⟨.bl _, rfl, fun _ => .bl _⟩
  · cases (of_decide_eq_true h)
    exact ⟨.int _, ⟨_, rfl⟩, fun _ => .int _⟩
  · cases (of_decide_eq_true h)
    exact ⟨.str _, ⟨_, rfl⟩, fun _ => .str _⟩
  · cases h
theorem all2_ok {c : Ct} {f : Value → D → Bool} (hf : ∀ u d, f u d = true → ∃ v, RelV v u ∧ ∀ H, Ld c H v d) : ∀ (us : List Value) (ds : List D), all2 f us ds = true → ∃ vs, Vals vs us ∧ ∀ H, LdA c H vs ds
  | [], [], _ => ⟨[], .nil, fun _ => .nil⟩
  | u :: us, d :: ds, h => by
    have h' : (f u d && all2 f us ds) = true := h
    rw [Bool.and_eq_true] at h'
    obtain ⟨v, h1, h2⟩ := hf u d h'.1
    obtain ⟨vs, h3, h4⟩ := all2_ok hf us ds h'.2
    exact ⟨v :: vs, .cons h1 h3, fun H => .cons (h2 H) (h4 H)⟩
  | [], _ :: _, h => by cases h
  | _ :: _, [], h => by cases h
theorem kTup_ok {c : Ct} {f : Value → D → Bool} (hf : ∀ u d, f u d = true → ∃ v, RelV v u ∧ ∀ H, Ld c H v d) {u : Value} {d : D} (h : kTup c.K f u d = true) : ∃ v, RelV v u ∧ ∀ H, Ld c H v d := by
  unfold kTup at h
  split at h
  · rename_i a ds
    split at h
    · rename_i T od its m osl q
      rw [Bool.and_eq_true, Bool.and_eq_true] at h
      obtain ⟨⟨h1, h2⟩, h3⟩ := h
      obtain ⟨xs, h4, h5⟩ := all2_ok hf _ _ h3
      exact ⟨.ref a, rfl, fun H => .tup (.inr ⟨_, its, m, q, congrArg Value.type (of_decide_eq_true h1), rfl, of_decide_eq_true h2, h4⟩) (h5 H)⟩
    · cases h
  · cases h
theorem kLd_ok {c : Ct} : ∀ (n : Nat) (u : Value) (d : D), kLd n c.K u d = true → ∃ v, RelV v u ∧ ∀ H, Ld c H v d
  | 0, u, d, h => scal_ok h
  | n + 1, u, d, h => by
    have h' : (scal u d || kTup c.K (kLd n c.K) u d) = true := h
    rcases (Bool.or_eq_true _ _).mp h' with h | h
    · exact scal_ok h
    · exact kTup_ok (kLd_ok n) h
/-- a name of the module holds a datum -/
def KD (c : Ct) (x : Str) (d : D) : Prop := ∃ u v, c.mg x = some u ∧ RelV v u ∧ ∀ H, Ld c H v d
end DL

set_option Elab.async false
set_option linter.all false
set_option maxRecDepth 100000
set_option maxHeartbeats 1000000
namespace DL
open PySem PySem.Spec PyProof.Rows L2
section
variable {X : Cx} {g : G}
/-! ### a test that is an if -/
def bifE (k : M Bool) (f h : M Bool) : M Bool := mb k fun b => if b = true then f else h
theorem st_if {c a b : Expr} {pos : Pos} {k f h : M Bool} (hc : ST X g c k) (ha : ST X g a f) (hb : ST X g b h) : ST X g (.IfExp c a b pos) (bifE k f h) := by
  refine ⟨fun pins s σ H Q I q => ?_⟩
  rw [arm_isTrue_IfExp]
  obtain ⟨os, ρ, t, A, q⟩ := q
  refine wpAny_bind (thn (hc.run pins s σ H (fun b H1 => (b = true ∧ bD g f σ H1 Q) ∨ (b = false ∧ bD g h σ H1 Q)) I ⟨os, ρ, t, A, post_mono (post_bind q) (fun b ρ1 t1 q1 H1 os1 A1 s1 => ?_) fun _ _ _ _ h => h⟩) fun b s1 h1 => ?_)
  · have mk : ∀ {m : M Bool}, (m ρ1 t1).post (fun b ρ' t' => ∀ H' os', Amb g os' σ H' ρ' t' → Go g os H os' H' → Q b H') noX → bD g m σ H1 Q := fun {m} z => ⟨os1, ρ1, t1, A1, post_mono z (fun b ρ2 t2 q2 H2 os2 A2 s2 => q2 H2 os2 A2 (s1.trans s2)) fun _ _ _ _ h => h⟩
    rcases post_if q1 with ⟨hb, q1⟩ | ⟨hb, q1⟩
    · exact .inl ⟨hb, mk q1⟩
    · exact .inr ⟨by simpa using hb, mk q1⟩
  · obtain ⟨H1, I1, ⟨rfl, z⟩ | ⟨rfl, z⟩⟩ := h1
    · rw [if_pos rfl]; exact ha.run pins s1 σ H1 Q I1 z
    · rw [if_neg Bool.false_ne_true]; exact hb.run pins s1 σ H1 Q I1 z
/-! ### x = [.. for ..] -/
theorem lc_w {is : List Nat} {it : M (List D)} {tgt : D → M Unit} {tst : M Bool} {el : M D} {vs : List Nat} (hv : ∀ j ∈ is, j ∈ vs) : ∀ σ H Q, fD g (lcD it tgt tst el vs) σ H Q → tLc (iD g it) (gD g is tgt) (bD g tst) (tD g el) vs σ H Q := fun σ H Q q => by
    obtain ⟨os, ρ, t, A, q⟩ := q
    refine ⟨os, ρ, t, A, post_mono (post_bind q) (fun ds ρ1 t1 q1 J H1 os1 A1 s1 wk => ?_) fun _ _ _ _ h => h⟩
    intro Da hD
    obtain ⟨A2, n2, w2, s2⟩ := own_new (o := HO.lst []) A1 hD
    have ff : ∀ b ∈ os1, b ≠ Da := fun b hb z => by
      obtain ⟨o, e⟩ := A1.live b (List.mem_append_right _ hb)
      rw [z, hD] at e; cases e
    refine ⟨fun i m H' => m = ds.length - i ∧ i ≤ ds.length ∧ ∃ t' acc accv, Amb g (Da :: os1) σ H' ρ1 t' ∧ H' Da = some (.lst accv) ∧ LayA g (Da :: os1) H' accv acc ∧ Go g os1 H1 (Da :: os1) H' ∧
      (lcGo tgt tst el vs ρ1 (ds.drop i) acc t').post (fun acc ρ' t' => ∀ p H' os', Amb g (p :: os') σ H' ρ' t' → Own g (p :: os') H' p (.lst acc) → (p ∉ mo g os' ∧ H p = none) → NOw σ ρ' p → Go g os H (p :: os') H' → Q (.ref p) H') noX,
      ⟨ds.length, by simp, Nat.zero_le _, t1, [], [], A2, upd_same, .nil, s2, by rw [List.drop_zero]; exact post_bind q1⟩, ?_⟩
    rintro i m H2 ⟨rfl, hi, t2, acc, accv, A2, h2, l2, s2, q2⟩
    obtain ⟨wz, wy⟩ := wk i _ H2 s2.s A2.live
    by_cases hlt : i < ds.length
    · obtain ⟨go, yl⟩ := wy ds[i] (List.getElem?_eq_getElem hlt)
      rw [List.drop_eq_getElem_cons hlt] at q2
      refine .inr ⟨go, fun H' => ∃ t' acc accv, Amb g (Da :: os1) σ H' ρ1 t' ∧ H' Da = some (.lst accv) ∧ LayA g (Da :: os1) H' accv acc ∧ Go g os1 H1 (Da :: os1) H' ∧
          (lcGo tgt tst el vs ρ1 (ds.drop (i + 1)) acc t').post (fun acc ρ' t' => ∀ p H' os', Amb g (p :: os') σ H' ρ' t' → Own g (p :: os') H' p (.lst acc) → (p ∉ mo g os' ∧ H p = none) → NOw σ ρ' p → Go g os H (p :: os') H' → Q (.ref p) H') noX,
        fun H' ⟨t', acc, accv, a, b, c, d, e⟩ => ⟨ds.length - (i + 1), by omega, rfl, hlt, t', acc, accv, a, b, c, d, e⟩, fun x H3 y => ?_⟩
      obtain ⟨s3, l3⟩ := yl x H3 y
      have q2 := post_bind (show (((tgt ds[i]) (unS ρ1 vs) t2).bind _).post _ _ from q2)
      have A3 := (A2.same s3).wipe vs
      refine ⟨_, unS ρ1 vs, t2, ds[i], A3, l3, post_mono q2 (fun _ ρ4 t4 q4 σ4 A4 k4 n4 => ?_) fun _ _ _ _ h => h⟩
      refine ⟨wipe_eq hv n4 k4, _, ρ4, t4, A4, post_mono (post_bind q4) (fun b ρ5 t5 q5 H5 os5 A5 s5 => ?_) fun _ _ _ _ h => h⟩
      have g5 := (Go.same (g := g) (os := Da :: os1) s3).trans s5
      by_cases hb : b = true
      · show ite (b = true) _ _
        rw [if_pos hb] at q5 ⊢
        refine ⟨os5, ρ5, t5, A5, post_mono (post_bind q5) (fun d ρ6 t6 q6 u H6 os6 A6 l6 s6 => ?_) fun _ _ _ _ h => h⟩
        have g6 := g5.trans s6
        have B := A2.go g6 A6
        have h6 := (g6.k Da List.mem_cons_self).2 _ h2
        by_cases hc : acc.length < lim
        · rw [if_pos hc] at q6
          refine ⟨accv, h6, by rw [l2.len]; exact Nat.lt_of_lt_of_le hc (by decide), t6, acc ++ [d], accv ++ [u], B.write List.mem_cons_self w2, upd_same, ?_, ?_, q6⟩
          · have hm : hd g (Da :: os1) (upd H6 Da (.lst (accv ++ [u]))) = hd g (Da :: os1) H6 := msk_upd (List.mem_append_right _ List.mem_cons_self)
            show LdA g.c (hd g (Da :: os1) (upd H6 Da (.lst (accv ++ [u])))) _ _
            rw [hm]
            exact LdA.app (LdA.same g6.base.s l2) (.cons (Ld.same g6.back l6) .nil)
          · have g7 := s2.trans g6.base
            refine ⟨?_, fun b hb => ⟨(g7.k b hb).1, fun o e => by rw [upd_ne (ff b hb)]; exact (g7.k b hb).2 o e⟩, fun x C dx e o z => ?_⟩
            · rw [show hd g (Da :: os1) (upd H6 Da (.lst (accv ++ [u]))) = hd g (Da :: os1) H6 from msk_upd (List.mem_append_right _ List.mem_cons_self)]
              exact g7.s
            · rw [upd_ne fun w => by rw [w, hD] at z; cases z]
              exact g7.x x C dx e o z
        · rw [if_neg hc] at q6; exact q6.elim
      · show ite (b = true) _ _
        rw [if_neg hb] at q5 ⊢
        exact ⟨t5, acc, accv, A2.go g5 A5, (g5.k Da List.mem_cons_self).2 _ h2, LdA.same g5.base.s l2, s2.trans g5.base, q5⟩
    · have e : i = ds.length := by omega
      subst e
      rw [List.drop_length] at q2
      exact .inl ⟨wz rfl, q2 Da H2 os1 A2 ⟨accv, h2, l2⟩ ⟨n2, s1.none A1 hD⟩ w2 (s1.trans s2)⟩
theorem ss_lcO {i : Nat} {y : Str} {py : Pos} {elt tg iter : Expr} {ifs : List Expr} {scope : Scope} {own : List (Str × Nat)} {pos spos : Pos} {it : M (List D)} {is : List Nat} {tgt : D → M Unit} {tst : M Bool} {el : M D} (fx : Fx X g) (hy : X.N[i]? = some y) (hl : X.env.scope.names.lookup y = some .local)
    (hsw : swapsWith (.ListComp elt [⟨tg, iter, ifs, 0⟩] scope pos) (some (.Name y py)) spos.line X.env = pure true) (hi : SI X g tg iter it) (ok : BlkOk X.N X.env.scope scope own)
    (hg : ∀ (s : Shared) (H : Hp) (C : Addr) (cl : List (Str × Addr)) (fp : List Addr), SG (X.blk s H scope (compEnvC scope cl C X.env) fp) g tg is tgt)
    (ht : ∀ (s : Shared) (H : Hp) (C : Addr) (cl : List (Str × Addr)) (fp : List Addr), PTs (X.blk s H scope (compEnvC scope cl C X.env) fp) ifs (bD g tst))
    (he : ∀ (s : Shared) (H : Hp) (C : Addr) (cl : List (Str × Addr)) (fp : List Addr), SE (X.blk s H scope (compEnvC scope cl C X.env) fp) g elt el)
    (hv : ∀ j ∈ is, j ∈ own.map (·.2) := by decide) (hs : ∀ (x : Value), foldedSetIterable iter X.env x = pure x := by intro _; rfl) :
    SS X g (.Assign [.Name y py] (.ListComp elt [⟨tg, iter, ifs, 0⟩] scope pos) spos) (asgO i (lcD it tgt tst el (own.map (·.2)))) :=
  PS.imp (ps_setLc fx.c fx.n hy hl hsw hi ok hg ht he hs) fun Dn σ H q => by
    obtain ⟨os, ρ, t, A, q⟩ := q
    exact lc_w hv σ H _ ⟨os, ρ, t, A, post_mono (post_bind q) (fun d ρ1 t1 q1 p H1 os1 A1 o1 n1 w1 s1 => q1 _ H1 (p :: os1) (A1.putO o1 w1) s1) fun _ _ _ _ h => h⟩
theorem ss_lc {i : Nat} {y : Str} {py : Pos} {elt tg iter : Expr} {ifs : List Expr} {scope : Scope} {own : List (Str × Nat)} {pos spos : Pos} {it : M (List D)} {is : List Nat} {tgt : D → M Unit} {tst : M Bool} {el : M D} (fx : Fx X g) (hy : X.N[i]? = some y) (hl : X.env.scope.names.lookup y = some .local)
    (hsw : swapsWith (.ListComp elt [⟨tg, iter, ifs, 0⟩] scope pos) (some (.Name y py)) spos.line X.env = pure true) (hi : SI X g tg iter it) (ok : BlkOk X.N X.env.scope scope own)
    (hg : ∀ (s : Shared) (H : Hp) (C : Addr) (cl : List (Str × Addr)) (fp : List Addr), SG (X.blk s H scope (compEnvC scope cl C X.env) fp) g tg is tgt)
    (ht : ∀ (s : Shared) (H : Hp) (C : Addr) (cl : List (Str × Addr)) (fp : List Addr), PTs (X.blk s H scope (compEnvC scope cl C X.env) fp) ifs (bD g tst))
    (he : ∀ (s : Shared) (H : Hp) (C : Addr) (cl : List (Str × Addr)) (fp : List Addr), SE (X.blk s H scope (compEnvC scope cl C X.env) fp) g elt el)
    (hv : ∀ j ∈ is, j ∈ own.map (·.2) := by decide) (hs : ∀ (x : Value), foldedSetIterable iter X.env x = pure x := by intro _; rfl) :
    SS X g (.Assign [.Name y py] (.ListComp elt [⟨tg, iter, ifs, 0⟩] scope pos) spos) (asg i (lcD it tgt tst el (own.map (·.2)))) :=
  PS.imp (ps_setLc fx.c fx.n hy hl hsw hi ok hg ht he hs) fun Dn σ H q => by
    obtain ⟨os, ρ, t, A, q⟩ := q
    exact lc_w hv σ H _ ⟨os, ρ, t, A, post_mono (post_bind q) (fun d ρ1 t1 q1 p H1 os1 A1 o1 n1 w1 s1 => q1 _ H1 os1 ((A1.drop w1).putI (own_lay o1 n1.1)) (s1.drop A n1.2).s) fun _ _ _ _ h => h⟩
/-! ### [..] * n -/
def drep : D → D → M D
  | .lst xs, .int k => if 0 ≤ k ∧ k ≤ 1000 ∧ xs.length ≤ 1000 then mr (.lst (List.replicate k.toNat xs).flatten) else mx
  | _, _ => mx
theorem LdA.rep {c : Ct} {H : Hp} {vs : List V} {ds : List D} (a : LdA c H vs ds) : ∀ n : Nat, LdA c H (List.replicate n vs).flatten (List.replicate n ds).flatten
  | 0 => .nil
  | n + 1 => by
    rw [List.replicate_succ, List.replicate_succ, List.flatten_cons, List.flatten_cons]
    exact LdA.app a (LdA.rep a n)
theorem os_rep : OpS g rRep drep := by
  intro os σ H ρ t x y d e Q A lx ly q
  cases lx with
  | @lst a xs ds hx ax => cases ly with
    | int k =>
      rcases post_if q with ⟨c, q⟩ | ⟨_, q⟩
      · have hl := ax.len
        refine ⟨a, k, xs, rfl, rfl, msk_le _ _ hx, by omega, by omega, ?_, fun p hp => ?_⟩
        · have h1 : k.toNat ≤ 1000 := by omega
          have h2 : xs.length ≤ 1000 := by omega
          have := Nat.mul_le_mul h2 h1
          exact Nat.le_trans this (by decide)
        · obtain ⟨A1, h1, s1⟩ := lay_new (o := .lst (List.replicate k.toNat xs).flatten) A hp
          exact q _ _ os A1 (.lst h1 (LdA.same (Go.s s1) (LdA.rep ax _))) s1
      · exact q.elim
    | _ => exact q.elim
  | _ => cases ly <;> exact q.elim
theorem se_rep {a b : Expr} {pos : Pos} {f h : M D} (ha : SE X g a f) (hb : SE X g b h) : SE X g (.BinOp a .Mult b pos) (e2 drep f h) := PE.imp (pe_op op_rep ha hb) (op_w os_rep)
end
end DL

set_option Elab.async false
set_option linter.all false
set_option maxRecDepth 100000
set_option maxHeartbeats 1000000
namespace DL
open PySem PySem.Spec PyProof.Rows L2
/-! ### the law -/
/-- the promise of the def that makes the pen -/
def spPen (K : PySem.W.Frag) (n : Str) : Sp := fun vs H Q _ => ∃ (a : Addr) (ns : List Int), vs = [.ref a] ∧ SqL K H a (ns.map V.int) ∧ ns.length ≤ 63 ∧ ∀ (p l : Addr) (H' : Hp), Same H H' → PenAt H' p l n ⟨ns, 0, 0⟩ → Q (.ref p) H'
def spLaw (K : PySem.W.Frag) : Sp := fun vs H Q _ => ∃ (a : Addr) (ns : List Int), vs = [.ref a] ∧ SqL K H a (ns.map V.int) ∧ ns.length ≤ 63 ∧ ∀ H', Q (.bl true) H'
theorem SSs.any {X : Cx} {c : Ct} {n : Str} {rest : List Stmt} {fM : M Fl} (h : ∀ g, g.c = c → PenN g n → Fx X g → SSs X g rest fM) : PSs X rest (fun Dn σ H => ∃ g, g.c = c ∧ PenN g n ∧ Fx X g ∧ sD g fM Dn σ H) :=
  ⟨fun pins s σ H Dn I ⟨g, h1, h2, h3, q⟩ => (h g h1 h2 h3).run pins s σ H Dn I q⟩
def rho0 (n : Nat) : List Sl := .un :: .pn :: List.replicate (n - 2) .un
section
variable {c : Ct} {P : Program} {base : Heap} {x q : Str} {params : Arguments} {body : List Stmt} {scope : Scope} {f : Addr} {fd : FuncData} {N : List Str} {k : Nat} {n : Str}
theorem ok_L (F : FunD c.K x q params body scope [] [] f fd) (S : FnScope N ["_law_script"] scope) (hn : 2 ≤ N.length) {fM : M Fl} {st : Stmt} {rest : List Stmt} (hbd : body = st :: rest)
    (h0 : ∀ (cdv : Value) (A : Around) (outer : List Env) (s : Shared) (H : Hp) (E : XK), Room k (A.deeper (envOfC q scope s.heap.objs.size f cdv)) →
      PS (bX P c.w c.K c.mg base N q scope f cdv A outer s H E) st (tAsg (tCall (spPen c.K n) [] E0 (fun σ H Q => ∃ v, σ[0]? = some (some v) ∧ Q [v] H)) (gName 1)))
    (hr : ∀ (cdv : Value) (A : Around) (outer : List Env) (s : Shared) (H : Hp) (E : XK) (g : G), Room k (A.deeper (envOfC q scope s.heap.objs.size f cdv)) → g.c = c → PenN g n → Fx (bX P c.w c.K c.mg base N q scope f cdv A outer s H E) g →
      SSs (bX P c.w c.K c.mg base N q scope f cdv A outer s H E) g rest fM)
    (hM : ∀ ns : List Int, ns.length ≤ 63 → (fM (rho0 N.length) ⟨ns, 0, 0⟩).post (fun fl _ _ => fl = .rt (.bl true)) noX) :
    FnOk P c.w c.K c.mg base CX0 (k + 1) f fd ["_law_script"] (spLaw c.K) := by
  subst hbd
  refine F.ok S (fun vs H Q E h => ?_) (fun cdv A outer s H vs Q E hroom h => ?_)
  · obtain ⟨a, ns, rfl, _⟩ := h
    rfl
  · obtain ⟨a, ns, rfl, hS, hl, hq⟩ := h
    refine ⟨_, PSs.nox (pss_cons (h0 cdv A outer s H E hroom) (SSs.any fun g h1 h2 h3 => hr cdv A outer s H E g hroom h1 h2 h3)), ?_⟩
    refine ⟨.ref a, rfl, a, ns, rfl, hS, hl, fun p l H' sm pa => ?_⟩
    let g : G := ⟨c, some (p, l, n), none, [p], H'⟩
    have np : p ≠ l := ne_of pa.d pa.l (by intro z; cases z)
    refine ⟨g, rfl, ⟨rfl, fun _ _ _ e => by cases e; rfl⟩, fx_of S hroom rfl, [], rho0 N.length, ⟨ns, 0, 0⟩, ?_, ?_⟩
    · have hlen : (L2.start N [V.ref a]).length = N.length := by
        unfold L2.start
        rw [List.length_append, List.length_map, List.length_replicate]
        show 1 + (N.length - 1) = N.length
        omega
      refine ⟨?_, fun i sx e => ?_, fun i j d e b ne h1 h2 h3 h4 => ?_, Pres.refl, (fun b hb => by cases hb), fun b hb => ?_, (fun _ _ _ e => by cases e), fun b hb => ?_, fun p' l' n' e => ?_⟩
      · rw [List.length_set, hlen]
        show (List.replicate (N.length - 2) Sl.un).length + 1 + 1 = N.length
        rw [List.length_replicate]
        omega
      · match i, e with
        | 0, e => cases e; trivial
        | 1, e =>
          cases e
          refine ⟨p, l, n, rfl, ?_⟩
          rw [List.getElem?_set_self (by rw [hlen]; omega)]
        | i + 2, e =>
          have : (List.replicate (N.length - 2) Sl.un)[i]? = some sx := e
          rw [List.eq_of_mem_replicate (List.mem_of_getElem? this)]
          trivial
      · match i, h1 with
        | 0, h1 => cases h1
        | 1, h1 => cases h1
        | i + 2, h1 =>
          have : (List.replicate (N.length - 2) Sl.un)[i]? = some (.ow d) := h1
          have := List.eq_of_mem_replicate (List.mem_of_getElem? this)
          cases this
      · have : b ∈ [p] := by
          have h := hb
          rw [show mo g [] = [p] from List.append_nil _] at h
          exact h
        rw [List.mem_singleton.mp this]
        exact ⟨_, pa.d⟩
      · rw [List.mem_singleton.mp hb]
        exact ⟨_, pa.d⟩
      · cases e
        exact ⟨pa, List.mem_singleton.mpr rfl, fun z => np (List.mem_singleton.mp z).symm, _, pa.l⟩
    · refine post_mono (hM ns hl) (fun fl ρ' t' e => ?_) fun _ _ _ _ h => h
      subst e
      intro v σ' H2 os' A' l' s'
      cases l'
      exact hq H2
end
end DL

set_option Elab.async false
set_option linter.all false
set_option maxRecDepth 100000
set_option maxHeartbeats 1000000
namespace DL
open PySem PySem.Spec PyProof.Rows
open L2 hiding isNon
/-! ### running M -/
def Ou.is {α : Type} (r : Ou α) (a : α) : Prop := ∃ ρ t, r = .ok a ρ t
@[simp] theorem mb_ap {α β : Type} (m : M α) (k : α → M β) (ρ : List Sl) (t : Pn) : mb m k ρ t = (m ρ t).bind k := rfl
@[simp] theorem mr_ap {α : Type} (a : α) (ρ : List Sl) (t : Pn) : mr a ρ t = .ok a ρ t := rfl
@[simp] theorem mx_ap {α : Type} (ρ : List Sl) (t : Pn) : (mx : M α) ρ t = .bad := rfl
@[simp] theorem bind_ok' {α β : Type} (a : α) (ρ : List Sl) (t : Pn) (k : α → M β) : (Ou.ok a ρ t).bind k = k a ρ t := rfl
@[simp] theorem bind_bad' {α β : Type} (k : α → M β) : (Ou.bad : Ou α).bind k = .bad := rfl
@[simp] theorem evar_ap (i : Nat) (ρ : List Sl) (t : Pn) (d : D) (h : ρ[i]? = some (.im d)) : evar i ρ t = .ok d ρ t := by unfold evar; rw [h]
@[simp] theorem ite_ap {α : Type} (c : Prop) [Decidable c] (f h : M α) (ρ : List Sl) (t : Pn) : (if c then f else h) ρ t = if c then f ρ t else h ρ t := by split <;> rfl
@[simp] theorem ite_bind {α β : Type} (c : Prop) [Decidable c] (f h : Ou α) (k : α → M β) : (if c then f else h).bind k = if c then f.bind k else h.bind k := by split <;> rfl
@[simp] theorem is_ok {α : Type} (a b : α) (ρ : List Sl) (t : Pn) : (Ou.ok a ρ t).is b ↔ a = b := ⟨fun ⟨_, _, e⟩ => by cases e; rfl, fun e => by rw [e]; exact ⟨_, _, rfl⟩⟩
theorem truth_bl (b : Bool) : truth (.bl b) = some b := rfl
theorem truth_non : truth .non = some false := rfl
theorem call0_is {fn : List D → Ou D} {ds : List D} {d : D} (h : (fn ds).is d) (ρ : List Sl) (t : Pn) : call0 fn ds ρ t = .ok d ρ t := by
  obtain ⟨ρ', t', e⟩ := h
  unfold call0
  rw [e]
  rfl
theorem callI_is {n : Str} {fn : List D → Ou (List Str × List D)} {ds : List D} {r : List Str × List D} (h : (fn ds).is r) (ρ : List Sl) (t : Pn) : callI n fn ds ρ t = .ok (.obj n r.1 r.2) ρ t := by
  obtain ⟨ρ', t', e⟩ := h
  unfold callI
  rw [e]
  rfl
theorem iteB_and (P : Prop) [Decidable P] (c : Bool) (ρ : List Sl) (t : Pn) : (if P then (Ou.ok c ρ t : Ou Bool) else .ok false ρ t) = .ok (decide P && c) ρ t := by split <;> simp [*]
theorem iteB_or (P : Prop) [Decidable P] (c : Bool) (ρ : List Sl) (t : Pn) : (if P then (Ou.ok true ρ t : Ou Bool) else .ok c ρ t) = .ok (decide P || c) ρ t := by split <;> simp [*]
theorem iteB_and' (P : Prop) [Decidable P] (c : Bool) (ρ : List Sl) (t : Pn) : (if P then (Ou.ok false ρ t : Ou Bool) else .ok c ρ t) = .ok (!decide P && c) ρ t := by split <;> simp [*]
theorem iteB_or' (P : Prop) [Decidable P] (c : Bool) (ρ : List Sl) (t : Pn) : (if P then (Ou.ok c ρ t : Ou Bool) else .ok true ρ t) = .ok (!decide P || c) ρ t := by split <;> simp [*]
/-- and, or, not, truth of a datum that stands there -/
def andM (h : M D) (d : D) : M D := match truth d with
  | some true => h
  | some false => mr d
  | none => mx
def orM (h : M D) (d : D) : M D := match truth d with
  | some false => h
  | some true => mr d
  | none => mx
def notM (d : D) : M D := match truth d with
  | some b => mr (.bl (!b))
  | none => mx
def truM (d : D) : M Bool := match truth d with
  | some b => mr b
  | none => mx
@[simp] theorem eand_ap (f h : M D) (ρ : List Sl) (t : Pn) : eand f h ρ t = (f ρ t).bind (andM h) := rfl
@[simp] theorem eor_ap (f h : M D) (ρ : List Sl) (t : Pn) : eor f h ρ t = (f ρ t).bind (orM h) := rfl
@[simp] theorem enot_ap (f : M D) (ρ : List Sl) (t : Pn) : enot f ρ t = (f ρ t).bind notM := rfl
@[simp] theorem btru_ap (f : M D) (ρ : List Sl) (t : Pn) : btru f ρ t = (f ρ t).bind truM := rfl
@[simp] theorem andM_bl (b : Bool) (h : M D) (ρ : List Sl) (t : Pn) : andM h (.bl b) ρ t = if b = true then h ρ t else .ok (.bl false) ρ t := by cases b <;> rfl
@[simp] theorem orM_bl (b : Bool) (h : M D) (ρ : List Sl) (t : Pn) : orM h (.bl b) ρ t = if b = true then .ok (.bl true) ρ t else h ρ t := by cases b <;> rfl
@[simp] theorem notM_bl (b : Bool) (ρ : List Sl) (t : Pn) : notM (.bl b) ρ t = .ok (.bl (!b)) ρ t := rfl
@[simp] theorem truM_bl (b : Bool) (ρ : List Sl) (t : Pn) : truM (.bl b) ρ t = .ok b ρ t := rfl
end DL

set_option Elab.async false
set_option linter.all false
set_option maxRecDepth 100000
set_option maxHeartbeats 1000000
namespace DL
open PySem PySem.Spec PyProof.Rows
open L2 hiding isNon
/-! ### what M leaves, rule by rule -/
section
variable {α β : Type} {ρ : List Sl} {t : Pn}
theorem p_b {r : Ou α} {k : α → M β} {P : β → List Sl → Pn → Prop} {E : Str → List Str → List D → Pn → Prop} (h : r.post (fun a ρ t => (k a ρ t).post P E) E) : (r.bind k).post P E := by
  cases r <;> exact h
theorem p_ok {a : α} {P : α → List Sl → Pn → Prop} {E : Str → List Str → List D → Pn → Prop} (h : P a ρ t) : (Ou.ok a ρ t).post P E := h
theorem p_eq {r r' : Ou α} {P : α → List Sl → Pn → Prop} {E : Str → List Str → List D → Pn → Prop} (e : r = r') (h : r'.post P E) : r.post P E := by rw [e]; exact h
theorem p_mb {m : M α} {k : α → M β} {P : β → List Sl → Pn → Prop} {E : Str → List Str → List D → Pn → Prop} (h : (m ρ t).post (fun a ρ t => (k a ρ t).post P E) E) : (mb m k ρ t).post P E := p_b h
variable {P : Fl → List Sl → Pn → Prop} {E : Str → List Str → List D → Pn → Prop}
/-- a block goes on -/
def nxP (k : M Fl) (P : Fl → List Sl → Pn → Prop) (E : Str → List Str → List D → Pn → Prop) : Fl → List Sl → Pn → Prop := fun fl ρ t => match fl with
  | .nx => (k ρ t).post P E
  | .rt d => P (.rt d) ρ t
  | .bk => P .bk ρ t
  | .ct => P .ct ρ t
theorem p_sq {f k : M Fl} (h : (f ρ t).post (nxP k P E) E) : (sq f k ρ t).post P E := p_b (post_mono h (fun fl ρ t q => by cases fl <;> exact q) fun _ _ _ _ h => h)
theorem p_sif {c : M Bool} {f h : M Fl} (q : (c ρ t).post (fun b ρ t => (if b = true then f ρ t else h ρ t).post P E) E) : (sif c f h ρ t).post P E := p_b (post_mono q (fun b ρ t q => by
  cases b <;> exact q) fun _ _ _ _ h => h)
theorem p_asg {i : Nat} {f : M D} (q : (f ρ t).post (fun d ρ t => P .nx (ρ.set i (.im d)) t) E) : (asg i f ρ t).post P E := p_b q
theorem p_asgO {i : Nat} {f : M D} (q : (f ρ t).post (fun d ρ t => P .nx (ρ.set i (.ow d)) t) E) : (asgO i f ρ t).post P E := p_b q
theorem p_sret {f : M D} (q : (f ρ t).post (fun d ρ t => P (.rt d) ρ t) E) : (sret f ρ t).post P E := p_b q
theorem p_asB {f : M D} {P : Bool → List Sl → Pn → Prop} (q : (f ρ t).post (fun d ρ t => ∃ b, d = .bl b ∧ P b ρ t) E) : (asB f ρ t).post P E := p_b (post_mono q (fun d ρ t ⟨b, e, q⟩ => by
  subst e; exact q) fun _ _ _ _ h => h)
theorem p_is {r : Ou α} {a : α} (h : r.is a) : r.post (fun b _ _ => b = a) E := by
  obtain ⟨ρ', t', e⟩ := h
  rw [e]; exact rfl
theorem eq_sq {f k : M Fl} {ρ' : List Sl} {t' : Pn} (h : f ρ t = .ok .nx ρ' t') : sq f k ρ t = k ρ' t' := by
  show (f ρ t).bind _ = _
  rw [h]; rfl
theorem eq_no {c : M Bool} {f : M Fl} (h : c ρ t = .ok false ρ t) : sif c f (mr .nx) ρ t = .ok .nx ρ t := by
  show (c ρ t).bind _ = _
  rw [h]; rfl
theorem eq_if {c : M Bool} {f g : M Fl} {b : Bool} {ρ' : List Sl} {t' : Pn} (h : c ρ t = .ok b ρ' t') : sif c f g ρ t = if b = true then f ρ' t' else g ρ' t' := by
  show (c ρ t).bind _ = _
  rw [h]; cases b <;> rfl
theorem eq_asg {i : Nat} {f : M D} {d : D} {ρ' : List Sl} {t' : Pn} (h : f ρ t = .ok d ρ' t') : asg i f ρ t = .ok .nx (ρ'.set i (.im d)) t' := by
  show (f ρ t).bind _ = _
  rw [h]; rfl
theorem eq_mb {m : M α} {k : α → M β} {a : α} {ρ' : List Sl} {t' : Pn} (h : m ρ t = .ok a ρ' t') : mb m k ρ t = k a ρ' t' := by
  show (m ρ t).bind _ = _
  rw [h]; rfl
/-- a walk -/
theorem p_forD {tgt : D → M Unit} {body : M Fl} {ds : List D} {I : Nat → List Sl → Pn → Prop} (h0 : I 0 ρ t)
    (step : ∀ (i : Nat) (d : D) (ρ : List Sl) (t : Pn), ds[i]? = some d → I i ρ t → (mb (tgt d) (fun _ => body) ρ t).post (fun fl ρ t => fl = .nx ∧ I (i + 1) ρ t) E)
    (fin : ∀ (ρ : List Sl) (t : Pn), I ds.length ρ t → P .nx ρ t) : (forD tgt body ds ρ t).post P E := by
  induction ds generalizing I ρ t with
  | nil => exact fin ρ t h0
  | cons d ds ih =>
    have s := step 0 d ρ t rfl h0
    show (((tgt d) ρ t).bind _).post P E
    refine p_b ?_
    have s' : ((tgt d ρ t).bind fun _ => body).post (fun fl ρ t => fl = .nx ∧ I 1 ρ t) E := s
    refine post_mono (post_bind s') (fun _ ρ1 t1 q => ?_) fun _ _ _ _ h => h
    refine p_b (post_mono q (fun fl ρ2 t2 ⟨e, q2⟩ => ?_) fun _ _ _ _ h => h)
    subst e
    exact ih (I := fun i => I (i + 1)) q2 (fun i d ρ t e h => step (i + 1) d ρ t e h) fun ρ t h => fin ρ t h
theorem p_for {it : M (List D)} {tgt : D → M Unit} {body : M Fl} {ds : List D} {I : Nat → List Sl → Pn → Prop} (hit : it ρ t = .ok ds ρ t) (h0 : I 0 ρ t)
    (step : ∀ (i : Nat) (d : D) (ρ : List Sl) (t : Pn), ds[i]? = some d → I i ρ t → (mb (tgt d) (fun _ => body) ρ t).post (fun fl ρ t => fl = .nx ∧ I (i + 1) ρ t) E)
    (fin : ∀ (ρ : List Sl) (t : Pn), I ds.length ρ t → P .nx ρ t) : (sfor it tgt body ρ t).post P E := by
  show ((it ρ t).bind _).post P E
  rw [hit]
  exact p_forD h0 step fin
/-- a comprehension whose items may draw -/
theorem p_lcGo {tgt : D → M Unit} {tst : M Bool} {el : M D} {vs : List Nat} {ds acc : List D} {I : Nat → List D → Pn → Prop} {P : List D → List Sl → Pn → Prop} {E : Str → List Str → List D → Pn → Prop} (hl : acc.length + ds.length ≤ lim) (h0 : I 0 acc t)
    (step : ∀ (i : Nat) (d : D) (acc : List D) (t : Pn), ds[i]? = some d → I i acc t → ((tgt d) (unS ρ vs) t).post (fun _ ρ1 t1 => (tst ρ1 t1).post (fun b ρ2 t2 => if b = true then (el ρ2 t2).post (fun y _ t3 => I (i + 1) (acc ++ [y]) t3) E else I (i + 1) acc t2) E) E)
    (fin : ∀ (acc : List D) (t : Pn), I ds.length acc t → P acc ρ t) : (lcGo tgt tst el vs ρ ds acc t).post P E := by
  induction ds generalizing I acc t with
  | nil => exact fin acc t h0
  | cons d ds ih =>
    have s := step 0 d acc t rfl h0
    rw [List.length_cons] at hl
    show (((tgt d) (unS ρ vs) t).bind _).post P E
    refine p_b (post_mono s (fun _ ρ1 t1 q1 => ?_) fun _ _ _ _ h => h)
    refine p_b (post_mono q1 (fun b ρ2 t2 q2 => ?_) fun _ _ _ _ h => h)
    cases b with
    | true =>
      rw [if_pos rfl] at q2 ⊢
      refine p_b (post_mono q2 (fun y ρ3 t3 q3 => ?_) fun _ _ _ _ h => h)
      rw [if_pos (by omega)]
      exact ih (I := fun i => I (i + 1)) (by rw [List.length_append, List.length_singleton]; omega) q3 (fun i d acc t e h => step (i + 1) d acc t e h) fun acc t h => fin acc t h
    | false =>
      rw [if_neg Bool.false_ne_true] at q2 ⊢
      exact ih (I := fun i => I (i + 1)) (by omega) q2 (fun i d acc t e h => step (i + 1) d acc t e h) fun acc t h => fin acc t h
theorem p_lc {it : M (List D)} {tgt : D → M Unit} {tst : M Bool} {el : M D} {vs : List Nat} {ds : List D} {I : Nat → List D → Pn → Prop} {P : D → List Sl → Pn → Prop} {E : Str → List Str → List D → Pn → Prop} {t0 : Pn} (hit : it ρ t = .ok ds ρ t0) (hl : ds.length ≤ lim) (h0 : I 0 [] t0)
    (step : ∀ (i : Nat) (d : D) (acc : List D) (t : Pn), ds[i]? = some d → I i acc t → ((tgt d) (unS ρ vs) t).post (fun _ ρ1 t1 => (tst ρ1 t1).post (fun b ρ2 t2 => if b = true then (el ρ2 t2).post (fun y _ t3 => I (i + 1) (acc ++ [y]) t3) E else I (i + 1) acc t2) E) E)
    (fin : ∀ (acc : List D) (t : Pn), I ds.length acc t → P (.lst acc) ρ t) : (lcD it tgt tst el vs ρ t).post P E := by
  show ((it ρ t).bind _).post P E
  rw [hit]
  show ((lcGo tgt tst el vs ρ ds [] t0).bind _).post P E
  exact p_b (p_lcGo (P := fun acc ρ t => P (.lst acc) ρ t) (by simpa using hl) h0 step fin)
/-- a field that is told -/
theorem eq_fld {f : Str} {h : M D} {ns : List Str} {vs : List D} {rest : List Sl} {d : D} (e : h (.sf ns vs :: rest) t = .ok d (.sf ns vs :: rest) t) (c1 : ns.contains f = false) (c2 : ns.length < 100) (c3 : rest.any isSf = false) :
    sfld 0 f h (.sf ns vs :: rest) t = .ok .nx (.sf (ns ++ [f]) (vs ++ [d]) :: rest) t := by
  have z : sfld 0 f h (.sf ns vs :: rest) t = if ns.contains f = false ∧ ns.length < 100 ∧ (((Sl.sf ns vs :: rest).set 0 .un).any isSf = false) then .ok .nx ((Sl.sf ns vs :: rest).set 0 (.sf (ns ++ [f]) (vs ++ [d]))) t else .bad := by
    show (h (.sf ns vs :: rest) t).bind _ = _
    rw [e]; rfl
  rw [z, if_pos ⟨c1, c2, by
    show (isSf .un || rest.any isSf) = false
    rw [c3]; rfl⟩]
  rfl
end
end DL

set_option Elab.async false
set_option linter.all false
set_option maxRecDepth 100000
set_option maxHeartbeats 1000000
namespace DL
open PySem PySem.Spec PyProof.Rows
open L2 hiding isNon
/-! ### what M leaves: expressions -/
section
variable {ρ : List Sl} {t : Pn} {E : Str → List Str → List D → Pn → Prop}
theorem p_acons {f : M D} {h : M (List D)} {P : List D → List Sl → Pn → Prop} (q : (f ρ t).post (fun d ρ t => (h ρ t).post (fun ds ρ t => P (d :: ds) ρ t) E) E) : (acons f h ρ t).post P E :=
  p_b (post_mono q (fun d ρ t q => p_b (post_mono q (fun ds ρ t q => q) fun _ _ _ _ h => h)) fun _ _ _ _ h => h)
theorem p_anil {P : List D → List Sl → Pn → Prop} (q : P [] ρ t) : (anil ρ t).post P E := q
theorem p_mr {α : Type} {a : α} {P : α → List Sl → Pn → Prop} (q : P a ρ t) : (mr a ρ t).post P E := q
theorem p_var {i : Nat} {d : D} {P : D → List Sl → Pn → Prop} (hi : ρ[i]? = some (.im d)) (q : P d ρ t) : (evar i ρ t).post P E := by
  rw [evar_ap i ρ t d hi]; exact q
theorem p_spar {i j : Nat} {h : M (List D)} {P : Fl → List Sl → Pn → Prop} (q : (h ρ t).post (fun ds ρ t => ∃ a b, ds = [a, b] ∧ P .nx ((ρ.set i (.im a)).set j (.im b)) t) E) : (spar i j h ρ t).post P E :=
  p_b (post_mono q (fun ds ρ t ⟨a, b, e, q⟩ => by subst e; exact q) fun _ _ _ _ h => h)
theorem p_sparO {i j : Nat} {f h : M D} {P : Fl → List Sl → Pn → Prop} (q : (f ρ t).post (fun a ρ t => (h ρ t).post (fun b ρ t => P .nx ((ρ.set i (.im a)).set j (.ow b)) t) E) E) : (sparO i j f h ρ t).post P E :=
  p_b (post_mono q (fun a ρ t q => p_b (post_mono q (fun b ρ t q => q) fun _ _ _ _ h => h)) fun _ _ _ _ h => h)
theorem p_etup {h : M (List D)} {P : D → List Sl → Pn → Prop} (q : (h ρ t).post (fun ds ρ t => ds.length ≤ lim ∧ P (.tup ds) ρ t) E) : (etup h ρ t).post P E :=
  p_b (post_mono q (fun ds ρ t ⟨l, q⟩ => by
    show ((if ds.length ≤ lim then mr (.tup ds) else mx) ρ t).post P E
    rw [if_pos l]; exact q) fun _ _ _ _ h => h)
theorem p_elst {h : M (List D)} {P : D → List Sl → Pn → Prop} (q : (h ρ t).post (fun ds ρ t => ds.length ≤ lim ∧ P (.lst ds) ρ t) E) : (elst h ρ t).post P E :=
  p_b (post_mono q (fun ds ρ t ⟨l, q⟩ => by
    show ((if ds.length ≤ lim then mr (.lst ds) else mx) ρ t).post P E
    rw [if_pos l]; exact q) fun _ _ _ _ h => h)
theorem p_e2 {c : D → D → M D} {f h : M D} {P : D → List Sl → Pn → Prop} (q : (f ρ t).post (fun a ρ t => (h ρ t).post (fun b ρ t => (c a b ρ t).post P E) E) E) : (e2 c f h ρ t).post P E :=
  p_b (post_mono q (fun a ρ t q => p_b (post_mono q (fun b ρ t q => q) fun _ _ _ _ h => h)) fun _ _ _ _ h => h)
theorem p_eif {c : M Bool} {f h : M D} {P : D → List Sl → Pn → Prop} (q : (c ρ t).post (fun b ρ t => (if b = true then f ρ t else h ρ t).post P E) E) : (eif c f h ρ t).post P E :=
  p_b (post_mono q (fun b ρ t q => by cases b <;> exact q) fun _ _ _ _ h => h)
theorem p_band {f h : M Bool} {P : Bool → List Sl → Pn → Prop} (q : (f ρ t).post (fun b ρ t => if b = true then (h ρ t).post P E else P false ρ t) E) : (band f h ρ t).post P E :=
  p_b (post_mono q (fun b ρ t q => by cases b <;> exact q) fun _ _ _ _ h => h)
theorem p_bor {f h : M Bool} {P : Bool → List Sl → Pn → Prop} (q : (f ρ t).post (fun b ρ t => if b = true then P true ρ t else (h ρ t).post P E) E) : (bor f h ρ t).post P E :=
  p_b (post_mono q (fun b ρ t q => by cases b <;> exact q) fun _ _ _ _ h => h)
theorem p_bnot {f : M Bool} {P : Bool → List Sl → Pn → Prop} (q : (f ρ t).post (fun b ρ t => P (!b) ρ t) E) : (bnot f ρ t).post P E := p_b q
theorem p_btru {f : M D} {P : Bool → List Sl → Pn → Prop} (q : (f ρ t).post (fun d ρ t => ∃ b, truth d = some b ∧ P b ρ t) E) : (btru f ρ t).post P E :=
  p_b (post_mono q (fun d ρ t ⟨b, e, q⟩ => by
    show ((match truth d with | some b => mr b | none => mx : M Bool) ρ t).post P E
    rw [e]; exact q) fun _ _ _ _ h => h)
theorem p_sasg {f : M D} {h : D → M Unit} {P : Fl → List Sl → Pn → Prop} (q : (f ρ t).post (fun d ρ t => (h d ρ t).post (fun _ ρ t => P .nx ρ t) E) E) : (sasg f h ρ t).post P E :=
  p_b (post_mono q (fun d ρ t q => p_b (post_mono q (fun _ ρ t q => q) fun _ _ _ _ h => h)) fun _ _ _ _ h => h)
theorem p_penc {i : Nat} {f : M D} {P : D → List Sl → Pn → Prop} (hi : ρ[i]? = some .pn) (q : (f ρ t).post P E) : (penc i f ρ t).post P E := by
  unfold penc
  rw [hi]; exact q
theorem p_sput {i : Nat} {fv fk : M D} {P : Fl → List Sl → Pn → Prop} (q : (fv ρ t).post (fun v ρ t => isOw ρ[i]? = true ∧ (fk ρ t).post (fun k ρ t => (dsput i v k ρ t).post P E) E) E) : (sput i fv fk ρ t).post P E :=
  p_b (post_mono q (fun v ρ t ⟨h, q⟩ => by
    show ((if isOw ρ[i]? = true then mb fk (fun k => dsput i v k) ρ t else .bad : Ou Fl)).post P E
    rw [if_pos h]
    exact p_b q) fun _ _ _ _ h => h)
theorem p_peekB {i : Nat} {f : M Bool} {d : D} {P : Bool → List Sl → Pn → Prop} (h : ρ[i]? = some (.ow d)) (q : (f (ρ.set i (.im d)) t).post (fun b _ t' => P b ρ t') E) : (peekB i f ρ t).post P E := by
  unfold peekB
  rw [h]
  exact p_b q
theorem p_peekS {i : Nat} {f : M D} {d : D} {P : D → List Sl → Pn → Prop} (h : ρ[i]? = some (.ow d)) (q : (f (ρ.set i (.im d)) t).post (fun b _ t' => isS b = true ∧ P b ρ t') E) : (peekS i f ρ t).post P E := by
  unfold peekS
  rw [h]
  refine p_b (post_mono q (fun b _ t' ⟨h1, h2⟩ => ?_) fun _ _ _ _ h => h)
  show (if isS b = true then Ou.ok b ρ t' else .bad).post P E
  rw [if_pos h1]; exact h2
theorem p_sappL {i : Nat} {f : M D} {ds : List D} {P : Fl → List Sl → Pn → Prop} (h : ρ[i]? = some (.ow (.lst ds))) (q : (f ρ t).post (fun v ρ' t' => ρ'[i]? = some (.ow (.lst ds)) ∧ ds.length < lim ∧ P .nx (ρ'.set i (.ow (.lst (ds ++ [v])))) t') E) : (sapp i f ρ t).post P E := by
  unfold sapp
  rw [if_pos (by rw [h]; rfl)]
  refine p_b (post_mono q (fun v ρ' t' ⟨h1, h2, h3⟩ => ?_) fun _ _ _ _ h => h)
  simp only [h1, if_pos h2]
  exact h3
theorem p_call0 {fn : List D → Ou D} {ds : List D} {d : D} {P : D → List Sl → Pn → Prop} (h : (fn ds).is d) (q : P d ρ t) : (call0 fn ds ρ t).post P E := by
  rw [call0_is h]; exact q
theorem p_callP {fn : List D → Pn → Ou D} {ds : List D} {P : D → List Sl → Pn → Prop} (q : (fn ds t).post (fun d _ t' => P d ρ t') E) : (callP fn ds ρ t).post P E := p_b q
theorem p_enon {f : M D} {P : D → List Sl → Pn → Prop} (q : (f ρ t).post (fun d ρ t => P (.bl (isNon d)) ρ t) E) : (enon f ρ t).post P E := p_b q
theorem p_enno {f : M D} {P : D → List Sl → Pn → Prop} (q : (f ρ t).post (fun d ρ t => P (.bl (!isNon d)) ρ t) E) : (enno f ρ t).post P E := p_b q
theorem p_eand {f h : M D} {P : D → List Sl → Pn → Prop} (q : (f ρ t).post (fun d ρ t => ∃ b, truth d = some b ∧ if b = true then (h ρ t).post P E else P d ρ t) E) : (eand f h ρ t).post P E :=
  p_b (post_mono q (fun d ρ t ⟨b, e, q⟩ => by
    show (andM h d ρ t).post P E
    unfold andM
    rw [e]
    cases b <;> exact q) fun _ _ _ _ h => h)
theorem p_eor {f h : M D} {P : D → List Sl → Pn → Prop} (q : (f ρ t).post (fun d ρ t => ∃ b, truth d = some b ∧ if b = true then P d ρ t else (h ρ t).post P E) E) : (eor f h ρ t).post P E :=
  p_b (post_mono q (fun d ρ t ⟨b, e, q⟩ => by
    show (orM h d ρ t).post P E
    unfold orM
    rw [e]
    cases b <;> exact q) fun _ _ _ _ h => h)
theorem p_enot {f : M D} {P : D → List Sl → Pn → Prop} (q : (f ρ t).post (fun d ρ t => ∃ b, truth d = some b ∧ P (.bl (!b)) ρ t) E) : (enot f ρ t).post P E :=
  p_b (post_mono q (fun d ρ t ⟨b, e, q⟩ => by
    show (notM d ρ t).post P E
    unfold notM
    rw [e]; exact q) fun _ _ _ _ h => h)
theorem eq_eif {c : M Bool} {f h : M D} {b : Bool} {ρ' : List Sl} {t' : Pn} (e : c ρ t = .ok b ρ' t') : eif c f h ρ t = if b = true then f ρ' t' else h ρ' t' := by
  show (c ρ t).bind (fun b => if b = true then f else h) = _
  rw [e]; cases b <;> rfl
theorem eq_bnot {c : M Bool} {b : Bool} {ρ' : List Sl} {t' : Pn} (e : c ρ t = .ok b ρ' t') : bnot c ρ t = .ok (!b) ρ' t' := by
  show (c ρ t).bind (fun b => mr (!b)) = _
  rw [e]; rfl
theorem eq_btru {c : M D} {d : D} {b : Bool} {ρ' : List Sl} {t' : Pn} (e : c ρ t = .ok d ρ' t') (h : truth d = some b) : btru c ρ t = .ok b ρ' t' := by
  rw [btru_ap, e]
  show truM d ρ' t' = _
  unfold truM
  rw [h]; rfl
theorem eq_band1 {c k : M Bool} {ρ' : List Sl} {t' : Pn} (e : c ρ t = .ok true ρ' t') : band c k ρ t = k ρ' t' := by
  show (c ρ t).bind (fun b => if b = true then k else mr false) = _
  rw [e]; rfl
theorem eq_band0 {c k : M Bool} {ρ' : List Sl} {t' : Pn} (e : c ρ t = .ok false ρ' t') : band c k ρ t = .ok false ρ' t' := by
  show (c ρ t).bind (fun b => if b = true then k else mr false) = _
  rw [e]; rfl
theorem eq_bor1 {c k : M Bool} {ρ' : List Sl} {t' : Pn} (e : c ρ t = .ok true ρ' t') : bor c k ρ t = .ok true ρ' t' := by
  show (c ρ t).bind (fun b => if b = true then mr true else k) = _
  rw [e]; rfl
theorem eq_bor0 {c k : M Bool} {ρ' : List Sl} {t' : Pn} (e : c ρ t = .ok false ρ' t') : bor c k ρ t = k ρ' t' := by
  show (c ρ t).bind (fun b => if b = true then mr true else k) = _
  rw [e]; rfl
theorem eq_asB {c : M D} {b : Bool} {ρ' : List Sl} {t' : Pn} (e : c ρ t = .ok (.bl b) ρ' t') : asB c ρ t = .ok b ρ' t' := by
  show (c ρ t).bind (fun d => match d with | .bl b => mr b | _ => mx) = _
  rw [e]; rfl
theorem eq_sappL {i : Nat} {f : M D} {ds : List D} {v : D} {t' : Pn} (h : ρ[i]? = some (.ow (.lst ds))) (e : f ρ t = .ok v ρ t') (hl : ds.length < lim) : sapp i f ρ t = .ok .nx (ρ.set i (.ow (.lst (ds ++ [v])))) t' := by
  unfold sapp
  rw [if_pos (show isOwL ρ[i]? = true by rw [h]; rfl)]
  show (f ρ t).bind _ = _
  rw [e]
  simp only [bind_ok', h, if_pos hl]
theorem p_gname {i : Nat} {d : D} {P : Unit → List Sl → Pn → Prop} (q : P () (ρ.set i (.im d)) t) : (gname i d ρ t).post P E := q
theorem p_lcT {it : M (List D)} {tgt : D → M Unit} {el : M D} {vs : List Nat} {ds : List D} {I : Nat → List D → Pn → Prop} {P : D → List Sl → Pn → Prop} {t0 : Pn} (hit : it ρ t = .ok ds ρ t0) (hl : ds.length ≤ lim) (h0 : I 0 [] t0)
    (step : ∀ (i : Nat) (d : D) (acc : List D) (t : Pn), ds[i]? = some d → I i acc t → ((tgt d) (unS ρ vs) t).post (fun _ ρ1 t1 => (el ρ1 t1).post (fun y _ t3 => I (i + 1) (acc ++ [y]) t3) E) E)
    (fin : ∀ (acc : List D) (t : Pn), I ds.length acc t → P (.lst acc) ρ t) : (lcD it tgt (mr true) el vs ρ t).post P E :=
  p_lc hit hl h0 (fun i d acc t e h => post_mono (step i d acc t e h) (fun _ ρ1 t1 q => by
    refine p_mr ?_
    rw [if_pos rfl]; exact q) fun _ _ _ _ h => h) fin
theorem p_nx {k : M Fl} {P : Fl → List Sl → Pn → Prop} (h : (k ρ t).post P E) : nxP k P E .nx ρ t := h
theorem p_frz {i : Nat} {d : D} {P : Fl → List Sl → Pn → Prop} (h : ρ[i]? = some (.ow d)) (q : P .nx (ρ.set i (.im d)) t) : (frz i ρ t).post P E := by
  unfold frz
  rw [h]; exact q
/-- a def of data -/
theorem p_runD {f : M Fl} {P : D → List Sl → Pn → Prop} (h : (f ρ t).post (fun fl ρ t => (fl = .nx ∧ P .non ρ t) ∨ ∃ d, fl = .rt d ∧ P d ρ t) E) : (runD f ρ t).post P E := by
  unfold runD
  refine p_b (post_mono h (fun fl ρ t q => ?_) fun _ _ _ _ h => h)
  rcases q with ⟨e, q⟩ | ⟨d, e, q⟩ <;> subst e <;> exact q
end
end DL

set_option Elab.async false
set_option linter.all false
set_option maxRecDepth 100000
set_option maxHeartbeats 1000000
/-! ### == and != of two dicts whose keys are tuples -/
namespace PySem.W
open PySem PySem.Calls PyProof.Rows PyProof.V PySem.Spec
section
variable {prog : Program} {w : World} {K : Type} [DecidableEq K] {knd : HeapKind prog w K} {A : Around} {E : Value → Shared → Prop} {s : Shared}
/-- r is what the walk over the left dict's entries comes to; kb: the right dict -/
def KeqH {K : Type} [DecidableEq K] (A : Around) (s : Shared) (kb : List (K × Addr × Value)) : List (K × Addr × Value) → Bool → Prop
  | [], r => r = true
  | x :: xs, r => (atKey kb x.1 = none ∧ r = false) ∨ ∃ p e t, atKey kb x.1 = some p ∧ SeqAt.EqAt A s x.2.2 p.2 e ∧ KeqH A s kb xs t ∧ r = (e && t)
section
variable {kb xs : List (K × Addr × Value)} {x : K × Addr × Value} {p : Addr × Value} {e t : Bool}
theorem KeqH.nil : KeqH A s kb [] true := rfl
theorem KeqH.miss (h : atKey kb x.1 = none) : KeqH A s kb (x :: xs) false := .inl ⟨h, rfl⟩
theorem KeqH.hit (h : atKey kb x.1 = some p) (he : SeqAt.EqAt A s x.2.2 p.2 e) (ht : KeqH A s kb xs t) : KeqH A s kb (x :: xs) (e && t) := .inr ⟨p, e, t, h, he, ht, rfl⟩
end
/-- the place at which a key is found, and what atKey says -/
theorem atKey_mem : ∀ {xs : List (K × Addr × Value)} {k : K} {p : Addr × Value}, (xs.map (·.1)).Nodup → (k, p) ∈ xs → atKey xs k = some p
  | [], _, _, _, h => nomatch h
  | x :: xs, k, p, hn, h => by
    obtain ⟨h1, h2⟩ := List.nodup_cons.mp (by simpa only [List.map_cons] using hn)
    rcases List.mem_cons.mp h with e | h
    · subst e
      simp [atKey]
    · have z : x.1 ≠ k := fun e => h1 (e ▸ List.mem_map_of_mem (f := (·.1)) h)
      have ih := atKey_mem h2 h
      simpa [atKey, z] using ih
theorem atKey_no {xs : List (K × Addr × Value)} {k : K} (h : ∀ p, (k, p) ∉ xs) : atKey xs k = none := by
  unfold atKey
  cases z : xs.find? fun x => decide (x.1 = k) with
  | none => rfl
  | some x =>
    have e : x.1 = k := by simpa using List.find?_some z
    exact absurd (show (k, x.2) ∈ xs from e ▸ List.mem_of_find?_eq_some z) (h _)
/-- the common part of == and != : both dicts are of one size, and each entry of the left one has its like in the right one -/
theorem same_run {nm : String} {a b : Addr} {xs ys : List (K × Addr × Value)} {r : Bool} {Q : Bool → Shared → Prop} (room : knd.room A) (na : (a == sysModules) = false) (nb : (b == sysModules) = false)
    (dx : s.heap.DictOfH knd a xs) (dy : s.heap.DictOfH knd b ys) (walk : xs.length = ys.length → KeqH A s ys xs r) (fin : Q (xs.length == ys.length && r) s) :
    wpAny (model prog w) A (Builtin.Dict.samePairs nm a b) Q E s := by
  obtain ⟨o1, en1, ep1, at1, _, data1, key1, are1, _⟩ := dx
  obtain ⟨o2, en2, ep2, at2, _, data2, key2, are2, once2⟩ := dy
  have n1 := size_of_entries key1
  have n2 := size_of_entries key2
  unfold Builtin.Dict.samePairs Builtin.Dict.showsAll
  simp only [na, nb, Bool.false_eq_true, if_false]
  refine wpAny_bind (wpAny_pure (wpAny_bind (wpAny_pure (wpAny_bind (wpAny_dictEntries at1 data1 (wpAny_bind (wpAny_dictEntries at2 data2 ?_)))))))
  by_cases hl : xs.length = ys.length
  · have hz : (en1.size != en2.size) = false := by rw [n1, n2, hl]; exact bne_self_eq_false _
    rw [show (xs.length == ys.length) = true from beq_iff_eq.mpr hl, Bool.true_and] at fin
    simp only [hz, Bool.false_eq_true, if_false]
    refine wpAny_bind (wpAny_dictEpoch at1 data1 (wpAny_bind ?_))
    refine PySem.SeqAt.wpAny_forIn_span 0 en1.size _ (fun i c u => c = (none, ()) ∧ u = s ∧ KeqH A s ys (xs.drop i) r) _ (fun i c u _ lt ⟨ec, eu, rest⟩ => ?_) (fun c u ⟨ec, eu, rest⟩ => ?_) _ ⟨rfl, rfl, walk hl⟩
    · subst ec
      subst eu
      have lt' : i < xs.length := n1 ▸ lt
      have cur : en1[i]? = some (entryOfKey knd xs[i]) := by rw [entry_at key1 i, List.getElem?_eq_getElem lt']; rfl
      have isK := are1 xs[i] (List.getElem_mem lt')
      rw [List.drop_eq_getElem_cons lt'] at rest
      refine wpAny_bind (wpAny_dictEntries at1 data1 ?_)
      rw [cur]
      refine wpAny_bind (wpAny_holding (wpAny_bind (wpAny_dictFind_heap room isK at2 data2 key2 are2 once2 (fun none_ => ?_) fun j p found => ?_)))
      · have miss : atKey ys xs[i].1 = none := atKey_no fun p m => by
          obtain ⟨j, lj, e⟩ := List.mem_iff_getElem.mp m
          exact none_ j p (by rw [List.getElem?_eq_getElem lj, e])
        rcases rest with ⟨_, e⟩ | ⟨p, _, _, z, _⟩
        · subst e
          exact wpAny_pure (wpAny_pure (wpAny_pure fin))
        · exact absurd (miss.symm.trans z) nofun
      · have hit : atKey ys xs[i].1 = some p := atKey_mem once2 (List.mem_of_getElem? found)
        rcases rest with ⟨z, _⟩ | ⟨q, e, t, z, eq_, later, er⟩
        · exact absurd (hit.symm.trans z) nofun
        · cases hit.symm.trans z
          refine wpAny_bind (wpAny_dictEntries at2 data2 ?_)
          rw [entry_at key2 j, found]
          refine wpAny_holding (eq_ prog w _ _ ?_)
          subst er
          cases e with
          | false => exact wpAny_pure (wpAny_pure fin)
          | true =>
            refine wpAny_bind (wpAny_dictEpoch at1 data1 ?_)
            simp only [bne_self_eq_false, Bool.false_eq_true, if_false]
            exact wpAny_pure ⟨rfl, rfl, later⟩
    · subst ec
      subst eu
      rw [Nat.zero_max, n1, List.drop_length] at rest
      cases rest
      exact wpAny_pure fin
  · have hz : (en1.size != en2.size) = true := by rw [n1, n2]; exact bne_iff_ne.mpr hl
    rw [show (xs.length == ys.length) = false from beq_eq_false_iff_ne.mpr hl, Bool.false_and] at fin
    simp only [hz, if_true]
    exact wpAny_bind (wpAny_rule (wpAny_pure fin))
/-- what the slots of == and != begin with: the two arguments as they are -/
theorem slots_run {α : Type} {id : String} {a b : Addr} {f : Value × Value → Sem α} {Q : α → Shared → Prop} (ta : s.TypeIs (.ref a) "dict") (h : wpAny (model prog w) A (f (.ref a, .ref b)) Q E s) :
    wpAny (model prog w) A (Builtin.Dict.dictSlotArgs id ⟨[.ref a, .ref b], []⟩ >>= f) Q E s := by
  unfold Builtin.Dict.dictSlotArgs
  exact wpAny_bind (wpAny_bind (wpAny_notOrdered_dict ta (wpAny_pure h)))
theorem keqH_eq {a b : Addr} {xs ys : List (K × Addr × Value)} {r : Bool} {Q : Value → Shared → Prop} (room : knd.room A.in1) (na : (a == sysModules) = false) (nb : (b == sysModules) = false) (dx : s.heap.DictOfH knd a xs) (dy : s.heap.DictOfH knd b ys) (hu : A.units < cLine)
    (walk : xs.length = ys.length → KeqH A.in1 s ys xs r) (fin : Q (.bool (xs.length == ys.length && r)) s) : wpAny (model prog w) A (compareOp .Eq (.ref a) (.ref b)) Q E s := by
  refine wpAny_richCompare_same_room (op := .Eq) dx.typeIs dy.typeIs PySem.F.slot_dict_eq (wpAny_call_entry PySem.F.slot_dict_eq dx.typeIs PySem.F.entry_dict_eq (slots_run dx.typeIs (wpAny_bind (wpAny_isInstance (T := "dict") dy.typeIs PySem.F.sub_dict_dict ?_))) (PySem.F.args_dict_eq_2 _ _)) hu
  exact wpAny_bind (wpAny_pure (wpAny_bind (wpAny_pure (wpAny_bind (same_run room na nb dx dy walk (wpAny_pure ⟨_, rfl, nofun, by simpa using fin⟩))))))
theorem keqH_ne {a b : Addr} {xs ys : List (K × Addr × Value)} {r : Bool} {Q : Value → Shared → Prop} (room : knd.room A.in1) (na : (a == sysModules) = false) (nb : (b == sysModules) = false) (dx : s.heap.DictOfH knd a xs) (dy : s.heap.DictOfH knd b ys) (hu : A.units < cLine)
    (walk : xs.length = ys.length → KeqH A.in1 s ys xs r) (fin : Q (.bool (!(xs.length == ys.length && r))) s) : wpAny (model prog w) A (compareOp .NotEq (.ref a) (.ref b)) Q E s := by
  refine wpAny_richCompare_same_room (op := .NotEq) dx.typeIs dy.typeIs PySem.F.slot_dict_ne (wpAny_call_entry PySem.F.slot_dict_ne dx.typeIs PySem.F.entry_dict_ne (slots_run dx.typeIs (wpAny_bind (wpAny_isInstance (T := "dict") dy.typeIs PySem.F.sub_dict_dict ?_))) (PySem.F.args_dict_ne_2 _ _)) hu
  exact wpAny_bind (wpAny_pure (wpAny_bind (wpAny_pure (wpAny_bind (same_run room na nb dx dy walk (wpAny_pure ⟨_, rfl, nofun, by simpa using fin⟩))))))
end
end PySem.W

set_option Elab.async false
set_option linter.all false
set_option maxRecDepth 100000
set_option maxHeartbeats 1000000
namespace DL
open PySem PySem.Spec PyProof.Rows
open L2 hiding isNon
/-! ### == of dicts -/
def eqRows (ke ve : List D) : List D → List D → Bool
  | k :: kd, v :: vd => match dlook ke ve (nk k) with
    | none => false
    | some z => PyData.eqv (toP v) (toP z) && eqRows ke ve kd vd
  | _, _ => true
def eqDct (kd vd ke ve : List D) : Bool := (kd.length == ke.length) && eqRows ke ve kd vd
theorem dlook_mem : ∀ {ks vs : List D} {n : NestedKey} {z : D}, dlook ks vs n = some z → z ∈ vs
  | k :: ks, v :: vs, n, z, e => by
    rw [dlook] at e
    by_cases h : nk k = n
    · rw [if_pos h] at e; cases e; exact List.mem_cons_self
    · rw [if_neg h] at e; exact List.mem_cons_of_mem _ (dlook_mem e)
  | [], _, _, _, e => by rw [dlook] at e <;> first | cases e | (intros; contradiction)
  | _ :: _, [], _, _, e => by rw [dlook] at e <;> first | cases e | (intros; contradiction)
theorem flat_of {c : Ct} {H : Hp} {v : V} {d : D} {u : Value} (l : Ld c H v d) (h : isS d = true) (r : RelV v u) : PyProof.V.Flat u (toP d) := by
  cases l with
  | non => cases r; exact PyProof.V.Flat.none
  | bl b => cases r; exact PyProof.V.Flat.bool b
  | int i => obtain ⟨t, rfl⟩ := r; exact PyProof.V.Flat.int i t
  | str x => obtain ⟨t, rfl⟩ := r; exact PyProof.V.Flat.str x t
  | _ => cases h
section
variable {X : Cx} {c : Ct} {H : Hp}
theorem keqH_rows {A : Around} {s : Shared} {ys : List (NestedKey × Addr × V)} {zv : List (NestedKey × Addr × Value)} {ke ve : List D} (hq : PT3 ys zv) (m1 : ys.map (·.1) = ke.map nk) (m2 : LdA c H (ys.map (·.2.2)) ve) (s2 : ve.all isS = true) :
    ∀ {xs : List (NestedKey × Addr × V)} {yv : List (NestedKey × Addr × Value)} {kd vd : List D}, PT3 xs yv → xs.map (·.1) = kd.map nk → LdA c H (xs.map (·.2.2)) vd → vd.all isS = true → PySem.W.KeqH A s zv yv (eqRows ke ve kd vd)
  | [], _, [], _, .nil, _, _, _ => .nil
  | [], _, _ :: _, _, .nil, e, _, _ => by cases e
  | x :: xs, y :: yv, [], _, .cons r t, e, _, _ => by cases e
  | x :: xs, y :: yv, k :: kd, v :: vd, .cons r t, e, l, h => by
    rw [List.map_cons, List.map_cons] at e
    obtain ⟨e1, e2⟩ := List.cons.inj e
    rw [List.map_cons] at l
    cases l with
    | cons l0 l1 =>
    rw [List.all_cons, Bool.and_eq_true] at h
    have ih := keqH_rows (A := A) (s := s) hq m1 m2 s2 t e2 l1 h.2
    have key : y.1 = nk k := r.1.symm.trans e1
    rcases look_t m1 m2 (nk k) with ⟨f1, f2⟩ | ⟨x', z, f1, f2, f3⟩
    · have : atKey zv (nk k) = none := by
        rcases pt3_find hq (nk k) with ⟨g1, g2⟩ | ⟨x'', p, g1, g2, g3⟩
        · exact g2
        · rw [f1] at g1; cases g1
      rw [eqRows, f2]
      exact .miss (by rw [key]; exact this)
    · rcases pt3_find hq (nk k) with ⟨g1, g2⟩ | ⟨x'', p, g1, g2, g3⟩
      · rw [f1] at g1; cases g1
      · rw [f1] at g1
        cases g1
        rw [eqRows, f2]
        have sz : isS z = true := (List.all_eq_true.mp s2) z (dlook_mem f2)
        exact .hit (by rw [key]; exact g2) (PySem.W.keq_flat (flat_of l0 h.1 r.2.2) (flat_of f3 sz g3)) ih
def rEqT (c : Ct) (neg : Bool) : R2 := fun x y H Q => ∃ a b xs ys kd vd ke ve, x = .ref a ∧ y = .ref b ∧ Rd H a (tdO c.w a xs) ∧ Rd H b (tdO c.w b ys) ∧
  LdA c H (xs.map fun q => V.ref q.2.1) kd ∧ xs.map (·.1) = kd.map nk ∧ (kd.all fun d => decide (kkind d = some true)) = true ∧ LdA c H (xs.map (·.2.2)) vd ∧ vd.all isS = true ∧
  LdA c H (ys.map fun q => V.ref q.2.1) ke ∧ ys.map (·.1) = ke.map nk ∧ (ke.all fun d => decide (kkind d = some true)) = true ∧ LdA c H (ys.map (·.2.2)) ve ∧ ve.all isS = true ∧
  Q (.bl (if neg = true then !eqDct kd vd ke ve else eqDct kd vd ke ve)) H
theorem op_eq_td (hc : c.K = X.K) (hw : c.w = X.w) (hu : X.A.units + 60 < cLine) : OpR X (compareOp .Eq) (rEqT c false) := by
  intro pins s σ H x y u v Q I rx ry h
  obtain ⟨a, b, xs, ys, kd, vd, ke, ve, rfl, rfl, h1, h2, k1, k2, k3, k4, k5, m1, m2, m3, m4, m5, q⟩ := h
  cases rx; cases ry
  rw [hw] at h1 h2
  obtain ⟨a1, a2, yv, a3, a4⟩ := td_dict I h1 (tup_keys I hc k1 k2 k3)
  obtain ⟨b1, b2, zv, b3, b4⟩ := td_dict I h2 (tup_keys I hc m1 m2 m3)
  have hl : (yv.length == zv.length) = (kd.length == ke.length) := by
    rw [← a3.length, ← b3.length, ← List.length_map (f := fun q : NestedKey × Addr × V => q.1) (as := xs), ← List.length_map (f := fun q : NestedKey × Addr × V => q.1) (as := ys), k2, m2, List.length_map, List.length_map]
  refine PySem.W.keqH_eq (r := eqRows ke ve kd vd) (show (nestedKind X.prog X.w).room X.A.in1 from by show X.A.units + 1 + 8 < cLine; omega) a2 b2 a4 b4 (by omega) (fun _ => keqH_rows b3 m2 m4 m5 a3 k2 k4 k5) ?_
  rw [hl]
  exact fin_bl I q rfl
theorem op_ne_td (hc : c.K = X.K) (hw : c.w = X.w) (hu : X.A.units + 60 < cLine) : OpR X (compareOp .NotEq) (rEqT c true) := by
  intro pins s σ H x y u v Q I rx ry h
  obtain ⟨a, b, xs, ys, kd, vd, ke, ve, rfl, rfl, h1, h2, k1, k2, k3, k4, k5, m1, m2, m3, m4, m5, q⟩ := h
  cases rx; cases ry
  rw [hw] at h1 h2
  obtain ⟨a1, a2, yv, a3, a4⟩ := td_dict I h1 (tup_keys I hc k1 k2 k3)
  obtain ⟨b1, b2, zv, b3, b4⟩ := td_dict I h2 (tup_keys I hc m1 m2 m3)
  have hl : (yv.length == zv.length) = (kd.length == ke.length) := by
    rw [← a3.length, ← b3.length, ← List.length_map (f := fun q : NestedKey × Addr × V => q.1) (as := xs), ← List.length_map (f := fun q : NestedKey × Addr × V => q.1) (as := ys), k2, m2, List.length_map, List.length_map]
  refine PySem.W.keqH_ne (r := eqRows ke ve kd vd) (show (nestedKind X.prog X.w).room X.A.in1 from by show X.A.units + 1 + 8 < cLine; omega) a2 b2 a4 b4 (by omega) (fun _ => keqH_rows b3 m2 m4 m5 a3 k2 k4 k5) ?_
  rw [hl]
  exact fin_bl I q rfl
end
end DL

set_option Elab.async false
set_option linter.all false
set_option maxRecDepth 100000
set_option maxHeartbeats 1000000
namespace DL
open PySem PySem.Spec PyProof.Rows
open L2 hiding isNon
/-! ### == of dicts by texts and ints, and of data that may be dicts -/
section
variable {X : Cx} {c : Ct} {H : Hp}
/-- a dict by texts and ints, or an empty one -/
def MixAt (c : Ct) (H : Hp) (a : Addr) (kd vd : List D) : Prop := (∃ ks : List (Key × V), Rd H a (.dK ks) ∧ LdA c H (ks.map fun q => kV q.1) kd ∧ LdA c H (ks.map (·.2)) vd) ∨ (Rd H a (tdO c.w a []) ∧ kd = [] ∧ vd = [])
theorem mix_at {pins : List (Addr × Obj)} {σ : L2.St} {s : Shared} {a : Addr} {kd vd : List D} (I : Inv X pins σ H s) (hw : c.w = X.w) (h : MixAt c H a kd vd) :
    (a == sysModules) = false ∧ ∃ (ks : List (Key × V)) (va : List (Key × Value)), KV ks va ∧ s.heap.DictOf (mixKind X.prog X.w) a va ∧ LdA c H (ks.map fun q => kV q.1) kd ∧ LdA c H (ks.map (·.2)) vd := by
  rcases h with ⟨ks, h1, h2, h3⟩ | ⟨h1, rfl, rfl⟩
  · obtain ⟨_, hd, va, rel, dd⟩ := dk_rd I.hok h1
    exact ⟨hd, ks, va, rel, dd, h2, h3⟩
  · rw [hw] at h1
    obtain ⟨hd, dd⟩ := td_dk I h1
    exact ⟨hd, [], [], .nil, dd, .nil, .nil⟩
theorem keq_rows {A : Around} {s : Shared} {ls : List (Key × V)} {vb : List (Key × Value)} {ke ve : List D} (hq : KV ls vb) (m1 : LdA c H (ls.map fun q => kV q.1) ke) (m2 : LdA c H (ls.map (·.2)) ve) (s2 : ve.all isS = true) :
    ∀ {ks : List (Key × V)} {va : List (Key × Value)} {kd vd : List D}, KV ks va → LdA c H (ks.map fun q => kV q.1) kd → LdA c H (ks.map (·.2)) vd → vd.all isS = true → PySem.W.KeqHits A s vb va (eqRows ke ve kd vd)
  | [], _, _, _, .nil, .nil, .nil, _ => .nil
  | x :: xs, y :: yv, k :: kd, v :: vd, .cons r t, .cons l0 l1, .cons n0 n1, h => by
    rw [List.all_cons, Bool.and_eq_true] at h
    have ih := keq_rows (A := A) (s := s) hq m1 m2 s2 t l1 n1 h.2
    obtain ⟨y1, y2⟩ := y
    obtain ⟨r1, r2⟩ := r
    have r1 : x.1 = y1 := r1
    subst r1
    have rv := hq.val x.1
    rcases look_k m1 m2 l0 with ⟨f1, f2⟩ | ⟨w, z, f1, f2, f3⟩
    · rw [f1] at rv
      rw [eqRows, f2]
      refine .miss ?_
      cases e : valueAt vb x.1 with
      | none => rfl
      | some u => rw [e] at rv; exact rv.elim
    · rw [f1] at rv
      obtain ⟨u, hu, ru⟩ := RelO.some_of rv
      rw [eqRows, f2]
      have sz : isS z = true := (List.all_eq_true.mp s2) z (dlook_mem f2)
      exact .hit hu (PySem.W.keq_flat (flat_of n0 h.1 r2) (flat_of f3 sz ru)) ih
def rEqK (c : Ct) (neg : Bool) : R2 := fun x y H Q => ∃ a b kd vd ke ve, x = .ref a ∧ y = .ref b ∧ MixAt c H a kd vd ∧ MixAt c H b ke ve ∧ vd.all isS = true ∧ ve.all isS = true ∧ Q (.bl (if neg = true then !eqDct kd vd ke ve else eqDct kd vd ke ve)) H
theorem op_eq_mix (hw : c.w = X.w) (hu : X.A.units + 60 < cLine) : OpR X (compareOp .Eq) (rEqK c false) := by
  intro pins s σ H x y u v Q I rx ry h
  obtain ⟨a, b, kd, vd, ke, ve, rfl, rfl, h1, h2, k5, m5, q⟩ := h
  cases rx; cases ry
  obtain ⟨a2, ks, va, a3, a4, k1, k4⟩ := mix_at I hw h1
  obtain ⟨b2, ls, vb, b3, b4, m1, m4⟩ := mix_at I hw h2
  have hl : (va.length == vb.length) = (kd.length == ke.length) := by
    have e1 := k1.len
    have e2 := m1.len
    rw [List.length_map] at e1 e2
    rw [← a3.length, ← b3.length, e1, e2]
  refine PySem.W.keq_eq (knd := mixKind X.prog X.w) (r := eqRows ke ve kd vd) a2 b2 a4 b4 (by omega) (fun _ => keq_rows b3 m1 m4 m5 a3 k1 k4 k5) ?_
  rw [hl]
  exact fin_bl I q rfl
theorem op_ne_mix (hw : c.w = X.w) (hu : X.A.units + 60 < cLine) : OpR X (compareOp .NotEq) (rEqK c true) := by
  intro pins s σ H x y u v Q I rx ry h
  obtain ⟨a, b, kd, vd, ke, ve, rfl, rfl, h1, h2, k5, m5, q⟩ := h
  cases rx; cases ry
  obtain ⟨a2, ks, va, a3, a4, k1, k4⟩ := mix_at I hw h1
  obtain ⟨b2, ls, vb, b3, b4, m1, m4⟩ := mix_at I hw h2
  have hl : (va.length == vb.length) = (kd.length == ke.length) := by
    have e1 := k1.len
    have e2 := m1.len
    rw [List.length_map] at e1 e2
    rw [← a3.length, ← b3.length, e1, e2]
  refine PySem.W.keq_ne (knd := mixKind X.prog X.w) (r := eqRows ke ve kd vd) a2 b2 a4 b4 (by omega) (fun _ => keq_rows b3 m1 m4 m5 a3 k1 k4 k5) ?_
  rw [hl]
  exact fin_bl I q rfl
/-- the keys are tuples; texts and ints -/
def tdk (kd : List D) : Bool := kd.all fun d => decide (kkind d = some true)
def mxk (kd : List D) : Bool := kd.all fun d => decide (kkind d = some false)
def deqA (neg : Bool) : D → D → M D := fun x y => match x, y with
  | .dct kd vd, .dct ke ve => if ((tdk kd = true ∧ tdk ke = true ∧ kd ≠ [] ∧ ke ≠ []) ∨ (mxk kd = true ∧ mxk ke = true)) ∧ vd.all isS = true ∧ ve.all isS = true then mr (.bl (if neg = true then !eqDct kd vd ke ve else eqDct kd vd ke ve)) else mx
  | x, y => if neg = true then dne x y else deq x y
theorem Ld.mixAt {a : Addr} {kd vd : List D} (h : Ld c H (.ref a) (.dct kd vd)) (k : mxk kd = true) : MixAt c H a kd vd := by
  cases h with
  | dct h1 h2 h3 => exact .inl ⟨_, h1, h2, h3⟩
  | dctT h1 h2 h3 h4 h5 =>
    cases kd with
    | nil =>
      rename_i xs
      cases xs with
      | nil => cases h5; exact .inr ⟨h1, rfl, rfl⟩
      | cons x l => cases h3
    | cons k0 kd =>
      unfold mxk at k
      rw [List.all_cons, Bool.and_eq_true] at k h4
      have z1 := of_decide_eq_true k.1
      have z2 := of_decide_eq_true h4.1
      rw [z1] at z2; cases z2
theorem Ld.tdAt {a : Addr} {kd vd : List D} (h : Ld c H (.ref a) (.dct kd vd)) (k : tdk kd = true) (n : kd ≠ []) : ∃ xs : List (NestedKey × Addr × V), Rd H a (tdO c.w a xs) ∧ LdA c H (xs.map fun q => V.ref q.2.1) kd ∧ xs.map (·.1) = kd.map nk ∧ (kd.all fun d => decide (kkind d = some true)) = true ∧ LdA c H (xs.map (·.2.2)) vd := by
  cases h with
  | @dct _ kvs _ _ h1 h2 h3 =>
    cases kd with
    | nil => exact absurd rfl n
    | cons k0 kd =>
      cases kvs with
      | nil => cases h2
      | cons q kvs =>
        rw [List.map_cons] at h2
        cases h2 with
        | cons l a =>
          unfold tdk at k
          rw [List.all_cons, Bool.and_eq_true] at k
          have z1 := of_decide_eq_true k.1
          rcases nk_key l with ⟨i, _, rfl⟩ | ⟨i, _, rfl⟩ <;> cases z1
  | dctT h1 h2 h3 h4 h5 => exact ⟨_, h1, h2, h3, h4, h5⟩
end
section
variable {X : Cx} {g : G}
def REqA (c : Ct) (neg : Bool) : R2 := fun x y H Q => (if neg = true then rNeD c.K x y H Q else rEqD c.K x y H Q) ∨ rEqT c neg x y H Q ∨ rEqK c neg x y H Q
theorem os_eqA (neg : Bool) : OpS g (REqA g.c neg) (deqA neg) := by
  intro os σ H ρ t x y d e Q A lx ly q
  have other : ((if neg = true then dne d e else deq d e) ρ t).post (fun z ρ' t' => ∀ v H' os', Amb g os' σ H' ρ' t' → Lay g os' H' v z → Go g os H os' H' → Q v H') noX → REqA g.c neg x y H Q := fun q => by
    cases neg with
    | true => exact .inl (os_ne os σ H ρ t x y d e Q A lx ly q)
    | false => exact .inl (os_eq os σ H ρ t x y d e Q A lx ly q)
  cases d with
  | dct kd vd =>
    cases e with
    | dct ke ve =>
      simp only [deqA] at q
      rcases post_if q with ⟨⟨k, s1, s2⟩, q⟩ | ⟨_, q⟩
      · have q' := q (.bl _) H os A (.bl _) Go.refl
        obtain ⟨a, rfl⟩ : ∃ a, x = .ref a := by cases lx <;> exact ⟨_, rfl⟩
        obtain ⟨b, rfl⟩ : ∃ b, y = .ref b := by cases ly <;> exact ⟨_, rfl⟩
        have lx' : Ld g.c H (.ref a) (.dct kd vd) := Ld.same msk_le lx
        have ly' : Ld g.c H (.ref b) (.dct ke ve) := Ld.same msk_le ly
        rcases k with ⟨k1, k2, n1, n2⟩ | ⟨k1, k2⟩
        · obtain ⟨xs, a1, a2, a3, a4, a5⟩ := lx'.tdAt k1 n1
          obtain ⟨ys, b1, b2, b3, b4, b5⟩ := ly'.tdAt k2 n2
          exact .inr (.inl ⟨a, b, xs, ys, kd, vd, ke, ve, rfl, rfl, a1, b1, a2, a3, a4, a5, s1, b2, b3, b4, b5, s2, q'⟩)
        · exact .inr (.inr ⟨a, b, kd, vd, ke, ve, rfl, rfl, lx'.mixAt k1, ly'.mixAt k2, s1, s2, q'⟩)
      · exact q.elim
    | _ => exact other q
  | _ => exact other (by cases e <;> exact q)
theorem cs_eqA {b : Expr} (fx : Fx X g) : CmS X g .Eq b (deqA false) := by
  have hu := fx.u
  refine ⟨REqA g.c false, ?_, os_eqA false, nomark _⟩
  exact OpR.or (by rw [← fx.k]; exact op_eqD fx.u64) (OpR.or (op_eq_td fx.k.symm fx.w.symm (by omega)) (op_eq_mix fx.w.symm (by omega)))
theorem cs_neA {b : Expr} (fx : Fx X g) : CmS X g .NotEq b (deqA true) := by
  have hu := fx.u
  refine ⟨REqA g.c true, ?_, os_eqA true, nomark _⟩
  exact OpR.or (by rw [← fx.k]; exact op_neD fx.u64) (OpR.or (op_ne_td fx.k.symm fx.w.symm (by omega)) (op_ne_mix fx.w.symm (by omega)))
end
end DL

set_option Elab.async false
set_option linter.all false
set_option maxRecDepth 100000
set_option maxHeartbeats 1000000
namespace DL
open PySem PySem.Spec PyProof.Rows
open L2 hiding isNon
/-! ### d.get(k), d by tuples -/
def dgetT : D → D → M D := fun d k => match d with
  | .dct kd vd => if tdk kd = true ∧ kd ≠ [] ∧ kkind k = some true then mr ((dlook kd vd (nk k)).getD .non) else mx
  | _ => mx
section
variable {X : Cx} {g : G}
theorem pe_getT {o e : Expr} {apos cpos : Pos} {c : Ct} {td : TE} {ty : TE} (hc : c.K = X.K) (hw : c.w = X.w) (hu : X.A.units + 60 < cLine) (ho : PE X o td)
    (he : PE X e ty) (m : M1 X o "get" apos e cpos) : PE X (.Call (.Attribute o "get" apos) [e] [] cpos)
      (fun σ H Q => td σ H fun x H1 => ∃ (a : Addr) (xs : List (NestedKey × Addr × V)) (kd : List D), x = .ref a ∧ Rd H1 a (tdO c.w a xs) ∧ LdA c H1 (xs.map fun q => V.ref q.2.1) kd ∧ xs.map (·.1) = kd.map nk ∧ (kd.all fun d => decide (kkind d = some true)) = true ∧
        ty σ H1 fun y H2 => ∃ d, Rd H2 a (tdO c.w a xs) ∧ LdA c H2 (xs.map fun q => V.ref q.2.1) kd ∧ Ld c H2 y d ∧ kkind d = some true ∧ Q (((xs.find? fun x => decide (x.1 = nk d)).map (·.2.2)).getD .non) H2) := by
  refine ⟨fun pins s σ H Q I h => ?_⟩
  refine wpAny_Call_method m.base m.few m.line PySem.F.plainAttrs_dict PySem.F.slot_dict_get PySem.F.type_dict_get (thn (ho.run pins s σ H _ I h) fun u s1 ⟨x, H1, I1, rx, a, xs, kd, ex, h1, k1, k2, k3, q1⟩ => ?_)
  subst ex
  obtain rfl : u = Value.ref a := rx
  rw [hw] at h1
  obtain ⟨_, hs, ys, p3, dd⟩ := td_dict I1 h1 (tup_keys I1 hc k1 k2 k3)
  refine ⟨dd.typeIs, fun b q => ?_, ?_⟩
  · cases q
    obtain ⟨ob, _, _, z1, z2, _⟩ := dd
    exact ⟨ob, z1, z2.2.1⟩
  rw [m.trees]
  refine Calls.callWith_builtin rfl (Calls.evalArgs_plain (Calls.spliced_cons (thn (he.run pins s1 σ H1 _ I1 q1) fun iv s2 ⟨y, H2, I2, ry, d, h2, l1, l2, l3, q2⟩ => Calls.spliced_nil ?_)))
  rw [hw] at h2
  obtain ⟨_, hs2, zs, r3, ee⟩ := td_dict I2 h2 (tup_keys I2 hc l1 k2 k3)
  obtain ⟨b, rfl, hb⟩ := tup_key I2 hc l2 l3
  cases ry
  refine PySem.get_keyed (show (nestedKind X.prog X.w).room X.A.in1 from by show X.A.units + 1 + 8 < cLine; omega) hb hs2 ⟨zs, ee, rfl⟩ ?_
  rw [valueAt_pairsH]
  rcases pt3_find r3 (nk d) with ⟨e1, e2⟩ | ⟨x', p, e1, e2, e3⟩
  · rw [e1] at q2
    rw [e2]
    exact ⟨.non, H2, I2.tok _, rfl, q2⟩
  · rw [e1] at q2
    rw [e2]
    exact ⟨x'.2.2, H2, I2.tok _, e3, q2⟩
theorem se_getT {o e : Expr} {apos cpos : Pos} {f h : M D} (fx : Fx X g) (ho : SE X g o f) (he : SE X g e h) (m : M1 X o "get" apos e cpos) : SE X g (.Call (.Attribute o "get" apos) [e] [] cpos) (mb f fun d => mb h fun k => dgetT d k) := by
  have hu := fx.u
  refine PE.imp (pe_getT (c := g.c) fx.k.symm fx.w.symm (by omega) ho he m) fun σ H Q q => ?_
  obtain ⟨os, ρ, t, A, q⟩ := q
  refine ⟨os, ρ, t, A, post_mono (post_bind q) (fun d ρ1 t1 q1 v H1 os1 A1 l1 s1 => ?_) fun _ _ _ _ h => h⟩
  cases d with
  | dct kd vd =>
    by_cases c1 : tdk kd = true ∧ kd ≠ []
    · obtain ⟨a, rfl⟩ : ∃ a, v = .ref a := by cases l1 <;> exact ⟨_, rfl⟩
      obtain ⟨xs, a1, a2, a3, a4, a5⟩ := l1.tdAt c1.1 c1.2
      refine ⟨a, xs, kd, rfl, rd_same msk_le a1, LdA.same msk_le a2, a3, a4, os1, ρ1, t1, A1, post_mono (post_bind q1) (fun k ρ2 t2 q2 w H2 os2 A2 l2 s2 => ?_) fun _ _ _ _ h => h⟩
      rcases post_if q2 with ⟨c2, q2⟩ | ⟨_, q2⟩
      · refine ⟨k, rd_same (Same.trans s2.s msk_le) a1, LdA.same (Same.trans s2.s msk_le) a2, Ld.same msk_le l2, c2.2.2, ?_⟩
        rcases look_t a3 a5 (nk k) with ⟨e1, e2⟩ | ⟨x, z, e1, e2, e3⟩
        · rw [e2] at q2
          rw [e1]
          exact q2 _ H2 os2 A2 .non (s1.trans s2)
        · rw [e2] at q2
          rw [e1]
          exact q2 _ H2 os2 A2 (Ld.same s2.s e3) (s1.trans s2)
      · exact q2.elim
    · refine (show False from ?_).elim
      have : ((mb h fun k => dgetT (.dct kd vd) k) ρ1 t1).post _ noX := q1
      cases eh : h ρ1 t1 with
      | ok k ρ2 t2 =>
        have q1' : ((h ρ1 t1).bind fun k => dgetT (.dct kd vd) k).post _ noX := q1
        rw [eh] at q1'
        rcases post_if q1' with ⟨c2, _⟩ | ⟨_, q2⟩
        · exact c1 ⟨c2.1, c2.2.1⟩
        · exact q2
      | ex a b cc dd =>
        have q1' : ((h ρ1 t1).bind fun k => dgetT (.dct kd vd) k).post _ noX := q1
        rw [eh] at q1'
        exact q1'
      | bad =>
        have q1' : ((h ρ1 t1).bind fun k => dgetT (.dct kd vd) k).post _ noX := q1
        rw [eh] at q1'
        exact q1'
  | _ =>
    refine (show False from ?_).elim
    cases eh : h ρ1 t1 with
    | ok k ρ2 t2 =>
      have q1' : ((h ρ1 t1).bind fun k => mx).post _ noX := q1
      rw [eh] at q1'
      exact q1'
    | ex a b cc dd =>
      have q1' : ((h ρ1 t1).bind fun k => mx).post _ noX := q1
      rw [eh] at q1'
      exact q1'
    | bad =>
      have q1' : ((h ρ1 t1).bind fun k => mx).post _ noX := q1
      rw [eh] at q1'
      exact q1'
end
end DL

set_option Elab.async false
set_option linter.all false
set_option maxRecDepth 100000
set_option maxHeartbeats 1000000
namespace DL
open PySem PySem.Spec PyProof.Rows
open L2 hiding isNon
/-! ### a dict is walked: it is locked as the walk begins -/
/-- the keys of the locked dict of tuples at a -/
def Ittd (w : World) (a : Addr) (o : Obj) (xs : List (NestedKey × Addr × V)) : It :=
  ⟨fun i H => H a = some (.frz o (tdO w a xs)) ∧ i < xs.length, fun i H x H' => H' = H ∧ ∃ q, xs[i]? = some q ∧ x = .ref q.2.1, fun i H => H a = some (.frz o (tdO w a xs)) ∧ xs.length ≤ i⟩
section
variable {X : Cx} {pins : List (Addr × Obj)} {σ : L2.St} {H : Hp} {s : Shared} {a : Addr} {o : Obj}
theorem frz_td {xs : List (NestedKey × Addr × V)} (I : Inv X pins σ H s) (h : H a = some (.frz o (tdO X.w a xs))) :
    (a == sysModules) = false ∧ s.heap.get? a = some o ∧ o.ExactDict ∧ ∃ (es : Array DictEntry) (ep : Nat), o.data = .dict es ep ∧ es.size = xs.length ∧ ∀ (i : Nat) (q : NestedKey × Addr × V), xs[i]? = some q → ∃ en : DictEntry, es[i]? = some en ∧ en.key = .ref q.2.1 := by
  obtain ⟨hd, z⟩ := I.hok a _ h
  have z : ObjOk X.prog X.w H s.heap a (.ext (tdPhi X.w a xs)) := z
  obtain ⟨h1, h2, h3, ys, h4, o', es, ep, h5, h6, h7, h8⟩ := z.1
  rw [hd] at h5
  cases h5
  refine ⟨h2, hd, h6, es, ep, h7, ?_, fun i q e => ?_⟩
  · rw [← Array.length_toList, h8, List.length_map]
    exact (Paired.length h4).symm
  · obtain ⟨y, hy, e1, e2, _⟩ := paired_get h4 e
    refine ⟨⟨y.1.hash X.w, .ref y.2.1, y.2.2⟩, ?_, by rw [e2]⟩
    rw [← Array.getElem?_toList, h8, List.getElem?_map, hy]
    rfl
end
section
variable {P : Program} {w : World} {K : PySem.W.Frag} {tg : Expr} {d : Addr} {o : Obj} {es : Array DictEntry} {ep : Nat}
theorem turn_keysTd {xs : List (NestedKey × Addr × V)} (it : Addr) (hod : o.data = .dict es ep) : Turn P w K tg (Ittd w d o xs) [it] it (fun i h => h.IsKeyIter it d i xs.length ep) where
  mem := by simp
  obj := fun i h st b hb => by
    have e : b = it := by simpa using hb
    subst e
    obtain ⟨oi, e, c, dd⟩ := st
    exact ⟨oi, e, fun v z => by rw [dd] at z; cases z⟩
  keep := fun i h h' st k => st.at fun oi e => k it (by simp) oi e
  item := by
    intro X hP hw hK hc i pins s σ H E I hf st hg
    subst hP hw hK
    obtain ⟨hd, hi⟩ := hg
    obtain ⟨f0, f1, f2, f3, f4, f5⟩ := hf it (by simp)
    obtain ⟨hs, hgd, hx, es', ep', hdt, hsz, ent⟩ := frz_td I hd
    obtain ⟨rfl, rfl⟩ := dict_ep hod hdt
    obtain ⟨q, hq⟩ : ∃ p, xs[i]? = some p := ⟨xs[i], List.getElem?_eq_getElem hi⟩
    obtain ⟨en, hen, hkey⟩ := ent i q hq
    refine next_key_item st hgd hdt hsz hen fun h' st' sb => ?_
    have I1 : Inv X pins σ H { s with heap := h' } := I.turned (t' := s.toks) (fun b ob hb e => (sb.2 b hb).trans e) f0 f1 f3 f4 f5
    obtain ⟨oi, e, c, dd⟩ := id st'
    exact ⟨en.key, rfl, go_of (s := { s with heap := h' }) e c dd (by decide) ⟨.ref q.2.1, H, I1, hkey, ⟨rfl, q, hq, rfl⟩, st', fun b hb => (hf b hb).1⟩⟩
  done := by
    intro X hP hw hK hc i pins s σ H E I hf st hg
    subst hP hw hK
    obtain ⟨hd, hi⟩ := hg
    obtain ⟨f0, f1, f2, f3, f4, f5⟩ := hf it (by simp)
    obtain ⟨hs, hgd, hx, es', ep', hdt, hsz, ent⟩ := frz_td I hd
    obtain ⟨rfl, rfl⟩ := dict_ep hod hdt
    exact next_key_end (I.ok.hd hc) st hgd hdt hsz hi fun h' eb => ⟨rfl, I.turned (t' := s.toks) (fun b ob hb e => eb b ob hb e) f0 f1 f3 f4 f5⟩
  self := fun A i s Q E st h => by
    refine wpAny_pyIter_slot st.typeIs F.slot_dict_keyiterator_iter (wpAny_call_entry F.slot_dict_keyiterator_iter st.typeIs F.entry_dict_keyiterator_iter ?_ (F.args_dict_keyiterator_iter_1 _))
    exact wpAny_pure ⟨_, rfl, "dict_keyiterator", _, st.typeIs, F.slot_dict_keyiterator_next.lookup, h⟩
end
/-- a dict as it stands: by texts and ints, by tuples -/
inductive DK (w : World) (a : Addr) : HO → List V → (Obj → It) → Prop
  | k (kvs : List (Key × V)) : DK w a (.dK kvs) (kvs.map fun q => kV q.1) fun o => Itk a o kvs
  | t (xs : List (NestedKey × Addr × V)) : DK w a (tdO w a xs) (xs.map fun q => V.ref q.2.1) fun o => Ittd w a o xs
theorem DK.mut {w : World} {a : Addr} {u : HO} {vs : List V} {J : Obj → It} (h : DK w a u vs J) : Mut (some u) := by cases h <;> exact True.intro
/-- what is walked: the dict's keys; it is locked, or it was locked ahead -/
def iKL (X : Cx) (te : TE) : TI := fun σ H R => te σ H fun x H1 => ∃ (a : Addr) (u : HO) (vs : List V) (J : Obj → It), x = .ref a ∧ DK X.w a u vs J ∧
  ((H1 a = some u ∧ ∀ od, (∀ o' u', X.H_0 a ≠ some (.frz o' u')) → R (J od) (upd H1 a (.frz od u))) ∨ ∃ od, H1 a = some (.frz od u) ∧ R (J od) H1)
section
variable {X : Cx} {tg e : Expr} {te : TE}
theorem pi_locked {pins : List (Addr × Obj)} {σ : L2.St} {H : Hp} {s : Shared} {a : Addr} {u : HO} {vs : List V} {J : Obj → It} {od : Obj} {R : It → Hp → Prop} (D : DK X.w a u vs J) (I : Inv X pins σ H s) (h : H a = some (.frz od u)) (q : R (J od) H) :
    wpAny (model X.prog X.w) X.A (pyIter (.ref a)) (PIE X pins σ tg R) X.xe s := by
  cases D with
  | k kvs =>
    obtain ⟨hs, hgd, hx, es, ep, vs', hdt, hsz, kv, hm⟩ := I.frzK h
    refine iter_keys hs hgd hx hdt (pi_one (tk := s.toks) I _ (turn_keys _ hdt) ⟨_, Heap.get?_push_size _ rfl, rfl, ?_⟩ q)
    rw [hsz] <;> rfl
  | t xs =>
    obtain ⟨hs, hgd, hx, es, ep, hdt, hsz, ent⟩ := frz_td I h
    refine iter_keys hs hgd hx hdt (pi_one (tk := s.toks) I _ (turn_keysTd _ hdt) ⟨_, Heap.get?_push_size _ rfl, rfl, ?_⟩ q)
    rw [hsz] <;> rfl
theorem pi_KL (he : PE X e te) : PI X tg e (iKL X te) := by
  refine ⟨fun pins s σ H R I h => ?_⟩
  refine thn (he.run pins s σ H _ I h) fun v s1 ⟨x, H1, I1, rx, a, u, vs, J, ex, D, q⟩ => ?_
  subst ex
  obtain rfl : v = Value.ref a := rx
  rcases q with ⟨h1, q⟩ | ⟨od, h1, q⟩
  · obtain ⟨od, I2⟩ := I1.lock h1 D.mut
    exact pi_locked D I2 upd_same (q od (I1.nofrz h1 D.mut))
  · exact pi_locked D I1 h1 q
/-- what was locked is let go -/
def Unl (X : Cx) (Q : Hp → Prop) (H : Hp) : Prop := Q H ∨ ∃ d u od, H d = some (.frz od u) ∧ (∀ o' u', X.H_0 d ≠ some (.frz o' u')) ∧ Q (upd H d u)
theorem pe_unl {t : TE} (h : PE X e t) : PE X e (fun σ H Q => t σ H fun v H' => Unl X (Q v) H') := by
  refine ⟨fun pins s σ H Q I hw => ?_⟩
  refine thn (h.run pins s σ _ _ I hw) fun v s1 ⟨x, H1, I2, r, q⟩ => ?_
  rcases q with q | ⟨d, u, od, e, n, q⟩
  · exact ⟨x, _, I2, r, q⟩
  · exact ⟨x, _, I2.unlock e n, r, q⟩
theorem ps_unl {st : Stmt} {t : TS} (h : PS X st t) : PS X st (fun D σ H => t ⟨fun σ' H' => Unl X (D.nx σ') H', fun v H' => Unl X (D.rt v) H', fun σ' H' => Unl X (D.bk σ') H', fun σ' H' => Unl X (D.ct σ') H'⟩ σ H) := by
  refine ⟨fun pins s σ H D I hw => ?_⟩
  refine thn (h.run pins s σ _ _ I hw) fun f s1 q => ?_
  cases f with
  | next =>
    obtain ⟨σ', H', I2, q⟩ := q
    rcases q with q | ⟨d, u, od, e, n, q⟩
    · exact ⟨σ', _, I2, q⟩
    · exact ⟨σ', _, I2.unlock e n, q⟩
  | brk =>
    obtain ⟨σ', H', I2, q⟩ := q
    rcases q with q | ⟨d, u, od, e, n, q⟩
    · exact ⟨σ', _, I2, q⟩
    · exact ⟨σ', _, I2.unlock e n, q⟩
  | cont =>
    obtain ⟨σ', H', I2, q⟩ := q
    rcases q with q | ⟨d, u, od, e, n, q⟩
    · exact ⟨σ', _, I2, q⟩
    · exact ⟨σ', _, I2.unlock e n, q⟩
  | ret v =>
    obtain ⟨x, σ', H', I2, r, q⟩ := q
    rcases q with q | ⟨d, u, od, e, n, q⟩
    · exact ⟨x, σ', _, I2, r, q⟩
    · exact ⟨x, σ', _, I2.unlock e n, r, q⟩
end
end DL

set_option Elab.async false
set_option linter.all false
set_option maxRecDepth 100000
set_option maxHeartbeats 1000000
namespace DL
open PySem PySem.Spec PyProof.Rows
open L2 hiding isNon
/-! ### data while a dict is locked -/
structure Mv (c : Ct) (H H' : Hp) : Prop where
  l : ∀ b xs, H b = some (.lst xs) → H' b = some (.lst xs)
  t : ∀ b xs, SqT c.K H b xs → SqT c.K H' b xs
  k : ∀ b kvs, Rd H b (.dK kvs) → Rd H' b (.dK kvs)
  d : ∀ b xs, Rd H b (tdO c.w b xs) → Rd H' b (tdO c.w b xs)
  o : ∀ b C dx fs, H b = some (.ins C dx fs) → H' b = some (.ins C dx fs)
section
variable {c : Ct} {H H' : Hp}
mutual
theorem Ld.mv (s : Mv c H H') : ∀ {d : D} {v : V}, Ld c H v d → Ld c H' v d
  | _, _, .non => .non
  | _, _, .bl b => .bl b
  | _, _, .int b => .int b
  | _, _, .str b => .str b
  | _, _, .lst h a => .lst (s.l _ _ h) (LdA.mv s a)
  | _, _, .tup h a => .tup (s.t _ _ h) (LdA.mv s a)
  | _, _, .dct h a b => .dct (s.k _ _ h) (LdA.mv s a) (LdA.mv s b)
  | _, _, .dctT h a e k b => .dctT (s.d _ _ h) (LdA.mv s a) e k (LdA.mv s b)
  | _, _, .obj h c a => .obj (s.o _ _ _ _ h) c (LdA.mv s a)
theorem LdA.mv (s : Mv c H H') : ∀ {ds : List D} {vs : List V}, LdA c H vs ds → LdA c H' vs ds
  | _, _, .nil => .nil
  | _, _, .cons h a => .cons (Ld.mv s h) (LdA.mv s a)
end
theorem Mv.of (s : Same H H') : Mv c H H' := ⟨fun _ _ h => s _ _ h, fun _ _ h => seqT_same s h, fun _ _ h => rd_same s h, fun _ _ h => rd_same s h, fun _ _ _ _ h => s _ _ h⟩
/-- H' is H but at a, where u stands in H and u' in H' -/
theorem mv_at {a : Addr} {u u' : HO} (h : H a = some u) (h' : H' a = some u') (e : ∀ b, b ≠ a → H' b = H b) (l : ∀ xs, u ≠ .lst xs) (o : ∀ C dx fs, u ≠ .ins C dx fs) (t1 : ∀ xs, u ≠ .tup xs) (t2 : ∀ ob xs, u ≠ .frz ob (.tup xs))
    (k : ∀ v, (u = v ∨ ∃ o, u = .frz o v) → (∃ kvs, v = .dK kvs) ∨ (∃ xs, v = tdO c.w a xs) → Rd H' a v) : Mv c H H' := by
  have ne : ∀ {b : Addr} {v : HO}, H b = some v → v ≠ u → H' b = some v := fun {b v} z n => by
    rw [e b (fun w => by rw [w, h] at z; exact n (Option.some.inj z).symm)]; exact z
  refine ⟨fun b xs z => ne z (fun w => l _ w.symm), fun b xs z => ?_, fun b kvs z => ?_, fun b xs z => ?_, fun b C dx fs z => ne z (fun w => o _ _ _ w.symm)⟩
  · rcases z with (z | ⟨ob, z⟩) | z
    · exact .inl (.inl (ne z (fun w => t1 _ w.symm)))
    · exact .inl (.inr ⟨ob, ne z (fun w => t2 _ _ w.symm)⟩)
    · exact .inr z
  · by_cases hb : b = a
    · subst hb
      rcases z with z | ⟨o', z⟩
      · rw [h] at z; exact k _ (.inl (Option.some.inj z)) (.inl ⟨_, rfl⟩)
      · rw [h] at z; exact k _ (.inr ⟨o', Option.some.inj z⟩) (.inl ⟨_, rfl⟩)
    · rcases z with z | ⟨o', z⟩
      · exact .inl (by rw [e b hb]; exact z)
      · exact .inr ⟨o', by rw [e b hb]; exact z⟩
  · by_cases hb : b = a
    · subst hb
      rcases z with z | ⟨o', z⟩
      · rw [h] at z; exact k _ (.inl (Option.some.inj z)) (.inr ⟨_, rfl⟩)
      · rw [h] at z; exact k _ (.inr ⟨o', Option.some.inj z⟩) (.inr ⟨_, rfl⟩)
    · rcases z with z | ⟨o', z⟩
      · exact .inl (by rw [e b hb]; exact z)
      · exact .inr ⟨o', by rw [e b hb]; exact z⟩
theorem DK.not {w : World} {a : Addr} {u : HO} {vs : List V} {J : Obj → It} (h : DK w a u vs J) : (∀ xs, u ≠ .lst xs) ∧ (∀ C dx fs, u ≠ .ins C dx fs) ∧ (∀ xs, u ≠ .tup xs) ∧ (∀ ob v, u ≠ .frz ob v) := by
  cases h with
  | k kvs => exact ⟨fun _ z => (nomatch z), fun _ _ _ z => (nomatch z), fun _ z => (nomatch z), fun _ _ z => (nomatch z)⟩
  | t xs =>
    have e : ∀ {v : HO}, tdO w a xs = v → ∃ φ, v = .ext φ := fun z => ⟨_, z.symm⟩
    refine ⟨fun _ z => ?_, fun _ _ _ z => ?_, fun _ z => ?_, fun _ _ z => ?_⟩ <;> (obtain ⟨φ, q⟩ := e z; cases q)
theorem mv_lock {a : Addr} {u : HO} {vs : List V} {J : Obj → It} {od : Obj} (h : H a = some u) (D : DK c.w a u vs J) : Mv c H (upd H a (.frz od u)) := by
  obtain ⟨n1, n2, n3, n4⟩ := D.not
  refine mv_at h upd_same (fun b hb => upd_ne hb) n1 n2 n3 (fun ob xs => n4 ob _) fun v hv _ => ?_
  rcases hv with rfl | ⟨o, e⟩
  · exact .inr ⟨od, upd_same⟩
  · exact absurd e (n4 _ _)
theorem mv_unlock {a : Addr} {u : HO} {vs : List V} {J : Obj → It} {od : Obj} (h : H a = some (.frz od u)) (D : DK c.w a u vs J) : Mv c H (upd H a u) := by
  obtain ⟨n1, n2, n3, n4⟩ := D.not
  refine mv_at h upd_same (fun b hb => upd_ne hb) (fun _ z => (nomatch z)) (fun _ _ _ z => (nomatch z)) (fun _ z => (nomatch z)) (fun ob xs z => by cases z; exact n3 _ rfl) fun v hv w => ?_
  rcases hv with rfl | ⟨o, e⟩
  · rcases w with ⟨_, z⟩ | ⟨_, z⟩
    · cases z
    · exact absurd z (by intro q; cases q)
  · cases e
    exact .inl upd_same
end
theorem msk_at {O : List Addr} {H : Hp} {a : Addr} {o : HO} (h : a ∉ O) : msk O (upd H a o) = upd (msk O H) a o := by
  funext b
  by_cases hb : b = a
  · subst hb
    rw [upd_same, msk_out h, upd_same]
  · rw [upd_ne hb]
    by_cases hO : b ∈ O
    · rw [msk_in hO, msk_in hO]
    · rw [msk_out hO, msk_out hO, upd_ne hb]
/-- the context within the walk -/
abbrev G.re (g : G) (O : List Addr) (H0 : Hp) : G := { g with O := O, H0 := H0 }
theorem Fx.re {X : Cx} {g : G} (fx : Fx X g) (O : List Addr) (H0 : Hp) : Fx X (g.re O H0) := ⟨fx.k, fx.m, fx.w, fx.u, fx.c, fx.n, fx.p⟩
theorem PenN.re {g : G} {n : Str} (pn : PenN g n) (O : List Addr) (H0 : Hp) : PenN (g.re O H0) n := pn
def inH (os : List Addr) (H : Hp) : Hp := fun b => if b ∈ os then none else H b
section
variable {g : G} {os os' : List Addr} {σ σ' : L2.St} {H H' : Hp} {ρ ρ' : List Sl} {t t' : Pn} {a : Addr} {u : HO} {ws : List V} {J : Obj → It} {od : Obj}
theorem Own.mv {b : Addr} {d : D} (s : Mv g.c (hd g os H) (hd g os' H')) (e : ∀ o, H b = some o → H' b = some o) (h : Own g os H b d) : Own g os' H' b d := by
  cases d with
  | lst ds => obtain ⟨vs, h1, h2⟩ := h; exact ⟨vs, e _ h1, LdA.mv s h2⟩
  | dct kd vd =>
    rcases h with ⟨kvs, h1, h2, h3⟩ | ⟨xs, h1, h2, h3, h4, h5, h6⟩
    · exact .inl ⟨kvs, e _ h1, LdA.mv s h2, LdA.mv s h3⟩
    · exact .inr ⟨xs, e _ h1, LdA.mv s h2, h3, h4, LdA.mv s h5, h6⟩
  | _ => exact h
theorem Amb.lock (A : Amb g os σ H ρ t) (ha : a ∉ mo g os) (h : H a = some u) (D : DK g.c.w a u ws J) : Amb (g.re g.O (inH os (upd H a (.frz od u)))) os σ (upd H a (.frz od u)) ρ t := by
  obtain ⟨n1, n2, n3, n4⟩ := D.not
  have hh : hd g os H a = some u := by rw [show hd g os H a = H a from msk_out ha]; exact h
  have m : Mv g.c (hd g os H) (hd g os (upd H a (.frz od u))) := by
    rw [show hd g os (upd H a (.frz od u)) = upd (hd g os H) a (.frz od u) from msk_at ha]
    exact mv_lock hh D
  have keep : ∀ b o, b ≠ a → H b = some o → upd H a (.frz od u) b = some o := fun b o n e => by rw [upd_ne n]; exact e
  have nos : ∀ b ∈ g.O, b ∉ os := fun b hb z => by
    obtain ⟨o, e⟩ := A.o0 b hb
    rw [A.new b z] at e; cases e
  have lv : ∀ b ∈ mo g os, ∃ o, upd H a (.frz od u) b = some o := fun b hb => by
    obtain ⟨o, e⟩ := A.live b hb
    exact ⟨o, keep b o (fun z => ha (by rw [← z]; exact hb)) e⟩
  refine ⟨A.len, fun i sx e => ?_, A.dis, fun b o e _ => ?_, fun b hb => if_pos hb, lv, A.slf, fun b hb => ?_, fun p l n e => ?_⟩
  · have q := A.sl i sx e
    cases sx with
    | un => trivial
    | im d => obtain ⟨v, h1, h2⟩ := q; exact ⟨v, h1, Ld.mv m h2⟩
    | bo d => exact q.elim
    | ow d =>
      obtain ⟨b, h1, h2, h3⟩ := q
      exact ⟨b, h1, h2, Own.mv m (fun o z => keep b o (fun w => ha (by rw [← w]; exact List.mem_append_right _ h2)) z) h3⟩
    | pn => exact q
    | sf ns vs =>
      obtain ⟨x, C, dx, fs, h1, h2, h3, h4, h5⟩ := q
      exact ⟨x, C, dx, fs, h1, h2, keep x _ (fun w => by rw [w, h] at h3; exact n2 _ _ _ (Option.some.inj h3)) h3, h4, LdA.mv m h5⟩
  · have e : inH os (upd H a (.frz od u)) b = some o := e
    unfold inH at e
    split at e
    · cases e
    · exact e
  · obtain ⟨o, e⟩ := lv b (List.mem_append_left _ hb)
    exact ⟨o, by show inH os _ b = _; unfold inH; rw [if_neg (nos b hb)]; exact e⟩
  · obtain ⟨q, h1, h2, o, h3⟩ := A.pen p l n e
    have pa : p ≠ a := fun w => ha (by rw [← w]; exact List.mem_append_left _ h1)
    have la : l ≠ a := fun w => by
      have := q.l
      rw [w, h] at this
      exact n1 _ (Option.some.inj this)
    have lo : l ∉ os := fun w => by rw [A.new l w] at h3; cases h3
    exact ⟨⟨keep _ _ pa q.d, keep _ _ la q.l, q.k0, q.z0, q.len⟩, h1, h2, _, by show inH os _ l = _; unfold inH; rw [if_neg lo]; exact keep _ _ la q.l⟩
theorem Amb.held (A : Amb g os σ H ρ t) (ha : a ∉ mo g os) (h : H a = some u) (D : DK g.c.w a u ws J) (B : Amb (g.re g.O (inH os (upd H a (.frz od u)))) os' σ' H' ρ' t') : H' a = some (.frz od u) := by
  obtain ⟨n1, n2, n3, n4⟩ := D.not
  refine B.pres a _ ?_ ⟨fun p l n e w => ?_, fun x C dx e w => ?_⟩
  · show inH os _ a = _
    unfold inH
    rw [if_neg fun z => ha (List.mem_append_right _ z)]
    exact upd_same
  · obtain ⟨q, h1, _⟩ := A.pen p l n e
    exact ha (by rw [w]; exact List.mem_append_left _ h1)
  · exact ha (by rw [w]; exact List.mem_append_left _ (A.slf x C dx e))
theorem Amb.unlock (A : Amb g os σ H ρ t) (ha : a ∉ mo g os) (h : H a = some u) (D : DK g.c.w a u ws J) (B : Amb (g.re g.O (inH os (upd H a (.frz od u)))) os' σ' H' ρ' t') :
    Amb g os' σ' (upd H' a u) ρ' t' ∧ Mv g.c (hd g os' H') (hd g os' (upd H' a u)) ∧ a ∉ mo g os' := by
  obtain ⟨n1, n2, n3, n4⟩ := D.not
  have hf := A.held ha h D B
  have ha' : a ∉ mo g os' := fun z => by
    rcases List.mem_append.mp z with z | z
    · exact ha (List.mem_append_left _ z)
    · have := B.new a z
      have w : inH os (upd H a (.frz od u)) a = none := this
      unfold inH at w
      rw [if_neg fun z => ha (List.mem_append_right _ z), upd_same] at w
      cases w
  have m : Mv g.c (hd g os' H') (hd g os' (upd H' a u)) := by
    rw [show hd g os' (upd H' a u) = upd (hd g os' H') a u from msk_at ha']
    exact mv_unlock (by rw [show hd g os' H' a = H' a from msk_out ha']; exact hf) D
  have keep : ∀ b o, b ≠ a → H' b = some o → upd H' a u b = some o := fun b o n e => by rw [upd_ne n]; exact e
  refine ⟨⟨B.len, fun i sx e => ?_, B.dis, fun b o e ho => ?_, fun b hb => ?_, fun b hb => ?_, A.slf, A.o0, fun p l n e => ?_⟩, m, ha'⟩
  · have q := B.sl i sx e
    cases sx with
    | un => trivial
    | im d => obtain ⟨v, h1, h2⟩ := q; exact ⟨v, h1, Ld.mv m h2⟩
    | bo d => exact q.elim
    | ow d =>
      obtain ⟨b, h1, h2, h3⟩ := q
      exact ⟨b, h1, h2, Own.mv m (fun o z => keep b o (fun w => ha' (by rw [← w]; exact List.mem_append_right _ h2)) z) h3⟩
    | pn => exact q
    | sf ns vs =>
      obtain ⟨x, C, dx, fs, h1, h2, h3, h4, h5⟩ := q
      exact ⟨x, C, dx, fs, h1, h2, keep x _ (fun w => by rw [w, hf] at h3; cases h3) h3, h4, LdA.mv m h5⟩
  · have z := A.pres b o e ho
    by_cases hb : b = a
    · subst hb
      rw [h] at z
      cases z
      exact upd_same
    · refine keep b o hb (B.pres b o ?_ ho)
      show inH os _ b = _
      unfold inH
      rw [if_neg (fun w => by rw [A.new b w] at e; cases e), upd_ne hb]
      exact z
  · have w : inH os (upd H a (.frz od u)) b = none := B.new b hb
    have nb : b ≠ a := fun w => ha' (by rw [← w]; exact List.mem_append_right _ hb)
    unfold inH at w
    by_cases z : b ∈ os
    · exact A.new b z
    · rw [if_neg z, upd_ne nb] at w
      exact A.h0 w (A.out_fresh w)
  · obtain ⟨o, e⟩ := B.live b hb
    by_cases z : b = a
    · exact ⟨u, by rw [z]; exact upd_same⟩
    · exact ⟨o, keep b o z e⟩
  · obtain ⟨q, h1, h2, _⟩ := B.pen p l n e
    obtain ⟨_, _, _, h3⟩ := A.pen p l n e
    have pa : p ≠ a := fun w => ha (by rw [← w]; exact List.mem_append_left _ h1)
    have la : l ≠ a := fun w => by
      have := q.l
      rw [w, hf] at this
      cases this
    exact ⟨⟨keep _ _ pa q.d, keep _ _ la q.l, q.k0, q.z0, q.len⟩, h1, h2, h3⟩
end
end DL

set_option Elab.async false
set_option linter.all false
set_option maxRecDepth 100000
set_option maxHeartbeats 1000000
namespace DL
open PySem PySem.Spec PyProof.Rows
open L2 hiding isNon
/-! ### for k in d, {.. for k in d} -/
section
variable {g : G} {os1 : List Addr} {σ : L2.St} {H1 : Hp} {ρ1 : List Sl} {t1 : Pn} {J : It} {ds : List D} {is : List Nat} {tgt : D → M Unit} {f : M Fl}
theorem for_w {Dn : Ends} {G0 : TG} {T0 : TS} (hG : ∀ v σ H Q, gD g is tgt v σ H Q → G0 v σ H Q) (hT : ∀ Dn σ H, sD g f Dn σ H → T0 Dn σ H) (hGm : ∀ v σ H Q Q', (∀ σ H, Q σ H → Q' σ H) → G0 v σ H Q → G0 v σ H Q')
    (A1 : Amb g os1 σ H1 ρ1 t1) (wk : Wk g os1 H1 J ds) (q : (forD tgt f ds ρ1 t1).post (sQ g Dn (hd g os1 H1)) noX) :
    ∃ W : Nat → Nat → L2.St → Hp → Prop, (∃ m, W 0 m σ H1) ∧ ∀ i m σ H, W i m σ H →
      (J.stop i H ∧ Dn.nx σ H) ∨ (J.go i H ∧ ∃ N : L2.St → Hp → Prop, (∀ σ' H', N σ' H' → ∃ m', m' < m ∧ W (i + 1) m' σ' H') ∧ ∀ x H', J.yld i H x H' → G0 x σ H' fun σ2 H2 => T0 { Dn with nx := N, ct := N, bk := Dn.nx } σ2 H2) := by
  refine ⟨fun i m σ' H' => m = ds.length - i ∧ i ≤ ds.length ∧ ∃ os' ρ' t', Amb g os' σ' H' ρ' t' ∧ Same (hd g os1 H1) (hd g os' H') ∧ (forD tgt f (ds.drop i) ρ' t').post (sQ g Dn (hd g os' H')) noX, ⟨ds.length, by simp, Nat.zero_le _, os1, ρ1, t1, A1, Same.refl _, by rw [List.drop_zero]; exact q⟩, ?_⟩
  rintro i m σ2 H2 ⟨rfl, hi, os2, ρ2, t2, A2, s2, q2⟩
  obtain ⟨w1, w2⟩ := wk i os2 H2 s2 A2.live
  by_cases hlt : i < ds.length
  · obtain ⟨go, yl⟩ := w2 ds[i] (List.getElem?_eq_getElem hlt)
    rw [List.drop_eq_getElem_cons hlt] at q2
    refine .inr ⟨go, fun σ' H' => ∃ os' ρ' t', Amb g os' σ' H' ρ' t' ∧ Same (hd g os1 H1) (hd g os' H') ∧ (forD tgt f (ds.drop (i + 1)) ρ' t').post (sQ g Dn (hd g os' H')) noX, fun σ' H' ⟨os', ρ', t', a, b, c⟩ => ⟨ds.length - (i + 1), by omega, rfl, hlt, os', ρ', t', a, b, c⟩, fun x H3 y => ?_⟩
    obtain ⟨s3, l3⟩ := yl x H3 y
    refine hGm _ _ _ _ _ (fun σ4 H4 z => hT _ _ _ z) (hG _ _ _ _ ⟨os2, ρ2, t2, ds[i], A2.same s3, l3, post_mono (post_bind q2) (fun _ ρ4 t4 q4 σ4 A4 k4 n4 => ?_) fun _ _ _ _ h => h⟩)
    have s5 := s2.trans (hd_same (g := g) (os := os2) s3)
    have st : ∀ σ' H' os' ρ' t', Amb g os' σ' H' ρ' t' → Same (hd g os2 H3) (hd g os' H') → (forD tgt f (ds.drop (i + 1)) ρ' t').post (sQ g Dn (hd g os2 H2)) noX →
        ∃ os' ρ' t', Amb g os' σ' H' ρ' t' ∧ Same (hd g os1 H1) (hd g os' H') ∧ (forD tgt f (ds.drop (i + 1)) ρ' t').post (sQ g Dn (hd g os' H')) noX := fun σ' H' os' ρ' t' a b c =>
      ⟨os', ρ', t', a, s5.trans b, post_mono c (fun _ _ _ h => sQ.base ((hd_same (g := g) (os := os2) s3).trans b) h) fun _ _ _ _ h => h⟩
    refine ⟨os2, ρ4, t4, A4, post_mono (post_bind q4) (fun fl ρ5 t5 q5 => ?_) fun _ _ _ _ h => h⟩
    cases fl with
    | nx => exact fun σ' H' os' A' s' => st σ' H' os' ρ5 t5 A' s' q5
    | ct => exact fun σ' H' os' A' s' => st σ' H' os' ρ5 t5 A' s' q5
    | bk => exact fun σ' H' os' A' s' => q5 σ' H' os' A' ((hd_same (g := g) (os := os2) s3).trans s')
    | rt d => exact fun v σ' H' os' A' l' s' => q5 v σ' H' os' A' l' ((hd_same (g := g) (os := os2) s3).trans s')
  · have e : i = ds.length := by omega
    subst e
    rw [List.drop_length] at q2
    exact .inl ⟨w1 rfl, q2 σ2 H2 os2 A2 (Same.refl _)⟩
end
/-- the keys of a locked dict -/
theorem wk_DK {g : G} {os : List Addr} {H : Hp} {a : Addr} {u : HO} {vs : List V} {J : Obj → It} {od : Obj} {kd : List D} (D : DK g.c.w a u vs J) (h : hd g os H a = some (.frz od u)) (l : LdA g.c (hd g os H) vs kd) : Wk g os H (J od) kd := fun i os' H' s lv => by
  have h' := msk_le _ _ (s _ _ h)
  cases D with
  | k kvs =>
    have e0 := l.len
    rw [List.length_map] at e0
    refine ⟨fun e => ⟨h', by omega⟩, fun d e => ?_⟩
    obtain ⟨v, e1, e2⟩ := l.get' e
    rw [List.getElem?_map] at e1
    cases ek : kvs[i]? with
    | none => rw [ek] at e1; cases e1
    | some q =>
      rw [ek] at e1
      cases e1
      refine ⟨⟨h', (List.getElem?_eq_some_iff.mp ek).1⟩, fun x H2 y => ?_⟩
      obtain ⟨rfl, k, w, z1, rfl⟩ := y
      rw [ek] at z1
      cases z1
      exact ⟨Same.refl _, Ld.same s e2⟩
  | t xs =>
    have e0 := l.len
    rw [List.length_map] at e0
    refine ⟨fun e => ⟨h', by omega⟩, fun d e => ?_⟩
    obtain ⟨v, e1, e2⟩ := l.get' e
    rw [List.getElem?_map] at e1
    cases ek : xs[i]? with
    | none => rw [ek] at e1; cases e1
    | some q =>
      rw [ek] at e1
      cases e1
      refine ⟨⟨h', (List.getElem?_eq_some_iff.mp ek).1⟩, fun x H2 y => ?_⟩
      obtain ⟨rfl, w, z1, rfl⟩ := y
      rw [ek] at z1
      cases z1
      exact ⟨Same.refl _, Ld.same s e2⟩
/-- what stands at a dict -/
theorem Ld.dk {c : Ct} {H : Hp} {v : V} {kd vd : List D} (h : Ld c H v (.dct kd vd)) : ∃ (a : Addr) (u : HO) (vs : List V) (J : Obj → It), v = .ref a ∧ DK c.w a u vs J ∧ Rd H a u ∧ LdA c H vs kd := by
  cases h with
  | @dct a kvs _ _ h1 h2 h3 => exact ⟨a, _, _, _, rfl, .k kvs, h1, h2⟩
  | @dctT a xs _ _ h1 h2 h3 h4 h5 => exact ⟨a, _, _, _, rfl, .t xs, h1, h2⟩
/-- for k in d -/
def sforK (it : M D) (tgt : D → M Unit) (f : M Fl) : M Fl := mb it fun d => match d with
  | .dct kd _ => forD tgt f kd
  | _ => mx
section
variable {X : Cx} {g : G}
theorem ss_forK {tg iter : Expr} {body : List Stmt} {pos : Pos} {it : M D} {is : List Nat} {tgt : D → M Unit} {f : M Fl} (fx : Fx X g) (hi : SE X g iter it) (hg : ∀ O H0, SG X (g.re O H0) tg is tgt) (hb : ∀ O H0, SSs X (g.re O H0) body f) (hs : ∀ x, foldedSetIterable iter X.env x = pure x := by intro _; rfl) :
    SS X g (.For tg iter body [] pos) (sforK it tgt f) := by
  have hgA : PG X tg (fun v σ H Q => ∃ O H0, gD (g.re O H0) is tgt v σ H Q) := ⟨fun pins s σ H v u Q I r ⟨O, H0, q⟩ => (hg O H0).run pins s σ H v u Q I r q⟩
  have hbA : PSs X body (fun Dn σ H => ∃ O H0, sD (g.re O H0) f Dn σ H) := ⟨fun pins s σ H Dn I ⟨O, H0, q⟩ => (hb O H0).run pins s σ H Dn I q⟩
  have gm : ∀ v σ H (Q Q' : L2.St → Hp → Prop), (∀ σ H, Q σ H → Q' σ H) → (∃ O H0, gD (g.re O H0) is tgt v σ H Q) → ∃ O H0, gD (g.re O H0) is tgt v σ H Q' := fun v σ H Q Q' h ⟨O, H0, os, ρ, t, d, A, l, q⟩ =>
    ⟨O, H0, os, ρ, t, d, A, l, post_mono q (fun _ ρ t z σ' A' k n => h _ _ (z σ' A' k n)) fun _ _ _ _ h => h⟩
  refine PS.imp (ps_unl (ps_for fx.p fx.c (pi_KL hi) hgA hbA hs)) fun Dn σ H q => ?_
  obtain ⟨os, ρ, t, A, q⟩ := q
  refine ⟨os, ρ, t, A, post_mono (post_bind q) (fun d ρ1 t1 q1 v H1 os1 A1 l1 s1 => ?_) fun _ _ _ _ h => h⟩
  cases d with
  | dct kd vd =>
    obtain ⟨a, u, ws, J, rfl, D, r, lk⟩ := l1.dk
    have D' : DK X.w a u ws J := by rw [fx.w]; exact D
    refine ⟨a, u, ws, J, rfl, D', ?_⟩
    have vis : a ∉ mo g os1 := fun z => by
      rcases r with r | ⟨_, r⟩ <;> (rw [show hd g os1 H1 a = none from msk_in z] at r; cases r)
    have q1 : (forD tgt f kd ρ1 t1).post (sQ g Dn (hd g os H)) noX := q1
    rcases r with r | ⟨od, r⟩
    · have h1 := msk_le _ _ r
      refine .inl ⟨h1, fun od hn => ?_⟩
      have B := A1.lock (od := od) vis h1 D
      have hh : hd (g.re g.O (inH os1 (upd H1 a (.frz od u)))) os1 (upd H1 a (.frz od u)) a = some (.frz od u) := by
        rw [show hd (g.re g.O (inH os1 (upd H1 a (.frz od u)))) os1 (upd H1 a (.frz od u)) = upd (hd g os1 H1) a (.frz od u) from msk_at vis]
        exact upd_same
      have m : Mv g.c (hd g os1 H1) (hd g os1 (upd H1 a (.frz od u))) := by
        rw [show hd g os1 (upd H1 a (.frz od u)) = upd (hd g os1 H1) a (.frz od u) from msk_at vis]
        exact mv_lock r D
      have back : ∀ {os' : List Addr} {H' : Hp}, a ∉ mo g os' → Same (hd g os1 (upd H1 a (.frz od u))) (hd g os' H') → Same (hd g os H) (hd g os' (upd H' a u)) := fun {os' H'} n s b o e => by
        have e1 := s1.s b o e
        rw [show hd g os' (upd H' a u) = upd (hd g os' H') a u from msk_at n]
        by_cases hb : b = a
        · subst hb
          rw [r] at e1
          cases e1
          exact upd_same
        · rw [upd_ne hb]
          refine s b o ?_
          rw [show hd g os1 (upd H1 a (.frz od u)) = upd (hd g os1 H1) a (.frz od u) from msk_at vis, upd_ne hb]
          exact e1
      refine for_w (g := g.re g.O (inH os1 (upd H1 a (.frz od u)))) (G0 := fun v σ H Q => ∃ O H0, gD (g.re O H0) is tgt v σ H Q) (T0 := fun Dn σ H => ∃ O H0, sD (g.re O H0) f Dn σ H) (fun v σ H Q z => ⟨_, _, z⟩) (fun Dn σ H z => ⟨_, _, z⟩) gm B (wk_DK D hh (LdA.mv m lk)) ?_
      refine post_mono q1 (fun fl ρ2 t2 q2 => ?_) fun _ _ _ _ h => h
      cases fl with
      | nx =>
          intro σ' H' os' A' s'
          obtain ⟨U, _, n⟩ := A1.unlock vis h1 D A'
          exact .inr ⟨a, u, od, A1.held vis h1 D A', hn, q2 σ' _ os' U (back n s')⟩
      | bk =>
          intro σ' H' os' A' s'
          obtain ⟨U, _, n⟩ := A1.unlock vis h1 D A'
          exact .inr ⟨a, u, od, A1.held vis h1 D A', hn, q2 σ' _ os' U (back n s')⟩
      | ct =>
          intro σ' H' os' A' s'
          obtain ⟨U, _, n⟩ := A1.unlock vis h1 D A'
          exact .inr ⟨a, u, od, A1.held vis h1 D A', hn, q2 σ' _ os' U (back n s')⟩
      | rt d =>
          intro v σ' H' os' A' l' s'
          obtain ⟨U, m', n⟩ := A1.unlock vis h1 D A'
          exact .inr ⟨a, u, od, A1.held vis h1 D A', hn, q2 v σ' _ os' U (Ld.mv m' l') (back n s')⟩
    · refine .inr ⟨od, msk_le _ _ r, ?_⟩
      refine for_w (g := g) (G0 := fun v σ H Q => ∃ O H0, gD (g.re O H0) is tgt v σ H Q) (T0 := fun Dn σ H => ∃ O H0, sD (g.re O H0) f Dn σ H) (fun v σ H Q z => ⟨g.O, g.H0, z⟩) (fun Dn σ H z => ⟨g.O, g.H0, z⟩) gm A1 (wk_DK D r lk) ?_
      refine post_mono q1 (fun fl ρ2 t2 q2 => ?_) fun _ _ _ _ h => h
      have q3 := sQ.base s1.s q2
      cases fl with
      | nx => exact fun σ' H' os' A' s' => .inl (q3 σ' H' os' A' s')
      | bk => exact fun σ' H' os' A' s' => .inl (q3 σ' H' os' A' s')
      | ct => exact fun σ' H' os' A' s' => .inl (q3 σ' H' os' A' s')
      | rt d => exact fun v σ' H' os' A' l' s' => .inl (q3 v σ' H' os' A' l' s')
  | _ => exact q1.elim
end
end DL

set_option Elab.async false
set_option linter.all false
set_option maxRecDepth 100000
set_option maxHeartbeats 1000000
namespace DL
open PySem PySem.Spec PyProof.Rows
open L2 hiding isNon
/-! ### == and != of objects whose class tells its own == -/
/-- the class's own == -/
structure ClQ (P : Program) (base : Heap) (c : Ct) (k : Nat) (n : Str) (fn : List D → Ou D) : Prop where
  ex : ∃ (C f : Addr) (fd : FuncData) (ps : List Str), ClsOf c n C ∧ Meth c.K C "__eq__" f ∧ FnOk P c.w c.K c.mg base CX0 k f fd ps (sp0 c fn) ∧ Binds c.K fd ps []
/-- its != is the plain one -/
structure NeOk (c : Ct) (n : Str) : Prop where
  ex : ∃ C, ClsOf c n C ∧ PySem.W.findIn c.K (.ref C) "__ne__" = some (some (.builtin "object.__ne__")) ∧ PySem.W.mroIn c.K C (.type "object") = some true
def rOw (c : Ct) (n : Str) (fn : List D → Ou D) (neg : Bool) : R2 := fun x y H Q => ∃ (a b C dx dy : Addr) (fs gs : List (Str × V)), x = .ref a ∧ y = .ref b ∧ ClsOf c n C ∧ H a = some (.ins C dx fs) ∧ H b = some (.ins C dy gs) ∧
  sp0 c fn [.ref a, .ref b] H (fun v H' => ∃ r, v = .bl r ∧ Q (.bl (r != neg)) H') E0
section
variable {X : Cx} {g : G} {k : Nat}
theorem run_at {A : Around} {CX : CXT} {f : Addr} {fd : FuncData} {ps : List Str} {sp : Sp} {pins : List (Addr × Obj)} {σ : L2.St} {H : Hp} {s : Shared} {Q : VK} {E : XK} {us : List Value} {vs : List V} (hA : A.frames = X.A.frames) (F : FnOk X.prog X.w X.K X.mg X.base CX k f fd ps sp) (hr : Room k A) (hb : Binds X.K fd ps []) (hx : Passes CX X E)
    (I : Inv X pins σ H s) (r : Vals vs us) (h : sp vs H Q E) : wpAny (model X.prog X.w) A (call (.ref f) us) (EP X pins σ Q) X.xe s := by
  have e0 : Env0 X.prog X.w X.K X.mg X.base A X.stack s H := by
    have e := I.env0
    exact ⟨by rw [hA]; exact e.frames, e.mod, e.bs, e.bsz, e.funs, e.frf, e.hok, e.bare⟩
  have hl : us.length = ps.length := by rw [← r.length]; exact F.len _ _ _ _ h
  have hb' := hb s us I.kIn (by rw [List.append_nil]; exact hl)
  rw [List.append_nil] at hb'
  refine wpAny_call (codeAny_mono (F.run A X.stack s H ⟨us, []⟩ us vs Q E hr e0 hb' r h) fun r s' hq => ?_)
  cases r with
  | error e => exact hx pins σ H s e s' I hq
  | ok fl =>
    cases fl with
    | ret u => exact I.after hq
    | next => exact False.elim hq
    | brk => exact False.elim hq
    | cont => exact False.elim hq
theorem op_eqO {n : Str} {fn : List D → Ou D} (fx : Fx X g) (cl : ClQ X.prog X.base g.c k n fn) (hr : Room k X.A) : OpR X (compareOp .Eq) (rOw g.c n fn false) := by
  intro pins s σ H x y u v Q I rx ry h
  obtain ⟨a, b, C, dx, dy, fs, gs, rfl, rfl, hC, ha, hb, q⟩ := h
  obtain ⟨C', f, fd, ps, hC', hme, F, hbi⟩ := cl.ex
  obtain rfl := cls_one hC hC'
  have hk := fx.k
  cases rx; cases ry
  obtain ⟨mA, J, _⟩ := ins_get I.hok ha
  obtain ⟨mB, J', _⟩ := ins_get I.hok hb
  obtain ⟨od, J, _⟩ := J.look
  obtain ⟨od', J', _⟩ := J'.look
  obtain ⟨m, hF⟩ := I.fr
  have rv2 : Vals [V.ref a, V.ref b] [Value.ref a, Value.ref b] := .cons rfl (.cons rfl .nil)
  refine PySem.W.cmp_K (op := .Eq) (tb := .ref C) hr.units0 hF I.ok.mod.kin J J'.type (by simp [PySem.W.notFirst]) (by rw [hk]; exact hme.at_) (by rw [hk]; exact hme.fn) ?_
  refine wpAny_mono (run_at rfl (fnok (P := X.prog) (base := X.base) fx F) hr (by rw [hk]; exact hbi) pass0 I rv2 q) (fun w s' z => ?_) fun _ _ x => x
  obtain ⟨v, H', I', rv, r, rfl, q'⟩ := z
  cases rv
  rw [Bool.bne_false] at q'
  exact ⟨.bl _, H', I', rfl, q'⟩
theorem ifBound_objNe {M : Model} {A : Around} {E : Value → Shared → Prop} {s : Shared} {K : PySem.W.Frag} {x C : Addr} {ox : Obj} {od : Option Obj} {args : List Value} {Q : Option Value → Shared → Prop} (X : K.In s.heap) (I : PySem.W.InstAt s.heap x ox C od) (hs : PySem.W.findIn K (.ref C) "__ne__" = some (some (.builtin "object.__ne__")))
    (h : wpAny M A (call (.builtin "object.__ne__") (.ref x :: args)) (fun v => Q (some v)) E s) : wpAny M A (callSpecialIfBound? (.ref x) "__ne__" args) Q E s := by
  simp only [callSpecialIfBound?, bindSpecialIfBound?]
  refine wpAny_holding (wpAny_bind (wpAny_bind (wpAny_bind (I.type.here ((PySem.W.looks_findIn X hs).here ?_)))))
  refine wpAny_bind (wpAny_askSetting (wpAny_ite ?_))
  have fin : wpAny M A (call (.builtin "object.__ne__") ([.ref x] ++ args) >>= fun v => pure (some v)) Q E s := wpAny_bind (wpAny_mono h (fun v s' h' => wpAny_pure h') fun _ _ h' => h')
  split
  · exact wpAny_bind (wpAny_of_eq (F.cmp_object.ne.bind _) (wpAny_pure (by exact fin)))
  · exact wpAny_tryCatch (wpAny_bind (wpAny_of_eq (F.cmp_object.ne.bind _) (wpAny_pure (by exact fin))))
theorem op_neO {n : Str} {fn : List D → Ou D} (fx : Fx X g) (cl : ClQ X.prog X.base g.c k n fn) (ne : NeOk g.c n) (hr : Room (k + 1) X.A) : OpR X (compareOp .NotEq) (rOw g.c n fn true) := by
  intro pins s σ H x y u v Q I rx ry h
  obtain ⟨a, b, C, dx, dy, fs, gs, rfl, rfl, hC, ha, hb, q⟩ := h
  obtain ⟨C', f, fd, ps, hC', hme, Fk, hbi⟩ := cl.ex
  obtain ⟨C2, hC2, n1, n2⟩ := ne.ex
  obtain rfl := cls_one hC hC'
  obtain rfl := cls_one hC hC2
  have hk := fx.k
  cases rx; cases ry
  obtain ⟨mA, J, _⟩ := ins_get I.hok ha
  obtain ⟨mB, J', _⟩ := ins_get I.hok hb
  obtain ⟨od, J, _⟩ := J.look
  obtain ⟨od', J', _⟩ := J'.look
  have X0 : X.K.In s.heap := I.kIn
  have rv2 : Vals [V.ref a, V.ref b] [Value.ref a, Value.ref b] := .cons rfl (.cons rfl .nil)
  rw [← hk] at n1 n2 hbi hme
  have core : wpAny (model X.prog X.w) X.A.in1 (call (.ref f) [.ref a, .ref b]) (fun w s' => ∃ r, w = .bool r ∧ EP X pins σ Q (.bool (!r)) s') X.xe s := by
    refine wpAny_mono (run_at rfl (fnok (P := X.prog) (base := X.base) fx Fk) hr.in1 hbi pass0 I rv2 q) (fun w s' z => ?_) fun _ _ x => x
    obtain ⟨v, H', I', rv, r, rfl, q'⟩ := z
    cases rv
    rw [Bool.bne_true] at q'
    exact ⟨r, rfl, .bl _, H', I', rfl, q'⟩
  have ent : wpAny (model X.prog X.w) X.A.in1 (Builtin.«object.__ne__» ⟨[.ref a, .ref b], []⟩) (fun fin s' => ∃ v, fin = .done (.ret v) ∧ v ≠ .notImplemented ∧ EP X pins σ Q v s') X.xe s := by
    unfold Builtin.«object.__ne__»
    repeat (first
      | with_reducible refine wpAny_cRoomFor hr.in1.units0 ?_
      | (refine wpAny_bind (m := callSpecialIfBound? (.ref a) (Str.ofString "__eq__") [.ref b]) (PySem.W.ifBound_K X0 J hme.at_ hme.fn (wpAny_mono core (fun w s' z => ?_) fun _ _ x => x)))
      | wp_step)
    obtain ⟨r, rfl, q'⟩ := z
    repeat (first | (refine wpAny_bind (m := truthy (.bool _)) (wpAny_truthy_bool ?_)) | exact ⟨_, rfl, (fun z => nomatch z), q'⟩ | wp_step)
  have one : wpAny (model X.prog X.w) X.A (tryCompare (.ref a) "__ne__" (.ref b)) (fun r s' => ∃ v, r = some v ∧ EP X pins σ Q v s') X.xe s := by
    unfold tryCompare
    refine wpAny_bind (ifBound_objNe X0 J n1 (wpAny_call (codeAny_call_builtin F.cmp_object.ne.plain F.cmpEntry_ne (PySem.W.check_slot F.cmpKind_ne F.cmpSplit_ne (J.type.andThen (PySem.W.looks_mroIn X0 n2)) (F.cmpArgs_ne _ _) (wpAny_mono ent (fun fin s' z => ?_) fun _ _ x => x)))))
    obtain ⟨v, rfl, nv, q'⟩ := z
    cases v <;> first | exact absurd rfl nv | exact wpAny_pure ⟨_, rfl, q'⟩
  show wpAny (model X.prog X.w) X.A (richCompare .NotEq (.ref a) (.ref b)) _ _ s
  unfold richCompare
  simp only [oneThing_ref]
  refine wpAny_holding (wpAny_bind (wpAny_cRoomFor hr.units0 ?_))
  refine wpAny_bind (J.type.here (wpAny_bind (J'.type.here ?_)))
  rw [show (Value.ref C != Value.ref C) = false from by simp]
  simp only [Bool.false_eq_true, if_false]
  refine wpAny_bind (wpAny_pure ?_)
  simp only [Bool.false_eq_true, if_false]
  refine wpAny_bind (wpAny_mono one (fun r s' z => ?_) fun _ _ e => e)
  obtain ⟨v, rfl, q'⟩ := z
  exact wpAny_pure q'
def deqO (n : Str) (fn : List D → Ou D) (neg : Bool) : D → D → M D := fun x y => match x, y with
  | .obj m ns vs, .obj m' ns' vs' => if m = n ∧ m' = n then mb (call0 fn [.obj m ns vs, .obj m' ns' vs']) fun d => match d with
    | .bl r => mr (.bl (r != neg))
    | _ => mx else mx
  | _, _ => mx
theorem os_eqO {n : Str} {fn : List D → Ou D} {neg : Bool} : OpS g (rOw g.c n fn neg) (deqO n fn neg) := by
  intro os σ H ρ t x y d e Q A lx ly q
  cases lx with
  | @obj a C dx fs m vd h1 h2 h3 =>
    cases ly with
    | @obj b C' dy gs m' ve k1 k2 k3 =>
      simp only [deqO] at q
      rcases post_if q with ⟨⟨e0, e1⟩, q4⟩ | ⟨_, q4⟩
      · subst e0 e1
        obtain rfl := cls_one h2 k2
        refine ⟨a, b, C, dx, dy, fs, gs, rfl, rfl, h2, msk_le _ _ h1, msk_le _ _ k1, call_0 (E := E0) A (.cons (.obj h1 h2 h3) (.cons (.obj k1 k2 k3) .nil)) (post_mono (post_bind q4) (fun d ρ2 t2 q2 v H2 os2 A2 l2 s2 => ?_) fun _ _ _ _ h => h)⟩
        cases d with
        | bl r =>
          cases l2
          exact ⟨r, rfl, q2 _ H2 os2 A2 (.bl _) s2⟩
        | _ => exact q2.elim
      · exact q4.elim
    | _ => exact q.elim
  | _ => cases ly <;> exact q.elim
theorem cs_eqO {n : Str} {fn : List D → Ou D} {b : Expr} (fx : Fx X g) (cl : ClQ X.prog X.base g.c k n fn) (hr : Room (k + 1) X.A) : CmS X g .Eq b (deqO n fn false) := ⟨_, op_eqO fx cl (hr.mono (by omega)), os_eqO, nomark _⟩
theorem cs_neO {n : Str} {fn : List D → Ou D} {b : Expr} (fx : Fx X g) (cl : ClQ X.prog X.base g.c k n fn) (ne : NeOk g.c n) (hr : Room (k + 1) X.A) : CmS X g .NotEq b (deqO n fn true) := ⟨_, op_neO fx cl ne hr, os_eqO, nomark _⟩
end
end DL

set_option Elab.async false
set_option linter.all false
set_option maxRecDepth 100000
set_option maxHeartbeats 1000000
namespace DL
open PySem PySem.Spec PyProof.Rows
open L2 hiding isNon
/-! ### isinstance of a class of the program -/
structure IsO (c : Ct) (n : Str) : Prop where
  ex : ∃ C, ClsOf c n C ∧ Cls c.K C ∧ PySem.W.findIn c.K (.ref C) "__class__" = some (some (.builtin "object.__class__")) ∧ PySem.W.specialIn c.K (.builtin "object.__class__") "__get__" = some (some (.builtin "getset_descriptor.__get__")) ∧
    PySem.W.takesIn c.K (.builtin "object.__class__") = some true ∧ PySem.W.mroIn c.K C (.type "object") = some true
def eiso (n : Str) (f : M D) : M D := mb f fun d => match d with
  | .obj m _ _ => if m = n then mr (.bl true) else mx
  | _ => mx
section
variable {X : Cx} {g : G}
theorem se_isO {e : Expr} {x : Str} {p p2 pos : Pos} {f : M D} (fx : Fx X g) (io : IsO g.c x) (hg : Gl X "isinstance") (hm : g.c.mg "isinstance" = none) (hx : Gl X x) (he : SE X g e f) (hd : (x == ("__debug__" : Str)) = false := by decide)
    (hst : starEach [e, .Name x p2] X.env = (false, eval e X.env) :: starEach [.Name x p2] X.env := by rfl) (hst2 : starEach [.Name x p2] X.env = (false, eval (.Name x p2) X.env) :: starEach [] X.env := by rfl)
    (hpl : (backTo pos (starEach [.Name x p2] X.env)).any (·.1) = false := by rfl) : SE X g (.Call (.Name "isinstance" p) [e, .Name x p2] [] pos) (eiso x f) := by
  obtain ⟨C, hC, cl, k1, k2, k3, k4⟩ := io.ex
  refine PE.imp (pe_callB call_isi hg (by rw [fx.m]; exact hm) PyProof.Rows.boot_isinstance (pa_cons he (pa_cons (pe_glob (v := .ref C) (u := .ref C) hx (by rw [fx.m]; exact hC) rfl hd) pa_nil hst2) hst) (by decide) (by decide) hst hpl) fun σ H Q q => ?_
  obtain ⟨os, ρ, t, A, q⟩ := q
  refine ⟨os, ρ, t, A, post_mono (post_bind q) (fun d ρ1 t1 q1 v H1 os1 A1 l1 s1 => ?_) fun _ _ _ _ h => h⟩
  cases l1 with
  | @obj a C' dx fs m vd h1 h2 h3 =>
    simp only at q1
    rcases post_if q1 with ⟨e0, q2⟩ | ⟨_, q2⟩
    · subst e0
      obtain rfl := cls_one hC h2
      refine ⟨.ref a, .ref C, .ref C, .ref C, true, rfl, .own C, .base (.ins (msk_le _ _ h1) (by rw [fx.k]; exact cl) (by rw [fx.k]; exact k1) (by rw [fx.k]; exact k2) (by rw [fx.k]; exact k3) (by rw [fx.k]; exact k4)), ?_, q2 _ H1 os1 A1 (.bl _) s1⟩
      unfold PySem.W.kitOne
      rw [if_pos (by simp)]
    · exact q2.elim
  | _ => exact q1.elim
end
/-! ### a constant dict by texts -/
def keyTx (e : DictEntry) : Option Str := match e.key with
  | .str x _ => some x
  | _ => none
def slook : List Str → List D → Str → Option D
  | k :: ks, d :: ds, z => if k = z then some d else slook ks ds z
  | _, _, _ => none
structure KDc (c : Ct) (x : Str) (ks : List Str) (ds : List D) : Prop where
  ex : ∃ (a : Addr) (es : Array DictEntry) (n : Nat), c.mg x = some (.ref a) ∧ KDict c.K c.w a es n ∧ es.toList.map keyTx = ks.map some ∧ ∀ z d, slook ks ds z = some d → ∃ u v, PySem.W.nsIn c.K a z = some (some u) ∧ RelV v u ∧ ∀ H, Ld c H v d
def Itkd (ks : List Str) : It := ⟨fun i _ => i < ks.length, fun i H x H' => H' = H ∧ ∃ z, ks[i]? = some z ∧ x = .str z, fun i _ => ks.length ≤ i⟩
section
variable {P : Program} {w : World} {K : PySem.W.Frag} {tg : Expr} {d : Addr} {es : Array DictEntry} {ep : Nat} {ks : List Str}
theorem kd_get (hk : es.toList.map keyTx = ks.map some) {i : Nat} {z : Str} (e : ks[i]? = some z) : ∃ en t, es[i]? = some en ∧ en.key = .str z t := by
  have e2 : (es.toList.map keyTx)[i]? = (ks.map some)[i]? := by rw [hk]
  rw [List.getElem?_map, List.getElem?_map, e, Array.getElem?_toList] at e2
  cases e3 : es[i]? with
  | none => rw [e3] at e2; cases e2
  | some en =>
    rw [e3] at e2
    have e4 : keyTx en = some z := Option.some.inj e2
    unfold keyTx at e4
    split at e4
    · rename_i x t q
      cases e4
      exact ⟨en, t, rfl, q⟩
    · cases e4
theorem turn_keysKd (D : KDict K w d es ep) (hk : es.toList.map keyTx = ks.map some) : Turn P w K tg (Itkd ks) [it] it (fun i h => h.IsKeyIter it d i ks.length ep) where
  mem := by simp
  obj := fun i h st b hb => by
    have e : b = it := by simpa using hb
    subst e
    obtain ⟨oi, e, c, dd⟩ := st
    exact ⟨oi, e, fun v z => by rw [dd] at z; cases z⟩
  keep := fun i h h' st k => st.at fun oi e => k it (by simp) oi e
  item := by
    intro X hP hw hK hc i pins s σ H E I hf st hg
    subst hP hw hK
    have hi : i < ks.length := hg
    obtain ⟨f0, f1, f2, f3, f4, f5⟩ := hf it (by simp)
    have hgd := I.kIn _ _ D.at_
    have hsz : es.size = ks.length := by
      have e : (es.toList.map keyTx).length = (ks.map some).length := by rw [hk]
      simpa using e
    obtain ⟨z, hz⟩ : ∃ p, ks[i]? = some p := ⟨ks[i], List.getElem?_eq_getElem hi⟩
    obtain ⟨en, t, hen, hkey⟩ := kd_get hk hz
    refine next_key_item st hgd rfl hsz hen fun h' st' sb => ?_
    have I1 : Inv X pins σ H { s with heap := h' } := I.turned (t' := s.toks) (fun b ob hb e => (sb.2 b hb).trans e) f0 f1 f3 f4 f5
    obtain ⟨oi, e, c, dd⟩ := id st'
    exact ⟨en.key, rfl, go_of (s := { s with heap := h' }) e c dd (by decide) ⟨.str z, H, I1, ⟨t, hkey⟩, ⟨rfl, z, hz, rfl⟩, st', fun b hb => (hf b hb).1⟩⟩
  done := by
    intro X hP hw hK hc i pins s σ H E I hf st hg
    subst hP hw hK
    have hi : ks.length ≤ i := hg
    obtain ⟨f0, f1, f2, f3, f4, f5⟩ := hf it (by simp)
    have hgd := I.kIn _ _ D.at_
    have hsz : es.size = ks.length := by
      have e : (es.toList.map keyTx).length = (ks.map some).length := by rw [hk]
      simpa using e
    exact next_key_end (I.ok.hd hc) st hgd rfl hsz hi fun h' eb => ⟨rfl, I.turned (t' := s.toks) (fun b ob hb e => eb b ob hb e) f0 f1 f3 f4 f5⟩
  self := fun A i s Q E st h => by
    refine wpAny_pyIter_slot st.typeIs F.slot_dict_keyiterator_iter (wpAny_call_entry F.slot_dict_keyiterator_iter st.typeIs F.entry_dict_keyiterator_iter ?_ (F.args_dict_keyiterator_iter_1 _))
    exact wpAny_pure ⟨_, rfl, "dict_keyiterator", _, st.typeIs, F.slot_dict_keyiterator_next.lookup, h⟩
end
theorem wk_kd {g : G} {os : List Addr} {H : Hp} {ks : List Str} : Wk g os H (Itkd ks) (ks.map .str) := fun i os' H' s lv => by
  refine ⟨fun e => ?_, fun d e => ?_⟩
  · rw [List.length_map] at e
    exact Nat.le_of_eq e.symm
  · rw [List.getElem?_map] at e
    cases ek : ks[i]? with
    | none => rw [ek] at e; cases e
    | some z =>
      rw [ek] at e
      cases e
      refine ⟨(List.getElem?_eq_some_iff.mp ek).1, fun x H2 y => ?_⟩
      obtain ⟨rfl, z', z1, rfl⟩ := y
      rw [ek] at z1
      cases z1
      exact ⟨Same.refl _, .str _⟩
section
variable {X : Cx} {g : G}
/-- for k in D -/
theorem si_kd {tg : Expr} {x : Str} {pos : Pos} {ks : List Str} {ds : List D} (fx : Fx X g) (hx : Gl X x) (h : KDc g.c x ks ds) (hd : (x == ("__debug__" : Str)) = false := by decide) : SI X g tg (.Name x pos) (mr (ks.map .str)) := by
  obtain ⟨a, es, n, h1, D0, h2, h3⟩ := h.ex
  have D : KDict X.K X.w a es n := by rw [fx.k, fx.w]; exact D0
  refine ⟨fun pins s σ H R I q => ?_⟩
  obtain ⟨os, ρ, t, A, q⟩ := q
  refine thn ((pe_glob (v := .ref a) (u := .ref a) hx (by rw [fx.m]; exact h1) rfl hd).run pins s σ H (fun v H' => v = .ref a ∧ H' = H) I ⟨rfl, rfl⟩) fun v s1 ⟨x, H1, I1, rx, e1, e2⟩ => ?_
  subst e1 e2
  cases rx
  have hsz : es.size = ks.length := by
    have e : (es.toList.map keyTx).length = (ks.map some).length := by rw [h2]
    simpa using e
  refine iter_keys D.low (I1.kIn _ _ D.at_) ⟨rfl, rfl, rfl⟩ rfl (pi_one (tk := s1.toks) I1 _ (turn_keysKd D h2) ⟨_, Heap.get?_push_size _ rfl, rfl, ?_⟩ (q (Itkd ks) H1 os A Go.refl wk_kd))
  rw [hsz] <;> rfl
theorem ix_kd {d : Addr} {es : Array DictEntry} {n : Nat} (D : KDict X.K X.w d es n) :
    IxR X (fun x y H Q => ∃ (z : Str) (u0 : Value) (v0 : V), x = .ref d ∧ y = .str z ∧ PySem.W.nsIn X.K d z = some (some u0) ∧ RelV v0 u0 ∧ Q v0 H) := by
  intro value slice pins s σ H x y v u Q I rx ry h hs
  obtain ⟨z, u0, v0, rfl, rfl, e, r, q⟩ := h
  cases rx
  obtain ⟨t, rfl⟩ := ry
  refine tail_any (kd_type D I) F.slot_dict_getitem.lookup ?_ hs
  exact wpAny_getItem_of (PySem.strKind_is X.prog X.w z t) (PySem.W.mapOf_K (prog := X.prog) I.kIn D.at_ D.lit) (PySem.W.find_K D.at_ e) ⟨v0, H, I.tok _, r, q⟩
def dkd (ks : List Str) (ds : List D) : D → M D
  | .str z => match slook ks ds z with
    | some d => mr d
    | none => mx
  | _ => mx
/-- D[k] -/
theorem se_kd {x : Str} {e : Expr} {p pos : Pos} {ks : List Str} {ds : List D} {f : M D} (fx : Fx X g) (hx : Gl X x) (h : KDc g.c x ks ds) (he : SE X g e f) (hd : (x == ("__debug__" : Str)) = false := by decide) (hs : PlainIx e := by exact fun _ _ => rfl) :
    SE X g (.Subscript (.Name x p) e pos) (mb f (dkd ks ds)) := by
  obtain ⟨a, es, n, h1, D0, h2, h3⟩ := h.ex
  have D : KDict X.K X.w a es n := by rw [fx.k, fx.w]; exact D0
  refine PE.imp (pe_ix (ix_kd D) (pe_glob (v := .ref a) (u := .ref a) hx (by rw [fx.m]; exact h1) rfl hd) he hs) fun σ H Q q => ?_
  obtain ⟨os, ρ, t, A, q⟩ := q
  refine ⟨os, ρ, t, A, post_mono (post_bind q) (fun d ρ1 t1 q1 v H1 os1 A1 l1 s1 => ?_) fun _ _ _ _ h => h⟩
  cases l1 with
  | str z =>
    simp only [dkd] at q1
    cases e : slook ks ds z with
    | none => rw [e] at q1; exact q1.elim
    | some d0 =>
      rw [e] at q1
      obtain ⟨u, v, n1, n2, n3⟩ := h3 z d0 e
      exact ⟨z, u, v, rfl, rfl, by rw [fx.k]; exact n1, n2, q1 _ H1 os1 A1 (n3 _) s1⟩
  | _ => exact q1.elim
end
end DL

set_option Elab.async false
set_option linter.all false
set_option maxRecDepth 100000
set_option maxHeartbeats 1000000
namespace DL
open PySem PySem.Spec PyProof.Rows
open L2 hiding isNon
/-! ### list comprehensions of any number of clauses -/
section
variable {elt t0 i0 : Expr} {ifs0 : List Expr} {gens : List Comprehension} {scope : Scope} {pos : Pos} {it acc : Value} {env : Env} {l : Nat}
variable {prog : Program} {w : World} {A : Around} {R : Result → Shared → Prop} {s : Shared}
/-- a clause begins: its loop from here, and the same from behind the iterator's own iter -/
theorem start_ok (hg : gens[l]? = some ⟨t0, i0, ifs0, 0⟩) (here : codeAny (model prog w) A (.compLoop (.ListComp elt gens scope pos) l it acc env) R s)
    (twice : wpAny (model prog w) A (pyIter it) (fun j t => codeAny (model prog w) A (.compLoop (.ListComp elt gens scope pos) l j acc env) R t) (notedBy (model prog w) A env fun x t => R (.error x) t) s) :
    codeAny (model prog w) A (.compStart (.ListComp elt gens scope pos) l it acc env) R s := by
  refine codeAny_of_tree (wpAny_notedAt ?_)
  unfold compStart
  rw [show (clausesOf (.ListComp elt gens scope pos))[l]? = some ⟨t0, i0, ifs0, 0⟩ from hg]
  refine wpAny_bind (wpAny_askSetting ?_)
  dsimp only
  cases (Setting.params ⟨(model prog w).prog, (model prog w).w.params⟩).followText "comprehension-iter-twice" with
  | true => exact wpAny_bind (wpAny_pure (wpAny_pure ⟨rfl, here⟩))
  | false => exact wpAny_bind (wpAny_rule (wpAny_bind (wpAny_standAt (wpAny_bind (wpAny_mono twice (fun j t c => wpAny_pure ⟨rfl, c⟩) fun _ _ x => x)))))
end
abbrev LvT := It → L2.St → Hp → (Hp → Prop) → Prop
abbrev BdT := L2.St → Hp → (Hp → Prop) → Prop
/-- a clause's loop: behind its store and tests the body B, from which Nx is reached -/
def tLvl (g : TG) (tt : TT) (B : BdT) (vs : List Nat) : LvT := fun J σ H Nx => ∃ W : Nat → Nat → Hp → Prop, (∃ m, W 0 m H) ∧ ∀ j k H, W j k H →
  (J.stop j H ∧ Nx H) ∨ (J.go j H ∧ ∃ Nx1 : Hp → Prop, (∀ H', Nx1 H' → ∃ k', k' < k ∧ W (j + 1) k' H') ∧ ∀ x H', J.yld j H x H' → g x (L2.wipe σ vs) H' fun σ3 H5 => L2.wipe σ3 vs = L2.wipe σ vs ∧ tt σ3 H5 fun b H6 =>
    if b = true then B σ3 H6 Nx1 else Nx1 H6)
def bIn (te : TE) (D : Addr) : BdT := fun σ H Nx => te σ H fun y H7 => ∃ acc, H7 D = some (.lst acc) ∧ acc.length < sizeLine ∧ Nx (upd H7 D (.lst (acc ++ [y])))
def bMid (wi : TI) (t : LvT) : BdT := fun σ H Nx => wi σ H fun J H4 => t J σ H4 Nx
/-- the loop of clause l, told by t; vs: the names of this clause and the later ones -/
structure LoopJ (X : Cx) (s3 : Shared) (H3 : Hp) (ce : Env) (fp3 : List Addr) (D : Addr) (elt : Expr) (gens : List Comprehension) (scope : Scope) (pos : Pos) (l : Nat) (vs : List Nat) (t : LvT) : Prop where
  run : ∀ (pins : List (Addr × Obj)) (σ : L2.St) (H : Hp) (s : Shared) (it : Addr) (fp : List Addr) (tn : Nat → Heap → Prop) (J : It) (tg : Expr) (Nx : Hp → Prop), gens[l]?.map (·.target) = some tg → Inv (X.blk s3 H3 scope ce fp3) pins σ H s → Turn X.prog X.w X.K tg J fp it tn → tn 0 s.heap → (∀ b ∈ fp, FpOk (X.blk s3 H3 scope ce fp3) pins H b) → t J σ H Nx →
    codeAny (model X.prog X.w) X.A (.compLoop (.ListComp elt gens scope pos) l (.ref it) (.ref D) ce) (fun r s' => match r with
      | .ok f => f = .next ∧ ∃ H', Inv (X.blk s3 H3 scope ce fp3) pins (L2.wipe σ vs) H' s' ∧ (∀ b ∈ fp, H' b = none) ∧ Nx H'
      | .error _ => False) s
/-- all that σ has outside of vs is in σ' too -/
def Kn (vs : List Nat) (σ σ' : L2.St) : Prop := σ'.length = σ.length ∧ ∀ (j : Nat) v, j ∉ vs → σ[j]? = some (some v) → σ'[j]? = some (some v)
/-- a turn's last part, told by B: the new item, or the later clauses' loop -/
def Tail (X : Cx) (s3 : Shared) (H3 : Hp) (ce : Env) (fp3 : List Addr) (D : Addr) (elt : Expr) (gens : List Comprehension) (scope : Scope) (pos : Pos) (l : Nat) (vs : List Nat) (B : BdT) : Prop :=
  ∀ (pins : List (Addr × Obj)) (σ : L2.St) (H : Hp) (s : Shared) (Nx : Hp → Prop) (K : Shared → Prop), Inv (X.blk s3 H3 scope ce fp3) pins σ H s → B σ H Nx →
    (∀ σ' H' s', Inv (X.blk s3 H3 scope ce fp3) pins σ' H' s' → Kn vs σ σ' → Nx H' → K s') →
    match gens[l + 1]? with
    | none => wpAny (model X.prog X.w) X.A (eval elt ce) (fun x t => wpAny (model X.prog X.w) X.A (call (.builtin "list.append") [.ref D, x]) (fun _ => K) (fun _ _ => False) t) (fun _ _ => False) s
    | some c => c.is_async = 0 ∧ (∀ x, foldedSetIterable c.iter ce x = pure x) ∧ wpAny (model X.prog X.w) X.A (eval c.iter ce) (fun x t => wpAny (model X.prog X.w) X.A (pyIter x) (fun i =>
        codeAny (model X.prog X.w) X.A (.compStart (.ListComp elt gens scope pos) (l + 1) i (.ref D) ce) (fun r t => match r with | .ok _ => K t | .error _ => False)) (fun _ _ => False) t) (fun _ _ => False) s
section
variable {X : Cx} {s3 : Shared} {H3 : Hp} {ce : Env} {fp3 : List Addr} {D : Addr} {elt : Expr} {gens : List Comprehension} {scope : Scope} {pos : Pos} {l : Nat} {vs vs1 : List Nat} {tg iter tg1 iter1 : Expr} {ifs ifs1 : List Expr} {g : TG} {tt : TT} {te : TE} {wi1 : TI} {t1 : LvT} {B : BdT}
theorem loopJ_of (hc : X.calm = true) (h0 : gens[l]? = some ⟨tg, iter, ifs, 0⟩) (pg : PG (X.blk s3 H3 scope ce fp3) tg g) (pt : PTs (X.blk s3 H3 scope ce fp3) ifs tt) (tail : Tail X s3 H3 ce fp3 D elt gens scope pos l vs B) :
    LoopJ X s3 H3 ce fp3 D elt gens scope pos l vs (tLvl g tt B vs) := by
  refine ⟨fun pins σ H s it fp tn J tg' Nx hg I T st free h => ?_⟩
  rw [h0] at hg
  cases hg
  obtain ⟨W, ⟨m0, w0⟩, turn⟩ := h
  have ok : ∀ {H' : Hp}, (∀ b ∈ fp, H' b = none) → ∀ b ∈ fp, FpOk (X.blk s3 H3 scope ce fp3) pins H' b := fun z b hb => ⟨z b hb, (free b hb).2⟩
  refine codeAny_loop rfl (fun m u => ∃ j Hj, W j m Hj ∧ Inv (X.blk s3 H3 scope ce fp3) pins (L2.wipe σ vs) Hj u ∧ tn j u.heap ∧ ∀ b ∈ fp, Hj b = none) ?_ m0
    ⟨0, H, w0, I.weak (wipe_length σ vs) (fun j v e => (wipe_some e).1), st, fun b hb => (free b hb).1⟩
  rintro m u ⟨j, Hj, wj, Ij, stj, fj⟩
  refine wpAny_noted (m := compTurn (.ListComp elt gens scope pos) l (.ref it) (.ref D) ce) ?_
  unfold compTurn
  dsimp only
  rw [h0]
  refine wpAny_bind (wpAny_standAt (wpAny_bind ?_))
  rcases turn j m Hj wj with ⟨stop, nx⟩ | ⟨go, Nj, next, step⟩
  · exact thnF (T.done (X.blk s3 H3 scope ce fp3) rfl rfl rfl hc j pins u _ Hj (fun _ _ => False) Ij (ok fj) stj stop) fun r u1 ⟨e, I1⟩ => by
      subst e
      exact wpAny_pure ⟨rfl, Hj, I1, fj, nx⟩
  · refine thnF (T.item (X.blk s3 H3 scope ce fp3) rfl rfl rfl hc j pins u _ Hj (fun _ _ => False) Ij (ok fj) stj go) fun r u1 ⟨v, e, given⟩ => ?_
    subst e
    refine wpAny_bind (thnF given fun _ u2 ⟨x, H2, I2, rx, yx, st2, f2⟩ => ?_)
    refine wpAny_bind (thnF (pg.run _ u2 _ H2 x v _ (I2.pinned (ok f2) (T.obj _ _ st2)) rx (step x H2 yx)) fun _ u3 ⟨σ3, H5, I3, same, q3⟩ => ?_)
    refine wpAny_bind (thnF (pt.run _ u3 σ3 H5 _ I3 q3) fun b u4 ⟨H6, I4, q4⟩ => ?_)
    have again_ : ∀ σ' H' u', Inv (X.blk s3 H3 scope ce fp3) (pins ++ pinsAt fp u2.heap) σ' H' u' → Kn vs σ3 σ' → Nj H' →
        ∃ n, n < m ∧ ∃ j Hj, W j n Hj ∧ Inv (X.blk s3 H3 scope ce fp3) pins (L2.wipe σ vs) Hj u' ∧ tn j u'.heap ∧ ∀ b ∈ fp, Hj b = none := fun σ' H' u' I' kn nx => by
      obtain ⟨n, lt, w'⟩ := next H' nx
      have held : ∀ b ∈ fp, ∀ o, u2.heap.get? b = some o → u'.heap.get? b = some o ∧ H' b = none := fun b hb o e =>
        (I'.pin (b, o) (List.mem_append_right _ (List.mem_append_right _ (mem_pinsAt hb e)))).imp id And.left
      refine ⟨n, lt, j + 1, H', w', I'.unpinned.weak (by rw [kn.1, ← wipe_length σ3 vs, same]) (fun i v e => ?_), T.keep _ _ _ st2 fun b hb o e => (held b hb o e).1, fun b hb => (T.obj _ _ st2 b hb).elim fun o z => (held b hb o z.1).2⟩
      rw [← same] at e
      exact kn.2 i v (wipe_some e).2 (wipe_some e).1
    cases b with
    | false => exact wpAny_pure ⟨rfl, again_ σ3 H6 u4 I4 ⟨rfl, fun _ _ _ e => e⟩ q4⟩
    | true =>
      have last := tail _ σ3 H6 u4 Nj _ I4 q4 again_
      cases hn : gens[l + 1]? with
      | none =>
        rw [hn] at last
        exact wpAny_bind (wpAny_bind (thnF last fun x u5 app => wpAny_bind (thnF app fun _ u6 fin => wpAny_pure (wpAny_pure ⟨rfl, fin⟩))))
      | some c =>
        rw [hn] at last
        obtain ⟨sync, plain, last⟩ := last
        cases c
        cases sync
        refine wpAny_bind (thnF last fun x u5 iter_ => wpAny_bind (wpAny_standAt ?_))
        show wpAny _ _ (foldedSetIterable _ ce x >>= _) _ _ _
        refine wpAny_bind (wpAny_of_eq (plain x) (wpAny_bind (wpAny_holding (thnF iter_ fun i u6 rest => wpAny_bind (wpAny_runOwn ?_)))))
        rw [Around.mark_none]
        refine codeAny_mono rest fun r u7 fin => ?_
        cases r with
        | ok f => exact wpAny_pure ⟨rfl, fin⟩
        | error e => exact fin.elim
theorem tail_in (h1 : gens[l + 1]? = none) (pe : PE (X.blk s3 H3 scope ce fp3) elt te) : Tail X s3 H3 ce fp3 D elt gens scope pos l vs (bIn te D) := by
  intro pins σ H s Nx K I h k
  rw [h1]
  exact thnF (pe.run _ s σ H _ I h) fun z s1 ⟨y, H1, I1, ry, _, own, room, nx⟩ => app_ok (X := X.blk s3 H3 scope ce fp3) I1 own room ry fun s2 I2 => k σ _ s2 I2 ⟨rfl, fun _ _ _ e => e⟩ nx
theorem tail_mid (h1 : gens[l + 1]? = some ⟨tg1, iter1, ifs1, 0⟩) (hv : ∀ i ∈ vs1, i ∈ vs) (pi1 : PI (X.blk s3 H3 scope ce fp3) tg1 iter1 wi1) (L : LoopJ X s3 H3 ce fp3 D elt gens scope pos (l + 1) vs1 t1)
    (hs1 : ∀ env x, foldedSetIterable iter1 env x = pure x) : Tail X s3 H3 ce fp3 D elt gens scope pos l vs (bMid wi1 t1) := by
  intro pins σ H s Nx K I h k
  rw [h1]
  refine ⟨rfl, hs1 ce, thnF (pi1.run _ s σ H _ I h) fun x s1 come => thnF come fun i s2 ⟨a, fp, tn, J, H2, e, I2, T, st, free, q⟩ => ?_⟩
  subst e
  have loop := codeAny_mono (L.run pins σ H2 s2 a fp tn J tg1 Nx (by rw [h1]; rfl) I2 T st free q) (R' := fun r u => match r with | .ok _ => K u | .error _ => False) fun r u hr => by
    cases r with
    | error e => exact hr
    | ok f => exact hr.2.elim fun H' z => k _ H' u z.1 ⟨wipe_length σ vs1, fun j v n e => (wipe_out fun y => n (hv j y)).trans e⟩ z.2.2
  exact start_ok h1 loop (T.self X.A 0 _ _ _ st loop)
theorem loopJ_in (hc : X.calm = true) (h0 : gens[l]? = some ⟨tg, iter, ifs, 0⟩) (h1 : gens[l + 1]? = none) (pg : PG (X.blk s3 H3 scope ce fp3) tg g) (pt : PTs (X.blk s3 H3 scope ce fp3) ifs tt) (pe : PE (X.blk s3 H3 scope ce fp3) elt te) :
    LoopJ X s3 H3 ce fp3 D elt gens scope pos l vs (tLvl g tt (bIn te D) vs) := loopJ_of hc h0 pg pt (tail_in h1 pe)
theorem loopJ_mid (hc : X.calm = true) (h0 : gens[l]? = some ⟨tg, iter, ifs, 0⟩) (h1 : gens[l + 1]? = some ⟨tg1, iter1, ifs1, 0⟩) (hv : ∀ i ∈ vs1, i ∈ vs) (pg : PG (X.blk s3 H3 scope ce fp3) tg g) (pt : PTs (X.blk s3 H3 scope ce fp3) ifs tt) (pi1 : PI (X.blk s3 H3 scope ce fp3) tg1 iter1 wi1)
    (L : LoopJ X s3 H3 ce fp3 D elt gens scope pos (l + 1) vs1 t1) (hs1 : ∀ env x, foldedSetIterable iter1 env x = pure x := by intro _ _; rfl) :
    LoopJ X s3 H3 ce fp3 D elt gens scope pos l vs (tLvl g tt (bMid wi1 t1) vs) := loopJ_of hc h0 pg pt (tail_mid h1 hv pi1 L hs1)
end
end DL

set_option Elab.async false
set_option linter.all false
set_option maxRecDepth 100000
set_option maxHeartbeats 1000000
namespace DL
open PySem PySem.Spec PyProof.Rows
open L2 hiding isNon
/-- [elt for .. for .. ..]; t: the first clause's loop, by the new list's place -/
def tLcN (wi : TI) (t : Addr → LvT) (vs : List Nat) : TE := fun σ H Q => wi σ H fun J H1 => ∀ D, H1 D = none → t D J (L2.wipe σ vs) (upd H1 D (.lst [])) fun H' => Q (.ref D) H'
/-- the state with a new list -/
def withList (s : Shared) : Shared := { s with heap := s.heap.push { cls := .type "list", data := .seq ([] : List Value).toArray } }
/-- the state with a block's frame -/
def withFrame (scope : Scope) (s : Shared) : Shared := { s with heap := pushCells (s.heap.push { cls := .type "dict", data := .dict #[] }) scope.names }
/-- the names of a block that begins at s -/
abbrev frameEnv (X : Cx) (scope : Scope) (s : Shared) : Env := compEnvC scope (cellsFrom (s.heap.objs.size + 1) scope.names (cloFrom X.env.cells scope.names [])) s.heap.objs.size X.env
section
variable {X : Cx} {pins : List (Addr × Obj)} {σ σ' : L2.St} {H H' : Hp} {s s' : Shared} {scope : Scope} {fp : List Addr} {tn : Nat → Heap → Prop} {tg : Expr} {J : It} {it : Addr}
theorem withList_keeps {b : Addr} {o : Obj} (e : s.heap.get? b = some o) : (withList s).heap.get? b = some o := Heap.get?_push_of_some _ e
theorem withFrame_keeps {b : Addr} {o : Obj} (e : s.heap.get? b = some o) : (withFrame scope s).heap.get? b = some o := pushCells_keeps _ _ _ _ (Heap.get?_push_of_some _ e)
theorem withList_inv (I : Inv X pins σ H s) : Inv X pins σ (upd H s.heap.objs.size (.lst [])) (withList s) :=
  I.laid (t' := s.toks) (fun b o e => withList_keeps e) (Nat.le_refl _) ⟨Nat.zero_le _, [], 0, .nil, Heap.get?_push_size _ rfl⟩
/-- an iterator's objects beside a new list -/
theorem withList_own (T : Turn X.prog X.w X.K tg J fp it tn) (st : tn 0 s.heap) (f : ∀ b ∈ fp, FpOk X pins H b) :
    ∀ b ∈ fp, FpOk X pins (upd H s.heap.objs.size (.lst [])) b ∧ b < (withList s).heap.objs.size := fun b hb => by
  obtain ⟨o, e, _⟩ := T.obj 0 _ st b hb
  exact ⟨⟨(upd_ne (Nat.ne_of_lt (Heap.lt_size e))).trans (f b hb).1, (f b hb).2⟩, Heap.lt_size (withList_keeps e)⟩
/-- a block's end: the frame is let go, all else stands as the block left it -/
theorem block_over {ce : Env} (I : Inv X pins σ H s) (f : ∀ b ∈ fp, FpOk X pins H b ∧ b < s.heap.objs.size) (hc : ce.locals = s.heap.objs.size) (B : Inv (X.blk s H scope ce fp) [] σ' H' s') :
    Inv X pins σ H' s' ∧ (∃ m, s'.heap.Ns s.heap.objs.size m) ∧ FpOk X pins H' s.heap.objs.size := by
  have free : H' ce.locals = none := B.free
  obtain ⟨m, ns, _⟩ := B.loc
  have ns : s'.heap.Ns ce.locals m := ns
  rw [hc] at free ns
  refine ⟨I.call' (ch := fp) B.os B.base B.hok B.bare fun b hb => ?_, ⟨m, ns⟩, I.fpOk (Nat.le_refl _) free⟩
  obtain ⟨⟨_, f1, f2, f3, f4, f5⟩, _⟩ := f b hb
  exact ⟨f3, f1, f4, f5⟩
theorem pe_lcN {elt iter : Expr} {ifs : List Expr} {rest : List Comprehension} {own : List (Str × Nat)} {vs : List Nat} {pos : Pos} {wi : TI} {t : Addr → LvT} (hc : X.calm = true) (hN : X.N.Nodup) (hi : PI X tg iter wi) (ok : BlkOk X.N X.env.scope scope own)
    (hL : ∀ (s : Shared) (H : Hp) (C : Addr) (cl : List (Str × Addr)) (fp : List Addr) (D : Addr), LoopJ X s H (compEnvC scope cl C X.env) fp D elt (⟨tg, iter, ifs, 0⟩ :: rest) scope pos 0 vs (t D)) (hs : ∀ x, foldedSetIterable iter X.env x = pure x := by intro _; rfl) :
    PE X (.ListComp elt (⟨tg, iter, ifs, 0⟩ :: rest) scope pos) (tLcN wi t (own.map (·.2))) := by
  refine ⟨fun pins s σ H Q I h => ?_⟩
  rw [eval_ListComp]
  refine wpAny_comprehension_free (use := none) rfl hs (closure_ok fun y hy e => (ok.free y hy e).elim (fun k => I.ok.has _ (.inl k)) fun k => I.ok.has _ (.inr k)) ok.kind (fun y hy e => e ▸ ok.uniq y hy)
    (thn (hi.run pins s σ H _ I h) fun _ _ hx => thn hx fun _ s2 ⟨it, fp, tn, J, H2, e, I2, T, st, f2, q⟩ => ?_)
  subst e
  have q := q _ (I2.hok.fresh (Nat.le_refl _))
  have I3 := withList_inv I2
  have f3 := withList_own T st f2
  have st3 : tn 0 (withFrame scope (withList s2)).heap := T.keep _ _ _ st fun b _ o e => withFrame_keeps (withList_keeps e)
  have stat : ∀ b ∈ fp, FpOk (X.blk (withList s2) (upd H2 s2.heap.objs.size (.lst [])) scope (frameEnv X scope (withList s2)) fp) [] (upd H2 s2.heap.objs.size (.lst [])) b := fun b hb => by
    have z := (block_start I3 ok hN f3).ok
    exact ⟨(f3 b hb).1.1, (z.exf b hb).1, z.exfs b hb, .inl hb, (z.exf b hb).2, fun p hp => nomatch hp⟩
  have loop := (hL (withList s2) _ _ _ fp _).run [] _ _ (withFrame scope (withList s2)) it fp tn J tg (fun H' => Q (.ref s2.heap.objs.size) H') rfl (block_start I3 ok hN f3) T st3 stat q
  have done := codeAny_mono loop (R' := compPost (model X.prog X.w) X.A X.xe none (EP X pins σ Q) (.ref s2.heap.objs.size) (withList s2).heap.objs.size) fun r u hr => by
    cases r with
    | error e => exact hr.elim
    | ok f =>
      obtain ⟨_, H', B, _, qq⟩ := hr
      obtain ⟨I', ⟨m, ns⟩, fr⟩ := block_over I3 f3 rfl B
      exact ⟨m, ns, fun h sb => ⟨.ref s2.heap.objs.size, H', I'.turned (t' := u.toks) (fun b o hb e => (sb.2 b hb).trans e) fr.1 fr.2.1 fr.2.2.2.1 fr.2.2.2.2.1 fr.2.2.2.2.2, rfl, qq⟩⟩
  exact wpAny_newObj_type (newEnv_comp (codeAny_compStart_list done (T.self X.A 0 _ _ _ st3 done))) (Nat.zero_le _)
end
/-! ### by data -/
/-- the state goes on; D alone may change among what is owned -/
structure GoD (g : G) (D : Addr) (os : List Addr) (H : Hp) (os' : List Addr) (H' : Hp) : Prop where
  s : Same (hd g os H) (hd g os' H')
  k : ∀ b ∈ os, b ∈ os' ∧ (b ≠ D → ∀ o, H b = some o → H' b = some o)
  x : ∀ x C dx, g.slf = some (x, C, dx) → ∀ o, H x = some o → H' x = some o
section
variable {g : G} {D : Addr} {os os1 os2 : List Addr} {σ σ1 : L2.St} {H H1 H2 : Hp} {ρ ρ1 : List Sl} {t t' : Pn}
theorem Go.d (h : Go g os H os1 H1) : GoD g D os H os1 H1 := ⟨h.s, fun b hb => ⟨(h.k b hb).1, fun _ => (h.k b hb).2⟩, h.x⟩
theorem GoD.trans (a : GoD g D os H os1 H1) (b : GoD g D os1 H1 os2 H2) : GoD g D os H os2 H2 :=
  ⟨a.s.trans b.s, fun c h => ⟨(b.k c (a.k c h).1).1, fun n o e => (b.k c (a.k c h).1).2 n o ((a.k c h).2 n o e)⟩, fun x C dx e o z => b.x x C dx e o (a.x x C dx e o z)⟩
theorem GoD.base (a : GoD g D os H os1 H1) : GoD g D os H os H1 :=
  ⟨a.s.trans (msk_sub fun b h => by
    rcases List.mem_append.mp h with z | z
    · exact List.mem_append_left _ z
    · exact List.mem_append_right _ (a.k b z).1), fun b h => ⟨h, (a.k b h).2⟩, a.x⟩
theorem GoD.back (a : GoD g D os H os1 H1) : Same (hd g os1 H1) (hd g os H1) := msk_sub fun b h => by
  rcases List.mem_append.mp h with z | z
  · exact List.mem_append_left _ z
  · exact List.mem_append_right _ (a.k b z).1
theorem upd_back {a : Addr} {o o' : HO} (h : H a = some o) : upd (upd H a o') a o = H := by
  funext b
  by_cases z : b = a
  · rw [z, upd_same, h]
  · rw [upd_ne z, upd_ne z]
theorem Amb.goD (A : Amb g os σ H ρ t) (hD : D ∈ os) (n : NOw σ ρ D) (a : GoD g D os H os1 H1) (A' : Amb g os1 σ1 H1 ρ1 t') (n' : NOw σ1 ρ1 D) : Amb g os σ H1 ρ t' := by
  obtain ⟨o0, e0⟩ := A.live D (List.mem_append_right _ hD)
  obtain ⟨o1, e1⟩ := A'.live D (List.mem_append_right _ (a.k D hD).1)
  have nx : ∀ x C dx, g.slf = some (x, C, dx) → x ≠ D := fun x C dx e z => by
    obtain ⟨o, h⟩ := A.o0 x (A.slf x C dx e)
    rw [z, A.new D hD] at h
    cases h
  have gg : Go g os H os1 (upd H1 D o0) := by
    refine ⟨?_, fun b hb => ⟨(a.k b hb).1, fun o e => ?_⟩, fun x C dx e o z => ?_⟩
    · rw [show hd g os1 (upd H1 D o0) = hd g os1 H1 from msk_upd (List.mem_append_right _ (a.k D hD).1)]
      exact a.s
    · by_cases z : b = D
      · rw [z] at e ⊢
        rw [e0] at e
        cases e
        exact upd_same
      · rw [upd_ne z]
        exact (a.k b hb).2 z o e
    · rw [upd_ne (nx x C dx e)]
      exact a.x x C dx e o z
  have B := (A.go gg (A'.write (o := o0) (a.k D hD).1 n')).write (o := o1) hD n
  rw [upd_back e1] at B
  exact B
end
end DL

set_option Elab.async false
set_option linter.all false
set_option maxRecDepth 100000
set_option maxHeartbeats 1000000
namespace DL
open PySem PySem.Spec PyProof.Rows
open L2 hiding isNon
/-- a body that may put items behind the list at L -/
def BodyD (g : G) (L : Addr) (bd : List D → M (List D)) (B : BdT) : Prop := ∀ (os : List Addr) (σ : L2.St) (H : Hp) (ρ : List Sl) (t : Pn) (accv : List V) (acc : List D) (Nx : Hp → Prop), Amb g os σ H ρ t → L ∈ os → NOw σ ρ L → H L = some (.lst accv) → LayA g os H accv acc →
  (bd acc ρ t).post (fun acc' _ t' => ∀ H' accv', Amb g os σ H' ρ t' → GoD g L os H os H' → H' L = some (.lst accv') → LayA g os H' accv' acc' → Nx H') noX → B σ H Nx
/-- a store that owns nothing anew -/
def TgOk (is : List Nat) (tgt : D → M Unit) : Prop := ∀ d ρ t u ρ' t', tgt d ρ t = .ok u ρ' t' → ∀ i d', ρ'[i]? = some (.ow d') → ρ[i]? = some (.ow d') ∧ i ∉ is
theorem tg_name {i : Nat} : TgOk [i] (gname i) := fun d ρ t u ρ' t' e j d' h => by
  unfold gname at e
  cases e
  by_cases z : i = j
  · subst z
    rw [List.getElem?_set] at h
    simp only [if_true] at h
    split at h <;> cases h
  · rw [List.getElem?_set_ne z] at h
    exact ⟨h, fun m => z (List.mem_singleton.mp m).symm⟩
theorem unS_ow {j : Nat} {d : D} {ρ : List Sl} : ∀ {vs : List Nat}, (unS ρ vs)[j]? = some (.ow d) → ρ[j]? = some (.ow d) ∧ j ∉ vs
  | [], h => ⟨h, List.not_mem_nil⟩
  | v :: vs, h => by
    unfold unS at h
    by_cases z : v = j
    · subst z
      rw [List.getElem?_set] at h
      simp only [if_true] at h
      split at h <;> cases h
    · rw [List.getElem?_set_ne z] at h
      obtain ⟨h1, h2⟩ := unS_ow h
      exact ⟨h1, fun m => by
        rcases List.mem_cons.mp m with m | m
        · exact z m.symm
        · exact h2 m⟩
theorem now_wipe {σ : L2.St} {ρ : List Sl} {L : Addr} {vs : List Nat} (n : NOw σ ρ L) : NOw (L2.wipe σ vs) (unS ρ vs) L := fun i d e z => by
  obtain ⟨h1, h2⟩ := unS_ow e
  rw [wipe_out h2] at z
  exact n i d h1 z
def lvGo (tgt : D → M Unit) (tst : M Bool) (bd : List D → M (List D)) (vs : List Nat) (ρ : List Sl) : List D → List D → Pn → Ou (List D)
  | [], acc, t => .ok acc ρ t
  | d :: ds, acc, t => ((tgt d) (unS ρ vs) t).bind fun _ ρ1 t1 => (tst ρ1 t1).bind fun b _ t2 =>
    if b = true then (bd acc ρ1 t2).bind fun acc' _ t3 => lvGo tgt tst bd vs ρ ds acc' t3
    else lvGo tgt tst bd vs ρ ds acc t2
def bdIn (el : M D) : List D → M (List D) := fun acc ρ t => (el ρ t).bind fun y _ t1 => if acc.length < lim then .ok (acc ++ [y]) ρ t1 else .bad
def bdMid (it : M (List D)) (tgt : D → M Unit) (tst : M Bool) (bd : List D → M (List D)) (vs : List Nat) : List D → M (List D) := fun acc ρ t => (it ρ t).bind fun ds _ t1 => (lvGo tgt tst bd vs ρ ds acc t1).bind fun acc' _ t2 => .ok acc' ρ t2
def lcND (it : M (List D)) (tgt : D → M Unit) (tst : M Bool) (bd : List D → M (List D)) (vs own : List Nat) : M D := mb it fun ds ρ t => (lvGo tgt tst bd vs (unS ρ own) ds [] t).bind fun acc _ t2 => .ok (.lst acc) ρ t2
theorem Wk.back {g : G} {os os1 : List Addr} {H H1 : Hp} {J : It} {ds : List D} (s : Go g os H os1 H1) (w : Wk g os1 H1 J ds) : Wk g os H1 J ds := fun i os2 H2 s2 lv => w i os2 H2 (s.back.trans s2) lv
section
variable {X : Cx} {g : G} {L : Addr}
theorem nslf {os : List Addr} {σ : L2.St} {H : Hp} {ρ : List Sl} {t : Pn} (A : Amb g os σ H ρ t) (hL : L ∈ os) : ∀ x C dx, g.slf = some (x, C, dx) → x ≠ L := fun x C dx e z => by
  obtain ⟨o, h⟩ := A.o0 x (A.slf x C dx e)
  rw [z, A.new L hL] at h
  cases h
theorem bodyD_in {el : M D} : BodyD g L (bdIn el) (bIn (tD g el) L) := by
  intro os σ H ρ t accv acc Nx A hL n hl la q
  refine ⟨os, ρ, t, A, post_mono (post_bind q) (fun d ρ1 t1 q1 v H1 os1 A1 l1 s1 => ?_) fun _ _ _ _ h => h⟩
  by_cases hc : acc.length < lim
  · rw [if_pos hc] at q1
    have B := A.go s1 A1
    have e1 := (s1.k L hL).2 _ hl
    have hm : hd g os (upd H1 L (.lst (accv ++ [v]))) = hd g os H1 := msk_upd (List.mem_append_right _ hL)
    refine ⟨accv, e1, by rw [la.len]; exact Nat.lt_of_lt_of_le hc (by decide), q1 _ _ (B.write hL n) ⟨?_, fun b hb => ⟨hb, fun ne o e => ?_⟩, fun x C dx e o z => ?_⟩ upd_same ?_⟩
    · rw [hm]; exact s1.base.s
    · rw [upd_ne ne]; exact (s1.k b hb).2 o e
    · rw [upd_ne (nslf A hL x C dx e)]; exact s1.x x C dx e o z
    · show LdA g.c (hd g os (upd H1 L (.lst (accv ++ [v])))) _ _
      rw [hm]
      exact LdA.app (LdA.same s1.base.s la) (.cons (Ld.same s1.back l1) .nil)
  · rw [if_neg hc] at q1; exact q1.elim
theorem lv_w {is vs : List Nat} {tgt : D → M Unit} {tst : M Bool} {bd : List D → M (List D)} {B : BdT} {os : List Addr} {σ : L2.St} {H : Hp} {ρ : List Sl} {t : Pn} {accv : List V} {acc : List D} {Nx : Hp → Prop} {J : It} {ds : List D}
    (hv : ∀ j ∈ is, j ∈ vs) (ht : TgOk is tgt) (hB : BodyD g L bd B) (A : Amb g os σ H ρ t) (hL : L ∈ os) (n : NOw σ ρ L) (hl : H L = some (.lst accv)) (la : LayA g os H accv acc) (wk : Wk g os H J ds)
    (q : (lvGo tgt tst bd vs ρ ds acc t).post (fun acc' _ t' => ∀ H' accv', Amb g os σ H' ρ t' → GoD g L os H os H' → H' L = some (.lst accv') → LayA g os H' accv' acc' → Nx H') noX) : tLvl (gD g is tgt) (bD g tst) B vs J σ H Nx := by
  refine ⟨fun i m H' => m = ds.length - i ∧ i ≤ ds.length ∧ ∃ t' acc accv, Amb g os σ H' ρ t' ∧ H' L = some (.lst accv) ∧ LayA g os H' accv acc ∧ GoD g L os H os H' ∧
      (lvGo tgt tst bd vs ρ (ds.drop i) acc t').post (fun acc' _ t' => ∀ H' accv', Amb g os σ H' ρ t' → GoD g L os H os H' → H' L = some (.lst accv') → LayA g os H' accv' acc' → Nx H') noX,
    ⟨ds.length, by simp, Nat.zero_le _, t, acc, accv, A, hl, la, Go.refl.d, by rw [List.drop_zero]; exact q⟩, ?_⟩
  rintro i m H2 ⟨rfl, hi, t2, acc, accv, A2, h2, l2, s2, q2⟩
  obtain ⟨wz, wy⟩ := wk i os H2 s2.s A2.live
  by_cases hlt : i < ds.length
  · obtain ⟨go, yl⟩ := wy ds[i] (List.getElem?_eq_getElem hlt)
    rw [List.drop_eq_getElem_cons hlt] at q2
    refine .inr ⟨go, fun H' => ∃ t' acc accv, Amb g os σ H' ρ t' ∧ H' L = some (.lst accv) ∧ LayA g os H' accv acc ∧ GoD g L os H os H' ∧
        (lvGo tgt tst bd vs ρ (ds.drop (i + 1)) acc t').post (fun acc' _ t' => ∀ H' accv', Amb g os σ H' ρ t' → GoD g L os H os H' → H' L = some (.lst accv') → LayA g os H' accv' acc' → Nx H') noX,
      fun H' ⟨t', acc, accv, a, b, c, d, e⟩ => ⟨ds.length - (i + 1), by omega, rfl, hlt, t', acc, accv, a, b, c, d, e⟩, fun x H3 y => ?_⟩
    obtain ⟨s3, l3⟩ := yl x H3 y
    have q2 := (show (((tgt ds[i]) (unS ρ vs) t2).bind _).post _ _ from q2)
    have A3 := (A2.same s3).wipe vs
    have now4 : ∀ {ρ4 : List Sl} {t4 : Pn} {σ4 : L2.St}, tgt ds[i] (unS ρ vs) t2 = .ok () ρ4 t4 → (∀ j, j ∉ is → σ4[j]? = (L2.wipe σ vs)[j]?) → NOw σ4 ρ4 L := fun {ρ4 t4 σ4} e k j d h z => by
      obtain ⟨a1, a2⟩ := ht _ _ _ _ _ _ e j d h
      rw [k j a2] at z
      exact now_wipe n j d a1 z
    cases et : tgt ds[i] (unS ρ vs) t2 with
    | bad => rw [et] at q2; exact q2.elim
    | ex c ns vs' t4 => rw [et] at q2; exact q2.elim
    | ok u ρ4 t4 =>
      rw [et] at q2
      refine ⟨os, unS ρ vs, t2, ds[i], A3, l3, ?_⟩
      rw [et]
      intro σ4 A4 k4 n4
      have N4 := now4 et k4
      have q4 := post_bind (show ((tst ρ4 t4).bind _).post _ _ from q2)
      refine ⟨wipe_eq hv n4 k4, os, ρ4, t4, A4, post_mono q4 (fun b ρ5 t5 q5 H5 os5 A5 s5 => ?_) fun _ _ _ _ h => h⟩
      have g5 := (Go.same (g := g) (os := os) s3).trans s5
      have A6 := A4.go s5 A5
      have h5 : H5 L = some (.lst accv) := (g5.k L hL).2 _ h2
      have l5 : LayA g os H5 accv acc := LdA.same g5.base.s l2
      by_cases hb : b = true
      · show ite (b = true) _ _
        rw [if_pos hb] at q5 ⊢
        refine hB os σ4 H5 ρ4 t5 accv acc _ A6 hL N4 h5 l5 (post_mono (post_bind q5) (fun acc' _ t6 q6 H6 accv' A7 g7 h7 l7 => ?_) fun _ _ _ _ h => h)
        have g8 := (g5.base.d (D := L)).trans g7
        exact ⟨t6, acc', accv', A2.goD hL n g8 A7 N4, h7, l7, s2.trans g8, q6⟩
      · show ite (b = true) _ _
        rw [if_neg hb] at q5 ⊢
        exact ⟨t5, acc, accv, A2.go g5 A5, h5, l5, s2.trans (g5.base.d), q5⟩
  · have e : i = ds.length := by omega
    subst e
    rw [List.drop_length] at q2
    exact .inl ⟨wz rfl, q2 H2 accv A2 s2 h2 l2⟩
theorem bodyD_mid {is vs : List Nat} {it : M (List D)} {tgt : D → M Unit} {tst : M Bool} {bd : List D → M (List D)} {B : BdT} (hv : ∀ j ∈ is, j ∈ vs) (ht : TgOk is tgt) (hB : BodyD g L bd B) : BodyD g L (bdMid it tgt tst bd vs) (bMid (iD g it) (tLvl (gD g is tgt) (bD g tst) B vs)) := by
  intro os σ H ρ t accv acc Nx A hL n hl la q
  refine ⟨os, ρ, t, A, post_mono (post_bind q) (fun ds ρ1 t1 q1 J H1 os1 A1 s1 wk => ?_) fun _ _ _ _ h => h⟩
  refine lv_w hv ht hB (A.go s1 A1) hL n ((s1.k L hL).2 _ hl) (LdA.same s1.base.s la) (wk.back s1) (post_mono (post_bind q1) (fun acc' _ t2 q2 H' accv' A' g' h' l' => ?_) fun _ _ _ _ h => h)
  exact q2 H' accv' A' (s1.base.d.trans g') h' l'
theorem sf_lcN {elt tg iter : Expr} {ifs : List Expr} {rest : List Comprehension} {scope : Scope} {own : List (Str × Nat)} {is vs : List Nat} {pos : Pos} {it : M (List D)} {tgt : D → M Unit} {tst : M Bool} {bd : List D → M (List D)} {B : Addr → BdT} (fx : Fx X g) (hi : SI X g tg iter it) (ok : BlkOk X.N X.env.scope scope own)
    (hv : ∀ j ∈ is, j ∈ vs) (ht : TgOk is tgt) (hB : ∀ L, BodyD g L bd (B L))
    (hL : ∀ (s : Shared) (H : Hp) (C : Addr) (cl : List (Str × Addr)) (fp : List Addr) (L : Addr), LoopJ X s H (compEnvC scope cl C X.env) fp L elt (⟨tg, iter, ifs, 0⟩ :: rest) scope pos 0 vs (tLvl (gD g is tgt) (bD g tst) (B L) vs)) (hs : ∀ x, foldedSetIterable iter X.env x = pure x := by intro _; rfl) :
    SF X g (.ListComp elt (⟨tg, iter, ifs, 0⟩ :: rest) scope pos) (lcND it tgt tst bd vs (own.map (·.2))) :=
  PE.imp (pe_lcN fx.c fx.n hi ok hL hs) fun σ H Q q => by
    obtain ⟨os, ρ, t, A, q⟩ := q
    refine ⟨os, ρ, t, A, post_mono (post_bind q) (fun ds ρ1 t1 q1 J H1 os1 A1 s1 wk => ?_) fun _ _ _ _ h => h⟩
    intro Da hD
    obtain ⟨A2, n2, w2, s2⟩ := own_new (o := HO.lst []) A1 hD
    have A3 := A2.wipe (own.map (·.2))
    refine lv_w hv ht (hB Da) A3 List.mem_cons_self (now_wipe w2) upd_same .nil (fun i os' H' s lv => wk i os' H' (s2.s.trans s) lv) (post_mono (post_bind q1) (fun acc' _ t2 q2 H' accv' A' g' h' l' => ?_) fun _ _ _ _ h => h)
    have A4 := A2.goD List.mem_cons_self w2 g' A' (now_wipe w2)
    refine q2 Da H' os1 A4 ⟨accv', h', l'⟩ ⟨n2, s1.none A1 hD⟩ w2 ⟨s1.s.trans (s2.s.trans g'.s), fun b hb => ?_, fun x C dx e o z => ?_⟩
    · have b1 := (s1.k b hb).1
      refine ⟨List.mem_cons_of_mem _ b1, fun o e => ?_⟩
      have ne : b ≠ Da := fun z => by
        obtain ⟨o, e⟩ := A1.live b (List.mem_append_right _ b1)
        rw [z, hD] at e; cases e
      exact (g'.k b (List.mem_cons_of_mem _ b1)).2 ne o ((s2.k b b1).2 o ((s1.k b hb).2 o e))
    · exact g'.x x C dx e o (s2.x x C dx e o (s1.x x C dx e o z))
end
end DL

set_option Elab.async false
set_option linter.all false
set_option maxRecDepth 100000
set_option maxHeartbeats 1000000
namespace DL
open PySem PySem.Spec PyProof.Rows
open L2 hiding isNon
/-! ### {.. for k in d} -/
section
variable {g : G} {is vs : List Nat} {tgt : D → M Unit} {tst : M Bool} {ek ev : M D} {G0 : TG} {T0 : TT} {K0 V0 : TE}
theorem dc_w {os1 : List Addr} {σ : L2.St} {H1 : Hp} {ρ1 : List Sl} {t1 : Pn} {J : It} {ds : List D} {c : Ct} (hc : g.c = c) (hv : ∀ j ∈ is, j ∈ vs) (hG : ∀ v σ H Q, gD g is tgt v σ H Q → G0 v σ H Q) (hT : ∀ σ H Q, bD g tst σ H Q → T0 σ H Q) (hK : ∀ σ H Q, tD g ek σ H Q → K0 σ H Q) (hV : ∀ σ H Q, tD g ev σ H Q → V0 σ H Q)
    (A1 : Amb g os1 σ H1 ρ1 t1) (wk : Wk g os1 H1 J ds) {Da : Addr} (hD : H1 Da = none) {Qd : Hp → Prop}
    (q1 : (dcGo tgt tst ek ev vs ρ1 ds [] [] t1).post (fun r ρ' t' => ∀ H' os', Amb g (Da :: os') σ H' ρ' t' → Own g (Da :: os') H' Da (.dct r.1 r.2) → Da ∉ mo g os' → NOw σ ρ' Da → Go g os1 H1 (Da :: os') H' → Qd H') noX) :
    ∃ W : Nat → Nat → Hp → Prop, (∃ m, W 0 m (upd H1 Da (.dK []))) ∧ ∀ (i m : Nat) (H : Hp), W i m H →
    (J.stop i H ∧ Qd H) ∨ (J.go i H ∧ ∃ Nx : Hp → Prop, (∀ H' : Hp, Nx H' → ∃ m', m' < m ∧ W (i + 1) m' H') ∧
      ∀ (x : V) (H' : Hp), J.yld i H x H' → G0 x (L2.wipe σ vs) H' fun σ2 H2 => L2.wipe σ2 vs = L2.wipe σ vs ∧ T0 σ2 H2 fun b H3 =>
        if b = true then K0 σ2 H3 fun y H4 => V0 σ2 H4 fun z H5 => stD c H5 Da y z Nx else Nx H3) := by
  subst hc
  obtain ⟨A2, n2, w2, s2⟩ := own_new (o := HO.dK []) A1 hD
  have ff : ∀ b ∈ os1, b ≠ Da := fun b hb z => by
    obtain ⟨o, e⟩ := A1.live b (List.mem_append_right _ hb)
    rw [z, hD] at e; cases e
  refine ⟨fun i m H' => m = ds.length - i ∧ i ≤ ds.length ∧ ∃ t' kd vd, Amb g (Da :: os1) σ H' ρ1 t' ∧ Own g (Da :: os1) H' Da (.dct kd vd) ∧ Go g os1 H1 (Da :: os1) H' ∧
    (dcGo tgt tst ek ev vs ρ1 (ds.drop i) kd vd t').post (fun r ρ' t' => ∀ H' os', Amb g (Da :: os') σ H' ρ' t' → Own g (Da :: os') H' Da (.dct r.1 r.2) → Da ∉ mo g os' → NOw σ ρ' Da → Go g os1 H1 (Da :: os') H' → Qd H') noX,
    ⟨ds.length, by simp, Nat.zero_le _, t1, [], [], A2, .inl ⟨[], upd_same, .nil, .nil⟩, s2, by rw [List.drop_zero]; exact q1⟩, ?_⟩
  rintro i m H2 ⟨rfl, hi, t2, kd, vd, A2, o2, s2, q2⟩
  obtain ⟨wz, wy⟩ := wk i _ H2 s2.s A2.live
  by_cases hlt : i < ds.length
  · obtain ⟨go, yl⟩ := wy ds[i] (List.getElem?_eq_getElem hlt)
    rw [List.drop_eq_getElem_cons hlt] at q2
    refine .inr ⟨go, fun H' => ∃ t' kd vd, Amb g (Da :: os1) σ H' ρ1 t' ∧ Own g (Da :: os1) H' Da (.dct kd vd) ∧ Go g os1 H1 (Da :: os1) H' ∧
        (dcGo tgt tst ek ev vs ρ1 (ds.drop (i + 1)) kd vd t').post (fun r ρ' t' => ∀ H' os', Amb g (Da :: os') σ H' ρ' t' → Own g (Da :: os') H' Da (.dct r.1 r.2) → Da ∉ mo g os' → NOw σ ρ' Da → Go g os1 H1 (Da :: os') H' → Qd H') noX,
      fun H' ⟨t', kd, vd, a, b, c, d⟩ => ⟨ds.length - (i + 1), by omega, rfl, hlt, t', kd, vd, a, b, c, d⟩, fun x H3 y => ?_⟩
    obtain ⟨s3, l3⟩ := yl x H3 y
    have q2 := post_bind (show (((tgt ds[i]) (unS ρ1 vs) t2).bind _).post _ _ from q2)
    have A3 := (A2.same s3).wipe vs
    refine hG _ _ _ _ ⟨_, unS ρ1 vs, t2, ds[i], A3, l3, post_mono q2 (fun _ ρ4 t4 q4 σ4 A4 k4 n4 => ?_) fun _ _ _ _ h => h⟩
    refine ⟨wipe_eq hv n4 k4, hT _ _ _ ⟨_, ρ4, t4, A4, post_mono (post_bind q4) (fun b ρ5 t5 q5 H5 os5 A5 s5 => ?_) fun _ _ _ _ h => h⟩⟩
    have g5 := (Go.same (g := g) (os := Da :: os1) s3).trans s5
    by_cases hb : b = true
    · show ite (b = true) _ _
      rw [if_pos hb] at q5 ⊢
      refine hK _ _ _ ⟨os5, ρ5, t5, A5, post_mono (post_bind q5) (fun k ρ6 t6 q6 u H6 os6 A6 l6 s6 => ?_) fun _ _ _ _ h => h⟩
      refine hV _ _ _ ⟨os6, ρ6, t6, A6, post_mono (post_bind q6) (fun d ρ7 t7 q7 v H7 os7 A7 l7 s7 => ?_) fun _ _ _ _ h => h⟩
      have g7 := (g5.trans s6).trans s7
      have B := A2.go g7 A7
      have o7 : Own g (Da :: os1) H7 Da (.dct kd vd) := o2.same g7.base.s (g7.k Da List.mem_cons_self).2
      have lk : Lay g (Da :: os1) H7 u k := Ld.same g7.back (Ld.same s7.s l6)
      by_cases hc : sameKind kd k = true ∧ kd.length < lim
      · rw [if_pos hc] at q7
        refine st_dct List.mem_cons_self o7 lk (Ld.same g7.back l7) hc.1 hc.2 fun o w => ⟨t7, _, _, B.write List.mem_cons_self w2, w, ?_, q7⟩
        have g8 := s2.trans g7.base
        refine ⟨?_, fun b hb => ⟨(g8.k b hb).1, fun o' e => by rw [upd_ne (ff b hb)]; exact (g8.k b hb).2 o' e⟩, fun x C dx e o' z => ?_⟩
        · rw [show hd g (Da :: os1) (upd H7 Da o) = hd g (Da :: os1) H7 from msk_upd (List.mem_append_right _ List.mem_cons_self)]
          exact g8.s
        · rw [upd_ne fun w => by rw [w, hD] at z; cases z]
          exact g8.x x C dx e o' z
      · rw [if_neg hc] at q7; exact q7.elim
    · show ite (b = true) _ _
      rw [if_neg hb] at q5 ⊢
      exact ⟨t5, kd, vd, A2.go g5 A5, o2.same g5.base.s (g5.k Da List.mem_cons_self).2, s2.trans g5.base, q5⟩
  · have e : i = ds.length := by omega
    subst e
    rw [List.drop_length] at q2
    exact .inl ⟨wz rfl, q2 H2 os1 A2 o2 n2 w2 s2⟩
end
def dcKD (it : M D) (tgt : D → M Unit) (tst : M Bool) (ek ev : M D) (vs : List Nat) : M D := mb it fun d => match d with
  | .dct kd _ => fun ρ t => (dcGo tgt tst ek ev vs ρ kd [] [] t).bind fun r ρ' t' => .ok (.dct r.1 r.2) ρ' t'
  | _ => mx
section
variable {X : Cx} {g : G}
theorem sf_dcK {kx vx tg iter : Expr} {ifs : List Expr} {scope : Scope} {own : List (Str × Nat)} {pos : Pos} {it : M D} {is : List Nat} {tgt : D → M Unit} {tst : M Bool} {ek ev : M D} (fx : Fx X g) (hi : SE X g iter it) (ok : BlkOk X.N X.env.scope scope own)
    (hg : ∀ (s : Shared) (H : Hp) (C : Addr) (cl : List (Str × Addr)) (fp : List Addr) (O : List Addr) (H0 : Hp), SG (X.blk s H scope (compEnvC scope cl C X.env) fp) (g.re O H0) tg is tgt)
    (ht : ∀ (s : Shared) (H : Hp) (C : Addr) (cl : List (Str × Addr)) (fp : List Addr) (O : List Addr) (H0 : Hp), PTs (X.blk s H scope (compEnvC scope cl C X.env) fp) ifs (bD (g.re O H0) tst))
    (hk : ∀ (s : Shared) (H : Hp) (C : Addr) (cl : List (Str × Addr)) (fp : List Addr) (O : List Addr) (H0 : Hp), SE (X.blk s H scope (compEnvC scope cl C X.env) fp) (g.re O H0) kx ek)
    (he : ∀ (s : Shared) (H : Hp) (C : Addr) (cl : List (Str × Addr)) (fp : List Addr) (O : List Addr) (H0 : Hp), SE (X.blk s H scope (compEnvC scope cl C X.env) fp) (g.re O H0) vx ev)
    (hv : ∀ j ∈ is, j ∈ own.map (·.2) := by decide) (hs : ∀ (x : Value), foldedSetIterable iter X.env x = pure x := by intro _; rfl) :
    SF X g (.DictComp kx vx [⟨tg, iter, ifs, 0⟩] scope pos) (dcKD it tgt tst ek ev (own.map (·.2))) := by
  refine PE.imp (pe_unl (pe_dcR (g := fun v σ H Q => ∃ O H0, gD (g.re O H0) is tgt v σ H Q) (tt := fun σ H Q => ∃ O H0, bD (g.re O H0) tst σ H Q) (tk := fun σ H Q => ∃ O H0, tD (g.re O H0) ek σ H Q) (tv := fun σ H Q => ∃ O H0, tD (g.re O H0) ev σ H Q) fx.c fx.n (pi_KL hi) ok
    (fun s H C cl fp => ⟨fun pins s' σ H' v u Q I r ⟨O, H0, q⟩ => (hg s H C cl fp O H0).run pins s' σ H' v u Q I r q⟩)
    (fun s H C cl fp => ⟨fun pins s' σ H' Q I ⟨O, H0, q⟩ => (ht s H C cl fp O H0).run pins s' σ H' Q I q⟩)
    (fun s H C cl fp => ⟨fun pins s' σ H' Q I ⟨O, H0, q⟩ => (hk s H C cl fp O H0).run pins s' σ H' Q I q⟩)
    (fun s H C cl fp => ⟨fun pins s' σ H' Q I ⟨O, H0, q⟩ => (he s H C cl fp O H0).run pins s' σ H' Q I q⟩) hs (st_ok fx))) fun σ H Q q => ?_
  obtain ⟨os, ρ, t, A, q⟩ := q
  refine ⟨os, ρ, t, A, post_mono (post_bind q) (fun d ρ1 t1 q1 v H1 os1 A1 l1 s1 => ?_) fun _ _ _ _ h => h⟩
  generalize hvs : own.map (·.2) = vs at *
  cases d with
  | dct kd vd =>
    obtain ⟨a, u, ws, J, rfl, D, r, lk⟩ := l1.dk
    have D' : DK X.w a u ws J := by rw [fx.w]; exact D
    refine ⟨a, u, ws, J, rfl, D', ?_⟩
    have vis : a ∉ mo g os1 := fun z => by
      rcases r with r | ⟨_, r⟩ <;> (rw [show hd g os1 H1 a = none from msk_in z] at r; cases r)
    have q1 := post_bind (show ((dcGo tgt tst ek ev vs ρ1 kd [] [] t1).bind _).post _ _ from q1)
    rcases r with r | ⟨od, r⟩
    · have h1 := msk_le _ _ r
      refine .inl ⟨h1, fun od hn Da hD => ?_⟩
      have B := A1.lock (od := od) vis h1 D
      have hh : hd (g.re g.O (inH os1 (upd H1 a (.frz od u)))) os1 (upd H1 a (.frz od u)) a = some (.frz od u) := by
        rw [show hd (g.re g.O (inH os1 (upd H1 a (.frz od u)))) os1 (upd H1 a (.frz od u)) = upd (hd g os1 H1) a (.frz od u) from msk_at vis]
        exact upd_same
      have m : Mv g.c (hd g os1 H1) (hd g os1 (upd H1 a (.frz od u))) := by
        rw [show hd g os1 (upd H1 a (.frz od u)) = upd (hd g os1 H1) a (.frz od u) from msk_at vis]
        exact mv_lock r D
      have back : ∀ {os' : List Addr} {H' : Hp}, a ∉ mo g os' → Same (hd g os1 (upd H1 a (.frz od u))) (hd g os' H') → Same (hd g os H) (hd g os' (upd H' a u)) := fun {os' H'} n s b o e => by
        have e1 := s1.s b o e
        rw [show hd g os' (upd H' a u) = upd (hd g os' H') a u from msk_at n]
        by_cases hb : b = a
        · subst hb
          rw [r] at e1
          cases e1
          exact upd_same
        · rw [upd_ne hb]
          refine s b o ?_
          rw [show hd g os1 (upd H1 a (.frz od u)) = upd (hd g os1 H1) a (.frz od u) from msk_at vis, upd_ne hb]
          exact e1
      have na : Da ≠ a := fun z => by rw [z, upd_same] at hD; cases hD
      have hD1 : H1 Da = none := by rw [upd_ne na] at hD; exact hD
      refine dc_w (g := g.re g.O (inH os1 (upd H1 a (.frz od u)))) (c := g.c) (G0 := fun v σ H Q => ∃ O H0, gD (g.re O H0) is tgt v σ H Q) (T0 := fun σ H Q => ∃ O H0, bD (g.re O H0) tst σ H Q) (K0 := fun σ H Q => ∃ O H0, tD (g.re O H0) ek σ H Q) (V0 := fun σ H Q => ∃ O H0, tD (g.re O H0) ev σ H Q) (Qd := fun H' => Unl X (Q (.ref Da)) H') rfl hv (fun v σ H Q z => ⟨_, _, z⟩) (fun σ H Q z => ⟨_, _, z⟩) (fun σ H Q z => ⟨_, _, z⟩) (fun σ H Q z => ⟨_, _, z⟩) B (wk_DK D hh (LdA.mv m lk)) hD (post_mono q1 (fun r ρ2 t2 q2 H' os' A' o' n' w' g' => ?_) fun _ _ _ _ h => h)
      obtain ⟨U, m', n⟩ := A1.unlock vis h1 D A'
      refine .inr ⟨a, u, od, A1.held vis h1 D A', hn, q2 Da _ os' U (Own.mv m' (fun o e => by rw [upd_ne na]; exact e) o') ⟨n', s1.none A1 hD1⟩ w' ⟨back n g'.s, fun b hb => ?_, fun x C dx e o z => ?_⟩⟩
      · have b1 := s1.k b hb
        have nb : b ≠ a := fun z => vis (by rw [← z]; exact List.mem_append_right _ b1.1)
        refine ⟨(g'.k b b1.1).1, fun o e => ?_⟩
        rw [upd_ne nb]
        exact (g'.k b b1.1).2 o (by rw [upd_ne nb]; exact b1.2 o e)
      · have nx : x ≠ a := fun w => vis (by rw [← w]; exact List.mem_append_left _ (A.slf x C dx e))
        rw [upd_ne nx]
        exact g'.x x C dx e o (by rw [upd_ne nx]; exact s1.x x C dx e o z)
    · refine .inr ⟨od, msk_le _ _ r, fun Da hD => ?_⟩
      refine dc_w (g := g) (c := g.c) (G0 := fun v σ H Q => ∃ O H0, gD (g.re O H0) is tgt v σ H Q) (T0 := fun σ H Q => ∃ O H0, bD (g.re O H0) tst σ H Q) (K0 := fun σ H Q => ∃ O H0, tD (g.re O H0) ek σ H Q) (V0 := fun σ H Q => ∃ O H0, tD (g.re O H0) ev σ H Q) (Qd := fun H' => Unl X (Q (.ref Da)) H') rfl hv (fun v σ H Q z => ⟨g.O, g.H0, z⟩) (fun σ H Q z => ⟨g.O, g.H0, z⟩) (fun σ H Q z => ⟨g.O, g.H0, z⟩) (fun σ H Q z => ⟨g.O, g.H0, z⟩) A1 (wk_DK D r lk) hD (post_mono q1 (fun r ρ2 t2 q2 H' os' A' o' n' w' g' => ?_) fun _ _ _ _ h => h)
      exact .inl (q2 Da _ os' A' o' ⟨n', s1.none A1 hD⟩ w' (s1.trans g'))
  | _ => exact q1.elim
end
/-! ### dict(list of pairs) -/
def dprs : List D → List D → List D → Option (List D × List D)
  | [], kd, vd => some (kd, vd)
  | .tup [k, v] :: r, kd, vd => if kkind k = some false then dprs r (dputK kd k) (dputV kd vd k v) else none
  | _ :: _, _, _ => none
def ddict : List D → M D
  | [.lst ps] => match dprs ps [] [] with
    | some (kd, vd) => mr (.dct kd vd)
    | none => mx
  | _ => mx
theorem dprs_ok {c : Ct} {H : Hp} : ∀ {ps kd vd : List D} {vs : List V} {r : List D × List D} {acc : List (Key × V)}, LdA c H vs ps → dprs ps kd vd = some r → LdA c H (acc.map fun q => kV q.1) kd → LdA c H (acc.map (·.2)) vd →
    ∃ (as : List Addr) (kvs : List (Key × V)), vs = as.map V.ref ∧ Paired (fun p kv => SqT c.K H p [kV kv.1, kv.2]) as kvs ∧ LdA c H ((mergeK acc kvs).map fun q => kV q.1) r.1 ∧ LdA c H ((mergeK acc kvs).map (·.2)) r.2
  | [], kd, vd, _, r, acc, .nil, e, a, b => by
    cases e
    exact ⟨[], [], rfl, .nil, a, b⟩
  | p :: ps, kd, vd, _, r, acc, .cons h l, e, a, b => by
    unfold dprs at e
    split at e
    · rename_i he; cases he
    · rename_i k v r' _ _ he
      cases he
      split at e
      · rename_i hk
        cases h with
        | tup hx ax =>
          cases ax with
          | cons h0 ax => cases ax with
            | cons h1 ax =>
              cases ax
              obtain ⟨k', rfl⟩ := kkind_f h0 hk
              obtain ⟨p1, p2⟩ := put_kd a b h0 h1
              obtain ⟨as, kvs, e1, e2, e3, e4⟩ := dprs_ok l e p1 p2
              exact ⟨_ :: as, (k', _) :: kvs, by rw [e1]; rfl, .cons hx e2, e3, e4⟩
      · cases e
    · cases e
section
variable {X : Cx} {g : G}
theorem ca_dict : CaF g (fun xs H Q => ∃ (a : Addr) (ps : List Addr) (kvs : List (Key × V)), xs = [.ref a] ∧ SqL g.c.K H a (ps.map V.ref) ∧ Paired (fun p kv => SqT g.c.K H p [kV kv.1, kv.2]) ps kvs ∧
    ∀ p, H p = none → Q (.ref p) (upd H p (.dK (mergeK [] kvs)))) ddict := by
  intro os σ H ρ t xs ds Q A l q
  cases l with
  | nil => exact q.elim
  | cons l a => cases a with
    | cons _ _ => cases l <;> exact q.elim
    | nil => cases l with
      | @lst b vs es hx ax =>
        simp only [ddict] at q
        cases e : dprs es [] [] with
        | none => rw [e] at q; exact q.elim
        | some r =>
          obtain ⟨kd, vd⟩ := r
          rw [e] at q
          obtain ⟨as, kvs, rfl, e2, e3, e4⟩ := dprs_ok (acc := []) ax e .nil .nil
          refine ⟨b, as, kvs, rfl, SqL.of (msk_le _ _ hx), ?_, fun p hp => ?_⟩
          · have w : ∀ {as : List Addr} {kvs : List (Key × V)}, Paired (fun p kv => SqT g.c.K (hd g os H) p [kV kv.1, kv.2]) as kvs → Paired (fun p kv => SqT g.c.K H p [kV kv.1, kv.2]) as kvs := fun {as kvs} z => by
              induction z with
              | nil => exact .nil
              | cons h _ ih => exact .cons (seqT_same msk_le h) ih
            exact w e2
          · obtain ⟨A2, n2, w2, s2⟩ := own_new (o := .dK (mergeK [] kvs)) A hp
            exact q p _ os A2 (.inl ⟨_, upd_same, LdA.same (Go.s s2) e3, LdA.same (Go.s s2) e4⟩) ⟨n2, hp⟩ w2 s2
      | _ => exact q.elim
theorem sf_dictC {p pos : Pos} {e : Expr} {h : M D} (fx : Fx X g) (hg : Gl X "dict") (hm : g.c.mg "dict" = none) (he : SE X g e h) (hst : starEach [e] X.env = (false, eval e X.env) :: starEach [] X.env := by rfl) : SF X g (.Call (.Name "dict" p) [e] [] pos) (mb (acons h anil) ddict) :=
  sf_callT fx (by have := call_dictP (X := X) fx.c; rw [fx.k] at this; exact this) ca_dict hg hm PyProof.Rows.boot_dict (sa_cons he sa_nil hst) (by decide) (by decide) hst
end
end DL

set_option Elab.async false
set_option linter.all false
set_option maxRecDepth 100000
set_option maxHeartbeats 4000000
namespace K38
open PySem PySem.Spec PyProof.Rows L2 DL
def top (i : Nat) : Stmt := PySem.Challenge.pw_treeshed_k38_whole_known_book_by_maps.main.body.getD i (.Pass ⟨0, 0, 0, 0⟩)
/-- what the law's own map answers, and what it is then -/
inductive DR where
  | txt (s : Str) (kvs : List (Key × V)) | tup (v : V)
def didR (nm : Str) (kvs : List (Key × V)) (w : Str) (z : V) : DR := match valV kvs (.inr w) with
  | none => if nm = "has" then .txt "no" kvs else if nm = "get" then .txt "no" kvs else if nm = "strike" then .txt "no" kvs else .txt "yes" (putK kvs (.inr w) z)
  | some v => if nm = "has" then .txt "yes" kvs else if nm = "get" then .tup v else if nm = "strike" then .txt "yes" (dropK kvs (.inr w)) else
    if nm = "put" then .txt "no" kvs else if nm = "set" ∧ v = z then .txt "no" kvs else .txt "yes" (putK kvs (.inr w) z)
def isIntV : V → Bool
  | .int _ => true
  | _ => false
def spDid : Sp := fun vs H Q _ => ∃ (nm : Str) (a : Addr) (w : Str) (z : Int) (kvs : List (Key × V)), vs = [.str nm, .ref a, .str w, .int z] ∧ H a = some (.dK kvs) ∧ (∀ v, valV kvs (.inr w) = some v → isIntV v = true) ∧ kvs.length < lim ∧
  match didR nm kvs w (.int z) with
  | .txt s kvs' => Q (.str s) (upd H a (.dK kvs'))
  | .tup v => ∀ p, H p = none → Q (.ref p) (upd H p (.tup [.str "is", v]))
theorem upd_self {H : Hp} {a : Addr} {o : HO} (h : H a = some o) : upd H a o = H := by
  funext b
  by_cases z : b = a
  · rw [z, upd_same, h]
  · rw [upd_ne z]
section
variable {P : Program} {base : Heap} {c : Ct}
abbrev s_law_did : Stmt := top 10
abbrev N_law_did : List Str := ["_law_name", "_law_held", "_law_word", "_law_value", "_law_there"]
abbrev p_law_did : List Str := ["_law_name", "_law_held", "_law_word", "_law_value"]
theorem sc_law_did : FnScope N_law_did p_law_did (defScope s_law_did) := ⟨rfl, rfl, rfl, by decide +kernel, rfl, by decide +kernel, by decide +kernel⟩
theorem ok_law_did {f : Addr} {fd : FuncData} (F : FunD c.K "_law_did" "_law_did" (defArgs s_law_did) (defBody s_law_did) (defScope s_law_did) [] [] f fd) : FnOk P c.w c.K c.mg base CX0 1 f fd p_law_did spDid := by
  refine F.ok sc_law_did (fun vs H Q E h => ?_) (fun cdv A outer s H vs Q E hr h => ?_)
  · obtain ⟨nm, a, w, z, kvs, rfl, _⟩ := h
    rfl
  · obtain ⟨nm, a, w, z, kvs, rfl, hH, hv, hl, q⟩ := h
    have hu := hr.units
    have hu1 : (A.deeper (envOfC "_law_did" (defScope s_law_did) s.heap.objs.size f cdv)).units + 1 < cLine := by omega
    let X : Cx := bX P c.w c.K c.mg base N_law_did "_law_did" (defScope s_law_did) f cdv A outer s H E
    have hu1 : X.A.units + 1 < cLine := hu1
    refine ⟨_, PSs.nox (pss_cons (ps_set (i := 4) sc_law_did.nd rfl (Or.inl rfl) (pe_cmpR (in_dk (X := X) hu1) (pv 2) (pv 1) (by rfl)))
      (pss_cons (ps_if (pt_cmpR op_eq (pv 0) pe_str (nomark _)) (pss_one (ps_ret (pe_ifExp (pt_val (pv 4) (by intro _; rfl)) pe_str pe_str))) pss_nil)
      (pss_cons (ps_if (pt_cmpR op_eq (pv 0) pe_str (nomark _)) (pss_one (ps_ret (pe_ifExp (pt_val (pv 4) (by intro _; rfl)) (pe_tup (pa_cons pe_str (pa_cons (pe_ix (ix_dk (c := c)) (pv 1) (pv 2) (fun _ _ => rfl)) pa_nil))) pe_str))) pss_nil)
      (pss_cons (ps_if (pt_cmpR op_eq (pv 0) pe_str (nomark _)) (pss_cons (ps_if (pt_val (pv 4) (by intro _; rfl)) (pss_one (ps_expr (pe_dpop1 (pv 1) (pv 2) ⟨rfl, rfl, rfl, rfl⟩))) pss_nil) (pss_one (ps_ret (pe_ifExp (pt_val (pv 4) (by intro _; rfl)) pe_str pe_str)))) pss_nil)
      (pss_cons (ps_if (PW.pt (pw_or (PW.pt (pw_and (pt_cmpR op_eq (pv 0) pe_str (nomark _)) (pw_and1 (pt_val (pv 4) (by intro _; rfl))))) (pw_or1 (PW.pt (pw_and (pt_cmpR op_eq (pv 0) pe_str (nomark _)) (pw_and (pt_val (pv 4) (by intro _; rfl)) (pw_and1 (pt_cmpR op_eq (pe_ix (ix_dk (c := c)) (pv 1) (pv 2) (fun _ _ => rfl)) (pv 3) (nomark _))))))))) (pss_one (ps_ret pe_str)) pss_nil)
      (pss_cons (ps_dput (X := X) hu1 (pv 1) (pv 2) (pv 3) (by rfl))
      (pss_one (ps_ret pe_str)))))))), ?_⟩
    have dec : ∀ {x y : Str}, decide (V.str x = V.str y) = decide (x = y) := fun {x y} => by
      by_cases z : x = y
      · rw [z]; simp
      · rw [decide_eq_false z, decide_eq_false (fun e => z (by cases e; rfl))]
    have self : upd H a (.dK kvs) = H := upd_self hH
    refine ⟨_, rfl, _, rfl, a, kvs, .inr w, rfl, .inl hH, rfl, ?_⟩
    have yes : ∀ {x y : Str}, x = y → decide (V.str x = V.str y) = true := fun {x y} z => by rw [dec]; exact decide_eq_true z
    have no : ∀ {x y : Str}, ¬ x = y → ¬ decide (V.str x = V.str y) = true := fun {x y} z => by rw [dec]; simp [z]
    refine ⟨_, rfl, rfl, _, rfl, ?_⟩
    by_cases n1 : nm = "has"
    · show ite _ _ _
      rw [if_pos (yes n1)]
      cases e : valV kvs (.inr w) with
      | none =>
        have r : didR nm kvs w (.int z) = .txt "no" kvs := by
          unfold didR
          rw [e]
          show ite (nm = "has") _ _ = _
          rw [if_pos n1]
        rw [r] at q
        simp only [self] at q
        exact ⟨_, rfl, false, rfl, q⟩
      | some v =>
        have r : didR nm kvs w (.int z) = .txt "yes" kvs := by
          unfold didR
          rw [e]
          show ite (nm = "has") _ _ = _
          rw [if_pos n1]
        rw [r] at q
        simp only [self] at q
        exact ⟨_, rfl, true, rfl, q⟩
    show ite _ _ _
    rw [if_neg (no n1)]
    refine ⟨_, rfl, rfl, _, rfl, ?_⟩
    by_cases n2 : nm = "get"
    · show ite _ _ _
      rw [if_pos (yes n2)]
      cases e : valV kvs (.inr w) with
      | none =>
        have r : didR nm kvs w (.int z) = .txt "no" kvs := by
          unfold didR
          rw [e]
          show ite (nm = "has") _ _ = _
          rw [if_neg n1, if_pos n2]
        rw [r] at q
        simp only [self] at q
        exact ⟨_, rfl, false, rfl, q⟩
      | some v =>
        have r : didR nm kvs w (.int z) = .tup v := by
          unfold didR
          rw [e]
          show ite (nm = "has") _ _ = _
          rw [if_neg n1, if_pos n2]
        rw [r] at q
        refine ⟨_, rfl, true, rfl, ?_⟩
        exact ⟨_, rfl, _, rfl, a, kvs, .inr w, v, rfl, .inl hH, rfl, e, (by show 2 ≤ sizeLine; decide), fun p hp => q p hp⟩
    show ite _ _ _
    rw [if_neg (no n2)]
    refine ⟨_, rfl, rfl, _, rfl, ?_⟩
    by_cases n3 : nm = "strike"
    · show ite _ _ _
      rw [if_pos (yes n3)]
      cases e : valV kvs (.inr w) with
      | none =>
        have r : didR nm kvs w (.int z) = .txt "no" kvs := by
          unfold didR
          rw [e]
          show ite (nm = "has") _ _ = _
          rw [if_neg n1, if_neg n2, if_pos n3]
        rw [r] at q
        simp only [self] at q
        exact ⟨_, rfl, false, rfl, _, rfl, false, rfl, q⟩
      | some v =>
        have r : didR nm kvs w (.int z) = .txt "yes" (dropK kvs (.inr w)) := by
          unfold didR
          rw [e]
          show ite (nm = "has") _ _ = _
          rw [if_neg n1, if_neg n2, if_pos n3]
        rw [r] at q
        refine ⟨_, rfl, true, rfl, ?_⟩
        exact ⟨_, rfl, a, rfl, .inl ⟨kvs, .inl hH⟩, _, rfl, kvs, .inr w, v, hH, rfl, e, _, rfl, true, rfl, q⟩
    show ite _ _ _
    rw [if_neg (no n3)]
    have put : ∀ {Q' : Hp → Prop}, Q' (upd H a (.dK (putK kvs (.inr w) (.int z)))) → ∃ a' H4, V.ref a = .ref a' ∧ DPut H a' (.str w) (.int z) H4 ∧ Q' H4 := fun h => ⟨a, _, rfl, DPut.k (k := .inr w) hH (Nat.lt_trans hl (by decide)), h⟩
    refine ⟨_, rfl, rfl, _, rfl, ?_⟩
    cases e : valV kvs (.inr w) with
    | none =>
        have r : didR nm kvs w (.int z) = .txt "yes" (putK kvs (.inr w) (.int z)) := by
          unfold didR
          rw [e]
          show ite (nm = "has") _ _ = _
          rw [if_neg n1, if_neg n2, if_neg n3]
        rw [r] at q
        have fin : ∀ {D : Ends} {σ : L2.St}, σ[1]? = some (some (.ref a)) → σ[2]? = some (some (.str w)) → σ[3]? = some (some (.int z)) → D.rt = Q → tSeq (sDPut (tVar 1) (tVar 2) (tVar 3)) (tRet (tC (V.str "yes"))) D σ H := fun {D σ} h1 h2 h3 h4 =>
          ⟨_, h3, _, h1, _, h2, a, _, rfl, DPut.k (k := .inr w) hH (Nat.lt_trans hl (by decide)), by show D.rt _ _; rw [h4]; exact q⟩
        have snd : ∀ {D : Ends} {σ : L2.St}, σ[0]? = some (some (.str nm)) → σ[4]? = some (some (.bl false)) → D.nx σ H → (tAnd (tTest (tOp rEq (tVar 0) (tC (V.str "set")))) (tAnd (tB (tVar 4)) (tTest (tOp rEq (tOp (rDK c) (tVar 1) (tVar 2)) (tVar 3))))) σ H (fun b H1 => if b = true then tRet (tC (V.str "no")) D σ H1 else D.nx σ H1) := fun {D σ} h0 h4 hn => by
          refine ⟨_, h0, rfl, _, rfl, ?_⟩
          show ite _ _ _
          split
          · exact ⟨_, h4, false, rfl, hn⟩
          · exact hn
        show ite _ _ _
        split
        · exact ⟨_, rfl, false, rfl, snd rfl rfl (fin rfl rfl rfl rfl)⟩
        · exact snd rfl rfl (fin rfl rfl rfl rfl)
    | some v =>
        have hi := hv v e
        cases v with
        | int y =>
          show ite _ _ _
          by_cases n4 : nm = "put"
          · rw [if_pos (yes n4)]
            have r : didR nm kvs w (.int z) = .txt "no" kvs := by
              unfold didR
              rw [e]
              show ite (nm = "has") _ _ = _
              rw [if_neg n1, if_neg n2, if_neg n3, if_pos n4]
            rw [r] at q
            simp only [self] at q
            exact ⟨_, rfl, true, rfl, q⟩
          · rw [if_neg (no n4)]
            refine ⟨_, rfl, rfl, _, rfl, ?_⟩
            show ite _ _ _
            by_cases n5 : nm = "set"
            · rw [if_pos (yes n5)]
              refine ⟨_, rfl, true, rfl, ?_⟩
              refine ⟨_, rfl, _, rfl, a, kvs, .inr w, .int y, rfl, .inl hH, rfl, e, _, rfl, rfl, _, rfl, ?_⟩
              show ite _ _ _
              by_cases n6 : V.int y = V.int z
              · rw [if_pos (decide_eq_true n6)]
                have r : didR nm kvs w (.int z) = .txt "no" kvs := by
                  unfold didR
                  rw [e]
                  show ite (nm = "has") _ _ = _
                  rw [if_neg n1, if_neg n2, if_neg n3, if_neg n4, if_pos ⟨n5, n6⟩]
                rw [r] at q
                simp only [self] at q
                exact q
              · rw [if_neg (by simpa using n6)]
                have r : didR nm kvs w (.int z) = .txt "yes" (putK kvs (.inr w) (.int z)) := by
                  unfold didR
                  rw [e]
                  show ite (nm = "has") _ _ = _
                  rw [if_neg n1, if_neg n2, if_neg n3, if_neg n4, if_neg (fun w => n6 w.2)]
                rw [r] at q
                exact ⟨_, rfl, _, rfl, _, rfl, a, _, rfl, DPut.k (k := .inr w) hH (Nat.lt_trans hl (by decide)), q⟩
            · rw [if_neg (no n5)]
              have r : didR nm kvs w (.int z) = .txt "yes" (putK kvs (.inr w) (.int z)) := by
                unfold didR
                rw [e]
                show ite (nm = "has") _ _ = _
                rw [if_neg n1, if_neg n2, if_neg n3, if_neg n4, if_neg (fun w => n5 w.1)]
              rw [r] at q
              exact ⟨_, rfl, _, rfl, _, rfl, a, _, rfl, DPut.k (k := .inr w) hH (Nat.lt_trans hl (by decide)), q⟩
        | _ => cases hi
end
end K38

set_option Elab.async false
set_option linter.all false
set_option maxRecDepth 100000
set_option maxHeartbeats 4000000
namespace K38
open PySem PySem.Spec PyProof.Rows DL
open L2 hiding isNon
/-! ### the law's own map by data -/
def ddrop : List D → List D → NestedKey → List D × List D
  | k :: ks, v :: vs, n => let r := ddrop ks vs n; if nk k = n then r else (k :: r.1, v :: r.2)
  | _, _, _ => ([], [])
theorem drop_kd {c : Ct} {H : Hp} : ∀ {kvs : List (Key × V)} {kd vd : List D}, LdA c H (kvs.map fun q => kV q.1) kd → LdA c H (kvs.map (·.2)) vd → ∀ {k : Key} {d : D}, Ld c H (kV k) d →
    LdA c H ((dropK kvs k).map fun q => kV q.1) (ddrop kd vd (nk d)).1 ∧ LdA c H ((dropK kvs k).map (·.2)) (ddrop kd vd (nk d)).2
  | [], _, _, .nil, .nil, _, _, _ => ⟨.nil, .nil⟩
  | q :: kvs, _, _, .cons h0 a, .cons h1 b, k, d, h => by
    obtain ⟨i1, i2⟩ := drop_kd a b h
    unfold ddrop
    have e0 : dropK (q :: kvs) k = if q.1 = k then dropK kvs k else q :: dropK kvs k := by
      unfold dropK
      rw [List.filter_cons]
      by_cases z : q.1 = k
      · simp [z]
      · simp [z]
    rw [e0]
    by_cases z : q.1 = k
    · rw [if_pos z, if_pos ((nk_inj h0 h).mpr z)]
      exact ⟨i1, i2⟩
    · rw [if_neg z, if_neg fun w => z ((nk_inj h0 h).mp w)]
      exact ⟨.cons h0 i1, .cons h1 i2⟩
def isIntD : D → Bool
  | .int _ => true
  | _ => false
def eqI (d : D) (z : Int) : Bool := match d with
  | .int y => decide (y = z)
  | _ => false
def didD (nm w : Str) (z : Int) (kd vd : List D) : D × List D × List D := match dlook kd vd (.text w) with
  | none => if nm = "has" then (.str "no", kd, vd) else if nm = "get" then (.str "no", kd, vd) else if nm = "strike" then (.str "no", kd, vd) else (.str "yes", dputK kd (.str w), dputV kd vd (.str w) (.int z))
  | some v => if nm = "has" then (.str "yes", kd, vd) else if nm = "get" then (.tup [.str "is", v], kd, vd) else if nm = "strike" then (.str "yes", ddrop kd vd (.text w)) else
    if nm = "put" then (.str "no", kd, vd) else if nm = "set" ∧ eqI v z = true then (.str "no", kd, vd) else (.str "yes", dputK kd (.str w), dputV kd vd (.str w) (.int z))
theorem didR_none {nm : Str} {kvs : List (Key × V)} {w : Str} {z : V} (e : valV kvs (.inr w) = none) : didR nm kvs w z = if nm = "has" then .txt "no" kvs else if nm = "get" then .txt "no" kvs else if nm = "strike" then .txt "no" kvs else .txt "yes" (putK kvs (.inr w) z) := by
  unfold didR
  rw [e]
theorem didR_some {nm : Str} {kvs : List (Key × V)} {w : Str} {z v : V} (e : valV kvs (.inr w) = some v) : didR nm kvs w z = if nm = "has" then .txt "yes" kvs else if nm = "get" then .tup v else if nm = "strike" then .txt "yes" (dropK kvs (.inr w)) else
    if nm = "put" then .txt "no" kvs else if nm = "set" ∧ v = z then .txt "no" kvs else .txt "yes" (putK kvs (.inr w) z) := by
  unfold didR
  rw [e]
theorem didD_none {nm w : Str} {z : Int} {kd vd : List D} (e : dlook kd vd (.text w) = none) : didD nm w z kd vd = if nm = "has" then (.str "no", kd, vd) else if nm = "get" then (.str "no", kd, vd) else if nm = "strike" then (.str "no", kd, vd) else (.str "yes", dputK kd (.str w), dputV kd vd (.str w) (.int z)) := by
  unfold didD
  rw [e]
theorem didD_some {nm w : Str} {z : Int} {kd vd : List D} {v : D} (e : dlook kd vd (.text w) = some v) : didD nm w z kd vd = if nm = "has" then (.str "yes", kd, vd) else if nm = "get" then (.tup [.str "is", v], kd, vd) else if nm = "strike" then (.str "yes", ddrop kd vd (.text w)) else
    if nm = "put" then (.str "no", kd, vd) else if nm = "set" ∧ eqI v z = true then (.str "no", kd, vd) else (.str "yes", dputK kd (.str w), dputV kd vd (.str w) (.int z)) := by
  unfold didD
  rw [e]
/-- the data agree with the values -/
def DidOk (c : Ct) (H : Hp) (r : DR) (q : D × List D × List D) (kd vd : List D) : Prop := match r with
  | .txt s kvs' => ∃ kd' vd', q = (.str s, kd', vd') ∧ LdA c H (kvs'.map fun q => kV q.1) kd' ∧ LdA c H (kvs'.map (·.2)) vd'
  | .tup v => ∃ d, q = (.tup [.str "is", d], kd, vd) ∧ Ld c H v d
theorem did_data {c : Ct} {H : Hp} {kvs : List (Key × V)} {kd vd : List D} (a : LdA c H (kvs.map fun q => kV q.1) kd) (b : LdA c H (kvs.map (·.2)) vd) (hi : vd.all isIntD = true) (nm w : Str) (z : Int) :
    (∀ v, valV kvs (.inr w) = some v → isIntV v = true) ∧ DidOk c H (didR nm kvs w (.int z)) (didD nm w z kd vd) kd vd := by
  have hk : Ld c H (kV (.inr w)) (.str w) := .str w
  have hz : Ld c H (V.int z) (.int z) := .int z
  have pp := put_kd a b hk hz
  have pd := drop_kd a b hk
  have same : ∀ s : Str, DidOk c H (.txt s kvs) (.str s, kd, vd) kd vd := fun s => ⟨_, _, rfl, a, b⟩
  have putr : ∀ s : Str, DidOk c H (.txt s (putK kvs (.inr w) (.int z))) (.str s, dputK kd (.str w), dputV kd vd (.str w) (.int z)) kd vd := fun s => ⟨_, _, rfl, pp.1, pp.2⟩
  rcases look_k a b hk with ⟨f1, f2⟩ | ⟨v, d, f1, f2, f3⟩
  · have f2 : dlook kd vd (.text w) = none := f2
    refine ⟨fun v e => (by rw [f1] at e; cases e), ?_⟩
    rw [didR_none f1, didD_none f2]
    by_cases n1 : nm = "has"
    · rw [if_pos n1, if_pos n1]; exact same _
    rw [if_neg n1, if_neg n1]
    by_cases n2 : nm = "get"
    · rw [if_pos n2, if_pos n2]; exact same _
    rw [if_neg n2, if_neg n2]
    by_cases n3 : nm = "strike"
    · rw [if_pos n3, if_pos n3]; exact same _
    rw [if_neg n3, if_neg n3]
    exact putr _
  · have f2 : dlook kd vd (.text w) = some d := f2
    have di : isIntD d = true := List.all_eq_true.mp hi d (dlook_mem f2)
    cases d with
    | int y =>
      cases f3
      refine ⟨fun v e => (by rw [f1] at e; cases e; rfl), ?_⟩
      rw [didR_some f1, didD_some f2]
      by_cases n1 : nm = "has"
      · rw [if_pos n1, if_pos n1]; exact same _
      rw [if_neg n1, if_neg n1]
      by_cases n2 : nm = "get"
      · rw [if_pos n2, if_pos n2]; exact ⟨_, rfl, .int y⟩
      rw [if_neg n2, if_neg n2]
      by_cases n3 : nm = "strike"
      · rw [if_pos n3, if_pos n3]; exact ⟨_, _, rfl, pd.1, pd.2⟩
      rw [if_neg n3, if_neg n3]
      by_cases n4 : nm = "put"
      · rw [if_pos n4, if_pos n4]; exact same _
      rw [if_neg n4, if_neg n4]
      by_cases n5 : nm = "set" ∧ y = z
      · rw [if_pos (show nm = "set" ∧ V.int y = V.int z from ⟨n5.1, by rw [n5.2]⟩), if_pos (show nm = "set" ∧ eqI (.int y) z = true from ⟨n5.1, decide_eq_true n5.2⟩)]; exact same _
      · rw [if_neg (show ¬ (nm = "set" ∧ V.int y = V.int z) from fun w => n5 ⟨w.1, by cases w.2; rfl⟩), if_neg (show ¬ (nm = "set" ∧ eqI (.int y) z = true) from fun w => n5 ⟨w.1, of_decide_eq_true w.2⟩)]; exact putr _
    | _ => cases di
/-! ### x = [_law_did(n, own, w, z) for .. in ..] -/
def tDid (a0 j a2 a3 : Nat) : TE := fun σ H Q => ∃ (nm : Str) (a : Addr) (w : Str) (z : Int), σ[a0]? = some (some (.str nm)) ∧ σ[j]? = some (some (.ref a)) ∧ σ[a2]? = some (some (.str w)) ∧ σ[a3]? = some (some (.int z)) ∧ spDid [.str nm, .ref a, .str w, .int z] H Q E0
theorem pe_did {X : Cx} {g : G} {a0 j a2 a3 : Nat} {p cpos : Pos} {x0 x1 x2 x3 : Expr} (fx : Fx X g) (cl : ClD X.prog X.base g.c 1 "_law_did" p_law_did spDid []) (hr : Room 1 X.A) (hg : Gl X "_law_did") (h0 : PE X x0 (tVar a0)) (h1 : PE X x1 (tVar j)) (h2 : PE X x2 (tVar a2)) (h3 : PE X x3 (tVar a3))
    (s0 : starEach [x0, x1, x2, x3] X.env = (false, eval x0 X.env) :: starEach [x1, x2, x3] X.env := by rfl) (s1 : starEach [x1, x2, x3] X.env = (false, eval x1 X.env) :: starEach [x2, x3] X.env := by rfl) (s2 : starEach [x2, x3] X.env = (false, eval x2 X.env) :: starEach [x3] X.env := by rfl) (s3 : starEach [x3] X.env = (false, eval x3 X.env) :: starEach [] X.env := by rfl)
    (hpl : (backTo cpos (starEach [x1, x2, x3] X.env)).any (·.1) = false := by rfl) : PE X (.Call (.Name "_law_did" p) [x0, x1, x2, x3] [] cpos) (tDid a0 j a2 a3) := by
  obtain ⟨f, fd, dvs, dss, F, hm, hk, hb, hd, hl⟩ := cl.ex
  have e0 : dvs = [] := by have := hl (fun _ => none); cases this; rfl
  subst e0
  refine PE.imp (pe_call (fnok (P := X.prog) (base := X.base) fx F) hr hg (by rw [fx.m]; exact hm) (by rw [fx.k]; exact hk) (by rw [fx.k]; exact hb) hd pass0 (pa_cons h0 (pa_cons h1 (pa_cons h2 (pa_cons h3 pa_nil s3) s2) s1) s0) (by decide) s0 hpl) fun σ H Q q => ?_
  obtain ⟨nm, a, w, z, e0, e1, e2, e3, q⟩ := q
  exact ⟨_, e0, _, e1, _, e2, _, e3, q⟩
def lcdGo (tgt : D → M Unit) (a0 j a2 a3 : Nat) (vs : List Nat) : List D → List Sl → List D → Pn → Ou (List D)
  | [], ρ, acc, t => .ok acc ρ t
  | d :: ds, ρ, acc, t => ((tgt d) (unS ρ vs) t).bind fun _ ρ1 t1 => match ρ1[a0]?, ρ1[a2]?, ρ1[a3]?, ρ1[j]? with
    | some (.im (.str nm)), some (.im (.str w)), some (.im (.int z)), some (.ow (.dct kd vd)) =>
      if (mxk kd = true ∧ vd.all isIntD = true) ∧ acc.length < lim ∧ kd.length < lim then lcdGo tgt a0 j a2 a3 vs ds (ρ.set j (.ow (.dct (didD nm w z kd vd).2.1 (didD nm w z kd vd).2.2))) (acc ++ [(didD nm w z kd vd).1]) t1 else .bad
    | _, _, _, _ => .bad
def asgDid (i : Nat) (it : M (List D)) (tgt : D → M Unit) (a0 j a2 a3 : Nat) (vs : List Nat) : M Fl := mb it fun ds ρ t => (lcdGo tgt a0 j a2 a3 vs ds ρ [] t).bind fun acc ρ' t' => .ok .nx (ρ'.set i (.im (.lst acc))) t'
theorem Own.k {g : G} {os : List Addr} {H : Hp} {a : Addr} {kd vd : List D} (h : Own g os H a (.dct kd vd)) (k : mxk kd = true) : ∃ kvs : List (Key × V), H a = some (.dK kvs) ∧ LayA g os H (kvs.map fun q => kV q.1) kd ∧ LayA g os H (kvs.map (·.2)) vd := by
  rcases h with h | ⟨xs, h1, h2, h3, h4, h5, h6⟩
  · exact h
  · cases kd with
    | nil =>
      cases xs with
      | nil => exact absurd rfl h6
      | cons x l => cases h3
    | cons k0 kd =>
      unfold mxk at k
      rw [List.all_cons, Bool.and_eq_true] at k h4
      have e1 := of_decide_eq_true k.1
      have e2 := of_decide_eq_true h4.1
      rw [e1] at e2
      cases e2
section
variable {X : Cx} {g : G}
theorem ss_lcDid {i a0 j a2 a3 : Nat} {y : Str} {py : Pos} {elt tg iter : Expr} {scope : Scope} {own : List (Str × Nat)} {pos spos : Pos} {it : M (List D)} {is : List Nat} {tgt : D → M Unit} (fx : Fx X g) (hy : X.N[i]? = some y) (hl : X.env.scope.names.lookup y = some .local)
    (hsw : swapsWith (.ListComp elt [⟨tg, iter, [], 0⟩] scope pos) (some (.Name y py)) spos.line X.env = pure true) (hi : SI X g tg iter it) (ok : BlkOk X.N X.env.scope scope own)
    (hg : ∀ (s : Shared) (H : Hp) (C : Addr) (cl : List (Str × Addr)) (fp : List Addr), SG (X.blk s H scope (compEnvC scope cl C X.env) fp) g tg is tgt)
    (he : ∀ (s : Shared) (H : Hp) (C : Addr) (cl : List (Str × Addr)) (fp : List Addr), PE (X.blk s H scope (compEnvC scope cl C X.env) fp) elt (tDid a0 j a2 a3)) (ht : TgOk is tgt)
    (hj : j ∉ own.map (·.2) := by decide) (hv : ∀ j ∈ is, j ∈ own.map (·.2) := by decide) (hs : ∀ (x : Value), foldedSetIterable iter X.env x = pure x := by intro _; rfl) :
    SS X g (.Assign [.Name y py] (.ListComp elt [⟨tg, iter, [], 0⟩] scope pos) spos) (asgDid i it tgt a0 j a2 a3 (own.map (·.2))) :=
  PS.imp (ps_setLc fx.c fx.n hy hl hsw hi ok hg (fun _ _ _ _ _ => pts_nil) he hs) fun Dn σ H q => by
    obtain ⟨os, ρ, t, A, q⟩ := q
    refine ⟨os, ρ, t, A, post_mono (post_bind q) (fun ds ρ1 t1 q1 J H1 os1 A1 s1 wk => ?_) fun _ _ _ _ h => h⟩
    intro Da hD
    obtain ⟨A2, n2, w2, s2⟩ := own_new (o := HO.lst []) A1 hD
    generalize hvs : own.map (·.2) = vs at *
    have q1 := post_bind (show ((lcdGo tgt a0 j a2 a3 vs ds ρ1 [] t1).bind _).post _ _ from q1)
    refine ⟨fun k m H' => m = ds.length - k ∧ k ≤ ds.length ∧ ∃ ρ' t' acc accv, Amb g (Da :: os1) σ H' ρ' t' ∧ NOw σ ρ' Da ∧ H' Da = some (.lst accv) ∧ LayA g (Da :: os1) H' accv acc ∧ Same (hd g os1 H1) (hd g (Da :: os1) H') ∧
      (lcdGo tgt a0 j a2 a3 vs (ds.drop k) ρ' acc t').post (fun acc ρ' t' => sQ g Dn (hd g os H) .nx (ρ'.set i (.im (.lst acc))) t') noX,
      ⟨ds.length, by simp, Nat.zero_le _, ρ1, t1, [], [], A2, w2, upd_same, .nil, s2.s, by rw [List.drop_zero]; exact q1⟩, ?_⟩
    rintro k m H2 ⟨rfl, hk, ρ2, t2, acc, accv, A2, w2, h2, l2, s2, q2⟩
    obtain ⟨wz, wy⟩ := wk k _ H2 s2 A2.live
    by_cases hlt : k < ds.length
    · obtain ⟨go, yl⟩ := wy ds[k] (List.getElem?_eq_getElem hlt)
      rw [List.drop_eq_getElem_cons hlt] at q2
      refine .inr ⟨go, fun H' => ∃ ρ' t' acc accv, Amb g (Da :: os1) σ H' ρ' t' ∧ NOw σ ρ' Da ∧ H' Da = some (.lst accv) ∧ LayA g (Da :: os1) H' accv acc ∧ Same (hd g os1 H1) (hd g (Da :: os1) H') ∧
          (lcdGo tgt a0 j a2 a3 vs (ds.drop (k + 1)) ρ' acc t').post (fun acc ρ' t' => sQ g Dn (hd g os H) .nx (ρ'.set i (.im (.lst acc))) t') noX,
        fun H' ⟨ρ', t', acc, accv, a, b, c, d, e, f⟩ => ⟨ds.length - (k + 1), by omega, rfl, hlt, ρ', t', acc, accv, a, b, c, d, e, f⟩, fun x H3 y => ?_⟩
      obtain ⟨s3, l3⟩ := yl x H3 y
      have q2 := (show (((tgt ds[k]) (unS ρ2 vs) t2).bind _).post _ _ from q2)
      have A3 := (A2.same s3).wipe vs
      cases et : tgt ds[k] (unS ρ2 vs) t2 with
      | bad => rw [et] at q2; exact q2.elim
      | ex c ns vs' t4 => rw [et] at q2; exact q2.elim
      | ok u ρ4 t4 =>
        rw [et] at q2
        refine ⟨_, unS ρ2 vs, t2, ds[k], A3, l3, ?_⟩
        rw [et]
        intro σ4 A4 k4 n4
        refine ⟨wipe_eq hv n4 k4, ?_⟩
        unfold tYes
        simp only [if_true]
        have q2 := (show (match ρ4[a0]?, ρ4[a2]?, ρ4[a3]?, ρ4[j]? with
          | some (.im (.str nm)), some (.im (.str w)), some (.im (.int z)), some (.ow (.dct kd vd)) =>
            if (mxk kd = true ∧ vd.all isIntD = true) ∧ acc.length < lim ∧ kd.length < lim then lcdGo tgt a0 j a2 a3 vs (ds.drop (k + 1)) (ρ2.set j (.ow (.dct (didD nm w z kd vd).2.1 (didD nm w z kd vd).2.2))) (acc ++ [(didD nm w z kd vd).1]) t4 else .bad
          | _, _, _, _ => (.bad : Ou (List D))).post _ _ from q2)
        split at q2
        · rename_i e0 e2 e3 ej
          rename_i nm w z kd vd
          by_cases hc : (mxk kd = true ∧ vd.all isIntD = true) ∧ acc.length < lim ∧ kd.length < lim
          · rw [if_pos hc] at q2
            obtain ⟨⟨hmx, hint⟩, hacc, hkd⟩ := hc
            obtain ⟨v0, f0, z0⟩ := A4.sl a0 _ e0
            cases z0
            obtain ⟨v2, f2, z2⟩ := A4.sl a2 _ e2
            cases z2
            obtain ⟨v3, f3, z3⟩ := A4.sl a3 _ e3
            cases z3
            obtain ⟨a, fj, mj, oj⟩ := A4.sl j _ ej
            obtain ⟨kvs, ha, la, lb⟩ := Own.k oj hmx
            obtain ⟨g1, g2⟩ := ht _ _ _ _ _ _ et j _ ej
            obtain ⟨g3, g4⟩ := unS_ow g1
            have fj2 : σ[j]? = some (some (.ref a)) := by
              rw [k4 j g2, wipe_out g4] at fj
              exact fj
            have naD : a ≠ Da := fun z => w2 j _ g3 (by rw [fj2, z])
            have B3' := A2.same s3
            have B3 : Amb g (Da :: os1) σ H3 ρ2 t4 := ⟨B3'.len, B3'.sl, B3'.dis, B3'.pres, B3'.new, B3'.live, B3'.slf, B3'.o0, A4.pen⟩
            have hl3 : H3 Da = some (.lst accv) := s3 _ _ h2
            have ll3 : LayA g (Da :: os1) H3 accv acc := LdA.same (hd_same s3) l2
            have sm3 : Same (hd g os1 H1) (hd g (Da :: os1) H3) := s2.trans (hd_same s3)
            obtain ⟨d1, d2⟩ := did_data la lb hint nm w z
            have klen : kvs.length < lim := by
              have := la.len
              rw [List.length_map] at this
              omega
            have hmA : a ∈ mo g (Da :: os1) := List.mem_append_right _ mj
            have hmD : Da ∈ mo g (Da :: os1) := List.mem_append_right _ List.mem_cons_self
            have nowS : ∀ dd, NOw σ (ρ2.set j (.ow dd)) Da := fun dd b d e z => by
              rcases get_set e with ⟨rfl, _, w⟩ | ⟨_, e⟩
              · rw [fj2] at z; cases z; exact naD rfl
              · exact w2 b d e z
            -- the item is put behind the list
            have fin : ∀ {H6 : Hp} {v : V} {kvs' : List (Key × V)} {r : D} {kd' vd' : List D}, Same (hd g (Da :: os1) H3) (hd g (Da :: os1) H6) → Amb g (Da :: os1) σ H6 (ρ2.set j (.ow (.dct kd' vd'))) t4 → H6 Da = some (.lst accv) → Lay g (Da :: os1) H6 v r → didD nm w z kd vd = (r, kd', vd') →
                ∃ acc, H6 Da = some (.lst acc) ∧ acc.length < sizeLine ∧ ∃ ρ' t' acc_1 accv, Amb g (Da :: os1) σ (upd H6 Da (.lst (acc ++ [v]))) ρ' t' ∧ NOw σ ρ' Da ∧ (upd H6 Da (.lst (acc ++ [v]))) Da = some (.lst accv) ∧ LayA g (Da :: os1) (upd H6 Da (.lst (acc ++ [v]))) accv acc_1 ∧ Same (hd g os1 H1) (hd g (Da :: os1) (upd H6 Da (.lst (acc ++ [v])))) ∧
                  (lcdGo tgt a0 j a2 a3 vs (ds.drop (k + 1)) ρ' acc_1 t').post (fun acc ρ' t' => sQ g Dn (hd g os H) .nx (ρ'.set i (.im (.lst acc))) t') noX := fun {H6 v kvs' r kd' vd'} sm A6 h6 lv ed => by
              have hm : hd g (Da :: os1) (upd H6 Da (.lst (accv ++ [v]))) = hd g (Da :: os1) H6 := msk_upd hmD
              refine ⟨accv, h6, by rw [l2.len]; exact Nat.lt_of_lt_of_le hacc (by decide), _, t4, acc ++ [r], accv ++ [v], A6.write List.mem_cons_self (nowS _), nowS _, upd_same, ?_, ?_, ?_⟩
              · show LdA g.c (hd g (Da :: os1) (upd H6 Da (.lst (accv ++ [v])))) _ _
                rw [hm]
                exact LdA.app (LdA.same sm ll3) (.cons lv .nil)
              · rw [hm]; exact sm3.trans sm
              · rw [ed] at q2; exact q2
            refine ⟨nm, a, w, z, f0, fj, f2, f3, nm, a, w, z, kvs, rfl, ha, d1, klen, ?_⟩
            cases er : didR nm kvs w (.int z) with
            | txt s kvs' =>
              rw [er] at d2
              obtain ⟨kd', vd', ed, la', lb'⟩ := d2
              have hh : hd g (Da :: os1) (upd H3 a (.dK kvs')) = hd g (Da :: os1) H3 := msk_upd hmA
              obtain ⟨A6, sm⟩ := B3.writeS (o := .dK kvs') (d' := .dct kd' vd') g3 fj2 (.inl ⟨kvs', upd_same, by show LdA g.c (hd g (Da :: os1) (upd H3 a (.dK kvs'))) _ _; rw [hh]; exact la', by show LdA g.c (hd g (Da :: os1) (upd H3 a (.dK kvs'))) _ _; rw [hh]; exact lb'⟩)
              exact fin (kvs' := kvs') sm A6 (by rw [upd_ne naD.symm]; exact hl3) (.str s) ed
            | tup v =>
              rw [er] at d2
              obtain ⟨d, ed, lv⟩ := d2
              intro p hp
              have npD : Da ≠ p := fun z => by rw [← z, hl3] at hp; cases hp
              have A6 : Amb g (Da :: os1) σ H3 (ρ2.set j (.ow (.dct kd vd))) t4 := by
                have e : ρ2.set j (.ow (.dct kd vd)) = ρ2 := by
                  obtain ⟨hh, e⟩ := List.getElem?_eq_some_iff.mp g3
                  rw [← e, List.set_getElem_self]
                rw [e]; exact B3
              obtain ⟨A7, h7, s7⟩ := lay_new (o := .tup [.str "is", v]) A6 hp
              exact fin (kvs' := kvs) s7.s A7 (by rw [upd_ne npD]; exact hl3) (.tup (SqT.of h7) (.cons (.str _) (.cons (Ld.same s7.s lv) .nil))) ed
          · rw [if_neg hc] at q2; exact q2.elim
        · exact q2.elim
    · have e : k = ds.length := by omega
      subst e
      rw [List.drop_length] at q2
      refine .inl ⟨wz rfl, ?_⟩
      have oL : Own g (Da :: os1) H2 Da (.lst acc) := ⟨accv, h2, l2⟩
      exact q2 _ H2 os1 ((A2.drop w2).putI (own_lay oL n2)) ((s1.s.trans s2).trans (msk_sub fun b hb => by
        rcases List.mem_append.mp hb with z | z
        · exact List.mem_append_left _ z
        · exact List.mem_append_right _ (List.mem_cons_of_mem _ z)))
end
end K38

set_option Elab.async false
set_option linter.all false
set_option maxRecDepth 100000
set_option maxHeartbeats 1000000
namespace DL
open PySem PySem.Spec PyProof.Rows
open L2 hiding isNon
/-! ### x, y = two containers of its own -/
def KeepS (h : M D) : Prop := ∀ ρ t d ρ' t', h ρ t = .ok d ρ' t' → ρ' = ρ
theorem keep_dict {k : Nat} : KeepS (mb (acons (evar k) anil) ddict) := fun ρ t d ρ' t' e => by
  unfold mb acons anil evar mb mr at e
  cases er : ρ[k]? with
  | none => simp only [er, bind_bad] at e; cases e
  | some s =>
    cases s with
    | im x =>
      simp only [er, bind_ok] at e
      cases x with
      | lst es =>
        simp only [ddict] at e
        cases ep : dprs es [] [] with
        | none => simp only [ep] at e; cases e
        | some r =>
          obtain ⟨kd, vd⟩ := r
          simp only [ep] at e
          cases e
          rfl
      | _ => cases e
    | _ => simp only [er, bind_bad] at e; cases e
def sparOO (i j : Nat) (f h : M D) : M Fl := mb f fun a => mb h fun b => fun ρ t => .ok .nx ((ρ.set i (.ow a)).set j (.ow b)) t
section
variable {X : Cx} {g : G}
theorem ss_parOO {i j : Nat} {x y : Str} {a b : Expr} {px py pt pos : Pos} {kt k2 pt2} {f h : M D} (fx : Fx X g) (hi : X.N[i]? = some x) (hj : X.N[j]? = some y) (hij : i ≠ j) (hx : X.env.scope.names.lookup x = some .local) (hy : X.env.scope.names.lookup y = some .local) (ha : SF X g a f) (hb : SF X g b h) (kh : KeepS h)
    (hw : swappedStores [.Tuple [.Name x px, .Name y py] kt pt] (.Tuple [a, b] k2 pt2) X.env = pure (some [x, y])) (hs : swapsWithSole [.Tuple [.Name x px, .Name y py] kt pt] (.Tuple [a, b] k2 pt2) pos.line X.env = pure false := by rfl)
    (hst : starEach [a, b] X.env = (false, eval a X.env) :: starEach [b] X.env := by rfl) (hst2 : starEach [b] X.env = (false, eval b X.env) :: starEach [] X.env := by rfl) :
    SS X g (.Assign [.Tuple [.Name x px, .Name y py] kt pt] (.Tuple [a, b] k2 pt2) pos) (sparOO i j f h) :=
  PS.imp (ps_par fx.c fx.n hi hj hij hx hy (pa_cons ha (pa_cons hb pa_nil hst2) hst) hw hs) fun Dn σ H q => by
    obtain ⟨os, ρ, t, A, q⟩ := q
    refine ⟨os, ρ, t, A, post_mono (post_bind q) (fun d ρ1 t1 q1 p H1 os1 A1 o1 n1 w1 s1 => ?_) fun _ _ _ _ h => h⟩
    refine ⟨p :: os1, ρ1, t1, A1, ?_⟩
    unfold mb at q1
    cases eh : h ρ1 t1 with
    | bad => rw [eh] at q1; exact q1.elim
    | ex c ns vs t2 => rw [eh] at q1; exact q1.elim
    | ok e ρ2 t2 =>
      rw [eh] at q1
      obtain rfl := kh _ _ _ _ _ eh
      intro r H2 os2 A2 o2 n2 w2 s2
      obtain ⟨b1, b2⟩ := s2.k p List.mem_cons_self
      have o3 : Own g (r :: os2) H2 p d := o1.same s2.s b2
      have npr : p ≠ r := fun z => by
        obtain ⟨o, e⟩ := A1.live p (List.mem_append_right _ List.mem_cons_self)
        rw [z, n2.2] at e; cases e
      have A3 := A2.put i (.ref p) (.ow d) ⟨p, rfl, b1, o3⟩ (fun _ _ z ez => by cases ez; exact w1)
      have A4 := A3.put j (.ref r) (.ow e) ⟨r, rfl, List.mem_cons_self, o2⟩ (fun _ _ z ez k dd e1 e2 => by
        cases ez
        rcases get_set e1 with ⟨rfl, hl, _⟩ | ⟨nk, e1⟩
        · rw [A2.len] at hl
          rw [List.getElem?_set_self hl] at e2
          cases e2
          exact npr rfl
        · rw [List.getElem?_set_ne nk] at e2
          exact w2 k dd e1 e2)
      exact ⟨.ref p, .ref r, rfl, q1 _ H2 (r :: os2) A4 (s1.s.trans s2.s)⟩
/-- .. by way of a tuple -/
theorem ss_asgOO {i j : Nat} {x y : Str} {a b : Expr} {px py pt pos : Pos} {kt k2 pt2} {f h : M D} (fx : Fx X g) (hi : X.N[i]? = some x) (hj : X.N[j]? = some y) (hij : i ≠ j) (lx : Loc X.env.scope x) (ly : Loc X.env.scope y) (ha : SF X g a f) (hb : SF X g b h) (kh : KeepS h)
    (fx1 : X.fn x = true ∨ X.env.scope.names.lookup x = some .local := by first | exact .inl rfl | exact .inr rfl | assumption) (fy1 : X.fn y = true ∨ X.env.scope.names.lookup y = some .local := by first | exact .inl rfl | exact .inr rfl | assumption)
    (hw : swappedStores [.Tuple [.Name x px, .Name y py] kt pt] (.Tuple [a, b] k2 pt2) X.env = pure none := by rfl) (hs : swapsWithSole [.Tuple [.Name x px, .Name y py] kt pt] (.Tuple [a, b] k2 pt2) pos.line X.env = pure false := by rfl)
    (h1 : (assignEach [.Tuple [.Name x px, .Name y py] kt pt] X.env).map (·.2) = [assign (.Tuple [.Name x px, .Name y py] kt pt) X.env] := by rfl)
    (c1 : (assignEach [.Name x px, .Name y py] X.env).map (·.2) = assign (.Name x px) X.env :: (assignEach [.Name y py] X.env).map (·.2) := by rfl) (c2 : (assignEach [.Name y py] X.env).map (·.2) = assign (.Name y py) X.env :: (assignEach [] X.env).map (·.2) := by rfl)
    (hn : (assignEach [.Name x px, .Name y py] X.env).length = 2 := by rfl) (hst : (assignEach [.Name x px, .Name y py] X.env).findIdx? (·.1) = none := by rfl)
    (st1 : starEach [a, b] X.env = (false, eval a X.env) :: starEach [b] X.env := by rfl) (st2 : starEach [b] X.env = (false, eval b X.env) :: starEach [] X.env := by rfl) :
    SS X g (.Assign [.Tuple [.Name x px, .Name y py] kt pt] (.Tuple [a, b] k2 pt2) pos) (sparOO i j f h) :=
  PS.imp (ps_asg (pe_tup (pa_cons ha (pa_cons hb pa_nil st2) st1)) (pg_tup fx.c (pgs_cons (pg_name fx.n hi lx fx1) (pgs_cons (pg_name fx.n hj ly fy1) pgs_nil c2) c1) hn hst) hs hw h1) fun Dn σ H q => by
    obtain ⟨os, ρ, t, A, q⟩ := q
    refine ⟨os, ρ, t, A, post_mono (post_bind q) (fun d ρ1 t1 q1 p H1 os1 A1 o1 n1 w1 s1 => ?_) fun _ _ _ _ h => h⟩
    refine ⟨p :: os1, ρ1, t1, A1, ?_⟩
    unfold mb at q1
    cases eh : h ρ1 t1 with
    | bad => rw [eh] at q1; exact q1.elim
    | ex c ns vs t2 => rw [eh] at q1; exact q1.elim
    | ok e ρ2 t2 =>
      rw [eh] at q1
      obtain rfl := kh _ _ _ _ _ eh
      intro r H2 os2 A2 o2 n2 w2 s2
      refine ⟨by show 2 ≤ sizeLine; decide, fun tp htp => ?_⟩
      have s3 : Same H2 (upd H2 tp (.tup [.ref p, .ref r])) := same_upd htp
      obtain ⟨b1, b2⟩ := s2.k p List.mem_cons_self
      have o3 : Own g (r :: os2) H2 p d := o1.same s2.s b2
      have npr : p ≠ r := fun z => by
        obtain ⟨o, e⟩ := A1.live p (List.mem_append_right _ List.mem_cons_self)
        rw [z, n2.2] at e; cases e
      have B2 := A2.same s3
      have A3 := B2.put i (.ref p) (.ow d) ⟨p, rfl, b1, o3.same (hd_same s3) fun o e => s3 _ _ e⟩ (fun _ _ z ez => by cases ez; exact w1)
      have A4 := A3.put j (.ref r) (.ow e) ⟨r, rfl, List.mem_cons_self, o2.same (hd_same s3) fun o e => s3 _ _ e⟩ (fun _ _ z ez k dd e1 e2 => by
        cases ez
        rcases get_set e1 with ⟨rfl, hl, _⟩ | ⟨nk, e1⟩
        · rw [A2.len] at hl
          rw [List.getElem?_set_self hl] at e2
          cases e2
          exact npr rfl
        · rw [List.getElem?_set_ne nk] at e2
          exact w2 k dd e1 e2)
      exact ⟨tp, _, rfl, SqT.of upd_same, rfl, _, _, rfl, _, _, rfl, rfl, q1 _ _ (r :: os2) A4 (s1.s.trans (s2.s.trans (hd_same s3)))⟩
/-- o.m() -/
theorem se_meth0 {k : Nat} {n m : Str} {fn : List D → Ou D} {dd : List D} {o : Expr} {pos apos : Pos} {ho : M D} {pl : Sem Bool} (fx : Fx X g) (cl : ClM X.prog X.base g.c k n m (sp0 g.c fn) dd) (hr : Room k X.A) (he : SE X g o ho)
    (hev : eval (.Call (.Attribute o m apos) [] [] pos) X.env = (do
      let ov ← eval o X.env
      standAt apos.atName
      let (f, first) ← holding [ov] (getMethod ov m pl)
      callWith pos f first (backTo pos (starEach [] X.env)) (backToKw pos (keywordEach [] X.env))) := by rfl) :
    SE X g (.Call (.Attribute o m apos) [] [] pos) (mb ho (dmeth n m fn dd anil)) := by
  obtain ⟨C, f, fd, ps, dvs, dss, hC, hcl, hme, F, hb, hd, hl⟩ := cl.ex
  refine PE.imp (pe_meth0 he (by rw [fx.k]; exact hcl) (by rw [fx.k]; exact hme) (fnok (P := X.prog) (base := X.base) fx F) hr (by rw [fx.k]; exact hb) hd pass0 hev) fun σ H Q q => ?_
  obtain ⟨os, ρ, t, A, q⟩ := q
  refine ⟨os, ρ, t, A, post_mono (post_bind q) (fun d ρ1 t1 q1 v H1 os1 A1 l1 s1 => ?_) fun _ _ _ _ h => h⟩
  cases l1 with
  | @obj a C' dx fs n' vd h1 h2 h3 =>
    simp only [dmeth] at q1
    rcases post_if q1 with ⟨⟨e0, hm⟩, q4⟩ | ⟨_, q4⟩
    · subst e0
      obtain rfl := cls_one hC h2
      refine ⟨a, dx, fs, rfl, msk_le _ _ h1, look_none hm, ?_⟩
      exact call_0 (E := E0) A1 (.cons (.obj h1 h2 h3) (LdA.app .nil (hl _))) (post_mono q4 (fun d ρ3 t3 q3 v H3 os3 A3 l3 s3 => q3 v H3 os3 A3 l3 (s1.trans s3)) fun _ _ _ _ h => h)
    · exact q4.elim
  | _ => exact q1.elim
end
end DL

set_option Elab.async false
set_option linter.all false
set_option maxRecDepth 100000
set_option maxHeartbeats 1000000
namespace DL
open PySem PySem.Spec PyProof.Rows
open L2 hiding isNon
/-! ### stores that own nothing anew -/
def TgsOk (is : List Nat) (f : List D → M Unit) : Prop := ∀ ds ρ t u ρ' t', f ds ρ t = .ok u ρ' t' → ∀ i d', ρ'[i]? = some (.ow d') → ρ[i]? = some (.ow d') ∧ i ∉ is
theorem tgs_nil : TgsOk [] gnil := fun ds ρ t u ρ' t' e i d' h => by
  cases ds with
  | nil => cases e; exact ⟨h, List.not_mem_nil⟩
  | cons _ _ => cases e
theorem tgs_cons {is js : List Nat} {f : D → M Unit} {h : List D → M Unit} (h1 : TgOk is f) (h2 : TgsOk js h) : TgsOk (is ++ js) (gcons f h) := fun ds ρ t u ρ' t' e i d' hh => by
  cases ds with
  | nil => cases e
  | cons d ds =>
    have e : (f d ρ t).bind (fun _ => h ds) = .ok u ρ' t' := e
    cases ef : f d ρ t with
    | bad => rw [ef] at e; cases e
    | ex c ns vs t2 => rw [ef] at e; cases e
    | ok u1 ρ1 t1 =>
      rw [ef] at e
      obtain ⟨a, b⟩ := h2 _ _ _ _ _ _ e i d' hh
      obtain ⟨a', b'⟩ := h1 _ _ _ _ _ _ ef i d' a
      exact ⟨a', fun z => (List.mem_append.mp z).elim b' b⟩
theorem tg_tup {is : List Nat} {n : Nat} {f : List D → M Unit} (h : TgsOk is f) : TgOk is (gtup n f) := fun d ρ t u ρ' t' e i d' hh => by
  cases d with
  | tup ds =>
    simp only [gtup] at e
    split at e
    · exact h _ _ _ _ _ _ e i d' hh
    · cases e
  | lst ds =>
    simp only [gtup] at e
    split at e
    · exact h _ _ _ _ _ _ e i d' hh
    · cases e
  | _ => cases e
end DL

set_option Elab.async false
set_option linter.all false
set_option maxRecDepth 100000
set_option maxHeartbeats 4000000
namespace K38
open PySem PySem.Spec PyProof.Rows L2 DL

structure Tx (mg : Str → Option Value) : Prop where
  abs_ : mg "abs" = none
  all_ : mg "all" = none
  bool_ : mg "bool" = none
  dict_ : mg "dict" = none
  int_ : mg "int" = none
  isinstance_ : mg "isinstance" = none
  len_ : mg "len" = none
  list_ : mg "list" = none
  range_ : mg "range" = none
  str_ : mg "str" = none
  tuple_ : mg "tuple" = none
structure Fs (c : Ct) : Prop where
  Book__told : FldOk c "Book" "_told"
theorem ff1_Book__told {c : Ct} (h : Fs c) : FldOk c "Book" "_told" := h.Book__told
theorem ff__told {c : Ct} (h : Fs c) : ∀ n ∈ (["Book"] : List Str), FldOk c n "_told" := fun n hn => by
  simp only [List.mem_cons, List.not_mem_nil, or_false] at hn
  rcases hn with rfl
  · exact h.Book__told
section
variable {P : Program} {base : Heap} {c : Ct}
def dl_SAME_WORD : List D := [(.tup [(.str "has"), (.str "no"), (.str "has"), (.str "no"), (.bl true), (.bl true)]), (.tup [(.str "has"), (.str "yes"), (.str "has"), (.str "yes"), (.bl true), (.bl true)]), (.tup [(.str "has"), (.str "no"), (.str "get"), (.str "no"), (.bl true), (.bl true)]), (.tup [(.str "has"), (.str "yes"), (.str "get"), (.str "is"), (.bl true), (.bl true)]), (.tup [(.str "has"), (.str "no"), (.str "put"), (.str "yes"), (.bl false), (.bl false)]), (.tup [(.str "has"), (.str "yes"), (.str "put"), (.str "no"), (.bl true), (.bl true)]), (.tup [(.str "has"), (.str "no"), (.str "set"), (.str "yes"), (.bl false), (.bl false)]), (.tup [(.str "has"), (.str "yes"), (.str "set"), (.str "no"), (.bl true), (.bl true)]), (.tup [(.str "has"), (.str "yes"), (.str "set"), (.str "yes"), (.bl true), (.bl true)]), (.tup [(.str "has"), (.str "no"), (.str "strike"), (.str "no"), (.bl true), (.bl true)]), (.tup [(.str "has"), (.str "yes"), (.str "strike"), (.str "yes"), (.bl false), (.bl false)]), (.tup [(.str "get"), (.str "no"), (.str "has"), (.str "no"), (.bl true), (.bl true)]), (.tup [(.str "get"), (.str "is"), (.str "has"), (.str "yes"), (.bl true), (.bl true)]), (.tup [(.str "get"), (.str "no"), (.str "get"), (.str "no"), (.bl true), (.bl true)]), (.tup [(.str "get"), (.str "is"), (.str "get"), (.str "is"), (.bl true), (.bl true)]), (.tup [(.str "get"), (.str "no"), (.str "put"), (.str "yes"), (.bl false), (.bl false)]), (.tup [(.str "get"), (.str "is"), (.str "put"), (.str "no"), (.bl true), (.bl true)]), (.tup [(.str "get"), (.str "no"), (.str "set"), (.str "yes"), (.bl false), (.bl false)]), (.tup [(.str "get"), (.str "is"), (.str "set"), (.str "no"), (.bl true), (.bl true)]), (.tup [(.str "get"), (.str "is"), (.str "set"), (.str "yes"), (.bl false), (.bl false)]), (.tup [(.str "get"), (.str "no"), (.str "strike"), (.str "no"), (.bl true), (.bl true)]), (.tup [(.str "get"), (.str "is"), (.str "strike"), (.str "yes"), (.bl false), (.bl false)]), (.tup [(.str "put"), (.str "yes"), (.str "has"), (.str "yes"), (.bl false), (.bl false)]), (.tup [(.str "put"), (.str "no"), (.str "has"), (.str "yes"), (.bl true), (.bl true)]), (.tup [(.str "put"), (.str "yes"), (.str "get"), (.str "is"), (.bl false), (.bl false)]), (.tup [(.str "put"), (.str "no"), (.str "get"), (.str "is"), (.bl true), (.bl true)]), (.tup [(.str "put"), (.str "yes"), (.str "put"), (.str "no"), (.bl false), (.bl false)]), (.tup [(.str "put"), (.str "no"), (.str "put"), (.str "no"), (.bl true), (.bl true)]), (.tup [(.str "put"), (.str "yes"), (.str "set"), (.str "no"), (.bl false), .non]), (.tup [(.str "put"), (.str "no"), (.str "set"), (.str "no"), (.bl true), (.bl true)]), (.tup [(.str "put"), (.str "no"), (.str "set"), (.str "yes"), (.bl true), (.bl true)]), (.tup [(.str "put"), (.str "yes"), (.str "set"), (.str "yes"), .non, (.bl false)]), (.tup [(.str "put"), (.str "yes"), (.str "strike"), (.str "yes"), (.bl false), (.bl false)]), (.tup [(.str "put"), (.str "no"), (.str "strike"), (.str "yes"), (.bl false), (.bl false)]), (.tup [(.str "set"), (.str "yes"), (.str "has"), (.str "yes"), (.bl false), (.bl false)]), (.tup [(.str "set"), (.str "no"), (.str "has"), (.str "yes"), (.bl true), (.bl true)]), (.tup [(.str "set"), (.str "yes"), (.str "get"), (.str "is"), (.bl false), (.bl false)]), (.tup [(.str "set"), (.str "no"), (.str "get"), (.str "is"), (.bl true), (.bl true)]), (.tup [(.str "set"), (.str "yes"), (.str "put"), (.str "no"), (.bl false), (.bl false)]), (.tup [(.str "set"), (.str "no"), (.str "put"), (.str "no"), (.bl true), (.bl true)]), (.tup [(.str "set"), (.str "yes"), (.str "set"), (.str "no"), (.bl false), .non]), (.tup [(.str "set"), (.str "no"), (.str "set"), (.str "no"), (.bl true), .non]), (.tup [(.str "set"), (.str "yes"), (.str "set"), (.str "yes"), .non, (.bl false)]), (.tup [(.str "set"), (.str "no"), (.str "set"), (.str "yes"), .non, (.bl false)]), (.tup [(.str "set"), (.str "yes"), (.str "strike"), (.str "yes"), (.bl false), (.bl false)]), (.tup [(.str "set"), (.str "no"), (.str "strike"), (.str "yes"), (.bl false), (.bl false)]), (.tup [(.str "strike"), (.str "no"), (.str "has"), (.str "no"), (.bl true), (.bl true)]), (.tup [(.str "strike"), (.str "yes"), (.str "has"), (.str "no"), (.bl false), (.bl false)]), (.tup [(.str "strike"), (.str "no"), (.str "get"), (.str "no"), (.bl true), (.bl true)]), (.tup [(.str "strike"), (.str "yes"), (.str "get"), (.str "no"), (.bl false), (.bl false)]), (.tup [(.str "strike"), (.str "no"), (.str "put"), (.str "yes"), (.bl false), (.bl false)]), (.tup [(.str "strike"), (.str "yes"), (.str "put"), (.str "yes"), (.bl false), (.bl false)]), (.tup [(.str "strike"), (.str "no"), (.str "set"), (.str "yes"), (.bl false), (.bl false)]), (.tup [(.str "strike"), (.str "yes"), (.str "set"), (.str "yes"), (.bl false), (.bl false)]), (.tup [(.str "strike"), (.str "no"), (.str "strike"), (.str "no"), (.bl true), (.bl true)]), (.tup [(.str "strike"), (.str "yes"), (.str "strike"), (.str "no"), (.bl false), (.bl false)])]
def d_SAME_WORD : D := .tup dl_SAME_WORD
def ks_BOOK_KINDS : List Str := ["has", "get", "put", "set", "strike"]
def ds_BOOK_KINDS : List D := [(.tup [(.str "yes"), (.str "no")]), (.tup [(.str "is"), (.str "no")]), (.tup [(.str "yes"), (.str "no")]), (.tup [(.str "yes"), (.str "no")]), (.tup [(.str "yes"), (.str "no")])]
abbrev s_penOf : Stmt := top 7
theorem sc_penOf : FnScope ["_law_script"] ["_law_script"] (defScope s_penOf) := ⟨rfl, rfl, rfl, by decide +kernel, rfl, by decide +kernel, by decide +kernel⟩
theorem ok_penOf {f : Addr} {fd : FuncData} (T : Tx c.mg) (F : FunD c.K "_law_pen" "_law_pen" (defArgs s_penOf) (defBody s_penOf) (defScope s_penOf) [] [] f fd) : FnOk P c.w c.K c.mg base CX0 1 f fd ["_law_script"] (spPen c.K "opened") := by
  refine F.ok sc_penOf (fun vs H Q E h => ?_) (fun cdv A outer s H vs Q E hr h => ?_)
  · obtain ⟨a, ns, rfl, _⟩ := h
    rfl
  · obtain ⟨a, ns, rfl, hS, hl, k⟩ := h
    refine ⟨_, PSs.nox (pss_one (ps_ret (pe_disp
      (pps_cons pe_str (pe_callTy call_list_of (by rfl) T.list_ (by decide +kernel) (pa_cons (pe_slice sl_list (pv 0) po_none (po_some pe_int)) pa_nil))
        (pps_cons pe_str pe_int (pps_cons pe_str pe_int pps_nil))) (by rfl) (by rfl) (fun z => by cases z) (by decide)))), ?_⟩
    intro p hp
    have s0 : Same H (upd H p (.dK [])) := same_upd hp
    refine ⟨_, rfl, _, rfl, a, _, rfl, s0.seq hS, fun q hq => ?_⟩
    have np : p ≠ q := ne_of_none upd_same hq
    have hcut : cutV (ns.map V.int) none (some 63) = ns.map V.int := by
      show ((ns.map V.int).drop (HT.sIx (ns.map V.int).length 0 none)).take (HT.sIx (ns.map V.int).length (ns.map V.int).length (some ((63 : Nat) : Int)) - HT.sIx (ns.map V.int).length 0 none) = _
      rw [HT.sIx_none, HT.sIx_nat, List.drop_zero, List.take_of_length_le]
      rw [List.length_map]
      omega
    refine ⟨q, _, rfl, Or.inl (SqL.of upd_same), fun r hr' => ?_⟩
    have nq : p ≠ r := ne_of_none (by rw [upd_ne np]; exact upd_same) hr'
    refine ⟨by rw [upd_ne nq, upd_ne np]; exact upd_same, pnL r "opened" ⟨ns, 0, 0⟩, rfl, (by show 3 ≤ 15; decide), ?_⟩
    rw [hcut]
    have s1 : Same H (upd (upd (upd H p (.dK [])) q (.lst (ns.map V.int))) r (.lst (ns.map V.int))) := (s0.trans (same_upd hq)).trans (same_upd (by rw [← hcut]; exact hr'))
    refine k p r _ (fun b o e => ?_) ⟨upd_same, by rw [upd_ne nq.symm]; exact upd_same, Int.le_refl _, Int.le_refl _, hl⟩
    rw [upd_ne (ne_of_none e hp)]
    exact s1 b o e
abbrev s_Book__init : Stmt := inClass (top 3) 0
abbrev N_Book__init : List Str := ["self", "rows", "key"]
abbrev p_Book__init : List Str := ["self", "rows"]
theorem sc_Book__init : FnScope N_Book__init p_Book__init (defScope s_Book__init) := ⟨rfl, rfl, rfl, by decide +kernel, rfl, by decide +kernel, by decide +kernel⟩
def m_Book__init : M Fl := (sfld 0 "_told" (dcKD (evar 1) (gname 2) (mr true) (evar 2) (e2 dix (evar 1) (evar 2)) [2]))
def f_Book__init : List D → Ou (List Str × List D) := fnI 2 3 m_Book__init
def dd_Book__init : List D := []
theorem ok_Book__init {f : Addr} {fd : FuncData} (T : Tx c.mg) (hF : Fs c)  (F : FunD c.K "__init__" "Book.__init__" (defArgs s_Book__init) (defBody s_Book__init) (defScope s_Book__init) [] [] f fd) : FnOk P c.w c.K c.mg base CX0 1 f fd p_Book__init (spI c "Book" f_Book__init) :=
  ok_I (k := 0) (n := "Book") F sc_Book__init (fM := m_Book__init) fun cdv A outer s H E g hr hg hs hp fx => by
    subst hg
    exact (ss_one (ss_fld (i := 0) fx hs hp (ff1_Book__told hF) (pv 0) (se_of (sf_dcK (own := [("key", 2)]) fx (se_var 1 (pv 1)) (blkOk_by (N := N_Book__init) (sc := defScope s_Book__init) (by decide +kernel)) (fun _ _ _ _ _ O_ H_ => (sg_name (i := 2) (Fx.re fx.blk O_ H_) rfl (by first | exact Or.inl rfl | exact Or.inr rfl))) (fun _ _ _ _ _ O_ H_ => ts_nil) (fun _ _ _ _ _ O_ H_ => (se_var 2 (pv 2))) (fun _ _ _ _ _ O_ H_ => (se_ix (Fx.re fx.blk O_ H_) (se_var 1 (pv 1)) (se_var 2 (pv 2))))))))
abbrev s_Book__eq : Stmt := inClass (top 3) 1
abbrev N_Book__eq : List Str := ["self", "other"]
abbrev p_Book__eq : List Str := ["self", "other"]
theorem sc_Book__eq : FnScope N_Book__eq p_Book__eq (defScope s_Book__eq) := ⟨rfl, rfl, rfl, by decide +kernel, rfl, by decide +kernel, by decide +kernel⟩
def m_Book__eq : M Fl := (sret (eand (eiso "Book" (evar 1)) (e2 (deqA false) (mb (evar 0) (dfld ["Book"] "_told")) (mb (evar 1) (dfld ["Book"] "_told")))))
def f_Book__eq : List D → Ou D := fn0 2 2 m_Book__eq
def dd_Book__eq : List D := []
theorem ok_Book__eq {f : Addr} {fd : FuncData} (T : Tx c.mg) (hF : Fs c) (is_Book : IsO c "Book") (F : FunD c.K "__eq__" "Book.__eq__" (defArgs s_Book__eq) (defBody s_Book__eq) (defScope s_Book__eq) [] [] f fd) : FnOk P c.w c.K c.mg base CX0 1 f fd p_Book__eq (sp0 c f_Book__eq) :=
  ok_0 (k := 0) F sc_Book__eq (fM := m_Book__eq) fun cdv A outer s H E g hr hg fx => by
    subst hg
    exact (ss_one (ss_ret (se_and fx (se_isO fx is_Book (by rfl) T.isinstance_ (by rfl) (se_var 1 (pv 1))) (se_one (se_cmp (cs_eqA fx) (se_fld fx ["Book"] (se_var 0 (pv 0)) (ff__told hF)) (se_fld fx ["Book"] (se_var 1 (pv 1)) (ff__told hF)))))))
abbrev s_Book_told_rows : Stmt := inClass (top 3) 2
abbrev N_Book_told_rows : List Str := ["self", "key"]
abbrev p_Book_told_rows : List Str := ["self"]
theorem sc_Book_told_rows : FnScope N_Book_told_rows p_Book_told_rows (defScope s_Book_told_rows) := ⟨rfl, rfl, rfl, by decide +kernel, rfl, by decide +kernel, by decide +kernel⟩
def m_Book_told_rows : M Fl := (sret (dcKD (mb (evar 0) (dfld ["Book"] "_told")) (gname 1) (mr true) (evar 1) (e2 dix (mb (evar 0) (dfld ["Book"] "_told")) (evar 1)) [1]))
def f_Book_told_rows : List D → Ou D := fn0 1 2 m_Book_told_rows
def dd_Book_told_rows : List D := []
theorem ok_Book_told_rows {f : Addr} {fd : FuncData} (T : Tx c.mg) (hF : Fs c)  (F : FunD c.K "told_rows" "Book.told_rows" (defArgs s_Book_told_rows) (defBody s_Book_told_rows) (defScope s_Book_told_rows) [] [] f fd) : FnOk P c.w c.K c.mg base CX0 1 f fd p_Book_told_rows (sp0 c f_Book_told_rows) :=
  ok_0 (k := 0) F sc_Book_told_rows (fM := m_Book_told_rows) fun cdv A outer s H E g hr hg fx => by
    subst hg
    exact (ss_one (ss_ret (se_of (sf_dcK (own := [("key", 1)]) fx (se_fld fx ["Book"] (se_var 0 (pv 0)) (ff__told hF)) (blkOk_by (N := N_Book_told_rows) (sc := defScope s_Book_told_rows) (by decide +kernel)) (fun _ _ _ _ _ O_ H_ => (sg_name (i := 1) (Fx.re fx.blk O_ H_) rfl (by first | exact Or.inl rfl | exact Or.inr rfl))) (fun _ _ _ _ _ O_ H_ => ts_nil) (fun _ _ _ _ _ O_ H_ => (se_var 1 (pv 1))) (fun _ _ _ _ _ O_ H_ => (se_ix (Fx.re fx.blk O_ H_) (se_fld (Fx.re fx.blk O_ H_) ["Book"] (se_var 0 (pv 0)) (ff__told hF)) (se_var 1 (pv 1))))))))
abbrev s_Book_commutes : Stmt := inClass (top 3) 3
abbrev N_Book_commutes : List Str := ["self", "first", "kind", "second", "later", "relation", "alike", "key", "part"]
abbrev p_Book_commutes : List Str := ["self", "first", "kind", "second", "later", "relation", "alike"]
theorem sc_Book_commutes : FnScope N_Book_commutes p_Book_commutes (defScope s_Book_commutes) := ⟨rfl, rfl, rfl, by decide +kernel, rfl, by decide +kernel, by decide +kernel⟩
def m_Book_commutes : M Fl := (sq (asg 7 (etup (acons (evar 1) (acons (evar 2) (acons (evar 3) (acons (evar 4) (acons (evar 5) (acons (evar 6) anil)))))))) (sq (sif (bor (bnot (btru (mb (acons (lcD (mb (esl (evar 7) (mr none) (osome (mb (mr (D.int 1)) dneg))) items) (gname 8) (mr true) (eisi "str" (evar 8)) [8]) anil) dall))) (bnot (btru (eisi "bool" (evar 6))))) (sret (mr D.non)) (mr Fl.nx)) (sret (mb (mb (evar 0) (dfld ["Book"] "_told")) fun d => mb (evar 7) fun k => dgetT d k))))
def f_Book_commutes : List D → Ou D := fn0 7 9 m_Book_commutes
def dd_Book_commutes : List D := []
theorem ok_Book_commutes {f : Addr} {fd : FuncData} (T : Tx c.mg) (hF : Fs c)  (F : FunD c.K "commutes" "Book.commutes" (defArgs s_Book_commutes) (defBody s_Book_commutes) (defScope s_Book_commutes) [] [] f fd) : FnOk P c.w c.K c.mg base CX0 1 f fd p_Book_commutes (sp0 c f_Book_commutes) :=
  ok_0 (k := 0) F sc_Book_commutes (fM := m_Book_commutes) fun cdv A outer s H E g hr hg fx => by
    subst hg
    exact (ss_cons (ss_set (i := 7) fx rfl (by first | exact Or.inl rfl | exact Or.inr rfl) (se_tup (sa_cons (se_var 1 (pv 1)) (sa_cons (se_var 2 (pv 2)) (sa_cons (se_var 3 (pv 3)) (sa_cons (se_var 4 (pv 4)) (sa_cons (se_var 5 (pv 5)) (sa_cons (se_var 6 (pv 6)) sa_nil)))))))) (ss_cons (ss_if (st_w (sw_or (st_not (st_val fx (se_all fx (by rfl) T.all_ (se_of (sf_lc (own := [("part", 8)]) fx (si_seq fx (se_sl fx (se_var 7 (pv 7)) so_none (so_some (se_neg se_int)))) (blkOk_by (N := N_Book_commutes) (sc := defScope s_Book_commutes) (by decide +kernel)) (fun _ _ _ _ _ => (sg_name (i := 8) fx.blk rfl (by first | exact Or.inl rfl | exact Or.inr rfl))) (fun _ _ _ _ _ => ts_nil) (fun _ _ _ _ _ => (se_isi fx.blk Ask.str (by rfl) T.isinstance_ (pe_bltn (v := .ty "str") (by rfl) (by rw [fx.m]; exact T.str_) (by decide +kernel) rfl) (se_var 8 (pv 8))))))))) (sw_or1 (st_not (st_val fx (se_isi fx Ask.bool (by rfl) T.isinstance_ (pe_bltn (v := .ty "bool") (by rfl) (by rw [fx.m]; exact T.bool_) (by decide +kernel) rfl) (se_var 6 (pv 6)))))))) (ss_one (ss_ret se_non)) ss_nil) (ss_one (ss_ret (se_getT fx (se_fld fx ["Book"] (se_var 0 (pv 0)) (ff__told hF)) (se_var 7 (pv 7)) ⟨rfl, rfl, rfl, rfl⟩)))))
abbrev s_unlike_word_keys : Stmt := top 5
abbrev N_unlike_word_keys : List Str := ["first", "second", "kind", "later", "relation", "alike"]
abbrev p_unlike_word_keys : List Str := ["first", "second"]
theorem sc_unlike_word_keys : FnScope N_unlike_word_keys p_unlike_word_keys (defScope s_unlike_word_keys) := ⟨rfl, rfl, rfl, by decide +kernel, rfl, by decide +kernel, by decide +kernel⟩
def m_unlike_word_keys : M Fl := (sret (lcND (mb (mb (evar 0) (dkd ks_BOOK_KINDS ds_BOOK_KINDS)) items) (gname 2) (mr true) (bdMid (mb (mb (evar 1) (dkd ks_BOOK_KINDS ds_BOOK_KINDS)) items) (gname 3) (mr true) (bdMid (mb (etup (acons (mr (D.str "within")) (acons (mr (D.str "around")) (acons (mr (D.str "apart")) anil)))) items) (gname 4) (mr true) (bdMid (mb (etup (acons (mr (D.bl true)) (acons (mr (D.bl false)) anil))) items) (gname 5) (mr true) (bdIn (etup (acons (evar 0) (acons (evar 2) (acons (evar 1) (acons (evar 3) (acons (evar 4) (acons (evar 5) anil)))))))) [5]) [4, 5]) [3, 4, 5]) [2, 3, 4, 5] [2, 3, 4, 5]))
def f_unlike_word_keys : List D → Ou D := fn0 2 6 m_unlike_word_keys
def dd_unlike_word_keys : List D := []
theorem ok_unlike_word_keys {f : Addr} {fd : FuncData} (T : Tx c.mg) (hF : Fs c) (kd_BOOK_KINDS : KDc c "BOOK_KINDS" ks_BOOK_KINDS ds_BOOK_KINDS) (F : FunD c.K "unlike_word_keys" "unlike_word_keys" (defArgs s_unlike_word_keys) (defBody s_unlike_word_keys) (defScope s_unlike_word_keys) [] [] f fd) : FnOk P c.w c.K c.mg base CX0 1 f fd p_unlike_word_keys (sp0 c f_unlike_word_keys) :=
  ok_0 (k := 0) F sc_unlike_word_keys (fM := m_unlike_word_keys) fun cdv A outer s H E g hr hg fx => by
    subst hg
    exact (ss_one (ss_ret (se_of (have fx_ := fx; sf_lcN (own := [("kind", 2), ("later", 3), ("relation", 4), ("alike", 5)]) (is := [2]) (vs := [2, 3, 4, 5]) fx_ (si_seq fx (se_kd fx (by rfl) kd_BOOK_KINDS (se_var 0 (pv 0)))) (blkOk_by (N := N_unlike_word_keys) (sc := defScope s_unlike_word_keys) (by decide +kernel)) (by decide) tg_name (fun _ => (bodyD_mid (is := [3]) (vs := [3, 4, 5]) (by decide) tg_name (bodyD_mid (is := [4]) (vs := [4, 5]) (by decide) tg_name (bodyD_mid (is := [5]) (vs := [5]) (by decide) tg_name bodyD_in)))) (fun _ _ _ _ _ _ => (loopJ_mid (vs := [2, 3, 4, 5]) fx_.c rfl rfl (by decide) (sg_name (i := 2) fx.blk rfl (by first | exact Or.inl rfl | exact Or.inr rfl)) ts_nil (si_seq fx.blk (se_kd fx.blk (by rfl) kd_BOOK_KINDS (se_var 1 (pv 1)))) (loopJ_mid (vs := [3, 4, 5]) fx_.c rfl rfl (by decide) (sg_name (i := 3) fx.blk rfl (by first | exact Or.inl rfl | exact Or.inr rfl)) ts_nil (si_seq fx.blk (se_tup (sa_cons se_str (sa_cons se_str (sa_cons se_str sa_nil))))) (loopJ_mid (vs := [4, 5]) fx_.c rfl rfl (by decide) (sg_name (i := 4) fx.blk rfl (by first | exact Or.inl rfl | exact Or.inr rfl)) ts_nil (si_seq fx.blk (se_tup (sa_cons se_bl (sa_cons se_bl sa_nil)))) (loopJ_in (vs := [5]) fx_.c rfl rfl (sg_name (i := 5) fx.blk rfl (by first | exact Or.inl rfl | exact Or.inr rfl)) ts_nil (se_tup (sa_cons (se_var 0 (pv 0)) (sa_cons (se_var 2 (pv 2)) (sa_cons (se_var 1 (pv 1)) (sa_cons (se_var 3 (pv 3)) (sa_cons (se_var 4 (pv 4)) (sa_cons (se_var 5 (pv 5)) sa_nil))))))))))))))))
abbrev s_known_book : Stmt := top 4
abbrev N_known_book : List Str := ["rows", "first", "kind", "second", "later", "alike", "unlike", "key"]
abbrev p_known_book : List Str := []
theorem sc_known_book : FnScope N_known_book p_known_book (defScope s_known_book) := ⟨rfl, rfl, rfl, by decide +kernel, rfl, by decide +kernel, by decide +kernel⟩
def m_known_book : M Fl := (sq (asgO 0 (mr (D.dct [] []))) (sq (sfor (mb (mr d_SAME_WORD) items) (gtup 6 (gcons (gname 1) (gcons (gname 2) (gcons (gname 3) (gcons (gname 4) (gcons (gname 5) (gcons (gname 6) gnil))))))) (sq (sif (asB (enno (evar 5))) (sput 0 (evar 5) (etup (acons (evar 1) (acons (evar 2) (acons (evar 3) (acons (evar 4) (acons (mr (D.str "same")) (acons (mr (D.bl true)) anil)))))))) (mr Fl.nx)) (sif (asB (enno (evar 6))) (sput 0 (evar 6) (etup (acons (evar 1) (acons (evar 2) (acons (evar 3) (acons (evar 4) (acons (mr (D.str "same")) (acons (mr (D.bl false)) anil)))))))) (mr Fl.nx)))) (sq (sfor (mr (ks_BOOK_KINDS.map D.str)) (gname 1) (sfor (mr (ks_BOOK_KINDS.map D.str)) (gname 3) (sfor (mb (mb (acons (evar 1) (acons (evar 3) anil)) fun ds => call0 f_unlike_word_keys (ds ++ [])) items) (gname 7) (sput 0 (mr (D.bl true)) (evar 7))))) (sq (frz 0) (sret (mb (acons (evar 0) anil) fun ds => callI "Book" f_Book__init (ds ++ [])))))))
def f_known_book : List D → Ou D := fn0 0 8 m_known_book
def dd_known_book : List D := []
theorem ok_known_book {f : Addr} {fd : FuncData} (T : Tx c.mg) (hF : Fs c) (k_SAME_WORD : KD c "SAME_WORD" d_SAME_WORD) (kd_BOOK_KINDS : KDc c "BOOK_KINDS" ks_BOOK_KINDS ds_BOOK_KINDS) (h_unlike_word_keys : ClD P base c 1 "unlike_word_keys" ["first", "second"] (sp0 c f_unlike_word_keys) []) (h_Book__init_0 : ClI P base c 1 "Book" ["self", "rows"] (spI c "Book" f_Book__init) []) (F : FunD c.K "known_book" "known_book" (defArgs s_known_book) (defBody s_known_book) (defScope s_known_book) [] [] f fd) : FnOk P c.w c.K c.mg base CX0 3 f fd p_known_book (sp0 c f_known_book) :=
  ok_0 (k := 2) F sc_known_book (fM := m_known_book) fun cdv A outer s H E g hr hg fx => by
    subst hg
    exact (ss_cons (ss_setO (i := 0) fx rfl (by first | exact Or.inl rfl | exact Or.inr rfl) sf_dnew) (ss_cons (ss_for fx (si_seq fx (se_glob fx (by rfl) k_SAME_WORD)) (sg_tup (n := 6) fx (sg_cons (sg_name (i := 1) fx rfl (by first | exact Or.inl rfl | exact Or.inr rfl)) (sg_cons (sg_name (i := 2) fx rfl (by first | exact Or.inl rfl | exact Or.inr rfl)) (sg_cons (sg_name (i := 3) fx rfl (by first | exact Or.inl rfl | exact Or.inr rfl)) (sg_cons (sg_name (i := 4) fx rfl (by first | exact Or.inl rfl | exact Or.inr rfl)) (sg_cons (sg_name (i := 5) fx rfl (by first | exact Or.inl rfl | exact Or.inr rfl)) (sg_cons (sg_name (i := 6) fx rfl (by first | exact Or.inl rfl | exact Or.inr rfl)) sg_nil))))))) (ss_cons (ss_if (st_noN (se_var 5 (pv 5))) (ss_one (ss_put (i := 0) fx (pv 0) (se_var 5 (pv 5)) (se_tup (sa_cons (se_var 1 (pv 1)) (sa_cons (se_var 2 (pv 2)) (sa_cons (se_var 3 (pv 3)) (sa_cons (se_var 4 (pv 4)) (sa_cons se_str (sa_cons se_bl sa_nil))))))))) ss_nil) (ss_one (ss_if (st_noN (se_var 6 (pv 6))) (ss_one (ss_put (i := 0) fx (pv 0) (se_var 6 (pv 6)) (se_tup (sa_cons (se_var 1 (pv 1)) (sa_cons (se_var 2 (pv 2)) (sa_cons (se_var 3 (pv 3)) (sa_cons (se_var 4 (pv 4)) (sa_cons se_str (sa_cons se_bl sa_nil))))))))) ss_nil)))) (ss_cons (ss_for fx (si_kd fx (by rfl) kd_BOOK_KINDS) (sg_name (i := 1) fx rfl (by first | exact Or.inl rfl | exact Or.inr rfl)) (ss_one (ss_for fx (si_kd fx (by rfl) kd_BOOK_KINDS) (sg_name (i := 3) fx rfl (by first | exact Or.inl rfl | exact Or.inr rfl)) (ss_one (ss_for fx (si_seq fx (se_call0 fx h_unlike_word_keys (hr.mono (by decide)) (by rfl) (sa_cons (se_var 1 (pv 1)) (sa_cons (se_var 3 (pv 3)) sa_nil)))) (sg_name (i := 7) fx rfl (by first | exact Or.inl rfl | exact Or.inr rfl)) (ss_one (ss_put (i := 0) fx (pv 0) se_bl (se_var 7 (pv 7))))))))) (ss_frz 0 (ss_one (ss_ret (se_make fx h_Book__init_0 (hr.mono (by decide)) (by rfl) (sa_cons (se_var 0 (pv 0)) sa_nil))))))))
abbrev s_law_draw : Stmt := top 8
abbrev N_law_draw : List Str := ["_law_pen_here", "_law_many", "_law_cell", "_law_mix", "_law_digit", "_law_k", "_law_told_cells"]
abbrev p_law_draw : List Str := ["_law_pen_here", "_law_many"]
theorem sc_law_draw : FnScope N_law_draw p_law_draw (defScope s_law_draw) := ⟨rfl, rfl, rfl, by decide +kernel, rfl, by decide +kernel, by decide +kernel⟩
def m_law_draw : M Fl := (sq (sif (asB (e2 dgt (pget rZ 0) (mr (D.int 0)))) (sq (asg 4 (e2 dmod (mb (acons (pget rZ 0) anil) dint) (evar 1))) (sq (pput wZ 0 (e2 dfdiv (pget rZ 0) (evar 1))) (sret (evar 4)))) (mr Fl.nx)) (sq (spar 5 6 (acons (pget rK 0) (acons (pget rC 0) anil))) (sq (pput wK 0 (e2 dadd (evar 5) (mr (D.int 1)))) (sq (sif (asB (e2 deq (evar 6) (elst anil))) (sret (e2 dmod (mb (acons (e2 dadd (e2 dmul (mr (D.int 7)) (evar 5)) (mr (D.int 3))) anil) dint) (evar 1))) (mr Fl.nx)) (sq (asg 2 (e2 dix (evar 6) (e2 dmod (mb (acons (evar 5) anil) dint) (mb (acons (evar 6) anil) dlen)))) (sq (sif (band (asB (e2 dlt (evar 5) (mb (acons (evar 6) anil) dlen))) (asB (e2 dge (mb (acons (evar 2) anil) dabs) (e2 dpow (mr (D.int 10)) (mr (D.int 18)))))) (sq (pput wZ 0 (e2 dfdiv (e2 dsub (mb (acons (evar 2) anil) dabs) (e2 dpow (mr (D.int 10)) (mr (D.int 18)))) (evar 1))) (sret (e2 dmod (mb (acons (e2 dsub (mb (acons (evar 2) anil) dabs) (e2 dpow (mr (D.int 10)) (mr (D.int 18)))) anil) dint) (evar 1)))) (mr Fl.nx)) (sq (asg 3 (e2 dmod (mb (acons (e2 dadd (e2 dadd (e2 dadd (e2 dmul (e2 dmod (mb (acons (evar 2) anil) dint) (mr (D.int 4294965361))) (mr (D.int 41903))) (e2 dmul (e2 dmul (mr (D.int 27011)) (evar 5)) (evar 5))) (e2 dmul (mr (D.int 853)) (evar 5))) (mr (D.int 71))) anil) dint) (mr (D.int 4294965383)))) (sq (asg 3 (e2 dmod (mb (acons (e2 dadd (e2 dadd (e2 dmul (evar 3) (evar 3)) (e2 dmul (mr (D.int 40213)) (evar 3))) (e2 dmul (mr (D.int 37)) (evar 5))) anil) dint) (mr (D.int 4294965337)))) (sret (e2 dmod (mb (acons (e2 dfdiv (e2 dmod (mb (acons (e2 dmul (evar 3) (e2 dadd (evar 3) (mr (D.int 60317)))) anil) dint) (mr (D.int 4294965313))) (mr (D.int 128))) anil) dint) (evar 1)))))))))))
def f_law_draw : List D → Pn → Ou D := fnP 2 7 m_law_draw
def dd_law_draw : List D := []
theorem ok_law_draw {f : Addr} {fd : FuncData} (T : Tx c.mg) (hF : Fs c)  (F : FunD c.K "_law_draw" "_law_draw" (defArgs s_law_draw) (defBody s_law_draw) (defScope s_law_draw) [] [] f fd) : FnOk P c.w c.K c.mg base CX0 1 f fd p_law_draw (spP c "opened" f_law_draw) :=
  ok_P (k := 0) (nc := "opened") F sc_law_draw (fM := m_law_draw) fun cdv A outer s H E g hr hg pn fx => by
    subst hg
    exact (ss_cons (ss_if (st_cmp cs_gt (se_pZ (i := 0) fx pn (by decide +kernel) (pv 0)) se_int) (ss_cons (ss_set (i := 4) fx rfl (by first | exact Or.inl rfl | exact Or.inr rfl) (se_mod (se_intC fx (by rfl) T.int_ (se_pZ (i := 0) fx pn (by decide +kernel) (pv 0))) (se_var 1 (pv 1)))) (ss_cons (ss_pZ (i := 0) fx pn (by decide +kernel) (pv 0) (se_fdiv (se_pZ (i := 0) fx pn (by decide +kernel) (pv 0)) (se_var 1 (pv 1)))) (ss_one (ss_ret (se_var 4 (pv 4)))))) ss_nil) (ss_cons (ss_par (i := 5) (j := 6) fx rfl rfl (by decide) rfl rfl (sa_cons (se_pK (i := 0) fx pn (by decide +kernel) (pv 0)) (sa_cons (se_pC (i := 0) fx (pv 0)) sa_nil)) (by rfl)) (ss_cons (ss_pK (i := 0) fx pn (by decide +kernel) (by decide +kernel) (pv 0) (se_add fx (se_var 5 (pv 5)) se_int)) (ss_cons (ss_if (st_cmp (cs_eq fx) (se_var 6 (pv 6)) (se_of (sf_lst sa_nil))) (ss_one (ss_ret (se_mod (se_intC fx (by rfl) T.int_ (se_add fx (se_mul se_int (se_var 5 (pv 5))) se_int)) (se_var 1 (pv 1))))) ss_nil) (ss_cons (ss_set (i := 2) fx rfl (by first | exact Or.inl rfl | exact Or.inr rfl) (se_ix fx (se_var 6 (pv 6)) (se_mod (se_intC fx (by rfl) T.int_ (se_var 5 (pv 5))) (se_len fx (by rfl) T.len_ (se_var 6 (pv 6)))))) (ss_cons (ss_if (st_w (sw_and (st_cmp cs_lt (se_var 5 (pv 5)) (se_len fx (by rfl) T.len_ (se_var 6 (pv 6)))) (sw_and1 (st_cmp cs_ge (se_abs fx (by rfl) T.abs_ (se_var 2 (pv 2))) (se_pow se_int se_int))))) (ss_cons (ss_pZ (i := 0) fx pn (by decide +kernel) (pv 0) (se_fdiv (se_sub (se_abs fx (by rfl) T.abs_ (se_var 2 (pv 2))) (se_pow se_int se_int)) (se_var 1 (pv 1)))) (ss_one (ss_ret (se_mod (se_intC fx (by rfl) T.int_ (se_sub (se_abs fx (by rfl) T.abs_ (se_var 2 (pv 2))) (se_pow se_int se_int))) (se_var 1 (pv 1)))))) ss_nil) (ss_cons (ss_set (i := 3) fx rfl (by first | exact Or.inl rfl | exact Or.inr rfl) (se_mod (se_intC fx (by rfl) T.int_ (se_add fx (se_add fx (se_add fx (se_mul (se_mod (se_intC fx (by rfl) T.int_ (se_var 2 (pv 2))) se_int) se_int) (se_mul (se_mul se_int (se_var 5 (pv 5))) (se_var 5 (pv 5)))) (se_mul se_int (se_var 5 (pv 5)))) se_int)) se_int)) (ss_cons (ss_set (i := 3) fx rfl (by first | exact Or.inl rfl | exact Or.inr rfl) (se_mod (se_intC fx (by rfl) T.int_ (se_add fx (se_add fx (se_mul (se_var 3 (pv 3)) (se_var 3 (pv 3))) (se_mul se_int (se_var 3 (pv 3)))) (se_mul se_int (se_var 5 (pv 5))))) se_int)) (ss_one (ss_ret (se_mod (se_intC fx (by rfl) T.int_ (se_fdiv (se_mod (se_intC fx (by rfl) T.int_ (se_mul (se_var 3 (pv 3)) (se_add fx (se_var 3 (pv 3)) se_int))) se_int) se_int)) (se_var 1 (pv 1)))))))))))))
abbrev s_law_pick : Stmt := top 9
abbrev N_law_pick : List Str := ["_law_pen_here", "_law_some"]
abbrev p_law_pick : List Str := ["_law_pen_here", "_law_some"]
theorem sc_law_pick : FnScope N_law_pick p_law_pick (defScope s_law_pick) := ⟨rfl, rfl, rfl, by decide +kernel, rfl, by decide +kernel, by decide +kernel⟩
def m_law_pick : M Fl := (sret (e2 dix (evar 1) (penc 0 (mb (acons (mb (acons (evar 1) anil) dlen) anil) (callP f_law_draw)))))
def f_law_pick : List D → Pn → Ou D := fnP 2 2 m_law_pick
def dd_law_pick : List D := []
theorem ok_law_pick {f : Addr} {fd : FuncData} (T : Tx c.mg) (hF : Fs c) (h_law_draw : ClD P base c 1 "_law_draw" ["_law_pen_here", "_law_many"] (spP c "opened" f_law_draw) []) (F : FunD c.K "_law_pick" "_law_pick" (defArgs s_law_pick) (defBody s_law_pick) (defScope s_law_pick) [] [] f fd) : FnOk P c.w c.K c.mg base CX0 2 f fd p_law_pick (spP c "opened" f_law_pick) :=
  ok_P (k := 1) (nc := "opened") F sc_law_pick (fM := m_law_pick) fun cdv A outer s H E g hr hg pn fx => by
    subst hg
    exact (ss_one (ss_ret (se_ix fx (se_var 1 (pv 1)) (se_callP (i := 0) fx pn h_law_draw (hr.mono (by decide)) (by rfl) (pv 0) (sa_cons (se_len fx (by rfl) T.len_ (se_var 1 (pv 1))) sa_nil)))))
abbrev s_law_kind : Stmt := top 11
abbrev N_law_kind : List Str := ["_law_answer"]
abbrev p_law_kind : List Str := ["_law_answer"]
theorem sc_law_kind : FnScope N_law_kind p_law_kind (defScope s_law_kind) := ⟨rfl, rfl, rfl, by decide +kernel, rfl, by decide +kernel, by decide +kernel⟩
def m_law_kind : M Fl := (sq (sif (asB (enon (evar 0))) (sret (mr (D.str "none"))) (mr Fl.nx)) (sret (eif (btru (eisi "tuple" (evar 0))) (e2 dix (evar 0) (mr (D.int 0))) (evar 0))))
def f_law_kind : List D → Ou D := fn0 1 1 m_law_kind
def dd_law_kind : List D := []
theorem ok_law_kind {f : Addr} {fd : FuncData} (T : Tx c.mg) (hF : Fs c)  (F : FunD c.K "_law_kind" "_law_kind" (defArgs s_law_kind) (defBody s_law_kind) (defScope s_law_kind) [] [] f fd) : FnOk P c.w c.K c.mg base CX0 1 f fd p_law_kind (sp0 c f_law_kind) :=
  ok_0 (k := 0) F sc_law_kind (fM := m_law_kind) fun cdv A outer s H E g hr hg fx => by
    subst hg
    exact (ss_cons (ss_if (st_isN (se_var 0 (pv 0))) (ss_one (ss_ret se_str)) ss_nil) (ss_one (ss_ret (se_if (st_val fx (se_isi fx Ask.tuple (by rfl) T.isinstance_ (pe_bltn (v := .ty "tuple") (by rfl) (by rw [fx.m]; exact T.tuple_) (by decide +kernel) rfl) (se_var 0 (pv 0)))) (se_ix fx (se_var 0 (pv 0)) se_int) (se_var 0 (pv 0))))))
abbrev s_law_due : Stmt := top 12
abbrev N_law_due : List Str := ["_law_one", "_law_other", "_law_spare", "_law_states", "_law_first", "_law_commutes", "_law_comes", "_law_second", "_law_start", "_law_told", "_law_back", "_law_value", "_law_ahead", "_law_behind", "_law_word", "_law_name", "_law_kind_here", "_law_answer"]
abbrev p_law_due : List Str := ["_law_one", "_law_other"]
theorem sc_law_due : FnScope N_law_due p_law_due (defScope s_law_due) := ⟨rfl, rfl, rfl, by decide +kernel, rfl, by decide +kernel, by decide +kernel⟩
def m_law_due : M Fl := (sq (asg 2 (e2 dix (lcD (mb (elst (acons (mr (D.int 1)) (acons (mr (D.int 2)) (acons (mr (D.int 3)) anil)))) items) (gname 11) (asB (e2 (din true) (evar 11) (etup (acons (e2 dix (evar 0) (mr (D.int 3))) (acons (e2 dix (evar 1) (mr (D.int 3))) anil))))) (evar 11) [11]) (mr (D.int 0)))) (sq (asg 3 (elst (acons (mr D.non) (acons (e2 dix (evar 0) (mr (D.int 3))) (acons (e2 dix (evar 1) (mr (D.int 3))) (acons (evar 2) anil)))))) (sq (sasg (etup (acons (mr (D.bl true)) (acons (mr (D.bl false)) anil))) (gtup 2 (gcons (gname 5) (gcons (gname 6) gnil)))) (sq (sfor (mb (evar 3) items) (gname 4) (sfor (mb (eif (asB (e2 deq (e2 dix (evar 0) (mr (D.int 2))) (e2 dix (evar 1) (mr (D.int 2))))) (elst (acons (evar 4) anil)) (evar 3)) items) (gname 7) (sq (asg 8 (lcD (mb (elst (acons (etup (acons (e2 dix (evar 0) (mr (D.int 2))) (acons (evar 4) anil))) (acons (etup (acons (e2 dix (evar 1) (mr (D.int 2))) (acons (evar 7) anil))) anil))) items) (gtup 2 (gcons (gname 14) (gcons (gname 11) gnil))) (asB (enno (evar 11))) (etup (acons (evar 14) (acons (evar 11) anil))) [14, 11])) (sq (sparOO 12 13 (mb (acons (evar 8) anil) ddict) (mb (acons (evar 8) anil) ddict)) (sq (asgDid 9 (mb (elst (acons (evar 0) (acons (evar 1) anil))) items) (gtup 4 (gcons (gname 15) (gcons (gname 16) (gcons (gname 14) (gcons (gname 11) gnil))))) 15 12 14 11 [15, 16, 14, 11]) (sq (asgDid 10 (mb (elst (acons (evar 1) (acons (evar 0) anil))) items) (gtup 4 (gcons (gname 15) (gcons (gname 16) (gcons (gname 14) (gcons (gname 11) gnil))))) 15 13 14 11 [15, 16, 14, 11]) (sif (asB (e2 deq (lcD (mb (evar 9) items) (gname 17) (mr true) (mb (acons (evar 17) anil) fun ds => call0 f_law_kind (ds ++ [])) [17]) (elst (acons (e2 dix (evar 0) (mr (D.int 1))) (acons (e2 dix (evar 1) (mr (D.int 1))) anil))))) (sq (asg 6 (mr (D.bl true))) (asg 5 (eand (evar 5) (eand (e2 deq (evar 9) (mb (evar 10) drev)) (peekS 13 (peekS 12 (e2 (deqA false) (evar 12) (evar 13)))))))) (mr Fl.nx)))))))) (sret (eif (btru (evar 6)) (evar 5) (mr D.non)))))))
def f_law_due : List D → Ou D := fn0 2 18 m_law_due
def dd_law_due : List D := []
theorem ok_law_due {f : Addr} {fd : FuncData} (T : Tx c.mg) (hF : Fs c) (h__law_did : ClD P base c 1 "_law_did" p_law_did spDid []) (h_law_kind : ClD P base c 1 "_law_kind" ["_law_answer"] (sp0 c f_law_kind) []) (F : FunD c.K "_law_due" "_law_due" (defArgs s_law_due) (defBody s_law_due) (defScope s_law_due) [] [] f fd) : FnOk P c.w c.K c.mg base CX0 2 f fd p_law_due (sp0 c f_law_due) :=
  ok_0 (k := 1) F sc_law_due (fM := m_law_due) fun cdv A outer s H E g hr hg fx => by
    subst hg
    exact (ss_cons (ss_set (i := 2) fx rfl (by first | exact Or.inl rfl | exact Or.inr rfl) (se_ix fx (se_of (sf_lc (own := [("_law_value", 11)]) fx (si_seq fx (se_of (sf_lst (sa_cons se_int (sa_cons se_int (sa_cons se_int sa_nil)))))) (blkOk_by (N := N_law_due) (sc := defScope s_law_due) (by decide +kernel)) (fun _ _ _ _ _ => (sg_name (i := 11) fx.blk rfl (by first | exact Or.inl rfl | exact Or.inr rfl))) (fun _ _ _ _ _ => (ts_one (st_cmp (cs_notIn fx.blk) (se_var 11 (pv 11)) (se_tup (sa_cons (se_ix fx.blk (se_var 0 (pv 0)) se_int) (sa_cons (se_ix fx.blk (se_var 1 (pv 1)) se_int) sa_nil)))))) (fun _ _ _ _ _ => (se_var 11 (pv 11))))) se_int)) (ss_cons (ss_set (i := 3) fx rfl (by first | exact Or.inl rfl | exact Or.inr rfl) (se_of (sf_lst (sa_cons se_non (sa_cons (se_ix fx (se_var 0 (pv 0)) se_int) (sa_cons (se_ix fx (se_var 1 (pv 1)) se_int) (sa_cons (se_var 2 (pv 2)) sa_nil))))))) (ss_cons (ss_asg (se_tup (sa_cons se_bl (sa_cons se_bl sa_nil))) (sg_tup (n := 2) fx (sg_cons (sg_name (i := 5) fx rfl (by first | exact Or.inl rfl | exact Or.inr rfl)) (sg_cons (sg_name (i := 6) fx rfl (by first | exact Or.inl rfl | exact Or.inr rfl)) sg_nil)))) (ss_cons (ss_for fx (si_seq fx (se_var 3 (pv 3))) (sg_name (i := 4) fx rfl (by first | exact Or.inl rfl | exact Or.inr rfl)) (ss_one (ss_for fx (si_seq fx (se_if (st_cmp (cs_eq fx) (se_ix fx (se_var 0 (pv 0)) se_int) (se_ix fx (se_var 1 (pv 1)) se_int)) (se_of (sf_lst (sa_cons (se_var 4 (pv 4)) sa_nil))) (se_var 3 (pv 3)))) (sg_name (i := 7) fx rfl (by first | exact Or.inl rfl | exact Or.inr rfl)) (ss_cons (ss_lc (i := 8) (own := [("_law_word", 14), ("_law_value", 11)]) fx rfl rfl (sw_true rfl rfl rfl (by decide +kernel)) (si_seq fx (se_of (sf_lst (sa_cons (se_tup (sa_cons (se_ix fx (se_var 0 (pv 0)) se_int) (sa_cons (se_var 4 (pv 4)) sa_nil))) (sa_cons (se_tup (sa_cons (se_ix fx (se_var 1 (pv 1)) se_int) (sa_cons (se_var 7 (pv 7)) sa_nil))) sa_nil))))) (blkOk_by (N := N_law_due) (sc := defScope s_law_due) (by decide +kernel)) (fun _ _ _ _ _ => (sg_tup (n := 2) fx.blk (sg_cons (sg_name (i := 14) fx.blk rfl (by first | exact Or.inl rfl | exact Or.inr rfl)) (sg_cons (sg_name (i := 11) fx.blk rfl (by first | exact Or.inl rfl | exact Or.inr rfl)) sg_nil)))) (fun _ _ _ _ _ => (ts_one (st_noN (se_var 11 (pv 11))))) (fun _ _ _ _ _ => (se_tup (sa_cons (se_var 14 (pv 14)) (sa_cons (se_var 11 (pv 11)) sa_nil))))) (ss_cons (ss_asgOO (i := 12) (j := 13) fx rfl rfl (by decide) (by first | exact Or.inl rfl | exact Or.inr rfl) (by first | exact Or.inl rfl | exact Or.inr rfl) (sf_dictC fx (by rfl) T.dict_ (se_var 8 (pv 8))) (sf_dictC fx (by rfl) T.dict_ (se_var 8 (pv 8))) keep_dict) (ss_cons (ss_lcDid (i := 9) (a0 := 15) (j := 12) (a2 := 14) (a3 := 11) (own := [("_law_name", 15), ("_law_kind_here", 16), ("_law_word", 14), ("_law_value", 11)]) fx rfl rfl (sw_true rfl rfl rfl (by decide +kernel)) (si_seq fx (se_of (sf_lst (sa_cons (se_var 0 (pv 0)) (sa_cons (se_var 1 (pv 1)) sa_nil))))) (blkOk_by (N := N_law_due) (sc := defScope s_law_due) (by decide +kernel)) (fun _ _ _ _ _ => (sg_tup (n := 4) fx.blk (sg_cons (sg_name (i := 15) fx.blk rfl (by first | exact Or.inl rfl | exact Or.inr rfl)) (sg_cons (sg_name (i := 16) fx.blk rfl (by first | exact Or.inl rfl | exact Or.inr rfl)) (sg_cons (sg_name (i := 14) fx.blk rfl (by first | exact Or.inl rfl | exact Or.inr rfl)) (sg_cons (sg_name (i := 11) fx.blk rfl (by first | exact Or.inl rfl | exact Or.inr rfl)) sg_nil)))))) (fun _ _ _ _ _ => pe_did fx.blk h__law_did (hr.mono (by decide)) (by rfl) (pv 15) (pv 12) (pv 14) (pv 11)) (tg_tup (tgs_cons tg_name (tgs_cons tg_name (tgs_cons tg_name (tgs_cons tg_name tgs_nil)))))) (ss_cons (ss_lcDid (i := 10) (a0 := 15) (j := 13) (a2 := 14) (a3 := 11) (own := [("_law_name", 15), ("_law_kind_here", 16), ("_law_word", 14), ("_law_value", 11)]) fx rfl rfl (sw_true rfl rfl rfl (by decide +kernel)) (si_seq fx (se_of (sf_lst (sa_cons (se_var 1 (pv 1)) (sa_cons (se_var 0 (pv 0)) sa_nil))))) (blkOk_by (N := N_law_due) (sc := defScope s_law_due) (by decide +kernel)) (fun _ _ _ _ _ => (sg_tup (n := 4) fx.blk (sg_cons (sg_name (i := 15) fx.blk rfl (by first | exact Or.inl rfl | exact Or.inr rfl)) (sg_cons (sg_name (i := 16) fx.blk rfl (by first | exact Or.inl rfl | exact Or.inr rfl)) (sg_cons (sg_name (i := 14) fx.blk rfl (by first | exact Or.inl rfl | exact Or.inr rfl)) (sg_cons (sg_name (i := 11) fx.blk rfl (by first | exact Or.inl rfl | exact Or.inr rfl)) sg_nil)))))) (fun _ _ _ _ _ => pe_did fx.blk h__law_did (hr.mono (by decide)) (by rfl) (pv 15) (pv 13) (pv 14) (pv 11)) (tg_tup (tgs_cons tg_name (tgs_cons tg_name (tgs_cons tg_name (tgs_cons tg_name tgs_nil)))))) (ss_one (ss_if (st_cmp (cs_eq fx) (se_of (sf_lc (own := [("_law_answer", 17)]) fx (si_seq fx (se_var 9 (pv 9))) (blkOk_by (N := N_law_due) (sc := defScope s_law_due) (by decide +kernel)) (fun _ _ _ _ _ => (sg_name (i := 17) fx.blk rfl (by first | exact Or.inl rfl | exact Or.inr rfl))) (fun _ _ _ _ _ => ts_nil) (fun _ _ _ _ _ => (se_call0 fx.blk h_law_kind (hr.mono (by decide)) (by rfl) (sa_cons (se_var 17 (pv 17)) sa_nil))))) (se_of (sf_lst (sa_cons (se_ix fx (se_var 0 (pv 0)) se_int) (sa_cons (se_ix fx (se_var 1 (pv 1)) se_int) sa_nil))))) (ss_cons (ss_set (i := 6) fx rfl (by first | exact Or.inl rfl | exact Or.inr rfl) se_bl) (ss_one (ss_set (i := 5) fx rfl (by first | exact Or.inl rfl | exact Or.inr rfl) (se_and fx (se_var 5 (pv 5)) (se_and fx (se_cmp (cs_eq fx) (se_var 9 (pv 9)) (se_revL fx (se_var 10 (pv 10)))) (se_one (se_peek 13 (se_peek 12 (se_cmp (cs_eqA fx) (se_var 12 (pv 12)) (se_var 13 (pv 13))))))))))) ss_nil))))))))) (ss_one (ss_ret (se_if (st_val fx (se_var 6 (pv 6))) (se_var 5 (pv 5)) se_non)))))))
abbrev s_law_all : Stmt := top 14
abbrev N_law_all : List Str := ["_law_kinds", "_law_found", "_law_first", "_law_second", "_law_kind_here", "_law_name", "_law_later", "_law_alike", "_law_one", "_law_relation", "_law_told", "_law_word", "_law_value"]
abbrev p_law_all : List Str := []
theorem sc_law_all : FnScope N_law_all p_law_all (defScope s_law_all) := ⟨rfl, rfl, rfl, by decide +kernel, rfl, by decide +kernel, by decide +kernel⟩
def m_law_all : M Fl := (sq (asgO 0 (mb (acons (lcD (mb (elst (acons (mr (D.str "has")) (acons (mr (D.str "put")) (acons (mr (D.str "set")) (acons (mr (D.str "strike")) anil))))) items) (gname 5) (mr true) (etup (acons (evar 5) (acons (elst (acons (mr (D.str "yes")) (acons (mr (D.str "no")) anil))) anil))) [5]) anil) ddict)) (sq (sput 0 (elst (acons (mr (D.str "is")) (acons (mr (D.str "no")) anil))) (mr (D.str "get"))) (sq (asgO 1 (mr (D.dct [] []))) (sq (frz 0) (sq (sforK (evar 0) (gname 2) (sforK (evar 0) (gname 3) (sfor (mb (e2 dix (evar 0) (evar 2)) items) (gname 4) (sfor (mb (e2 dix (evar 0) (evar 3)) items) (gname 6) (sfor (mb (etup (acons (mr (D.bl true)) (acons (mr (D.bl false)) anil))) items) (gname 7) (sq (asg 8 (etup (acons (evar 2) (acons (evar 4) (acons (mr (D.str "a")) (acons (mr (D.int 1)) anil)))))) (sfor (mb (elst (acons (mr (D.str "same")) (acons (mr (D.str "within")) (acons (mr (D.str "around")) (acons (mr (D.str "apart")) anil))))) items) (gname 9) (sq (spar 11 12 (acons (eif (asB (e2 deq (evar 9) (mr (D.str "same")))) (mr (D.str "a")) (mr (D.str "b"))) (acons (eif (btru (evar 7)) (mr (D.int 1)) (mr (D.int 2))) anil))) (sq (asg 10 (mb (acons (evar 8) (acons (etup (acons (evar 3) (acons (evar 6) (acons (evar 11) (acons (evar 12) anil))))) anil)) fun ds => call0 f_law_due (ds ++ []))) (sif (asB (enno (evar 10))) (sput 1 (evar 10) (etup (acons (evar 2) (acons (evar 4) (acons (evar 3) (acons (evar 6) (acons (evar 9) (acons (evar 7) anil)))))))) (mr Fl.nx))))))))))) (sq (frz 1) (sret (evar 1))))))))
def f_law_all : List D → Ou D := fn0 0 13 m_law_all
def dd_law_all : List D := []
theorem ok_law_all {f : Addr} {fd : FuncData} (T : Tx c.mg) (hF : Fs c) (h_law_due : ClD P base c 2 "_law_due" ["_law_one", "_law_other"] (sp0 c f_law_due) []) (F : FunD c.K "_law_all" "_law_all" (defArgs s_law_all) (defBody s_law_all) (defScope s_law_all) [] [] f fd) : FnOk P c.w c.K c.mg base CX0 3 f fd p_law_all (sp0 c f_law_all) :=
  ok_0 (k := 2) F sc_law_all (fM := m_law_all) fun cdv A outer s H E g hr hg fx => by
    subst hg
    exact (ss_cons (ss_setO (i := 0) fx rfl (by first | exact Or.inl rfl | exact Or.inr rfl) (sf_dictC fx (by rfl) T.dict_ (se_of (sf_lc (own := [("_law_name", 5)]) fx (si_seq fx (se_of (sf_lst (sa_cons se_str (sa_cons se_str (sa_cons se_str (sa_cons se_str sa_nil))))))) (blkOk_by (N := N_law_all) (sc := defScope s_law_all) (by decide +kernel)) (fun _ _ _ _ _ => (sg_name (i := 5) fx.blk rfl (by first | exact Or.inl rfl | exact Or.inr rfl))) (fun _ _ _ _ _ => ts_nil) (fun _ _ _ _ _ => (se_tup (sa_cons (se_var 5 (pv 5)) (sa_cons (se_of (sf_lst (sa_cons se_str (sa_cons se_str sa_nil)))) sa_nil)))))))) (ss_cons (ss_put (i := 0) fx (pv 0) (se_of (sf_lst (sa_cons se_str (sa_cons se_str sa_nil)))) se_str) (ss_cons (ss_setO (i := 1) fx rfl (by first | exact Or.inl rfl | exact Or.inr rfl) sf_dnew) (ss_frz 0 (ss_cons (ss_forK fx (se_var 0 (pv 0)) (fun O_ H_ => (sg_name (i := 2) (Fx.re fx O_ H_) rfl (by first | exact Or.inl rfl | exact Or.inr rfl))) (fun O_ H_ => (have fx := Fx.re fx O_ H_; (ss_one (ss_forK fx (se_var 0 (pv 0)) (fun O_ H_ => (sg_name (i := 3) (Fx.re fx O_ H_) rfl (by first | exact Or.inl rfl | exact Or.inr rfl))) (fun O_ H_ => (have fx := Fx.re fx O_ H_; (ss_one (ss_for fx (si_seq fx (se_ix fx (se_var 0 (pv 0)) (se_var 2 (pv 2)))) (sg_name (i := 4) fx rfl (by first | exact Or.inl rfl | exact Or.inr rfl)) (ss_one (ss_for fx (si_seq fx (se_ix fx (se_var 0 (pv 0)) (se_var 3 (pv 3)))) (sg_name (i := 6) fx rfl (by first | exact Or.inl rfl | exact Or.inr rfl)) (ss_one (ss_for fx (si_seq fx (se_tup (sa_cons se_bl (sa_cons se_bl sa_nil)))) (sg_name (i := 7) fx rfl (by first | exact Or.inl rfl | exact Or.inr rfl)) (ss_cons (ss_set (i := 8) fx rfl (by first | exact Or.inl rfl | exact Or.inr rfl) (se_tup (sa_cons (se_var 2 (pv 2)) (sa_cons (se_var 4 (pv 4)) (sa_cons se_str (sa_cons se_int sa_nil)))))) (ss_one (ss_for fx (si_seq fx (se_of (sf_lst (sa_cons se_str (sa_cons se_str (sa_cons se_str (sa_cons se_str sa_nil))))))) (sg_name (i := 9) fx rfl (by first | exact Or.inl rfl | exact Or.inr rfl)) (ss_cons (ss_par (i := 11) (j := 12) fx rfl rfl (by decide) rfl rfl (sa_cons (se_if (st_cmp (cs_eq fx) (se_var 9 (pv 9)) se_str) se_str se_str) (sa_cons (se_if (st_val fx (se_var 7 (pv 7))) se_int se_int) sa_nil)) (by rfl)) (ss_cons (ss_set (i := 10) fx rfl (by first | exact Or.inl rfl | exact Or.inr rfl) (se_call0 fx h_law_due (hr.mono (by decide)) (by rfl) (sa_cons (se_var 8 (pv 8)) (sa_cons (se_tup (sa_cons (se_var 3 (pv 3)) (sa_cons (se_var 6 (pv 6)) (sa_cons (se_var 11 (pv 11)) (sa_cons (se_var 12 (pv 12)) sa_nil))))) sa_nil)))) (ss_one (ss_if (st_noN (se_var 10 (pv 10))) (ss_one (ss_put (i := 1) fx (pv 1) (se_var 10 (pv 10)) (se_tup (sa_cons (se_var 2 (pv 2)) (sa_cons (se_var 4 (pv 4)) (sa_cons (se_var 3 (pv 3)) (sa_cons (se_var 6 (pv 6)) (sa_cons (se_var 9 (pv 9)) (sa_cons (se_var 7 (pv 7)) sa_nil))))))))) ss_nil)))))))))))))))))))) (ss_frz 1 (ss_one (ss_ret (se_var 1 (pv 1))))))))))
abbrev s_law : Stmt := top 15
abbrev N_law : List Str := ["_law_script", "_law_pen_here", "_law_names", "_law_kinds", "_law_turn", "_law_due_here", "_law_book", "_law_key"]
abbrev p_law : List Str := ["_law_script"]
theorem sc_law : FnScope N_law p_law (defScope s_law) := ⟨rfl, rfl, rfl, by decide +kernel, rfl, by decide +kernel, by decide +kernel⟩
def m_law : M Fl := (sq (spar 5 6 (acons (call0 f_law_all []) (acons (call0 f_known_book []) anil))) (sq (sif (bor (asB (e2 (deqA true) (mb (evar 6) (dmeth "Book" "told_rows" f_Book_told_rows [] anil)) (evar 5))) (bor (asB (e2 (deqO "Book" f_Book__eq true) (evar 6) (mb (acons (evar 5) anil) fun ds => callI "Book" f_Book__init (ds ++ [])))) (bnot (asB (e2 (deqO "Book" f_Book__eq false) (evar 6) (call0 f_known_book [])))))) (sret (mr (D.bl false))) (mr Fl.nx)) (sq (asg 2 (elst (acons (mr (D.str "has")) (acons (mr (D.str "get")) (acons (mr (D.str "put")) (acons (mr (D.str "set")) (acons (mr (D.str "strike")) (acons (mr (D.str "begins")) (acons (mr (D.str "")) (acons (mr D.non) anil)))))))))) (sq (asg 3 (elst (acons (mr (D.str "yes")) (acons (mr (D.str "no")) (acons (mr (D.str "is")) (acons (mr (D.str "none")) (acons (mr (D.str "at")) (acons (mr (D.str "misuse")) (acons (mr (D.int 0)) anil))))))))) (sq (sfor (mb (acons (mr (D.int 12)) anil) drng1) (gname 4) (sq (asg 7 (elst (acons (penc 1 (mb (acons (evar 2) anil) (callP f_law_pick))) (acons (penc 1 (mb (acons (evar 3) anil) (callP f_law_pick))) (acons (penc 1 (mb (acons (evar 2) anil) (callP f_law_pick))) (acons (penc 1 (mb (acons (evar 3) anil) (callP f_law_pick))) anil)))))) (sq (asg 7 (e2 dadd (evar 7) (elst (acons (penc 1 (mb (acons (elst (acons (mr (D.str "same")) (acons (mr (D.str "within")) (acons (mr (D.str "around")) (acons (mr (D.str "apart")) (acons (mr (D.str "beside")) anil)))))) anil) (callP f_law_pick))) (acons (e2 deq (penc 1 (mb (acons (mr (D.int 2)) anil) (callP f_law_draw))) (mr (D.int 0))) anil))))) (sif (asB (e2 dne (mb (evar 6) (dmeth "Book" "commutes" f_Book_commutes [] (acons (e2 dix (evar 7) (mr (D.int 0))) (acons (e2 dix (evar 7) (mr (D.int 1))) (acons (e2 dix (evar 7) (mr (D.int 2))) (acons (e2 dix (evar 7) (mr (D.int 3))) (acons (e2 dix (evar 7) (mr (D.int 4))) (acons (e2 dix (evar 7) (mr (D.int 5))) anil)))))))) (mb (evar 5) fun d => mb (mb (acons (evar 7) anil) dtuple) fun k => dgetT d k))) (sret (mr (D.bl false))) (mr Fl.nx))))) (sret (mr (D.bl true))))))))
theorem ok_law {f : Addr} {fd : FuncData} (T : Tx c.mg) (hF : Fs c) (h_penOf : ClD P base c 1 "_law_pen" ["_law_script"] (spPen c.K "opened") []) (h_known_book : ClD P base c 3 "known_book" [] (sp0 c f_known_book) []) (h_law_all : ClD P base c 3 "_law_all" [] (sp0 c f_law_all) []) (h_Book_told_rows : ClM P base c 1 "Book" "told_rows" (sp0 c f_Book_told_rows) []) (h_Book__init_0 : ClI P base c 1 "Book" ["self", "rows"] (spI c "Book" f_Book__init) []) (q_Book : ClQ P base c 1 "Book" f_Book__eq) (ne_Book : NeOk c "Book") (h_law_pick : ClD P base c 2 "_law_pick" ["_law_pen_here", "_law_some"] (spP c "opened" f_law_pick) []) (h_law_draw : ClD P base c 1 "_law_draw" ["_law_pen_here", "_law_many"] (spP c "opened" f_law_draw) []) (h_Book_commutes : ClM P base c 1 "Book" "commutes" (sp0 c f_Book_commutes) []) (hM : ∀ ns : List Int, ns.length ≤ 63 → (m_law (rho0 N_law.length) ⟨ns, 0, 0⟩).post (fun fl _ _ => fl = .rt (.bl true)) noX) (F : FunD c.K "law" "law" (defArgs s_law) (defBody s_law) (defScope s_law) [] [] f fd) : FnOk P c.w c.K c.mg base CX0 4 f fd ["_law_script"] (spLaw c.K) := by
  obtain ⟨fp, fdp, dvs, dss, G0, hm0, hk0, hb0, hd0, hl0⟩ := h_penOf.ex
  have e0 : dvs = [] := by have := hl0 (fun _ => none); cases this; rfl
  subst e0
  refine ok_L (k := 3) (n := "opened") F sc_law (by decide) (fM := m_law) (show defBody s_law = (defBody s_law).getD 0 (.Pass ⟨0, 0, 0, 0⟩) :: (defBody s_law).drop 1 from rfl) (fun cdv A outer s H E hr => ?_) (fun cdv A outer s H E g hr hg pn fx => ?_) hM
  · exact ps_set (i := 1) sc_law.nd rfl (by first | exact Or.inl rfl | exact Or.inr rfl) (pe_call G0 (hr.mono (by decide)) (by rfl) hm0 hk0 hb0 hd0 pass0 (pa_cons (pv 0) pa_nil))
  · subst hg
    exact (ss_cons (ss_par (i := 5) (j := 6) fx rfl rfl (by decide) rfl rfl (sa_cons (se_call00 fx h_law_all (hr.mono (by decide)) (by rfl)) (sa_cons (se_call00 fx h_known_book (hr.mono (by decide)) (by rfl)) sa_nil)) (by rfl)) (ss_cons (ss_if (st_w (sw_or (st_cmp (cs_neA fx) (se_meth0 fx h_Book_told_rows (hr.mono (by decide)) (se_var 6 (pv 6))) (se_var 5 (pv 5))) (sw_or (st_cmp (cs_neO fx q_Book ne_Book (hr.mono (by decide))) (se_var 6 (pv 6)) (se_make fx h_Book__init_0 (hr.mono (by decide)) (by rfl) (sa_cons (se_var 5 (pv 5)) sa_nil))) (sw_or1 (st_not (st_cmp (cs_eqO fx q_Book (hr.mono (by decide))) (se_var 6 (pv 6)) (se_call00 fx h_known_book (hr.mono (by decide)) (by rfl)))))))) (ss_one (ss_ret se_bl)) ss_nil) (ss_cons (ss_set (i := 2) fx rfl (by first | exact Or.inl rfl | exact Or.inr rfl) (se_of (sf_lst (sa_cons se_str (sa_cons se_str (sa_cons se_str (sa_cons se_str (sa_cons se_str (sa_cons se_str (sa_cons se_str (sa_cons se_non sa_nil))))))))))) (ss_cons (ss_set (i := 3) fx rfl (by first | exact Or.inl rfl | exact Or.inr rfl) (se_of (sf_lst (sa_cons se_str (sa_cons se_str (sa_cons se_str (sa_cons se_str (sa_cons se_str (sa_cons se_str (sa_cons se_int sa_nil)))))))))) (ss_cons (ss_for fx (si_range1 fx (by rfl) T.range_ (sa_cons se_int sa_nil)) (sg_name (i := 4) fx rfl (by first | exact Or.inl rfl | exact Or.inr rfl)) (ss_cons (ss_set (i := 7) fx rfl (by first | exact Or.inl rfl | exact Or.inr rfl) (se_of (sf_lst (sa_cons (se_callP (i := 1) fx pn h_law_pick (hr.mono (by decide)) (by rfl) (pv 1) (sa_cons (se_var 2 (pv 2)) sa_nil)) (sa_cons (se_callP (i := 1) fx pn h_law_pick (hr.mono (by decide)) (by rfl) (pv 1) (sa_cons (se_var 3 (pv 3)) sa_nil)) (sa_cons (se_callP (i := 1) fx pn h_law_pick (hr.mono (by decide)) (by rfl) (pv 1) (sa_cons (se_var 2 (pv 2)) sa_nil)) (sa_cons (se_callP (i := 1) fx pn h_law_pick (hr.mono (by decide)) (by rfl) (pv 1) (sa_cons (se_var 3 (pv 3)) sa_nil)) sa_nil))))))) (ss_cons (ss_set (i := 7) fx rfl (by first | exact Or.inl rfl | exact Or.inr rfl) (se_add fx (se_var 7 (pv 7)) (se_of (sf_lst (sa_cons (se_callP (i := 1) fx pn h_law_pick (hr.mono (by decide)) (by rfl) (pv 1) (sa_cons (se_of (sf_lst (sa_cons se_str (sa_cons se_str (sa_cons se_str (sa_cons se_str (sa_cons se_str sa_nil))))))) sa_nil)) (sa_cons (se_cmp (cs_eq fx) (se_callP (i := 1) fx pn h_law_draw (hr.mono (by decide)) (by rfl) (pv 1) (sa_cons se_int sa_nil)) se_int) sa_nil)))))) (ss_one (ss_if (st_cmp (cs_ne fx) (se_meth fx h_Book_commutes (hr.mono (by decide)) (se_var 6 (pv 6)) (sa_cons (se_ix fx (se_var 7 (pv 7)) se_int) (sa_cons (se_ix fx (se_var 7 (pv 7)) se_int) (sa_cons (se_ix fx (se_var 7 (pv 7)) se_int) (sa_cons (se_ix fx (se_var 7 (pv 7)) se_int) (sa_cons (se_ix fx (se_var 7 (pv 7)) se_int) (sa_cons (se_ix fx (se_var 7 (pv 7)) se_int) sa_nil))))))) (se_getT fx (se_var 5 (pv 5)) (se_tupleC fx (by rfl) T.tuple_ (se_var 7 (pv 7))) ⟨rfl, rfl, rfl, rfl⟩)) (ss_one (ss_ret se_bl)) ss_nil))))) (ss_one (ss_ret se_bl)))))))
end
end K38

set_option Elab.async false
set_option linter.all false
set_option maxRecDepth 100000
set_option maxHeartbeats 0
namespace K38
open PySem DL
def r6 (a b c d : Str) (e f : Option Bool) : Str × Str × Str × Str × Option Bool × Option Bool := (a, b, c, d, e, f)
/-- the rows for one word -/
def rows6 : List (Str × Str × Str × Str × Option Bool × Option Bool) := [r6 "has" "no" "has" "no" (some true) (some true), r6 "has" "yes" "has" "yes" (some true) (some true), r6 "has" "no" "get" "no" (some true) (some true), r6 "has" "yes" "get" "is" (some true) (some true), r6 "has" "no" "put" "yes" (some false) (some false), r6 "has" "yes" "put" "no" (some true) (some true), r6 "has" "no" "set" "yes" (some false) (some false), r6 "has" "yes" "set" "no" (some true) (some true), r6 "has" "yes" "set" "yes" (some true) (some true), r6 "has" "no" "strike" "no" (some true) (some true), r6 "has" "yes" "strike" "yes" (some false) (some false), r6 "get" "no" "has" "no" (some true) (some true), r6 "get" "is" "has" "yes" (some true) (some true), r6 "get" "no" "get" "no" (some true) (some true), r6 "get" "is" "get" "is" (some true) (some true), r6 "get" "no" "put" "yes" (some false) (some false), r6 "get" "is" "put" "no" (some true) (some true), r6 "get" "no" "set" "yes" (some false) (some false), r6 "get" "is" "set" "no" (some true) (some true), r6 "get" "is" "set" "yes" (some false) (some false), r6 "get" "no" "strike" "no" (some true) (some true), r6 "get" "is" "strike" "yes" (some false) (some false), r6 "put" "yes" "has" "yes" (some false) (some false), r6 "put" "no" "has" "yes" (some true) (some true), r6 "put" "yes" "get" "is" (some false) (some false), r6 "put" "no" "get" "is" (some true) (some true), r6 "put" "yes" "put" "no" (some false) (some false), r6 "put" "no" "put" "no" (some true) (some true), r6 "put" "yes" "set" "no" (some false) none, r6 "put" "no" "set" "no" (some true) (some true), r6 "put" "no" "set" "yes" (some true) (some true), r6 "put" "yes" "set" "yes" none (some false), r6 "put" "yes" "strike" "yes" (some false) (some false), r6 "put" "no" "strike" "yes" (some false) (some false), r6 "set" "yes" "has" "yes" (some false) (some false), r6 "set" "no" "has" "yes" (some true) (some true), r6 "set" "yes" "get" "is" (some false) (some false), r6 "set" "no" "get" "is" (some true) (some true), r6 "set" "yes" "put" "no" (some false) (some false), r6 "set" "no" "put" "no" (some true) (some true), r6 "set" "yes" "set" "no" (some false) none, r6 "set" "no" "set" "no" (some true) none, r6 "set" "yes" "set" "yes" none (some false), r6 "set" "no" "set" "yes" none (some false), r6 "set" "yes" "strike" "yes" (some false) (some false), r6 "set" "no" "strike" "yes" (some false) (some false), r6 "strike" "no" "has" "no" (some true) (some true), r6 "strike" "yes" "has" "no" (some false) (some false), r6 "strike" "no" "get" "no" (some true) (some true), r6 "strike" "yes" "get" "no" (some false) (some false), r6 "strike" "no" "put" "yes" (some false) (some false), r6 "strike" "yes" "put" "yes" (some false) (some false), r6 "strike" "no" "set" "yes" (some false) (some false), r6 "strike" "yes" "set" "yes" (some false) (some false), r6 "strike" "no" "strike" "no" (some true) (some true), r6 "strike" "yes" "strike" "no" (some false) (some false)]
/-- what a pair of deeds comes to -/
def expT (f k s l : Str) (same alike : Bool) : Option Bool := if same = true then (match rows6.find? fun r => decide (r.1 = f) && (decide (r.2.1 = k) && (decide (r.2.2.1 = s) && decide (r.2.2.2.1 = l))) with
  | some r => if alike = true then r.2.2.2.2.1 else r.2.2.2.2.2
  | none => none) else some true
def okO (v : Option Bool) : Ou D → Bool
  | .ok d _ _ => match d, v with | .bl a, some b => a == b | .non, none => true | _, _ => false
  | _ => false
def one (f k : Str) (w : Str) (z : Int) : D := .tup [.str f, .str k, .str w, .int z]
def nms : List Str := ["has", "put", "set", "strike", "get"]
def kds (f : Str) : List Str := if f = "get" then ["is", "no"] else ["yes", "no"]
def chk (f s : Str) : Bool := (kds f).all fun k => (kds s).all fun l => [true, false].all fun a => [true, false].all fun w => okO (expT f k s l w a) (f_law_due [one f k "a" 1, one s l (if w = true then "a" else "b") (if a = true then 1 else 2)])
end K38

set_option Elab.async false
set_option linter.all false
set_option maxRecDepth 100000
set_option maxHeartbeats 1000000
namespace K38
open PySem DL
/-! ### what a book is: keys of six parts, told True or False -/
abbrev K6 := Str × Str × Str × Str × Str × Bool
def key (c : K6) : D := .tup [.str c.1, .str c.2.1, .str c.2.2.1, .str c.2.2.2.1, .str c.2.2.2.2.1, .bl c.2.2.2.2.2]
theorem nk_key {c c' : K6} : nk (key c) = nk (key c') ↔ c = c' := by
  obtain ⟨a, b, x, d, e, f⟩ := c
  obtain ⟨a', b', x', d', e', f'⟩ := c'
  constructor
  · intro h
    have h : NestedKey.tup [.text a, .text b, .text x, .text d, .text e, .num (b2n f)] = .tup [.text a', .text b', .text x', .text d', .text e', .num (b2n f')] := h
    injection h with h
    injection h with h1 h
    injection h with h2 h
    injection h with h3 h
    injection h with h4 h
    injection h with h5 h
    injection h with h6 h
    injection h1 with h1
    injection h2 with h2
    injection h3 with h3
    injection h4 with h4
    injection h5 with h5
    injection h6 with h6
    subst h1 h2 h3 h4 h5
    have : f = f' := by cases f <;> cases f' <;> first | rfl | cases h6
    rw [this]
  · rintro ⟨⟩
    rfl
abbrev Acc := List (K6 × Bool)
def ksD (acc : Acc) : List D := acc.map fun p => key p.1
def vsD (acc : Acc) : List D := acc.map fun p => .bl p.2
def aD (acc : Acc) : D := .dct (ksD acc) (vsD acc)
def put (acc : Acc) (c : K6) (v : Bool) : Acc := if acc.any (fun p => decide (p.1 = c)) = true then acc.map (fun p => if p.1 = c then (p.1, v) else p) else acc ++ [(c, v)]
theorem has_key {acc : Acc} {c : K6} : hasK (ksD acc) (nk (key c)) = acc.any fun p => decide (p.1 = c) := by
  induction acc with
  | nil => rfl
  | cons p acc ih =>
    unfold hasK ksD at ih ⊢
    rw [List.map_cons, List.any_cons, List.any_cons, ih]
    congr 1
    exact decide_eq_decide.mpr nk_key
theorem put_K {acc : Acc} {c : K6} {v : Bool} : dputK (ksD acc) (key c) = ksD (put acc c v) := by
  unfold dputK put
  rw [has_key]
  split
  · unfold ksD
    rw [List.map_map]
    exact List.map_congr_left fun p _ => by
      show key p.1 = key (if p.1 = c then (p.1, v) else p).1
      split <;> rfl
  · unfold ksD
    rw [List.map_append]
    rfl
theorem map_V {acc : Acc} {c : K6} {v : Bool} : dmapV (nk (key c)) (.bl v) (ksD acc) (vsD acc) = vsD (acc.map fun p => if p.1 = c then (p.1, v) else p) := by
  induction acc with
  | nil => rfl
  | cons p acc ih =>
    show (if nk (key p.1) = nk (key c) then D.bl v else .bl p.2) :: dmapV (nk (key c)) (.bl v) (ksD acc) (vsD acc) = _
    rw [ih]
    show _ = D.bl (if p.1 = c then (p.1, v) else p).2 :: _
    by_cases h : p.1 = c
    · rw [if_pos h, if_pos (nk_key.mpr h)]; rfl
    · rw [if_neg h, if_neg fun z => h (nk_key.mp z)]; rfl
theorem put_V {acc : Acc} {c : K6} {v : Bool} : dputV (ksD acc) (vsD acc) (key c) (.bl v) = vsD (put acc c v) := by
  unfold dputV put
  rw [has_key]
  split
  · exact map_V
  · unfold vsD
    rw [List.map_append]
    rfl
theorem kind_key (c : K6) : kkind (key c) = some true := rfl
theorem tdk_ks (acc : Acc) : tdk (ksD acc) = true := by
  unfold tdk ksD
  rw [List.all_map, List.all_eq_true]
  intro p _
  show decide (kkind (key p.1) = some true) = true
  exact decide_eq_true (kind_key p.1)
theorem same_key (acc : Acc) (c : K6) : sameKind (ksD acc) (key c) = true := tdk_ks acc
theorem put_len (acc : Acc) (c : K6) (v : Bool) : (put acc c v).length ≤ acc.length + 1 := by
  unfold put
  split
  · rw [List.length_map]; omega
  · rw [List.length_append]; simp
theorem len_ks (acc : Acc) : (ksD acc).length = acc.length := List.length_map ..
/-- d[key] = v -/
theorem p_put {i : Nat} {fv fk : M D} {acc : Acc} {c : K6} {v : Bool} {ρ : List Sl} {t : Pn} {P : Fl → List Sl → Pn → Prop} {E : Str → List Str → List D → Pn → Prop} (hi : ρ[i]? = some (.ow (aD acc))) (hl : acc.length < lim) (ev : fv ρ t = .ok (.bl v) ρ t) (ek : fk ρ t = .ok (key c) ρ t)
    (q : P .nx (ρ.set i (.ow (aD (put acc c v)))) t) : (sput i fv fk ρ t).post P E := by
  refine p_sput ?_
  rw [ev]
  refine ⟨by rw [hi]; rfl, ?_⟩
  rw [ek]
  show (dsput i (.bl v) (key c) ρ t).post P E
  unfold dsput
  rw [hi]
  show ((if sameKind (ksD acc) (key c) = true ∧ (ksD acc).length < lim then Ou.ok Fl.nx (ρ.set i (.ow (.dct (dputK (ksD acc) (key c)) (dputV (ksD acc) (vsD acc) (key c) (.bl v))))) t else .bad) : Ou Fl).post P E
  rw [if_pos ⟨same_key acc c, by rw [len_ks]; exact hl⟩, put_K (v := v), put_V]
  exact q
def putP (acc : Acc) (p : K6 × Bool) : Acc := put acc p.1 p.2
theorem fold_len (items acc : Acc) : (items.foldl putP acc).length ≤ acc.length + items.length := by
  induction items generalizing acc with
  | nil => simp
  | cons p items ih =>
    have h1 := ih (putP acc p)
    have h2 := put_len acc p.1 p.2
    rw [List.foldl_cons, List.length_cons]
    unfold putP at h1 ⊢
    omega
/-- put in one after the other, all different -/
theorem fold_put {items acc : Acc} (h : ((acc ++ items).map (·.1)).Nodup) : items.foldl putP acc = acc ++ items := by
  induction items generalizing acc with
  | nil => simp
  | cons p items ih =>
    have e : putP acc p = acc ++ [p] := by
      unfold putP put
      rw [if_neg]
      intro z
      rw [List.any_eq_true] at z
      obtain ⟨q, hq, e⟩ := z
      rw [List.map_append, List.map_cons] at h
      have h2 := (List.nodup_append.mp h).2.2
      exact h2 q.1 (List.mem_map_of_mem hq) p.1 List.mem_cons_self (of_decide_eq_true e)
    rw [List.foldl_cons, e, ih (by rw [List.append_assoc]; exact h), List.append_assoc]
    rfl
def look (acc : Acc) (c : K6) : Option Bool := match acc with
  | [] => none
  | p :: r => if p.1 = c then some p.2 else look r c
theorem look_key {acc : Acc} {c : K6} : dlook (ksD acc) (vsD acc) (nk (key c)) = (look acc c).map D.bl := by
  induction acc with
  | nil => rfl
  | cons p acc ih =>
    show (if nk (key p.1) = nk (key c) then some (D.bl p.2) else dlook (ksD acc) (vsD acc) (nk (key c))) = _
    unfold look
    by_cases h : p.1 = c
    · rw [if_pos h, if_pos (nk_key.mpr h)]; rfl
    · rw [if_neg h, if_neg fun z => h (nk_key.mp z)]; exact ih
theorem look_none {acc : Acc} {n : NestedKey} (h : ∀ c, n ≠ nk (key c)) : dlook (ksD acc) (vsD acc) n = none := by
  induction acc with
  | nil => rfl
  | cons p acc ih =>
    show (if nk (key p.1) = n then some (D.bl p.2) else dlook (ksD acc) (vsD acc) n) = _
    rw [if_neg fun z => h p.1 z.symm]
    exact ih
theorem look_mem {acc : Acc} (h : (acc.map (·.1)).Nodup) {c : K6} {v : Bool} : look acc c = some v ↔ (c, v) ∈ acc := by
  induction acc with
  | nil => unfold look; simp
  | cons p acc ih =>
    unfold look
    rw [List.map_cons, List.nodup_cons] at h
    by_cases e : p.1 = c
    · rw [if_pos e]
      constructor
      · intro z
        cases z
        rw [← e]
        exact List.mem_cons_self
      · intro z
        rcases List.mem_cons.mp z with z | z
        · rw [← z]
        · exact absurd (by rw [e]; exact List.mem_map_of_mem (f := (·.1)) z) h.1
    · rw [if_neg e, ih h.2]
      constructor
      · exact fun z => List.mem_cons_of_mem _ z
      · intro z
        rcases List.mem_cons.mp z with z | z
        · rw [← z] at e; exact absurd rfl e
        · exact z
theorem look_eq {A B : Acc} (hA : (A.map (·.1)).Nodup) (hB : (B.map (·.1)).Nodup) (h : ∀ p, p ∈ A ↔ p ∈ B) (c : K6) : look A c = look B c := by
  cases e : look A c with
  | some v => exact ((look_mem hB).mpr ((h _).mp ((look_mem hA).mp e))).symm
  | none =>
    cases e2 : look B c with
    | none => rfl
    | some v =>
      have := (look_mem hA).mpr ((h _).mpr ((look_mem hB).mp e2))
      rw [e] at this
      cases this
theorem eqDct_ok {A B : Acc} (hl : A.length = B.length) (h : ∀ c v, look A c = some v → look B c = some v) (hA : (A.map (·.1)).Nodup) : eqDct (ksD A) (vsD A) (ksD B) (vsD B) = true := by
  unfold eqDct
  rw [len_ks, len_ks, hl, beq_self_eq_true, Bool.true_and]
  have all : ∀ {r : Acc}, (∀ p ∈ r, look B p.1 = some p.2) → eqRows (ksD B) (vsD B) (ksD r) (vsD r) = true := by
    intro r
    induction r with
    | nil => intro _; rfl
    | cons p r ih =>
      intro hr
      show (match dlook (ksD B) (vsD B) (nk (key p.1)) with
        | none => false
        | some z => PyData.eqv (toP (.bl p.2)) (toP z) && eqRows (ksD B) (vsD B) (ksD r) (vsD r)) = true
      rw [look_key, hr p List.mem_cons_self]
      show (PyData.eqv (toP (.bl p.2)) (toP (.bl p.2)) && _) = true
      rw [ih fun q hq => hr q (List.mem_cons_of_mem _ hq), Bool.and_true]
      cases p.2 <;> rfl
  exact all fun p hp => h _ _ ((look_mem hA).mpr hp)
/-! ### loops that put -/
theorem loopL {tgt : D → M Unit} {body : M Fl} {Sh : Acc → List Sl → Prop} {step : Acc → D → Acc} {c : Nat} : ∀ (ds : List D) (acc : Acc) (ρ : List Sl) (t : Pn),
    (∀ acc d, (step acc d).length ≤ acc.length + c) → (∀ acc d ρ t, d ∈ ds → acc.length + c ≤ lim → Sh acc ρ → (mb (tgt d) (fun _ => body) ρ t).post (fun fl ρ' _ => fl = .nx ∧ Sh (step acc d) ρ') noX) →
    acc.length + ds.length * c ≤ lim → Sh acc ρ → (forD tgt body ds ρ t).post (fun fl ρ' _ => fl = .nx ∧ Sh (ds.foldl step acc) ρ') noX
  | [], acc, ρ, t, _, _, _, h => ⟨rfl, h⟩
  | d :: ds, acc, ρ, t, hs, hb, hl, h => by
    rw [List.length_cons, Nat.add_mul, Nat.one_mul] at hl
    have s := hb acc d ρ t List.mem_cons_self (by omega) h
    show (((tgt d) ρ t).bind _).post _ noX
    refine p_b ?_
    have s' : ((tgt d ρ t).bind fun _ => body).post _ noX := s
    refine post_mono (post_bind s') (fun _ ρ1 t1 q => ?_) fun _ _ _ _ h => h
    refine p_b (post_mono q (fun fl ρ2 t2 ⟨e, q2⟩ => ?_) fun _ _ _ _ h => h)
    subst e
    have := hs acc d
    exact loopL ds (step acc d) ρ2 t2 hs (fun acc d ρ t hd => hb acc d ρ t (List.mem_cons_of_mem _ hd)) (by omega) q2
end K38

set_option Elab.async false
set_option linter.all false
set_option maxRecDepth 100000
set_option maxHeartbeats 1000000
namespace K38
open PySem DL
/-! ### a dict copied by walking it -/
theorem put_fresh {acc : Acc} {c : K6} {v : Bool} (h : c ∉ acc.map (·.1)) : put acc c v = acc ++ [(c, v)] := by
  unfold put
  rw [if_neg]
  intro z
  rw [List.any_eq_true] at z
  obtain ⟨q, hq, e⟩ := z
  exact h (by rw [← of_decide_eq_true e]; exact List.mem_map_of_mem hq)
theorem copy_go {j : Nat} {ek ev : M D} {ρ : List Sl} {acc : Acc} (hn : (acc.map (·.1)).Nodup) (hl : acc.length ≤ lim)
    (hk : ∀ c t, ek ((unS ρ [j]).set j (.im (key c))) t = .ok (key c) ((unS ρ [j]).set j (.im (key c))) t) (hv : ∀ c v t, look acc c = some v → ev ((unS ρ [j]).set j (.im (key c))) t = .ok (.bl v) ((unS ρ [j]).set j (.im (key c))) t) :
    ∀ (post pre : Acc) (t : Pn), pre ++ post = acc → dcGo (gname j) (mr true) ek ev [j] ρ (ksD post) (ksD pre) (vsD pre) t = .ok (ksD acc, vsD acc) ρ t
  | [], pre, t, e => by
    rw [List.append_nil] at e
    subst e
    rfl
  | p :: post, pre, t, e => by
    have hm : p ∈ acc := by rw [← e]; exact List.mem_append_right _ List.mem_cons_self
    have hf : p.1 ∉ pre.map (·.1) := fun z => by
      rw [← e, List.map_append] at hn
      exact (List.nodup_append.mp hn).2.2 p.1 z p.1 (by rw [List.map_cons]; exact List.mem_cons_self) rfl
    have hlen : pre.length < lim := by
      have : acc.length = pre.length + (post.length + 1) := by rw [← e]; simp
      omega
    have hv' := hv p.1 p.2 t ((look_mem hn).mpr hm)
    show (((gname j) (key p.1) (unS ρ [j]) t).bind _) = _
    rw [show gname j (key p.1) (unS ρ [j]) t = .ok () ((unS ρ [j]).set j (.im (key p.1))) t from rfl, bind_ok]
    rw [show (mr true : M Bool) ((unS ρ [j]).set j (.im (key p.1))) t = .ok true ((unS ρ [j]).set j (.im (key p.1))) t from rfl, bind_ok, if_pos rfl, hk, bind_ok, hv', bind_ok]
    show (if sameKind (ksD pre) (key p.1) = true ∧ (ksD pre).length < lim then dcGo (gname j) (mr true) ek ev [j] ρ (ksD post) (dputK (ksD pre) (key p.1)) (dputV (ksD pre) (vsD pre) (key p.1) (.bl p.2)) t else .bad) = _
    rw [if_pos ⟨same_key pre p.1, by rw [len_ks]; exact hlen⟩, put_K (v := p.2), put_V, put_fresh hf]
    exact copy_go hn hl hk hv post (pre ++ [(p.1, p.2)]) t (by rw [← e, List.append_assoc]; rfl)
theorem copy_ok {j : Nat} {it ek ev : M D} {ρ : List Sl} {t : Pn} {acc : Acc} (hn : (acc.map (·.1)).Nodup) (hl : acc.length ≤ lim) (hit : it ρ t = .ok (aD acc) ρ t)
    (hk : ∀ c t, ek ((unS ρ [j]).set j (.im (key c))) t = .ok (key c) ((unS ρ [j]).set j (.im (key c))) t) (hv : ∀ c v t, look acc c = some v → ev ((unS ρ [j]).set j (.im (key c))) t = .ok (.bl v) ((unS ρ [j]).set j (.im (key c))) t) :
    dcKD it (gname j) (mr true) ek ev [j] ρ t = .ok (aD acc) ρ t := by
  unfold dcKD
  rw [eq_mb hit]
  show (dcGo (gname j) (mr true) ek ev [j] ρ (ksD acc) [] [] t).bind _ = _
  have e := copy_go (t := t) hn hl hk hv acc [] rfl
  have e : dcGo (gname j) (mr true) ek ev [j] ρ (ksD acc) [] [] t = .ok (ksD acc, vsD acc) ρ t := e
  rw [e]
  rfl
theorem dix_key {acc : Acc} {c : K6} {v : Bool} (h : look acc c = some v) (ρ : List Sl) (t : Pn) : dix (aD acc) (key c) ρ t = .ok (.bl v) ρ t := by
  have e : dlook (ksD acc) (vsD acc) (nk (key c)) = some (.bl v) := by rw [look_key, h]; rfl
  show dix (.dct (ksD acc) (vsD acc)) (key c) ρ t = _
  unfold dix
  simp only [same_key, if_true, e]
  rfl
/-- the book of a table -/
def bk (acc : Acc) : D := .obj "Book" ["_told"] [aD acc]
theorem told_ok {acc : Acc} (hn : (acc.map (·.1)).Nodup) (hl : acc.length ≤ lim) : (f_Book_told_rows [bk acc]).is (aD acc) := by
  have e : dcKD (mb (evar 0) (dfld ["Book"] "_told")) (gname 1) (mr true) (evar 1) (e2 dix (mb (evar 0) (dfld ["Book"] "_told")) (evar 1)) [1] [.im (bk acc), .un] pn0 = .ok (aD acc) [.im (bk acc), .un] pn0 :=
    copy_ok hn hl rfl (fun c t => rfl) fun c v t h => dix_key h _ _
  refine ⟨[.im (bk acc), .un], pn0, ?_⟩
  show runD m_Book_told_rows [.im (bk acc), .un] pn0 = _
  unfold runD m_Book_told_rows sret
  rw [show mb (dcKD (mb (evar 0) (dfld ["Book"] "_told")) (gname 1) (mr true) (evar 1) (e2 dix (mb (evar 0) (dfld ["Book"] "_told")) (evar 1)) [1]) (fun d => mr (Fl.rt d)) [.im (bk acc), .un] pn0 = _ from eq_mb e]
  rfl
theorem init_ok {acc : Acc} (hn : (acc.map (·.1)).Nodup) (hl : acc.length ≤ lim) (ρ : List Sl) (t : Pn) : callI "Book" f_Book__init [aD acc] ρ t = .ok (bk acc) ρ t := by
  have e : dcKD (evar 1) (gname 2) (mr true) (evar 2) (e2 dix (evar 1) (evar 2)) [2] [.sf [] [], .im (aD acc), .un] pn0 = .ok (aD acc) [.sf [] [], .im (aD acc), .un] pn0 :=
    copy_ok hn hl rfl (fun c t => rfl) fun c v t h => dix_key h _ _
  have e2 : f_Book__init [aD acc] = .ok (["_told"], [aD acc]) [.sf ["_told"] [aD acc], .im (aD acc), .un] pn0 := by
    show runI m_Book__init [.sf [] [], .im (aD acc), .un] pn0 = _
    unfold runI m_Book__init sfld
    rw [eq_mb e]
    rfl
  unfold callI
  rw [e2]
  rfl
theorem eq_ok {A B : Acc} (hA : A ≠ []) (hB : B ≠ []) (h : eqDct (ksD A) (vsD A) (ksD B) (vsD B) = true) (ρ : List Sl) (t : Pn) : deqA false (aD A) (aD B) ρ t = .ok (.bl true) ρ t := by
  show (if ((tdk (ksD A) = true ∧ tdk (ksD B) = true ∧ ksD A ≠ [] ∧ ksD B ≠ []) ∨ (mxk (ksD A) = true ∧ mxk (ksD B) = true)) ∧ (vsD A).all isS = true ∧ (vsD B).all isS = true then mr (.bl (if (false : Bool) = true then !eqDct (ksD A) (vsD A) (ksD B) (vsD B) else eqDct (ksD A) (vsD A) (ksD B) (vsD B))) else mx : M D) ρ t = _
  have al : ∀ C : Acc, (vsD C).all isS = true := fun C => by
    unfold vsD
    rw [List.all_map, List.all_eq_true]
    exact fun p _ => rfl
  have ne : ∀ {C : Acc}, C ≠ [] → ksD C ≠ [] := fun {C} h z => h (List.map_eq_nil_iff.mp z)
  rw [if_pos ⟨.inl ⟨tdk_ks A, tdk_ks B, ne hA, ne hB⟩, al A, al B⟩, h]
  rfl
theorem ne_ok' {A B : Acc} (hA : A ≠ []) (hB : B ≠ []) (h : eqDct (ksD A) (vsD A) (ksD B) (vsD B) = true) (ρ : List Sl) (t : Pn) : deqA true (aD A) (aD B) ρ t = .ok (.bl false) ρ t := by
  show (if ((tdk (ksD A) = true ∧ tdk (ksD B) = true ∧ ksD A ≠ [] ∧ ksD B ≠ []) ∨ (mxk (ksD A) = true ∧ mxk (ksD B) = true)) ∧ (vsD A).all isS = true ∧ (vsD B).all isS = true then mr (.bl (if (true : Bool) = true then !eqDct (ksD A) (vsD A) (ksD B) (vsD B) else eqDct (ksD A) (vsD A) (ksD B) (vsD B))) else mx : M D) ρ t = _
  have al : ∀ C : Acc, (vsD C).all isS = true := fun C => by
    unfold vsD
    rw [List.all_map, List.all_eq_true]
    exact fun p _ => rfl
  have ne : ∀ {C : Acc}, C ≠ [] → ksD C ≠ [] := fun {C} h z => h (List.map_eq_nil_iff.mp z)
  rw [if_pos ⟨.inl ⟨tdk_ks A, tdk_ks B, ne hA, ne hB⟩, al A, al B⟩, h]
  rfl
theorem beq_ok {A B : Acc} (hA : A ≠ []) (hB : B ≠ []) (h : eqDct (ksD A) (vsD A) (ksD B) (vsD B) = true) : (f_Book__eq [bk A, bk B]).is (.bl true) := by
  refine ⟨[.im (bk A), .im (bk B)], pn0, ?_⟩
  show runD m_Book__eq [.im (bk A), .im (bk B)] pn0 = _
  unfold runD m_Book__eq sret
  have e : eand (eiso "Book" (evar 1)) (e2 (deqA false) (mb (evar 0) (dfld ["Book"] "_told")) (mb (evar 1) (dfld ["Book"] "_told"))) [.im (bk A), .im (bk B)] pn0 = .ok (.bl true) [.im (bk A), .im (bk B)] pn0 := by
    show deqA false (aD A) (aD B) [.im (bk A), .im (bk B)] pn0 = _
    exact eq_ok hA hB h _ _
  rw [eq_mb e]
  rfl
end K38

set_option Elab.async false
set_option linter.all false
set_option maxRecDepth 100000
set_option maxHeartbeats 1000000
namespace K38
open PySem DL
/-! ### the program's book -/
theorem loopI {α : Type} {tgt : D → M Unit} {body : M Fl} {Sh : Acc → List Sl → Prop} {g : α → D} {its : α → Acc} {c : Nat} : ∀ (xs : List α) (acc : Acc) (ρ : List Sl) (t : Pn),
    (∀ x ∈ xs, (its x).length ≤ c) → (∀ acc x ρ t, x ∈ xs → acc.length + c ≤ lim → Sh acc ρ → (mb (tgt (g x)) (fun _ => body) ρ t).post (fun fl ρ' _ => fl = .nx ∧ Sh ((its x).foldl putP acc) ρ') noX) →
    acc.length + xs.length * c ≤ lim → Sh acc ρ → (forD tgt body (xs.map g) ρ t).post (fun fl ρ' _ => fl = .nx ∧ Sh ((xs.flatMap its).foldl putP acc) ρ') noX
  | [], acc, ρ, t, _, _, _, h => ⟨rfl, h⟩
  | x :: xs, acc, ρ, t, hs, hb, hl, h => by
    rw [List.length_cons, Nat.add_mul, Nat.one_mul] at hl
    have s := hb acc x ρ t List.mem_cons_self (by omega) h
    show (((tgt (g x)) ρ t).bind _).post _ noX
    refine p_b ?_
    have s' : ((tgt (g x) ρ t).bind fun _ => body).post _ noX := s
    refine post_mono (post_bind s') (fun _ ρ1 t1 q => ?_) fun _ _ _ _ h => h
    refine p_b (post_mono q (fun fl ρ2 t2 ⟨e, q2⟩ => ?_) fun _ _ _ _ h => h)
    subst e
    have h1 := fold_len (its x) acc
    have h2 := hs x List.mem_cons_self
    rw [List.flatMap_cons, List.foldl_append]
    exact loopI xs _ ρ2 t2 (fun x hx => hs x (List.mem_cons_of_mem _ hx)) (fun acc x ρ t hx => hb acc x ρ t (List.mem_cons_of_mem _ hx)) (by omega) q2
theorem flat_len {α : Type} {its : α → Acc} {c : Nat} : ∀ (xs : List α), (∀ x ∈ xs, (its x).length ≤ c) → (xs.flatMap its).length ≤ xs.length * c
  | [], _ => by simp
  | x :: xs, h => by
    rw [List.flatMap_cons, List.length_append, List.length_cons, Nat.add_mul, Nat.one_mul]
    have h1 := h x List.mem_cons_self
    have h2 := flat_len xs fun y hy => h y (List.mem_cons_of_mem _ hy)
    omega
abbrev Row := Str × Str × Str × Str × Option Bool × Option Bool
def optD : Option Bool → D
  | none => .non
  | some b => .bl b
def rowD (r : Row) : D := .tup [.str r.1, .str r.2.1, .str r.2.2.1, .str r.2.2.2.1, optD r.2.2.2.2.1, optD r.2.2.2.2.2]
theorem rows_eq : dl_SAME_WORD = rows6.map rowD := by rfl
def optI (c : K6) : Option Bool → Acc
  | none => []
  | some b => [(c, b)]
def rowI (r : Row) : Acc := optI (r.1, r.2.1, r.2.2.1, r.2.2.2.1, "same", true) r.2.2.2.2.1 ++ optI (r.1, r.2.1, r.2.2.1, r.2.2.2.1, "same", false) r.2.2.2.2.2
def ShB (acc : Acc) (ρ : List Sl) : Prop := ∃ x1 x2 x3 x4 x5 x6 x7, ρ = [.ow (aD acc), x1, x2, x3, x4, x5, x6, x7]
theorem keyB_ok {x y z w : D} {f k s l : Str} {r : Str} {b : Bool} {ρ : List Sl} {t : Pn} (h1 : ρ[1]? = some (.im (.str f))) (h2 : ρ[2]? = some (.im (.str k))) (h3 : ρ[3]? = some (.im (.str s))) (h4 : ρ[4]? = some (.im (.str l))) :
    (etup (acons (evar 1) (acons (evar 2) (acons (evar 3) (acons (evar 4) (acons (mr (D.str r)) (acons (mr (D.bl b)) anil))))))) ρ t = .ok (key (f, k, s, l, r, b)) ρ t := by
  have e : ∀ {i : Nat} {d : D}, ρ[i]? = some (.im d) → evar i ρ t = .ok d ρ t := fun {i d} h => by unfold evar; rw [h]
  unfold etup acons anil
  simp only [mb_ap, mr_ap, e h1, e h2, e h3, e h4, bind_ok']
  rw [if_pos (by show 6 ≤ lim; decide)]
  rfl
theorem evar_ok {i : Nat} {d : D} {ρ : List Sl} {t : Pn} (h : ρ[i]? = some (.im d)) : evar i ρ t = .ok d ρ t := by unfold evar; rw [h]
theorem enno_ok {i : Nat} {o : Option Bool} {ρ : List Sl} {t : Pn} (h : ρ[i]? = some (.im (optD o))) : asB (enno (evar i)) ρ t = .ok o.isSome ρ t := by
  refine eq_asB ?_
  unfold enno
  rw [eq_mb (evar_ok h)]
  cases o <;> rfl
theorem body1_ok (acc : Acc) (r : Row) (ρ : List Sl) (t : Pn) (hl : acc.length + 2 ≤ lim) (h : ShB acc ρ) :
    (mb (gtup 6 (gcons (gname 1) (gcons (gname 2) (gcons (gname 3) (gcons (gname 4) (gcons (gname 5) (gcons (gname 6) gnil)))))) (rowD r)) (fun _ => (sq (sif (asB (enno (evar 5))) (sput 0 (evar 5) (etup (acons (evar 1) (acons (evar 2) (acons (evar 3) (acons (evar 4) (acons (mr (D.str "same")) (acons (mr (D.bl true)) anil)))))))) (mr Fl.nx)) (sif (asB (enno (evar 6))) (sput 0 (evar 6) (etup (acons (evar 1) (acons (evar 2) (acons (evar 3) (acons (evar 4) (acons (mr (D.str "same")) (acons (mr (D.bl false)) anil)))))))) (mr Fl.nx)))) ρ t).post (fun fl ρ' _ => fl = .nx ∧ ShB ((rowI r).foldl putP acc) ρ') noX := by
  obtain ⟨x1, x2, x3, x4, x5, x6, x7, rfl⟩ := h
  obtain ⟨f, k, s, l, a, u⟩ := r
  rw [eq_mb (show gtup 6 (gcons (gname 1) (gcons (gname 2) (gcons (gname 3) (gcons (gname 4) (gcons (gname 5) (gcons (gname 6) gnil)))))) (rowD (f, k, s, l, a, u)) [.ow (aD acc), x1, x2, x3, x4, x5, x6, x7] t = .ok () [.ow (aD acc), .im (.str f), .im (.str k), .im (.str s), .im (.str l), .im (optD a), .im (optD u), x7] t from rfl)]
  have last : ∀ acc : Acc, acc.length + 1 ≤ lim → (sif (asB (enno (evar 6))) (sput 0 (evar 6) (etup (acons (evar 1) (acons (evar 2) (acons (evar 3) (acons (evar 4) (acons (mr (D.str "same")) (acons (mr (D.bl false)) anil)))))))) (mr Fl.nx) [.ow (aD acc), .im (.str f), .im (.str k), .im (.str s), .im (.str l), .im (optD a), .im (optD u), x7] t).post (fun fl ρ' _ => fl = .nx ∧ ShB ((optI (f, k, s, l, "same", false) u).foldl putP acc) ρ') noX := fun acc hl => by
    rw [eq_if (enno_ok rfl)]
    cases u with
    | none => exact ⟨rfl, _, _, _, _, _, _, _, rfl⟩
    | some b => exact p_put (acc := acc) (c := (f, k, s, l, "same", false)) (v := b) rfl (by omega) rfl (keyB_ok (x := .non) (y := .non) (z := .non) (w := .non) rfl rfl rfl rfl) ⟨rfl, _, _, _, _, _, _, _, rfl⟩
  have h1 : (optI (f, k, s, l, "same", true) a).length ≤ 1 := by cases a <;> simp [optI]
  have h2 := fold_len (optI (f, k, s, l, "same", true) a) acc
  refine p_sq ?_
  rw [eq_if (enno_ok rfl)]
  have fin : ∀ ρ', ρ' = [.ow (aD ((optI (f, k, s, l, "same", true) a).foldl putP acc)), .im (.str f), .im (.str k), .im (.str s), .im (.str l), .im (optD a), .im (optD u), x7] → nxP (sif (asB (enno (evar 6))) (sput 0 (evar 6) (etup (acons (evar 1) (acons (evar 2) (acons (evar 3) (acons (evar 4) (acons (mr (D.str "same")) (acons (mr (D.bl false)) anil)))))))) (mr Fl.nx)) (fun fl ρ' _ => fl = .nx ∧ ShB ((rowI (f, k, s, l, a, u)).foldl putP acc) ρ') noX .nx ρ' t := fun ρ' e => by
    subst e
    refine p_nx ?_
    have := last _ (show ((optI (f, k, s, l, "same", true) a).foldl putP acc).length + 1 ≤ lim by omega)
    rw [← List.foldl_append] at this
    exact this
  cases a with
  | none => exact fin _ rfl
  | some b => exact p_put (acc := acc) (c := (f, k, s, l, "same", true)) (v := b) rfl (by omega) rfl (keyB_ok (x := .non) (y := .non) (z := .non) (w := .non) rfl rfl rfl rfl) (fin _ rfl)
def unl (f s : Str) : List K6 := (kds f).flatMap fun k => (kds s).flatMap fun l => (["within", "around", "apart"] : List Str).flatMap fun r => [true, false].map fun a => (f, k, s, l, r, a)
def eqK (d : D) (c : K6) : Bool := match d with
  | .tup [.str a, .str b, .str x, .str y, .str z, .bl w] => decide (a = c.1) && (decide (b = c.2.1) && (decide (x = c.2.2.1) && (decide (y = c.2.2.2.1) && (decide (z = c.2.2.2.2.1) && decide (w = c.2.2.2.2.2)))))
  | _ => false
theorem eqK_ok {d : D} {c : K6} (h : eqK d c = true) : d = key c := by
  unfold eqK at h
  split at h
  · simp only [Bool.and_eq_true, decide_eq_true_eq] at h
    obtain ⟨rfl, rfl, rfl, rfl, rfl, rfl⟩ := h
    rfl
  · cases h
def eqKs : List D → List K6 → Bool
  | [], [] => true
  | d :: ds, c :: cs => eqK d c && eqKs ds cs
  | _, _ => false
theorem eqKs_ok : ∀ {ds : List D} {cs : List K6}, eqKs ds cs = true → ds = cs.map key
  | [], [], _ => rfl
  | d :: ds, c :: cs, h => by
    have h' : (eqK d c && eqKs ds cs) = true := h
    rw [Bool.and_eq_true] at h'
    rw [eqK_ok h'.1, eqKs_ok h'.2]; rfl
  | [], _ :: _, h => by cases h
  | _ :: _, [], h => by cases h
def unlB (r : Ou D) (cs : List K6) : Bool := match r with
  | .ok (.lst ds) _ _ => eqKs ds cs
  | _ => false
theorem unlB_ok {r : Ou D} {cs : List K6} (h : unlB r cs = true) : r.is (.lst (cs.map key)) := by
  unfold unlB at h
  split at h
  · rename_i ds ρ t
    rw [eqKs_ok h]
    exact ⟨ρ, t, rfl⟩
  · cases h
theorem unl_all : (ks_BOOK_KINDS.all fun f => ks_BOOK_KINDS.all fun s => unlB (f_unlike_word_keys [.str f, .str s]) (unl f s)) = true := by decide +kernel
theorem unl_ok {f s : Str} (hf : f ∈ ks_BOOK_KINDS) (hs : s ∈ ks_BOOK_KINDS) : (f_unlike_word_keys [.str f, .str s]).is (.lst ((unl f s).map key)) :=
  unlB_ok (List.all_eq_true.mp (List.all_eq_true.mp unl_all f hf) s hs)
theorem kds_len (f : Str) : (kds f).length = 2 := by unfold kds; split <;> rfl
theorem unl_len (f s : Str) : (unl f s).length ≤ 24 := by
  unfold unl
  have h : ∀ {α : Type} (xs : List Str) (g : Str → List α) (c : Nat), (∀ x, (g x).length ≤ c) → (xs.flatMap g).length ≤ xs.length * c := fun {α} xs g c hg => by
    induction xs with
    | nil => simp
    | cons x xs ih =>
      rw [List.flatMap_cons, List.length_append, List.length_cons, Nat.add_mul, Nat.one_mul]
      have := hg x
      omega
  have h3 : ∀ k l : Str, ((["within", "around", "apart"] : List Str).flatMap fun r => [true, false].map fun a => ((f, k, s, l, r, a) : K6)).length ≤ 6 := fun k l => Nat.le_of_eq rfl
  have h2 : ∀ k : Str, ((kds s).flatMap fun l => (["within", "around", "apart"] : List Str).flatMap fun r => [true, false].map fun a => ((f, k, s, l, r, a) : K6)).length ≤ 12 := fun k => by
    have := h (kds s) _ 6 (h3 k)
    rw [kds_len] at this
    exact this
  have := h (kds f) _ 12 h2
  rw [kds_len] at this
  exact this
def unlI (f : Str) : Acc := ks_BOOK_KINDS.flatMap fun s => (unl f s).map fun c => (c, true)
def itemsB : Acc := rows6.flatMap rowI ++ ks_BOOK_KINDS.flatMap unlI
theorem rowI_len (r : Row) : (rowI r).length ≤ 2 := by
  obtain ⟨f, k, s, l, a, u⟩ := r
  unfold rowI
  cases a <;> cases u <;> simp [optI]
theorem flat_one {α β : Type} (g : α → β) : ∀ xs : List α, (xs.flatMap fun x => [g x]) = xs.map g
  | [] => rfl
  | x :: xs => by rw [List.flatMap_cons, flat_one g xs]; rfl
@[irreducible] def kb1 : M Fl := (sfor (mb (mr d_SAME_WORD) items) (gtup 6 (gcons (gname 1) (gcons (gname 2) (gcons (gname 3) (gcons (gname 4) (gcons (gname 5) (gcons (gname 6) gnil))))))) (sq (sif (asB (enno (evar 5))) (sput 0 (evar 5) (etup (acons (evar 1) (acons (evar 2) (acons (evar 3) (acons (evar 4) (acons (mr (D.str "same")) (acons (mr (D.bl true)) anil)))))))) (mr Fl.nx)) (sif (asB (enno (evar 6))) (sput 0 (evar 6) (etup (acons (evar 1) (acons (evar 2) (acons (evar 3) (acons (evar 4) (acons (mr (D.str "same")) (acons (mr (D.bl false)) anil)))))))) (mr Fl.nx))))
@[irreducible] def kb2 : M Fl := (sfor (mr (ks_BOOK_KINDS.map D.str)) (gname 1) (sfor (mr (ks_BOOK_KINDS.map D.str)) (gname 3) (sfor (mb (mb (acons (evar 1) (acons (evar 3) anil)) fun ds => call0 f_unlike_word_keys (ds ++ [])) items) (gname 7) (sput 0 (mr (D.bl true)) (evar 7)))))
@[irreducible] def kb3 : M Fl := (sq (frz 0) (sret (mb (acons (evar 0) anil) fun ds => callI "Book" f_Book__init (ds ++ []))))
theorem m_known_eq : m_known_book = sq (asgO 0 (mr (D.dct [] []))) (sq kb1 (sq kb2 kb3)) := by
  unfold m_known_book kb1 kb2 kb3
  rfl
theorem loop1_ok (ρ : List Sl) (t : Pn) (h : ShB [] ρ) : (kb1 ρ t).post (fun fl ρ' _ => fl = .nx ∧ ShB ((rows6.flatMap rowI).foldl putP []) ρ') noX := by
  unfold kb1 sfor
  rw [eq_mb (show mb (mr d_SAME_WORD) items ρ t = .ok (rows6.map rowD) ρ t by rw [← rows_eq]; rfl)]
  exact loopI (c := 2) rows6 [] ρ t (fun r _ => rowI_len r) (fun acc r ρ t _ hl h => body1_ok acc r ρ t hl h) (by show 0 + 56 * 2 ≤ lim; decide) h
theorem loop2_ok (acc : Acc) (ρ : List Sl) (t : Pn) (hl : acc.length + 600 ≤ lim) (h : ShB acc ρ) : (kb2 ρ t).post (fun fl ρ' _ => fl = .nx ∧ ShB ((ks_BOOK_KINDS.flatMap unlI).foldl putP acc) ρ') noX := by
  unfold kb2 sfor
  rw [eq_mb (show (mr (ks_BOOK_KINDS.map D.str) : M (List D)) ρ t = .ok (ks_BOOK_KINDS.map D.str) ρ t from rfl)]
  have l24 : ∀ f s : Str, ((unl f s).map fun c => (c, true)).length ≤ 24 := fun f s => by rw [List.length_map]; exact unl_len f s
  have l120 : ∀ f : Str, (unlI f).length ≤ 120 := fun f => flat_len (c := 24) ks_BOOK_KINDS fun s _ => l24 f s
  refine loopI (c := 120) ks_BOOK_KINDS acc ρ t (fun f _ => l120 f) (fun acc f ρ t hf hl h => ?_) hl h
  obtain ⟨x1, x2, x3, x4, x5, x6, x7, rfl⟩ := h
  rw [eq_mb (show gname 1 (.str f) [.ow (aD acc), x1, x2, x3, x4, x5, x6, x7] t = .ok () [.ow (aD acc), .im (.str f), x2, x3, x4, x5, x6, x7] t from rfl)]
  rw [eq_mb (show (mr (ks_BOOK_KINDS.map D.str) : M (List D)) [.ow (aD acc), .im (.str f), x2, x3, x4, x5, x6, x7] t = .ok (ks_BOOK_KINDS.map D.str) [.ow (aD acc), .im (.str f), x2, x3, x4, x5, x6, x7] t from rfl)]
  refine post_mono (loopI (Sh := fun acc ρ => ∃ x2 x3 x4 x5 x6 x7, ρ = [.ow (aD acc), .im (.str f), x2, x3, x4, x5, x6, x7]) (its := fun s => (unl f s).map fun c => (c, true)) (c := 24) ks_BOOK_KINDS acc _ t (fun s _ => l24 f s) (fun acc s ρ t hs hl h => ?_) hl ⟨_, _, _, _, _, _, rfl⟩) (fun fl ρ' t' q => ?_) fun _ _ _ _ h => h
  · obtain ⟨x2, x3, x4, x5, x6, x7, rfl⟩ := h
    rw [eq_mb (show gname 3 (.str s) [.ow (aD acc), .im (.str f), x2, x3, x4, x5, x6, x7] t = .ok () [.ow (aD acc), .im (.str f), x2, .im (.str s), x4, x5, x6, x7] t from rfl)]
    obtain ⟨ρ0, t0, e0⟩ := unl_ok hf hs
    have e1 : mb (mb (acons (evar 1) (acons (evar 3) anil)) fun ds => call0 f_unlike_word_keys (ds ++ [])) items [.ow (aD acc), .im (.str f), x2, .im (.str s), x4, x5, x6, x7] t = .ok ((unl f s).map key) [.ow (aD acc), .im (.str f), x2, .im (.str s), x4, x5, x6, x7] t := by
      have e2 : (mb (acons (evar 1) (acons (evar 3) anil)) fun ds => call0 f_unlike_word_keys (ds ++ [])) [.ow (aD acc), .im (.str f), x2, .im (.str s), x4, x5, x6, x7] t = .ok (.lst ((unl f s).map key)) [.ow (aD acc), .im (.str f), x2, .im (.str s), x4, x5, x6, x7] t := by
        show call0 f_unlike_word_keys [.str f, .str s] _ t = _
        unfold call0
        rw [e0]
        rfl
      rw [eq_mb e2]
      rfl
    rw [eq_mb e1]
    have q := loopI (tgt := gname 7) (body := sput 0 (mr (D.bl true)) (evar 7)) (Sh := fun acc ρ => ∃ x2 x4 x5 x6 x7, ρ = [.ow (aD acc), .im (.str f), x2, .im (.str s), x4, x5, x6, x7]) (g := key) (its := fun c => [(c, true)]) (c := 1) (unl f s) acc [.ow (aD acc), .im (.str f), x2, .im (.str s), x4, x5, x6, x7] t (fun _ _ => Nat.le_refl 1) (fun acc c ρ t _ hl h => by
      obtain ⟨x2, x4, x5, x6, x7, rfl⟩ := h
      rw [eq_mb (show gname 7 (key c) [.ow (aD acc), .im (.str f), x2, .im (.str s), x4, x5, x6, x7] t = .ok () [.ow (aD acc), .im (.str f), x2, .im (.str s), x4, x5, x6, .im (key c)] t from rfl)]
      exact p_put (acc := acc) (c := c) (v := true) rfl (by omega) rfl (evar_ok rfl) ⟨rfl, _, _, _, _, _, rfl⟩) (by have := unl_len f s; omega) ⟨_, _, _, _, _, rfl⟩
    rw [flat_one] at q
    exact post_mono q (fun fl ρ' t' q => ⟨q.1, by obtain ⟨_, a, b, c, d, e, z⟩ := q; exact ⟨_, _, _, _, _, _, z⟩⟩) fun _ _ _ _ h => h
  · obtain ⟨e, x2, x3, x4, x5, x6, x7, e2⟩ := q
    exact ⟨e, _, _, _, _, _, _, _, e2⟩
theorem run_eq {f f' : M Fl} {ρ ρ' : List Sl} {t t' : Pn} (h : f ρ t = f' ρ' t') : runD f ρ t = runD f' ρ' t' := by
  unfold runD
  rw [h]
theorem run_is {f : M Fl} {ρ : List Sl} {t : Pn} {d : D} (h : (f ρ t).post (fun fl _ _ => fl = .rt d) noX) : (runD f ρ t).is d := by
  unfold runD
  cases e : f ρ t with
  | ok fl ρ1 t1 =>
    rw [e] at h
    have h : fl = .rt d := h
    subst h
    exact ⟨ρ1, t1, rfl⟩
  | ex _ _ _ _ => rw [e] at h; exact h.elim
  | bad => rw [e] at h; exact h.elim
theorem fn0_nil {n : Nat} {f : M Fl} : fn0 0 n f [] = runD f (ent n []) pn0 := if_pos rfl
theorem preB (k : M Fl) : sq (asgO 0 (mr (D.dct [] []))) k [.un, .un, .un, .un, .un, .un, .un, .un] pn0 = k [.ow (aD []), .un, .un, .un, .un, .un, .un, .un] pn0 := by
  kernel_rfl
theorem known_ok (hn : (itemsB.map (·.1)).Nodup) : (f_known_book []).is (bk itemsB) := by
  have l1 : (rows6.flatMap rowI).length ≤ 112 := flat_len (c := 2) rows6 fun r _ => rowI_len r
  have l2 : (ks_BOOK_KINDS.flatMap unlI).length ≤ 600 := flat_len (c := 120) ks_BOOK_KINDS fun f _ => flat_len (c := 24) ks_BOOK_KINDS fun s _ => by rw [List.length_map]; exact unl_len f s
  have lB : itemsB.length ≤ lim := by
    unfold itemsB
    rw [List.length_append]
    have : 712 ≤ lim := by decide
    omega
  have p : ∀ (ρ0 : List Sl) (t : Pn), ShB [] ρ0 → ((sq kb1 (sq kb2 kb3)) ρ0 t).post (fun fl _ _ => fl = .rt (bk itemsB)) noX := fun ρ0 t h0 => by
    refine p_sq ?_
    refine post_mono (loop1_ok _ _ h0) (fun fl ρ1 t1 ⟨e, h⟩ => ?_) fun _ _ _ _ h => h
    subst e
    refine p_nx ?_
    refine p_sq ?_
    have hl := fold_len (rows6.flatMap rowI) []
    rw [List.length_nil] at hl
    have : 712 ≤ lim := by decide
    refine post_mono (loop2_ok _ ρ1 t1 (by omega) h) (fun fl ρ2 t2 ⟨e, h⟩ => ?_) fun _ _ _ _ h => h
    subst e
    refine p_nx ?_
    rw [← List.foldl_append, show rows6.flatMap rowI ++ ks_BOOK_KINDS.flatMap unlI = itemsB from rfl, fold_put (by rw [List.nil_append]; exact hn), List.nil_append] at h
    generalize itemsB = I at hn lB h ⊢
    obtain ⟨x1, x2, x3, x4, x5, x6, x7, rfl⟩ := h
    unfold kb3
    refine p_sq <| p_frz rfl <| p_nx ?_
    refine p_sret ?_
    have e1 : acons (evar 0) anil [.im (aD I), x1, x2, x3, x4, x5, x6, x7] t2 = .ok [aD I] [.im (aD I), x1, x2, x3, x4, x5, x6, x7] t2 := rfl
    have e : (mb (acons (evar 0) anil) fun ds => callI "Book" f_Book__init (ds ++ [])) [.im (aD I), x1, x2, x3, x4, x5, x6, x7] t2 = .ok (bk I) [.im (aD I), x1, x2, x3, x4, x5, x6, x7] t2 := by
      rw [eq_mb e1, show [aD I] ++ ([] : List D) = [aD I] from rfl]
      exact init_ok hn lB _ _
    refine p_eq e ?_
    rfl
  have q := p [.ow (aD []), .un, .un, .un, .un, .un, .un, .un] pn0 ⟨_, _, _, _, _, _, _, rfl⟩
  have e0 : f_known_book [] = runD (sq kb1 (sq kb2 kb3)) [.ow (aD []), .un, .un, .un, .un, .un, .un, .un] pn0 := by
    have h := run_eq (preB (sq kb1 (sq kb2 kb3)))
    rw [← h, ← m_known_eq]
    exact fn0_nil
  rw [e0]
  exact run_is q
end K38

set_option Elab.async false
set_option maxRecDepth 100000
set_option maxHeartbeats 0
namespace K38
open PySem DL
theorem due_has_has : chk "has" "has" = true := by decide +kernel
theorem due_has_put : chk "has" "put" = true := by decide +kernel
theorem due_has_set : chk "has" "set" = true := by decide +kernel
theorem due_has_strike : chk "has" "strike" = true := by decide +kernel
theorem due_has_get : chk "has" "get" = true := by decide +kernel
end K38

set_option Elab.async false
set_option maxRecDepth 100000
set_option maxHeartbeats 0
namespace K38
open PySem DL
theorem due_put_has : chk "put" "has" = true := by decide +kernel
theorem due_put_put : chk "put" "put" = true := by decide +kernel
theorem due_put_set : chk "put" "set" = true := by decide +kernel
theorem due_put_strike : chk "put" "strike" = true := by decide +kernel
theorem due_put_get : chk "put" "get" = true := by decide +kernel
end K38

set_option Elab.async false
set_option maxRecDepth 100000
set_option maxHeartbeats 0
namespace K38
open PySem DL
theorem due_set_has : chk "set" "has" = true := by decide +kernel
theorem due_set_put : chk "set" "put" = true := by decide +kernel
theorem due_set_set : chk "set" "set" = true := by decide +kernel
theorem due_set_strike : chk "set" "strike" = true := by decide +kernel
theorem due_set_get : chk "set" "get" = true := by decide +kernel
end K38

set_option Elab.async false
set_option maxRecDepth 100000
set_option maxHeartbeats 0
namespace K38
open PySem DL
theorem due_strike_has : chk "strike" "has" = true := by decide +kernel
theorem due_strike_put : chk "strike" "put" = true := by decide +kernel
theorem due_strike_set : chk "strike" "set" = true := by decide +kernel
theorem due_strike_strike : chk "strike" "strike" = true := by decide +kernel
theorem due_strike_get : chk "strike" "get" = true := by decide +kernel
end K38

set_option Elab.async false
set_option maxRecDepth 100000
set_option maxHeartbeats 0
namespace K38
open PySem DL
theorem due_get_has : chk "get" "has" = true := by decide +kernel
theorem due_get_put : chk "get" "put" = true := by decide +kernel
theorem due_get_set : chk "get" "set" = true := by decide +kernel
theorem due_get_strike : chk "get" "strike" = true := by decide +kernel
theorem due_get_get : chk "get" "get" = true := by decide +kernel
end K38

set_option linter.all false
namespace K38
open PySem DL
theorem due_all : ∀ f ∈ nms, ∀ s ∈ nms, chk f s = true := by
  intro f hf s hs
  simp only [nms, List.mem_cons, List.not_mem_nil, or_false] at hf hs
  rcases hf with rfl | rfl | rfl | rfl | rfl <;> rcases hs with rfl | rfl | rfl | rfl | rfl
  · exact due_has_has
  · exact due_has_put
  · exact due_has_set
  · exact due_has_strike
  · exact due_has_get
  · exact due_put_has
  · exact due_put_put
  · exact due_put_set
  · exact due_put_strike
  · exact due_put_get
  · exact due_set_has
  · exact due_set_put
  · exact due_set_set
  · exact due_set_strike
  · exact due_set_get
  · exact due_strike_has
  · exact due_strike_put
  · exact due_strike_set
  · exact due_strike_strike
  · exact due_strike_get
  · exact due_get_has
  · exact due_get_put
  · exact due_get_set
  · exact due_get_strike
  · exact due_get_get
end K38

set_option Elab.async false
set_option linter.all false
set_option maxRecDepth 100000
set_option maxHeartbeats 1000000
namespace K38
open PySem DL
/-! ### the law's own table -/
theorem okO_ok {v : Option Bool} {r : Ou D} (h : okO v r = true) : r.is (optD v) := by
  unfold okO at h
  split at h
  · rename_i d ρ t
    split at h
    · rename_i a b
      rw [eq_of_beq h]
      exact ⟨ρ, t, rfl⟩
    · exact ⟨ρ, t, rfl⟩
    · cases h
  · cases h
theorem due_ok {f k s l : Str} (hf : f ∈ nms) (hs : s ∈ nms) (hk : k ∈ kds f) (hl : l ∈ kds s) (w a : Bool) : (f_law_due [one f k "a" 1, one s l (if w = true then "a" else "b") (if a = true then 1 else 2)]).is (optD (expT f k s l w a)) := by
  have h := due_all f hf s hs
  unfold chk at h
  have h := List.all_eq_true.mp (List.all_eq_true.mp h k hk) l hl
  have h := List.all_eq_true.mp (List.all_eq_true.mp h a (by cases a <;> decide)) w (by cases w <;> decide)
  exact okO_ok h
def rels : List Str := ["same", "within", "around", "apart"]
def itR (f k s l : Str) (a : Bool) (r : Str) : Acc := optI (f, k, s, l, r, a) (expT f k s l (decide (r = "same")) a)
def itA (f k s l : Str) (a : Bool) : Acc := rels.flatMap (itR f k s l a)
def itL (f k s l : Str) : Acc := [true, false].flatMap (itA f k s l)
def itK (f s k : Str) : Acc := (kds s).flatMap (itL f k s)
def itS (f s : Str) : Acc := (kds f).flatMap (itK f s)
def itF (f : Str) : Acc := nms.flatMap (itS f)
def itemsA : Acc := nms.flatMap itF
theorem len_R (f k s l : Str) (a : Bool) (r : Str) : (itR f k s l a r).length ≤ 1 := by unfold itR optI; split <;> simp
theorem len_A (f k s l : Str) (a : Bool) : (itA f k s l a).length ≤ 4 := flat_len (c := 1) rels fun r _ => len_R f k s l a r
theorem len_L (f k s l : Str) : (itL f k s l).length ≤ 8 := flat_len (c := 4) [true, false] fun a _ => len_A f k s l a
theorem len_K (f s k : Str) : (itK f s k).length ≤ 16 := by
  have := flat_len (its := itL f k s) (c := 8) (kds s) fun l _ => len_L f k s l
  rw [kds_len] at this
  exact this
theorem len_S (f s : Str) : (itS f s).length ≤ 32 := by
  have := flat_len (its := itK f s) (c := 16) (kds f) fun k _ => len_K f s k
  rw [kds_len] at this
  exact this
theorem len_F (f : Str) : (itF f).length ≤ 160 := flat_len (c := 32) nms fun s _ => len_S f s
def kdsD (f : Str) : D := .lst ((kds f).map D.str)
def kindsD : D := .dct (nms.map D.str) (nms.map kdsD)
@[irreducible] def la_body : M Fl := (sq (spar 11 12 (acons (eif (asB (e2 deq (evar 9) (mr (D.str "same")))) (mr (D.str "a")) (mr (D.str "b"))) (acons (eif (btru (evar 7)) (mr (D.int 1)) (mr (D.int 2))) anil))) (sq (asg 10 (mb (acons (evar 8) (acons (etup (acons (evar 3) (acons (evar 6) (acons (evar 11) (acons (evar 12) anil))))) anil)) fun ds => call0 f_law_due (ds ++ []))) (sif (asB (enno (evar 10))) (sput 1 (evar 10) (etup (acons (evar 2) (acons (evar 4) (acons (evar 3) (acons (evar 6) (acons (evar 9) (acons (evar 7) anil)))))))) (mr Fl.nx))))
@[irreducible] def la_rel : M Fl := (sfor (mb (elst (acons (mr (D.str "same")) (acons (mr (D.str "within")) (acons (mr (D.str "around")) (acons (mr (D.str "apart")) anil))))) items) (gname 9) la_body)
@[irreducible] def la_al : M Fl := (sfor (mb (etup (acons (mr (D.bl true)) (acons (mr (D.bl false)) anil))) items) (gname 7) (sq (asg 8 (etup (acons (evar 2) (acons (evar 4) (acons (mr (D.str "a")) (acons (mr (D.int 1)) anil)))))) la_rel))
@[irreducible] def la_lat : M Fl := (sfor (mb (e2 dix (evar 0) (evar 3)) items) (gname 6) la_al)
@[irreducible] def la_kin : M Fl := (sfor (mb (e2 dix (evar 0) (evar 2)) items) (gname 4) la_lat)
@[irreducible] def la_sec : M Fl := (sforK (evar 0) (gname 3) la_kin)
@[irreducible] def la_fst : M Fl := (sforK (evar 0) (gname 2) la_sec)
@[irreducible] def la_end : M Fl := (sq (frz 1) (sret (evar 1)))
@[irreducible] def la_set : M D := (mb (acons (lcD (mb (elst (acons (mr (D.str "has")) (acons (mr (D.str "put")) (acons (mr (D.str "set")) (acons (mr (D.str "strike")) anil))))) items) (gname 5) (mr true) (etup (acons (evar 5) (acons (elst (acons (mr (D.str "yes")) (acons (mr (D.str "no")) anil))) anil))) [5]) anil) ddict)
theorem m_all_eq : m_law_all = sq (asgO 0 la_set) (sq (sput 0 (elst (acons (mr (D.str "is")) (acons (mr (D.str "no")) anil))) (mr (D.str "get"))) (sq (asgO 1 (mr (D.dct [] []))) (sq (frz 0) (sq la_fst la_end)))) := by
  unfold m_law_all la_set la_fst la_sec la_kin la_lat la_al la_rel la_body la_end
  rfl

theorem kind_at {i : Nat} {f : Str} (hf : f ∈ nms) {ρ : List Sl} {t : Pn} (h0 : ρ[0]? = some (.im kindsD)) (h1 : ρ[i]? = some (.im (.str f))) : mb (e2 dix (evar 0) (evar i)) items ρ t = .ok ((kds f).map D.str) ρ t := by
  have e : e2 dix (evar 0) (evar i) ρ t = .ok (kdsD f) ρ t := by
    unfold e2
    rw [eq_mb (evar_ok h0), eq_mb (evar_ok h1)]
    simp only [nms, List.mem_cons, List.not_mem_nil, or_false] at hf
    rcases hf with rfl | rfl | rfl | rfl | rfl <;> rfl
  rw [eq_mb e]
  rfl
theorem rels_all : (rels.all fun x => plain 60 (.str x) && (PyData.eqv (toP (.str x)) (toP (.str "same")) == decide (x = "same"))) = true := by decide +kernel
theorem deq_same {r : Str} (hr : r ∈ rels) (ρ : List Sl) (t : Pn) : deq (.str r) (.str "same") ρ t = .ok (.bl (decide (r = "same"))) ρ t := by
  have h := List.all_eq_true.mp rels_all r hr
  have h0 := List.all_eq_true.mp rels_all "same" (by unfold rels; exact List.mem_cons_self)
  rw [Bool.and_eq_true] at h h0
  unfold deq
  rw [if_pos ⟨h.1, h0.1⟩, eq_of_beq h.2]
  rfl
theorem eq_acons {f : M D} {h : M (List D)} {d : D} {ds : List D} {ρ : List Sl} {t : Pn} (e1 : f ρ t = .ok d ρ t) (e2 : h ρ t = .ok ds ρ t) : acons f h ρ t = .ok (d :: ds) ρ t := by
  unfold acons
  rw [eq_mb e1, eq_mb e2]
  rfl
theorem eq_etup {h : M (List D)} {ds : List D} {ρ : List Sl} {t : Pn} (e : h ρ t = .ok ds ρ t) (hl : ds.length ≤ lim) : etup h ρ t = .ok (.tup ds) ρ t := by
  unfold etup
  rw [eq_mb e, if_pos hl]
  rfl
theorem body_ok {f k s l : Str} {a : Bool} {r : Str} {acc : Acc} {x5 x9 x10 x11 x12 : Sl} {t : Pn} (hf : f ∈ nms) (hs : s ∈ nms) (hk : k ∈ kds f) (hl : l ∈ kds s) (hr : r ∈ rels) (hlen : acc.length + 1 ≤ lim) :
    (mb (gname 9 (.str r)) (fun _ => la_body) [.im kindsD, .ow (aD acc), .im (.str f), .im (.str s), .im (.str k), x5, .im (.str l), .im (.bl a), .im (one f k "a" 1), x9, x10, x11, x12] t).post (fun fl ρ' _ => fl = .nx ∧ ∃ x9 x10 x11 x12, ρ' = [.im kindsD, .ow (aD ((itR f k s l a r).foldl putP acc)), .im (.str f), .im (.str s), .im (.str k), x5, .im (.str l), .im (.bl a), .im (one f k "a" 1), x9, x10, x11, x12]) noX := by
  rw [eq_mb (show gname 9 (.str r) [.im kindsD, .ow (aD acc), .im (.str f), .im (.str s), .im (.str k), x5, .im (.str l), .im (.bl a), .im (one f k "a" 1), x9, x10, x11, x12] t = .ok () [.im kindsD, .ow (aD acc), .im (.str f), .im (.str s), .im (.str k), x5, .im (.str l), .im (.bl a), .im (one f k "a" 1), .im (.str r), x10, x11, x12] t from rfl)]
  generalize hK : kindsD = K0
  have w : ∃ b : Bool, b = decide (r = "same") ∧ ∀ ρ : List Sl, ρ[9]? = some (.im (.str r)) → ρ[7]? = some (.im (.bl a)) → acons (eif (asB (e2 deq (evar 9) (mr (D.str "same")))) (mr (D.str "a")) (mr (D.str "b"))) (acons (eif (btru (evar 7)) (mr (D.int 1)) (mr (D.int 2))) anil) ρ t = .ok [.str (if b = true then "a" else "b"), .int (if a = true then 1 else 2)] ρ t := by
    refine ⟨decide (r = "same"), rfl, fun ρ h9 h7 => ?_⟩
    have d1 : e2 deq (evar 9) (mr (D.str "same")) ρ t = .ok (.bl (decide (r = "same"))) ρ t := by
      unfold e2
      rw [eq_mb (evar_ok h9), eq_mb (show (mr (D.str "same") : M D) ρ t = .ok (D.str "same") ρ t from rfl)]
      exact deq_same hr ρ t
    have d2 : eif (asB (e2 deq (evar 9) (mr (D.str "same")))) (mr (D.str "a")) (mr (D.str "b")) ρ t = .ok (.str (if decide (r = "same") = true then "a" else "b")) ρ t := by
      rw [eq_eif (eq_asB d1)]
      cases decide (r = "same") <;> rfl
    have d3 : eif (btru (evar 7)) (mr (D.int 1)) (mr (D.int 2)) ρ t = .ok (.int (if a = true then 1 else 2)) ρ t := by
      rw [eq_eif (eq_btru (b := a) (evar_ok h7) rfl)]
      cases a <;> rfl
    exact eq_acons d2 (eq_acons d3 rfl)
  obtain ⟨b, hb, w⟩ := w
  unfold la_body
  refine p_sq <| p_spar ?_
  rw [w _ rfl rfl]
  refine ⟨_, _, rfl, p_nx ?_⟩
  refine p_sq <| p_asg ?_
  obtain ⟨ρ0, t0, e0⟩ := due_ok hf hs hk hl b a
  have e1 : (mb (acons (evar 8) (acons (etup (acons (evar 3) (acons (evar 6) (acons (evar 11) (acons (evar 12) anil))))) anil)) fun ds => call0 f_law_due (ds ++ [])) [.im K0, .ow (aD acc), .im (.str f), .im (.str s), .im (.str k), x5, .im (.str l), .im (.bl a), .im (one f k "a" 1), .im (.str r), x10, .im (.str (if b = true then "a" else "b")), .im (.int (if a = true then 1 else 2))] t = .ok (optD (expT f k s l b a)) [.im K0, .ow (aD acc), .im (.str f), .im (.str s), .im (.str k), x5, .im (.str l), .im (.bl a), .im (one f k "a" 1), .im (.str r), x10, .im (.str (if b = true then "a" else "b")), .im (.int (if a = true then 1 else 2))] t := by
    rw [eq_mb (a := [one f k "a" 1, one s l (if b = true then "a" else "b") (if a = true then 1 else 2)]) (ρ' := [.im K0, .ow (aD acc), .im (.str f), .im (.str s), .im (.str k), x5, .im (.str l), .im (.bl a), .im (one f k "a" 1), .im (.str r), x10, .im (.str (if b = true then "a" else "b")), .im (.int (if a = true then 1 else 2))]) (t' := t) ?_]
    · show call0 f_law_due [one f k "a" 1, one s l (if b = true then "a" else "b") (if a = true then 1 else 2)] _ t = _
      unfold call0
      rw [e0]
      rfl
    · exact eq_acons (evar_ok rfl) (eq_acons (eq_etup (eq_acons (evar_ok rfl) (eq_acons (evar_ok rfl) (eq_acons (evar_ok rfl) (eq_acons (evar_ok rfl) rfl)))) (by show 4 ≤ lim; decide)) rfl)
  refine p_eq e1 ?_
  refine p_nx ?_
  have ei : itR f k s l a r = optI (f, k, s, l, r, a) (expT f k s l b a) := by unfold itR; rw [hb]
  rw [ei]
  generalize expT f k s l b a = o
  show (sif (asB (enno (evar 10))) _ _ [.im K0, .ow (aD acc), .im (.str f), .im (.str s), .im (.str k), x5, .im (.str l), .im (.bl a), .im (one f k "a" 1), .im (.str r), .im (optD o), .im (.str (if b = true then "a" else "b")), .im (.int (if a = true then 1 else 2))] t).post _ _
  rw [eq_if (enno_ok rfl)]
  cases o with
  | none => exact ⟨rfl, _, _, _, _, rfl⟩
  | some v => exact p_put (acc := acc) (c := (f, k, s, l, r, a)) (v := v) rfl (by omega) rfl (eq_etup (eq_acons (evar_ok rfl) (eq_acons (evar_ok rfl) (eq_acons (evar_ok rfl) (eq_acons (evar_ok rfl) (eq_acons (evar_ok rfl) (eq_acons (evar_ok rfl) rfl)))))) (by show 6 ≤ lim; decide)) ⟨rfl, _, _, _, _, rfl⟩
theorem mr_ok {α : Type} (d : α) (ρ : List Sl) (t : Pn) : (mr d : M α) ρ t = .ok d ρ t := rfl
theorem nil_ok (ρ : List Sl) (t : Pn) : anil ρ t = .ok [] ρ t := rfl
theorem rel_it (ρ : List Sl) (t : Pn) : mb (elst (acons (mr (D.str "same")) (acons (mr (D.str "within")) (acons (mr (D.str "around")) (acons (mr (D.str "apart")) anil))))) items ρ t = .ok (rels.map D.str) ρ t := by
  have e : elst (acons (mr (D.str "same")) (acons (mr (D.str "within")) (acons (mr (D.str "around")) (acons (mr (D.str "apart")) anil)))) ρ t = .ok (.lst (rels.map D.str)) ρ t := by
    unfold elst
    rw [eq_mb (eq_acons (mr_ok _ ρ t) (eq_acons (mr_ok _ ρ t) (eq_acons (mr_ok _ ρ t) (eq_acons (mr_ok _ ρ t) (nil_ok ρ t))))), if_pos (by show 4 ≤ lim; decide)]
    rfl
  rw [eq_mb e]
  rfl
theorem al_it (ρ : List Sl) (t : Pn) : mb (etup (acons (mr (D.bl true)) (acons (mr (D.bl false)) anil))) items ρ t = .ok ([true, false].map D.bl) ρ t := by
  rw [eq_mb (eq_etup (eq_acons (mr_ok _ ρ t) (eq_acons (mr_ok _ ρ t) (nil_ok ρ t))) (by show 2 ≤ lim; decide))]
  rfl
theorem rel_ok {f k s l : Str} {a : Bool} {acc : Acc} {x5 x9 x10 x11 x12 : Sl} {t : Pn} (hf : f ∈ nms) (hs : s ∈ nms) (hk : k ∈ kds f) (hl : l ∈ kds s) (hlen : acc.length + 4 ≤ lim) :
    (la_rel [.im kindsD, .ow (aD acc), .im (.str f), .im (.str s), .im (.str k), x5, .im (.str l), .im (.bl a), .im (one f k "a" 1), x9, x10, x11, x12] t).post (fun fl ρ' _ => fl = .nx ∧ ∃ x9 x10 x11 x12, ρ' = [.im kindsD, .ow (aD ((itA f k s l a).foldl putP acc)), .im (.str f), .im (.str s), .im (.str k), x5, .im (.str l), .im (.bl a), .im (one f k "a" 1), x9, x10, x11, x12]) noX := by
  unfold la_rel sfor
  rw [eq_mb (rel_it _ t)]
  exact loopI (Sh := fun acc ρ => ∃ x9 x10 x11 x12, ρ = [.im kindsD, .ow (aD acc), .im (.str f), .im (.str s), .im (.str k), x5, .im (.str l), .im (.bl a), .im (one f k "a" 1), x9, x10, x11, x12]) (g := D.str) (c := 1) rels acc _ t (fun r _ => len_R f k s l a r)
    (fun acc r ρ t hr hl' ⟨x9, x10, x11, x12, e⟩ => by subst e; exact body_ok hf hs hk hl hr hl') hlen ⟨_, _, _, _, rfl⟩
theorem al_ok {f k s l : Str} {acc : Acc} {x5 x7 x8 x9 x10 x11 x12 : Sl} {t : Pn} (hf : f ∈ nms) (hs : s ∈ nms) (hk : k ∈ kds f) (hl : l ∈ kds s) (hlen : acc.length + 8 ≤ lim) :
    (la_al [.im kindsD, .ow (aD acc), .im (.str f), .im (.str s), .im (.str k), x5, .im (.str l), x7, x8, x9, x10, x11, x12] t).post (fun fl ρ' _ => fl = .nx ∧ ∃ x7 x8 x9 x10 x11 x12, ρ' = [.im kindsD, .ow (aD ((itL f k s l).foldl putP acc)), .im (.str f), .im (.str s), .im (.str k), x5, .im (.str l), x7, x8, x9, x10, x11, x12]) noX := by
  unfold la_al sfor
  rw [eq_mb (al_it _ t)]
  refine loopI (Sh := fun acc ρ => ∃ x7 x8 x9 x10 x11 x12, ρ = [.im kindsD, .ow (aD acc), .im (.str f), .im (.str s), .im (.str k), x5, .im (.str l), x7, x8, x9, x10, x11, x12]) (g := D.bl) (c := 4) [true, false] acc _ t (fun a _ => len_A f k s l a)
    (fun acc a ρ t _ hl' ⟨x7, x8, x9, x10, x11, x12, e⟩ => ?_) hlen ⟨_, _, _, _, _, _, rfl⟩
  subst e
  generalize hK : kindsD = K0
  rw [eq_mb (show gname 7 (.bl a) [.im K0, .ow (aD acc), .im (.str f), .im (.str s), .im (.str k), x5, .im (.str l), x7, x8, x9, x10, x11, x12] t = .ok () [.im K0, .ow (aD acc), .im (.str f), .im (.str s), .im (.str k), x5, .im (.str l), .im (.bl a), x8, x9, x10, x11, x12] t from rfl)]
  refine p_sq <| p_asg ?_
  rw [eq_etup (eq_acons (evar_ok rfl) (eq_acons (evar_ok rfl) (eq_acons (mr_ok _ _ _) (eq_acons (mr_ok _ _ _) (nil_ok _ _))))) (by show 4 ≤ lim; decide)]
  refine p_nx ?_
  subst hK
  exact post_mono (rel_ok hf hs hk hl hl') (fun fl ρ' _ ⟨e, x9, x10, x11, x12, z⟩ => ⟨e, _, _, _, _, _, _, z⟩) fun _ _ _ _ h => h
theorem lat_ok {f k s : Str} {acc : Acc} {x5 x6 x7 x8 x9 x10 x11 x12 : Sl} {t : Pn} (hf : f ∈ nms) (hs : s ∈ nms) (hk : k ∈ kds f) (hlen : acc.length + 16 ≤ lim) :
    (la_lat [.im kindsD, .ow (aD acc), .im (.str f), .im (.str s), .im (.str k), x5, x6, x7, x8, x9, x10, x11, x12] t).post (fun fl ρ' _ => fl = .nx ∧ ∃ x6 x7 x8 x9 x10 x11 x12, ρ' = [.im kindsD, .ow (aD ((itK f s k).foldl putP acc)), .im (.str f), .im (.str s), .im (.str k), x5, x6, x7, x8, x9, x10, x11, x12]) noX := by
  unfold la_lat sfor
  rw [eq_mb (kind_at (i := 3) hs rfl rfl)]
  refine loopI (Sh := fun acc ρ => ∃ x6 x7 x8 x9 x10 x11 x12, ρ = [.im kindsD, .ow (aD acc), .im (.str f), .im (.str s), .im (.str k), x5, x6, x7, x8, x9, x10, x11, x12]) (g := D.str) (c := 8) (kds s) acc _ t (fun l _ => len_L f k s l)
    (fun acc l ρ t hl hl' ⟨x6, x7, x8, x9, x10, x11, x12, e⟩ => ?_) (by rw [kds_len]; exact hlen) ⟨_, _, _, _, _, _, _, rfl⟩
  subst e
  exact post_mono (al_ok (x7 := x7) (x8 := x8) (x9 := x9) (x10 := x10) (x11 := x11) (x12 := x12) hf hs hk hl hl') (fun fl ρ' _ ⟨e, x7, x8, x9, x10, x11, x12, z⟩ => ⟨e, _, _, _, _, _, _, _, z⟩) fun _ _ _ _ h => h
theorem kin_ok {f s : Str} {acc : Acc} {x4 x5 x6 x7 x8 x9 x10 x11 x12 : Sl} {t : Pn} (hf : f ∈ nms) (hs : s ∈ nms) (hlen : acc.length + 32 ≤ lim) :
    (la_kin [.im kindsD, .ow (aD acc), .im (.str f), .im (.str s), x4, x5, x6, x7, x8, x9, x10, x11, x12] t).post (fun fl ρ' _ => fl = .nx ∧ ∃ x4 x6 x7 x8 x9 x10 x11 x12, ρ' = [.im kindsD, .ow (aD ((itS f s).foldl putP acc)), .im (.str f), .im (.str s), x4, x5, x6, x7, x8, x9, x10, x11, x12]) noX := by
  unfold la_kin sfor
  rw [eq_mb (kind_at (i := 2) hf rfl rfl)]
  refine loopI (Sh := fun acc ρ => ∃ x4 x6 x7 x8 x9 x10 x11 x12, ρ = [.im kindsD, .ow (aD acc), .im (.str f), .im (.str s), x4, x5, x6, x7, x8, x9, x10, x11, x12]) (g := D.str) (c := 16) (kds f) acc _ t (fun k _ => len_K f s k)
    (fun acc k ρ t hk hl' ⟨x4, x6, x7, x8, x9, x10, x11, x12, e⟩ => ?_) (by rw [kds_len]; exact hlen) ⟨_, _, _, _, _, _, _, _, rfl⟩
  subst e
  exact post_mono (lat_ok (x6 := x6) (x7 := x7) (x8 := x8) (x9 := x9) (x10 := x10) (x11 := x11) (x12 := x12) hf hs hk hl') (fun fl ρ' _ ⟨e, x6, x7, x8, x9, x10, x11, x12, z⟩ => ⟨e, _, _, _, _, _, _, _, _, z⟩) fun _ _ _ _ h => h
theorem sec_ok {f : Str} {acc : Acc} {x3 x4 x5 x6 x7 x8 x9 x10 x11 x12 : Sl} {t : Pn} (hf : f ∈ nms) (hlen : acc.length + 160 ≤ lim) :
    (la_sec [.im kindsD, .ow (aD acc), .im (.str f), x3, x4, x5, x6, x7, x8, x9, x10, x11, x12] t).post (fun fl ρ' _ => fl = .nx ∧ ∃ x3 x4 x6 x7 x8 x9 x10 x11 x12, ρ' = [.im kindsD, .ow (aD ((itF f).foldl putP acc)), .im (.str f), x3, x4, x5, x6, x7, x8, x9, x10, x11, x12]) noX := by
  unfold la_sec sforK
  rw [eq_mb (show evar 0 [.im kindsD, .ow (aD acc), .im (.str f), x3, x4, x5, x6, x7, x8, x9, x10, x11, x12] t = .ok kindsD _ t from evar_ok rfl)]
  refine loopI (Sh := fun acc ρ => ∃ x3 x4 x6 x7 x8 x9 x10 x11 x12, ρ = [.im kindsD, .ow (aD acc), .im (.str f), x3, x4, x5, x6, x7, x8, x9, x10, x11, x12]) (g := D.str) (c := 32) nms acc _ t (fun s _ => len_S f s)
    (fun acc s ρ t hs hl' ⟨x3, x4, x6, x7, x8, x9, x10, x11, x12, e⟩ => ?_) hlen ⟨_, _, _, _, _, _, _, _, _, rfl⟩
  subst e
  exact post_mono (kin_ok (x4 := x4) (x6 := x6) (x7 := x7) (x8 := x8) (x9 := x9) (x10 := x10) (x11 := x11) (x12 := x12) hf hs hl') (fun fl ρ' _ ⟨e, x4, x6, x7, x8, x9, x10, x11, x12, z⟩ => ⟨e, _, _, _, _, _, _, _, _, _, z⟩) fun _ _ _ _ h => h
theorem fst_ok {x2 x3 x4 x5 x6 x7 x8 x9 x10 x11 x12 : Sl} {t : Pn} :
    (la_fst [.im kindsD, .ow (aD []), x2, x3, x4, x5, x6, x7, x8, x9, x10, x11, x12] t).post (fun fl ρ' _ => fl = .nx ∧ ∃ x2 x3 x4 x6 x7 x8 x9 x10 x11 x12, ρ' = [.im kindsD, .ow (aD (itemsA.foldl putP [])), x2, x3, x4, x5, x6, x7, x8, x9, x10, x11, x12]) noX := by
  unfold la_fst sforK
  rw [eq_mb (show evar 0 [.im kindsD, .ow (aD []), x2, x3, x4, x5, x6, x7, x8, x9, x10, x11, x12] t = .ok kindsD _ t from evar_ok rfl)]
  refine loopI (Sh := fun acc ρ => ∃ x2 x3 x4 x6 x7 x8 x9 x10 x11 x12, ρ = [.im kindsD, .ow (aD acc), x2, x3, x4, x5, x6, x7, x8, x9, x10, x11, x12]) (g := D.str) (c := 160) nms [] _ t (fun f _ => len_F f)
    (fun acc f ρ t hf hl' ⟨x2, x3, x4, x6, x7, x8, x9, x10, x11, x12, e⟩ => ?_) (by show 0 + 5 * 160 ≤ lim; decide) ⟨_, _, _, _, _, _, _, _, _, _, rfl⟩
  subst e
  exact post_mono (sec_ok (x3 := x3) (x4 := x4) (x6 := x6) (x7 := x7) (x8 := x8) (x9 := x9) (x10 := x10) (x11 := x11) (x12 := x12) hf hl') (fun fl ρ' _ ⟨e, x3, x4, x6, x7, x8, x9, x10, x11, x12, z⟩ => ⟨e, _, _, _, _, _, _, _, _, _, _, z⟩) fun _ _ _ _ h => h
end K38

set_option Elab.async false
set_option linter.all false
set_option maxRecDepth 100000
set_option maxHeartbeats 1000000
namespace K38
open PySem DL
theorem run_eqx {f f' : M Fl} {ρ ρ' : List Sl} {t t' : Pn} (h : f ρ t = f' ρ' t') : runD f ρ t = runD f' ρ' t' := by
  unfold runD
  rw [h]
theorem run_isx {f : M Fl} {ρ : List Sl} {t : Pn} {d : D} (h : (f ρ t).post (fun fl _ _ => fl = .rt d) noX) : (runD f ρ t).is d := by
  unfold runD
  cases e : f ρ t with
  | ok fl ρ1 t1 =>
    rw [e] at h
    have h : fl = .rt d := h
    subst h
    exact ⟨ρ1, t1, rfl⟩
  | ex _ _ _ _ => rw [e] at h; exact h.elim
  | bad => rw [e] at h; exact h.elim
theorem fn0_nilx {n : Nat} {f : M Fl} : fn0 0 n f [] = runD f (ent n []) pn0 := if_pos rfl
theorem pre_ok (k : M Fl) : sq (asgO 0 la_set) (sq (sput 0 (elst (acons (mr (D.str "is")) (acons (mr (D.str "no")) anil))) (mr (D.str "get"))) (sq (asgO 1 (mr (D.dct [] []))) (sq (frz 0) k))) [.un, .un, .un, .un, .un, .un, .un, .un, .un, .un, .un, .un, .un] pn0 = k [.im kindsD, .ow (aD []), .un, .un, .un, .un, .un, .un, .un, .un, .un, .un, .un] pn0 := by
  kernel_rfl
theorem all_ok (hn : (itemsA.map (·.1)).Nodup) : (f_law_all []).is (aD itemsA) := by
  have e0 : f_law_all [] = runD (sq la_fst la_end) [.im kindsD, .ow (aD []), .un, .un, .un, .un, .un, .un, .un, .un, .un, .un, .un] pn0 := by
    have h := run_eqx (pre_ok (sq la_fst la_end))
    rw [← h, ← m_all_eq]
    exact fn0_nilx
  have q : ((sq la_fst la_end) [.im kindsD, .ow (aD []), .un, .un, .un, .un, .un, .un, .un, .un, .un, .un, .un] pn0).post (fun fl _ _ => fl = .rt (aD itemsA)) noX := by
    generalize pn0 = t0
    refine p_sq ?_
    refine post_mono fst_ok (fun fl ρ1 t1 ⟨e, x2, x3, x4, x6, x7, x8, x9, x10, x11, x12, h⟩ => ?_) fun _ _ _ _ h => h
    subst e
    refine p_nx ?_
    rw [fold_put (by rw [List.nil_append]; exact hn), List.nil_append] at h
    generalize itemsA = I at h ⊢
    subst h
    generalize kindsD = K0
    unfold la_end
    refine p_sq <| p_frz rfl <| p_nx ?_
    exact p_sret (p_var rfl rfl)
  rw [e0]
  exact run_isx q
end K38

set_option Elab.async false
set_option linter.all false
set_option maxRecDepth 100000
set_option maxHeartbeats 1000000
namespace K38
open PySem DL
/-! ### the two tables are one -/
def ixS (l : List Str) (n : Nat) : Str := l.getD n ""
def kdL : List Str := ["yes", "is", "no"]
def dec (n : Nat) : K6 := (ixS nms (n / 360), ixS kdL (n / 24 % 3), ixS nms (n / 72 % 5), ixS kdL (n / 8 % 3), ixS rels (n / 2 % 4), n % 2 == 0)
def pos (l : List Str) (x : Str) : Nat := match l with
  | [] => 0
  | y :: r => if y = x then 0 else pos r x + 1
def enc (c : K6) : Nat := ((((pos nms c.1 * 5 + pos nms c.2.2.1) * 3 + pos kdL c.2.1) * 3 + pos kdL c.2.2.2.1) * 4 + pos rels c.2.2.2.2.1) * 2 + (if c.2.2.2.2.2 = true then 0 else 1)
def cA : List (Nat × Bool) := ([(0, true), (2, true), (4, true), (6, true), (1, true), (3, true), (5, true), (7, true), (18, true), (20, true), (22, true), (19, true), (21, true), (23, true), (50, true), (52, true), (54, true), (51, true), (53, true), (55, true), (64, true), (66, true), (68, true), (70, true), (65, true), (67, true), (69, true), (71, true), (74, true), (76, true), (78, true), (75, true), (77, true), (79, true), (88, true), (90, true), (92, true), (94, true), (89, true), (91, true)] : List (Nat × Bool)) ++ ([(93, true), (95, true), (120, false), (122, true), (124, true), (126, true), (121, false), (123, true), (125, true), (127, true), (138, true), (140, true), (142, true), (139, true), (141, true), (143, true), (144, true), (146, true), (148, true), (150, true), (145, true), (147, true), (149, true), (151, true), (160, true), (162, true), (164, true), (166, true), (161, true), (163, true), (165, true), (167, true), (192, false), (194, true), (196, true), (198, true), (193, false), (195, true), (197, true), (199, true)] : List (Nat × Bool)) ++ ([(210, true), (212, true), (214, true), (211, true), (213, true), (215, true), (216, false), (218, true), (220, true), (222, true), (217, false), (219, true), (221, true), (223, true), (234, true), (236, true), (238, true), (235, true), (237, true), (239, true), (266, true), (268, true), (270, true), (267, true), (269, true), (271, true), (280, true), (282, true), (284, true), (286, true), (281, true), (283, true), (285, true), (287, true), (296, true), (298, true), (300, true), (302, true), (297, true), (299, true)] : List (Nat × Bool)) ++ ([(301, true), (303, true), (306, true), (308, true), (310, true), (307, true), (309, true), (311, true), (346, true), (348, true), (350, true), (347, true), (349, true), (351, true), (352, true), (354, true), (356, true), (358, true), (353, true), (355, true), (357, true), (359, true), (360, false), (362, true), (364, true), (366, true), (361, false), (363, true), (365, true), (367, true), (378, true), (380, true), (382, true), (379, true), (381, true), (383, true), (408, true), (410, true), (412, true), (414, true)] : List (Nat × Bool)) ++ ([(409, true), (411, true), (413, true), (415, true), (426, true), (428, true), (430, true), (427, true), (429, true), (431, true), (434, true), (436, true), (438, true), (435, true), (437, true), (439, true), (448, false), (450, true), (452, true), (454, true), (449, false), (451, true), (453, true), (455, true), (482, true), (484, true), (486, true), (483, true), (485, true), (487, true), (496, true), (498, true), (500, true), (502, true), (497, true), (499, true), (501, true), (503, true), (506, true), (508, true)] : List (Nat × Bool)) ++ ([(510, true), (505, false), (507, true), (509, true), (511, true), (520, false), (522, true), (524, true), (526, true), (523, true), (525, true), (527, true), (552, true), (554, true), (556, true), (558, true), (553, true), (555, true), (557, true), (559, true), (568, true), (570, true), (572, true), (574, true), (569, true), (571, true), (573, true), (575, true), (576, false), (578, true), (580, true), (582, true), (577, false), (579, true), (581, true), (583, true), (594, true), (596, true), (598, true), (595, true)] : List (Nat × Bool)) ++ ([(597, true), (599, true), (624, false), (626, true), (628, true), (630, true), (625, false), (627, true), (629, true), (631, true), (642, true), (644, true), (646, true), (643, true), (645, true), (647, true), (656, false), (658, true), (660, true), (662, true), (657, false), (659, true), (661, true), (663, true), (666, true), (668, true), (670, true), (667, true), (669, true), (671, true), (704, true), (706, true), (708, true), (710, true), (705, true), (707, true), (709, true), (711, true), (714, true), (716, true)] : List (Nat × Bool)) ++ ([(718, true), (715, true), (717, true), (719, true), (720, false), (722, true), (724, true), (726, true), (721, false), (723, true), (725, true), (727, true), (738, true), (740, true), (742, true), (739, true), (741, true), (743, true), (768, true), (770, true), (772, true), (774, true), (769, true), (771, true), (773, true), (775, true), (786, true), (788, true), (790, true), (787, true), (789, true), (791, true), (794, true), (796, true), (798, true), (795, true), (797, true), (799, true), (808, false), (810, true)] : List (Nat × Bool)) ++ ([(812, true), (814, true), (809, false), (811, true), (813, true), (815, true), (842, true), (844, true), (846, true), (843, true), (845, true), (847, true), (856, true), (858, true), (860, true), (862, true), (857, true), (859, true), (861, true), (863, true), (866, true), (868, true), (870, true), (865, false), (867, true), (869, true), (871, true), (880, false), (882, true), (884, true), (886, true), (883, true), (885, true), (887, true), (914, true), (916, true), (918, true), (913, false), (915, true), (917, true)] : List (Nat × Bool)) ++ ([(919, true), (928, true), (930, true), (932, true), (934, true), (931, true), (933, true), (935, true), (936, false), (938, true), (940, true), (942, true), (937, false), (939, true), (941, true), (943, true), (954, true), (956, true), (958, true), (955, true), (957, true), (959, true), (984, false), (986, true), (988, true), (990, true), (985, false), (987, true), (989, true), (991, true), (1002, true), (1004, true), (1006, true), (1003, true), (1005, true), (1007, true), (1016, false), (1018, true), (1020, true), (1022, true)] : List (Nat × Bool)) ++ ([(1017, false), (1019, true), (1021, true), (1023, true), (1026, true), (1028, true), (1030, true), (1027, true), (1029, true), (1031, true), (1064, true), (1066, true), (1068, true), (1070, true), (1065, true), (1067, true), (1069, true), (1071, true), (1074, true), (1076, true), (1078, true), (1075, true), (1077, true), (1079, true), (1082, true), (1084, true), (1086, true), (1083, true), (1085, true), (1087, true), (1096, false), (1098, true), (1100, true), (1102, true), (1097, false), (1099, true), (1101, true), (1103, true), (1130, true), (1132, true)] : List (Nat × Bool)) ++ ([(1134, true), (1131, true), (1133, true), (1135, true), (1144, true), (1146, true), (1148, true), (1150, true), (1145, true), (1147, true), (1149, true), (1151, true), (1152, false), (1154, true), (1156, true), (1158, true), (1153, false), (1155, true), (1157, true), (1159, true), (1170, true), (1172, true), (1174, true), (1171, true), (1173, true), (1175, true), (1200, false), (1202, true), (1204, true), (1206, true), (1201, false), (1203, true), (1205, true), (1207, true), (1218, true), (1220, true), (1222, true), (1219, true), (1221, true), (1223, true)] : List (Nat × Bool)) ++ ([(1224, false), (1226, true), (1228, true), (1230, true), (1225, false), (1227, true), (1229, true), (1231, true), (1242, true), (1244, true), (1246, true), (1243, true), (1245, true), (1247, true), (1272, false), (1274, true), (1276, true), (1278, true), (1273, false), (1275, true), (1277, true), (1279, true), (1290, true), (1292, true), (1294, true), (1291, true), (1293, true), (1295, true), (1298, true), (1300, true), (1302, true), (1299, true), (1301, true), (1303, true), (1312, false), (1314, true), (1316, true), (1318, true), (1313, false), (1315, true)] : List (Nat × Bool)) ++ ([(1317, true), (1319, true), (1346, true), (1348, true), (1350, true), (1347, true), (1349, true), (1351, true), (1360, true), (1362, true), (1364, true), (1366, true), (1361, true), (1363, true), (1365, true), (1367, true), (1378, true), (1380, true), (1382, true), (1379, true), (1381, true), (1383, true), (1384, false), (1386, true), (1388, true), (1390, true), (1385, false), (1387, true), (1389, true), (1391, true), (1426, true), (1428, true), (1430, true), (1427, true), (1429, true), (1431, true), (1432, true), (1434, true), (1436, true), (1438, true)] : List (Nat × Bool)) ++ ([(1433, true), (1435, true), (1437, true), (1439, true), (1464, true), (1466, true), (1468, true), (1470, true), (1465, true), (1467, true), (1469, true), (1471, true), (1482, true), (1484, true), (1486, true), (1483, true), (1485, true), (1487, true), (1490, true), (1492, true), (1494, true), (1491, true), (1493, true), (1495, true), (1504, true), (1506, true), (1508, true), (1510, true), (1505, true), (1507, true), (1509, true), (1511, true), (1538, true), (1540, true), (1542, true), (1539, true), (1541, true), (1543, true), (1552, true), (1554, true)] : List (Nat × Bool)) ++ ([(1556, true), (1558, true), (1553, true), (1555, true), (1557, true), (1559, true), (1560, false), (1562, true), (1564, true), (1566, true), (1561, false), (1563, true), (1565, true), (1567, true), (1578, true), (1580, true), (1582, true), (1579, true), (1581, true), (1583, true), (1608, false), (1610, true), (1612, true), (1614, true), (1609, false), (1611, true), (1613, true), (1615, true), (1624, true), (1626, true), (1628, true), (1630, true), (1625, true), (1627, true), (1629, true), (1631, true), (1632, false), (1634, true), (1636, true), (1638, true)] : List (Nat × Bool)) ++ ([(1633, false), (1635, true), (1637, true), (1639, true), (1650, true), (1652, true), (1654, true), (1651, true), (1653, true), (1655, true), (1680, false), (1682, true), (1684, true), (1686, true), (1681, false), (1683, true), (1685, true), (1687, true), (1698, true), (1700, true), (1702, true), (1699, true), (1701, true), (1703, true), (1706, true), (1708, true), (1710, true), (1707, true), (1709, true), (1711, true), (1720, true), (1722, true), (1724, true), (1726, true), (1721, true), (1723, true), (1725, true), (1727, true), (1760, true), (1762, true)] : List (Nat × Bool)) ++ ([(1764, true), (1766, true), (1761, true), (1763, true), (1765, true), (1767, true), (1770, true), (1772, true), (1774, true), (1771, true), (1773, true), (1775, true), (1786, true), (1788, true), (1790, true), (1787, true), (1789, true), (1791, true), (1792, true), (1794, true), (1796, true), (1798, true), (1793, true), (1795, true), (1797, true), (1799, true)] : List (Nat × Bool))
def cB : List (Nat × Bool) := ([(64, true), (65, true), (0, true), (1, true), (352, true), (353, true), (296, true), (297, true), (120, false), (121, false), (88, true), (89, true), (192, false), (193, false), (160, true), (161, true), (144, true), (145, true), (280, true), (281, true), (216, false), (217, false), (1504, true), (1505, true), (1464, true), (1465, true), (1792, true), (1793, true), (1760, true), (1761, true), (1560, false), (1561, false), (1552, true), (1553, true), (1632, false), (1633, false), (1624, true), (1625, true), (1608, false), (1609, false)] : List (Nat × Bool)) ++ ([(1720, true), (1721, true), (1680, false), (1681, false), (360, false), (361, false), (408, true), (409, true), (656, false), (657, false), (704, true), (705, true), (448, false), (449, false), (496, true), (497, true), (520, false), (568, true), (569, true), (552, true), (553, true), (505, false), (576, false), (577, false), (624, false), (625, false), (720, false), (721, false), (768, true), (769, true), (1016, false), (1017, false), (1064, true), (1065, true), (808, false), (809, false), (856, true), (857, true), (880, false), (928, true)] : List (Nat × Bool)) ++ ([(865, false), (913, false), (936, false), (937, false), (984, false), (985, false), (1144, true), (1145, true), (1096, false), (1097, false), (1432, true), (1433, true), (1384, false), (1385, false), (1200, false), (1201, false), (1152, false), (1153, false), (1272, false), (1273, false), (1224, false), (1225, false), (1360, true), (1361, true), (1312, false), (1313, false), (2, true), (3, true), (4, true), (5, true), (6, true), (7, true), (18, true), (19, true), (20, true), (21, true), (22, true), (23, true), (50, true), (51, true)] : List (Nat × Bool)) ++ ([(52, true), (53, true), (54, true), (55, true), (66, true), (67, true), (68, true), (69, true), (70, true), (71, true), (298, true), (299, true), (300, true), (301, true), (302, true), (303, true), (306, true), (307, true), (308, true), (309, true), (310, true), (311, true), (346, true), (347, true), (348, true), (349, true), (350, true), (351, true), (354, true), (355, true), (356, true), (357, true), (358, true), (359, true), (74, true), (75, true), (76, true), (77, true), (78, true), (79, true)] : List (Nat × Bool)) ++ ([(90, true), (91, true), (92, true), (93, true), (94, true), (95, true), (122, true), (123, true), (124, true), (125, true), (126, true), (127, true), (138, true), (139, true), (140, true), (141, true), (142, true), (143, true), (146, true), (147, true), (148, true), (149, true), (150, true), (151, true), (162, true), (163, true), (164, true), (165, true), (166, true), (167, true), (194, true), (195, true), (196, true), (197, true), (198, true), (199, true), (210, true), (211, true), (212, true), (213, true)] : List (Nat × Bool)) ++ ([(214, true), (215, true), (218, true), (219, true), (220, true), (221, true), (222, true), (223, true), (234, true), (235, true), (236, true), (237, true), (238, true), (239, true), (266, true), (267, true), (268, true), (269, true), (270, true), (271, true), (282, true), (283, true), (284, true), (285, true), (286, true), (287, true), (1466, true), (1467, true), (1468, true), (1469, true), (1470, true), (1471, true), (1482, true), (1483, true), (1484, true), (1485, true), (1486, true), (1487, true), (1490, true), (1491, true)] : List (Nat × Bool)) ++ ([(1492, true), (1493, true), (1494, true), (1495, true), (1506, true), (1507, true), (1508, true), (1509, true), (1510, true), (1511, true), (1762, true), (1763, true), (1764, true), (1765, true), (1766, true), (1767, true), (1770, true), (1771, true), (1772, true), (1773, true), (1774, true), (1775, true), (1786, true), (1787, true), (1788, true), (1789, true), (1790, true), (1791, true), (1794, true), (1795, true), (1796, true), (1797, true), (1798, true), (1799, true), (1538, true), (1539, true), (1540, true), (1541, true), (1542, true), (1543, true)] : List (Nat × Bool)) ++ ([(1554, true), (1555, true), (1556, true), (1557, true), (1558, true), (1559, true), (1562, true), (1563, true), (1564, true), (1565, true), (1566, true), (1567, true), (1578, true), (1579, true), (1580, true), (1581, true), (1582, true), (1583, true), (1610, true), (1611, true), (1612, true), (1613, true), (1614, true), (1615, true), (1626, true), (1627, true), (1628, true), (1629, true), (1630, true), (1631, true), (1634, true), (1635, true), (1636, true), (1637, true), (1638, true), (1639, true), (1650, true), (1651, true), (1652, true), (1653, true)] : List (Nat × Bool)) ++ ([(1654, true), (1655, true), (1682, true), (1683, true), (1684, true), (1685, true), (1686, true), (1687, true), (1698, true), (1699, true), (1700, true), (1701, true), (1702, true), (1703, true), (1706, true), (1707, true), (1708, true), (1709, true), (1710, true), (1711, true), (1722, true), (1723, true), (1724, true), (1725, true), (1726, true), (1727, true), (362, true), (363, true), (364, true), (365, true), (366, true), (367, true), (378, true), (379, true), (380, true), (381, true), (382, true), (383, true), (410, true), (411, true)] : List (Nat × Bool)) ++ ([(412, true), (413, true), (414, true), (415, true), (426, true), (427, true), (428, true), (429, true), (430, true), (431, true), (658, true), (659, true), (660, true), (661, true), (662, true), (663, true), (666, true), (667, true), (668, true), (669, true), (670, true), (671, true), (706, true), (707, true), (708, true), (709, true), (710, true), (711, true), (714, true), (715, true), (716, true), (717, true), (718, true), (719, true), (434, true), (435, true), (436, true), (437, true), (438, true), (439, true)] : List (Nat × Bool)) ++ ([(450, true), (451, true), (452, true), (453, true), (454, true), (455, true), (482, true), (483, true), (484, true), (485, true), (486, true), (487, true), (498, true), (499, true), (500, true), (501, true), (502, true), (503, true), (506, true), (507, true), (508, true), (509, true), (510, true), (511, true), (522, true), (523, true), (524, true), (525, true), (526, true), (527, true), (554, true), (555, true), (556, true), (557, true), (558, true), (559, true), (570, true), (571, true), (572, true), (573, true)] : List (Nat × Bool)) ++ ([(574, true), (575, true), (578, true), (579, true), (580, true), (581, true), (582, true), (583, true), (594, true), (595, true), (596, true), (597, true), (598, true), (599, true), (626, true), (627, true), (628, true), (629, true), (630, true), (631, true), (642, true), (643, true), (644, true), (645, true), (646, true), (647, true), (722, true), (723, true), (724, true), (725, true), (726, true), (727, true), (738, true), (739, true), (740, true), (741, true), (742, true), (743, true), (770, true), (771, true)] : List (Nat × Bool)) ++ ([(772, true), (773, true), (774, true), (775, true), (786, true), (787, true), (788, true), (789, true), (790, true), (791, true), (1018, true), (1019, true), (1020, true), (1021, true), (1022, true), (1023, true), (1026, true), (1027, true), (1028, true), (1029, true), (1030, true), (1031, true), (1066, true), (1067, true), (1068, true), (1069, true), (1070, true), (1071, true), (1074, true), (1075, true), (1076, true), (1077, true), (1078, true), (1079, true), (794, true), (795, true), (796, true), (797, true), (798, true), (799, true)] : List (Nat × Bool)) ++ ([(810, true), (811, true), (812, true), (813, true), (814, true), (815, true), (842, true), (843, true), (844, true), (845, true), (846, true), (847, true), (858, true), (859, true), (860, true), (861, true), (862, true), (863, true), (866, true), (867, true), (868, true), (869, true), (870, true), (871, true), (882, true), (883, true), (884, true), (885, true), (886, true), (887, true), (914, true), (915, true), (916, true), (917, true), (918, true), (919, true), (930, true), (931, true), (932, true), (933, true)] : List (Nat × Bool)) ++ ([(934, true), (935, true), (938, true), (939, true), (940, true), (941, true), (942, true), (943, true), (954, true), (955, true), (956, true), (957, true), (958, true), (959, true), (986, true), (987, true), (988, true), (989, true), (990, true), (991, true), (1002, true), (1003, true), (1004, true), (1005, true), (1006, true), (1007, true), (1082, true), (1083, true), (1084, true), (1085, true), (1086, true), (1087, true), (1098, true), (1099, true), (1100, true), (1101, true), (1102, true), (1103, true), (1130, true), (1131, true)] : List (Nat × Bool)) ++ ([(1132, true), (1133, true), (1134, true), (1135, true), (1146, true), (1147, true), (1148, true), (1149, true), (1150, true), (1151, true), (1378, true), (1379, true), (1380, true), (1381, true), (1382, true), (1383, true), (1386, true), (1387, true), (1388, true), (1389, true), (1390, true), (1391, true), (1426, true), (1427, true), (1428, true), (1429, true), (1430, true), (1431, true), (1434, true), (1435, true), (1436, true), (1437, true), (1438, true), (1439, true), (1154, true), (1155, true), (1156, true), (1157, true), (1158, true), (1159, true)] : List (Nat × Bool)) ++ ([(1170, true), (1171, true), (1172, true), (1173, true), (1174, true), (1175, true), (1202, true), (1203, true), (1204, true), (1205, true), (1206, true), (1207, true), (1218, true), (1219, true), (1220, true), (1221, true), (1222, true), (1223, true), (1226, true), (1227, true), (1228, true), (1229, true), (1230, true), (1231, true), (1242, true), (1243, true), (1244, true), (1245, true), (1246, true), (1247, true), (1274, true), (1275, true), (1276, true), (1277, true), (1278, true), (1279, true), (1290, true), (1291, true), (1292, true), (1293, true)] : List (Nat × Bool)) ++ ([(1294, true), (1295, true), (1298, true), (1299, true), (1300, true), (1301, true), (1302, true), (1303, true), (1314, true), (1315, true), (1316, true), (1317, true), (1318, true), (1319, true), (1346, true), (1347, true), (1348, true), (1349, true), (1350, true), (1351, true), (1362, true), (1363, true), (1364, true), (1365, true), (1366, true), (1367, true)] : List (Nat × Bool))
def dp (p : Nat × Bool) : K6 × Bool := (dec p.1, p.2)
def has (n : Nat) (v : Bool) : List (Nat × Bool) → Bool
  | [] => false
  | (m, w) :: r => (Nat.beq n m && (v == w)) || has n v r
theorem has_mem {n : Nat} {v : Bool} : ∀ {l : List (Nat × Bool)}, has n v l = true → (n, v) ∈ l
  | [], h => by cases h
  | (m, w) :: r, h => by
    have h : ((Nat.beq n m && (v == w)) || has n v r) = true := h
    rw [Bool.or_eq_true, Bool.and_eq_true] at h
    rcases h with ⟨h1, h2⟩ | h
    · rw [Nat.eq_of_beq_eq_true h1, eq_of_beq h2]
      exact List.mem_cons_self
    · exact List.mem_cons_of_mem _ (has_mem h)
def freshN : List (Nat × Bool) → List Nat → Bool
  | [], _ => true
  | (n, _) :: r, seen => (seen.all fun m => !Nat.beq n m) && freshN r (n :: seen)
theorem fresh_nodup : ∀ {l : List (Nat × Bool)} {seen : List Nat}, freshN l seen = true → (l.map (·.1)).Nodup ∧ ∀ n ∈ l.map (·.1), n ∉ seen
  | [], seen, _ => ⟨List.nodup_nil, fun n h => by cases h⟩
  | (n, v) :: r, seen, h => by
    have h : ((seen.all fun m => !Nat.beq n m) && freshN r (n :: seen)) = true := h
    rw [Bool.and_eq_true] at h
    obtain ⟨h1, h2⟩ := fresh_nodup h.2
    refine ⟨?_, fun m hm => ?_⟩
    · rw [List.map_cons, List.nodup_cons]
      exact ⟨fun z => h2 n z List.mem_cons_self, h1⟩
    · rw [List.map_cons] at hm
      rcases List.mem_cons.mp hm with e | hm
      · have e : m = n := e
        subst e
        intro z
        have := List.all_eq_true.mp h.1 _ z
        rw [show Nat.beq m m = true from Nat.beq_refl m] at this
        cases this
      · exact fun z => h2 m hm (List.mem_cons_of_mem _ z)
theorem encdec : (cA.all fun p => Nat.beq (enc (dec p.1)) p.1) = true := by decide +kernel
theorem encdecB : (cB.all fun p => Nat.beq (enc (dec p.1)) p.1) = true := by decide +kernel
theorem freshA : freshN cA [] = true := by decide +kernel
theorem freshB : freshN cB [] = true := by decide +kernel
theorem subA : (cA.all fun p => has p.1 p.2 cB) = true := by decide +kernel
theorem subB : (cB.all fun p => has p.1 p.2 cA) = true := by decide +kernel
theorem lenAB : cA.length = cB.length := by decide +kernel
theorem nodup_dec {l : List (Nat × Bool)} (hn : (l.map (·.1)).Nodup) (he : (l.all fun p => Nat.beq (enc (dec p.1)) p.1) = true) : ((l.map dp).map (·.1)).Nodup := by
  induction l with
  | nil => exact List.nodup_nil
  | cons p l ih =>
    rw [List.map_cons, List.nodup_cons] at hn
    rw [List.all_cons, Bool.and_eq_true] at he
    rw [List.map_cons, List.map_cons, List.nodup_cons]
    refine ⟨fun z => ?_, ih hn.2 he.2⟩
    rw [List.map_map] at z
    obtain ⟨q, hq, e⟩ := List.mem_map.mp z
    have e : dec q.1 = dec p.1 := e
    have h1 := Nat.eq_of_beq_eq_true (List.all_eq_true.mp he.2 q hq)
    have h2 := Nat.eq_of_beq_eq_true he.1
    rw [e, h2] at h1
    exact hn.1 (by rw [h1]; exact List.mem_map_of_mem (f := (·.1)) hq)
theorem itemsA_eq : itemsA = cA.map dp := by kernel_rfl
theorem itemsB_eq : itemsB = cB.map dp := by kernel_rfl
theorem nodupA : (itemsA.map (·.1)).Nodup := by rw [itemsA_eq]; exact nodup_dec (fresh_nodup freshA).1 encdec
theorem nodupB : (itemsB.map (·.1)).Nodup := by rw [itemsB_eq]; exact nodup_dec (fresh_nodup freshB).1 encdecB
theorem same_mem (p : K6 × Bool) : p ∈ itemsA ↔ p ∈ itemsB := by
  rw [itemsA_eq, itemsB_eq]
  constructor
  · intro h
    obtain ⟨q, hq, e⟩ := List.mem_map.mp h
    exact List.mem_map.mpr ⟨q, has_mem (List.all_eq_true.mp subA q hq), e⟩
  · intro h
    obtain ⟨q, hq, e⟩ := List.mem_map.mp h
    exact List.mem_map.mpr ⟨q, has_mem (List.all_eq_true.mp subB q hq), e⟩
theorem same_look (c : K6) : look itemsA c = look itemsB c := look_eq nodupA nodupB same_mem c
theorem same_len : itemsA.length = itemsB.length := by rw [itemsA_eq, itemsB_eq, List.length_map, List.length_map]; exact lenAB
theorem lenA : itemsA.length = 706 := by rw [itemsA_eq, List.length_map]; decide +kernel
theorem nonA : itemsA ≠ [] := fun z => by have := lenA; rw [z] at this; cases this
theorem nonB : itemsB ≠ [] := fun z => by have := lenA; rw [same_len, z] at this; cases this
end K38

set_option Elab.async false
set_option linter.all false
set_option maxRecDepth 100000
set_option maxHeartbeats 8000000
namespace K38
open PySem PySem.Spec PyProof.Rows DL
open L2 hiding isNon
@[simp] theorem len_l (xs : List D) (ρ : List Sl) (t : Pn) : dlen [.lst xs] ρ t = .ok (.int xs.length) ρ t := rfl
theorem e2_ap (c : D → D → M D) (f h : M D) (ρ : List Sl) (t : Pn) : e2 c f h ρ t = (f ρ t).bind fun x => mb h (c x) := rfl
theorem asB_ap (f : M D) (ρ : List Sl) (t : Pn) : asB f ρ t = (f ρ t).bind fun d => match d with
  | .bl b => mr b
  | _ => mx := rfl
theorem acons_ap (f : M D) (h : M (List D)) (ρ : List Sl) (t : Pn) : acons f h ρ t = (f ρ t).bind fun d => mb h fun ds => mr (d :: ds) := rfl
theorem anil_ap (ρ : List Sl) (t : Pn) : anil ρ t = .ok [] ρ t := rfl
theorem asg_ap (i : Nat) (f : M D) (ρ : List Sl) (t : Pn) : asg i f ρ t = (f ρ t).bind fun d ρ t => .ok .nx (ρ.set i (.im d)) t := rfl
theorem elst_ap (h : M (List D)) (ρ : List Sl) (t : Pn) : elst h ρ t = (h ρ t).bind fun ds => if ds.length ≤ lim then mr (.lst ds) else mx := rfl
theorem sif_ap (k : M Bool) (f h : M Fl) (ρ : List Sl) (t : Pn) : sif k f h ρ t = (k ρ t).bind fun b => if b = true then f else h := rfl
theorem sret_ap (f : M D) (ρ : List Sl) (t : Pn) : sret f ρ t = (f ρ t).bind fun d => mr (.rt d) := rfl
/-! ### draws -/
/-- a pen in use -/
structure PnOk (t : Pn) (n : Int) : Prop where
  k0 : 0 ≤ t.k
  kn : t.k ≤ n
  z0 : 0 ≤ t.z
  len : t.cells.length ≤ 63
abbrev top40 : Int := 1099511627776
theorem sq_ap' (f k : M Fl) (ρ : List Sl) (t : Pn) : sq f k ρ t = (f ρ t).bind fun fl => match fl with
  | .nx => k
  | .rt d => mr (.rt d)
  | .bk => mr .bk
  | .ct => mr .ct := rfl
@[simp] theorem post_ok {α : Type} (a : α) (ρ : List Sl) (t : Pn) (P : α → List Sl → Pn → Prop) (E : Str → List Str → List D → Pn → Prop) : (Ou.ok a ρ t).post P E ↔ P a ρ t := Iff.rfl
theorem post_ite {α : Type} {c : Prop} [Decidable c] {x y : Ou α} {P : α → List Sl → Pn → Prop} {E : Str → List Str → List D → Pn → Prop} (h1 : c → x.post P E) (h2 : ¬ c → y.post P E) : (if c then x else y).post P E := by
  split
  · exact h1 ‹_›
  · exact h2 ‹_›
theorem dix_ci (cs : List Int) (j : Int) (h0 : 0 ≤ j) (h1 : j < cs.length) : ∃ i : Int, ∀ (ρ : List Sl) (t : Pn), dix (.lst (cs.map D.int)) (.int j) ρ t = .ok (.int i) ρ t := by
  obtain ⟨n, rfl⟩ := Int.eq_ofNat_of_zero_le h0
  have hn : n < cs.length := by omega
  refine ⟨cs[n], fun ρ t => ?_⟩
  have e : L2.atI (cs.map D.int) (n : Int) = some (.int cs[n]) := by
    unfold L2.atI L2.ixN
    rw [if_pos h0, if_pos (by rw [List.length_map]; omega)]
    simp [List.getElem?_eq_getElem hn]
  simp only [dix, e]
  rfl
theorem dmul_ok {i : Int} (h1 : -18446744073709551616 < i) (h2 : i < 18446744073709551616) (j : Int) (ρ : List Sl) (t : Pn) : dmul (.int i) (.int j) ρ t = .ok (.int (i * j)) ρ t := by
  have h : -(2 ^ 64) < i ∧ i < 2 ^ 64 := ⟨by omega, by omega⟩
  simp only [dmul, if_pos h]
  rfl
theorem mul_mod (c : Int) {p : Int} (h1 : 0 < p) (h2 : p < 18446744073709551616) (j : Int) (ρ : List Sl) (t : Pn) : dmul (.int (c % p)) (.int j) ρ t = .ok (.int (c % p * j)) ρ t :=
  dmul_ok (by have := Int.emod_nonneg c (show p ≠ 0 by omega); omega) (by have := Int.emod_lt_of_pos c h1; omega) j ρ t
theorem pw18 (ρ : List Sl) (t : Pn) : dpow (.int 10) (.int 18) ρ t = .ok (.int 1000000000000000000) ρ t := rfl
theorem plains_int : ∀ (n : Nat) (cs : List Int), plains n (cs.map D.int) = true
  | _, [] => rfl
  | n, c :: cs => by
    show (plain n (.int c) && plains n (cs.map D.int)) = true
    rw [plains_int n cs]
    cases n <;> rfl
theorem deq_nil (cs : List Int) (ρ : List Sl) (t : Pn) : deq (.lst (cs.map D.int)) (.lst []) ρ t = .ok (.bl (decide (cs = []))) ρ t := by
  have h1 : plain 60 (.lst (cs.map D.int)) = true := plains_int 59 cs
  have h2 : plain 60 (.lst []) = true := rfl
  unfold deq
  rw [if_pos ⟨h1, h2⟩]
  cases cs with
  | nil => rfl
  | cons c cs =>
    rw [show decide (c :: cs = []) = false from rfl]
    rfl
theorem deq_nil0 (ρ : List Sl) (t : Pn) : deq (.lst []) (.lst []) ρ t = .ok (.bl true) ρ t := deq_nil [] ρ t
theorem draw_ok (t : Pn) (m : Int) (h : PnOk t top40) (m1 : 1 ≤ m) (m2 : m < 1000000) :
    (f_law_draw [.int m] t).post (fun d _ t' => ∃ i, d = .int i ∧ 0 ≤ i ∧ i < m ∧ t'.cells = t.cells ∧ t.k ≤ t'.k ∧ t'.k ≤ t.k + 1 ∧ 0 ≤ t'.z) noX := by
  obtain ⟨k0, kn, z0, len⟩ := h
  show (runD m_law_draw (ent 7 (.pn :: [.int m].map Sl.im)) t).post _ _
  unfold runD ent m_law_draw
  have m0 : 0 < m := by omega
  have m3 : m < 1073741824 := by omega
  have e0 : 0 ≤ t.z / m := Int.ediv_nonneg z0 (by omega)
  have e1 : 0 ≤ t.k + 1 := by omega
  have p1 := fun j ρ t => dmul_ok (i := 7) (by decide) (by decide) j ρ t
  have p2 := fun j ρ t => dmul_ok (i := 27011) (by decide) (by decide) j ρ t
  have p3 := fun j ρ t => dmul_ok (i := 853) (by decide) (by decide) j ρ t
  have p4 := fun j ρ t => dmul_ok (i := 40213) (by decide) (by decide) j ρ t
  have p5 := fun j ρ t => dmul_ok (i := 37) (by decide) (by decide) j ρ t
  have p6 := fun j ρ t' => dmul_ok (i := 27011 * t.k) (by omega) (by unfold top40 at kn; omega) j ρ t'
  have p7 := fun c j ρ t => mul_mod c (p := 4294965361) (by decide) (by decide) j ρ t
  have p8 := fun c j ρ t => mul_mod c (p := 4294965383) (by decide) (by decide) j ρ t
  have p9 := fun c j ρ t => mul_mod c (p := 4294965337) (by decide) (by decide) j ρ t
  have fin : ∀ c : Int, 0 ≤ c % m ∧ c % m < m := fun c => ⟨Int.emod_nonneg c (by omega), Int.emod_lt_of_pos c m0⟩
  have l1 : ∀ s : Int, t.k ≤ s + 1 → True := fun _ _ => trivial
  by_cases hz : 0 < t.z
  · simp [sq_ap', sif_ap, asB_ap, e2_ap, pget, pput, rZ, rK, rC, wZ, wK, asg_ap, acons_ap, anil_ap, sret_ap, spar, dmod, dfdiv, dint, dcmp, m0, m3, e0, e1, dadd, hz]
    exact ⟨(fin _).1, (fin _).2, by omega⟩
  · by_cases hc : t.cells = []
    · simp [sq_ap', sif_ap, asB_ap, e2_ap, pget, pput, rZ, rK, rC, wZ, wK, asg_ap, acons_ap, anil_ap, sret_ap, spar, dmod, dfdiv, dint, dcmp, m0, m3, e0, e1, dadd, hz, hc, p1, z0, deq_nil, deq_nil0, elst, len_l]
      exact ⟨(fin _).1, (fin _).2, by omega⟩
    · have hl : 0 < t.cells.length := List.length_pos_iff.mpr hc
      obtain ⟨c, ec⟩ := dix_ci t.cells (t.k % t.cells.length) (Int.emod_nonneg _ (by omega)) (Int.emod_lt_of_pos _ (by omega))
      by_cases hb : t.k < t.cells.length ∧ 1000000000000000000 ≤ (if c < 0 then -c else c)
      · have hq : 0 ≤ ((if c < 0 then -c else c) - 1000000000000000000) / m := Int.ediv_nonneg (by omega) (by omega)
        simp [sq_ap', sif_ap, asB_ap, e2_ap, pget, pput, rZ, rK, rC, wZ, wK, asg_ap, acons_ap, anil_ap, sret_ap, spar, dmod, dfdiv, dint, dcmp, m0, m3, e0, e1, dadd, hz, hc, p1, z0, hl, ec, deq_nil, elst, len_l, band, dabs, pw18, dsub, hb, hq]
        exact ⟨(fin _).1, (fin _).2, by omega⟩
      · simp [sq_ap', sif_ap, asB_ap, e2_ap, pget, pput, rZ, rK, rC, wZ, wK, asg_ap, acons_ap, anil_ap, sret_ap, spar, dmod, dfdiv, dint, dcmp, m0, m3, e0, e1, dadd, hz, hc, p1, z0, hl, ec, deq_nil, elst, len_l, band, dabs, pw18, dsub, p2, p3, p4, p5, p6, p7, p8, p9]
        have g : ∀ x : Int, ∃ i : Int, D.int (x % m) = D.int i ∧ 0 ≤ i ∧ i < m ∧ t.cells = t.cells ∧ t.k ≤ t.k + 1 ∧ t.k + 1 ≤ t.k + 1 ∧ 0 ≤ t.z := fun x => ⟨_, rfl, (fin x).1, (fin x).2, rfl, by omega, by omega, z0⟩
        by_cases h1 : t.k < t.cells.length
        · by_cases h2 : 1000000000000000000 ≤ (if c < 0 then -c else c)
          · exact absurd ⟨h1, h2⟩ hb
          · rw [if_pos h1, if_neg h2]
            exact g _
        · rw [if_neg h1]
          exact g _
/-- what a drawn M leaves of the pen -/
structure Nx (t t' : Pn) (n : Int) : Prop where
  c : t'.cells = t.cells
  k : t.k ≤ t'.k
  n : t'.k ≤ t.k + n
  z : 0 ≤ t'.z
theorem Nx.trans {t t1 t2 : Pn} {n m : Int} (a : Nx t t1 n) (b : Nx t1 t2 m) : Nx t t2 (n + m) := ⟨b.c.trans a.c, Int.le_trans a.k b.k, by have := a.n; have := b.n; omega, b.z⟩
theorem PnOk.nx {t t' : Pn} {n m : Int} (h : PnOk t n) (x : Nx t t' m) : PnOk t' (n + m) := ⟨Int.le_trans h.k0 x.k, by have := x.n; have := h.kn; omega, x.z, by rw [x.c]; exact h.len⟩
theorem PnOk.le {t : Pn} {n m : Int} (h : PnOk t n) (l : n ≤ m) : PnOk t m := ⟨h.k0, Int.le_trans h.kn l, h.z0, h.len⟩
/-- a draw within an expression -/
theorem draw_p {i : Nat} {ρ : List Sl} {t : Pn} {m : Int} (hi : ρ[i]? = some .pn) (h : PnOk t top40) (m1 : 1 ≤ m) (m2 : m < 1000000) {P : D → List Sl → Pn → Prop} (q : ∀ j t', 0 ≤ j → j < m → Nx t t' 1 → P (.int j) ρ t') :
    (penc i (mb (acons (mr (.int m)) anil) (callP f_law_draw)) ρ t).post P noX := by
  unfold penc
  rw [hi]
  simp only [mb_ap, acons_ap, anil_ap, mr_ap, bind_ok', callP]
  have d := draw_ok t m h m1 m2
  cases e : f_law_draw [.int m] t with
  | ok d0 ρ0 t0 =>
    rw [e] at d
    obtain ⟨j, rfl, j0, j1, c, k1, k2, z⟩ := d
    exact q j t0 j0 j1 ⟨c, k1, k2, z⟩
  | ex c ns vs t0 => rw [e] at d; exact d.elim
  | bad => rw [e] at d; exact d.elim
theorem bind_post {α β : Type} {r : Ou α} {k : α → M β} {P : β → List Sl → Pn → Prop} {E : Str → List Str → List D → Pn → Prop} (h : r.post (fun a ρ t => (k a ρ t).post P E) E) : (r.bind k).post P E := by
  cases r <;> exact h
theorem callP_p {fn : List D → Pn → Ou D} {ds : List D} {ρ : List Sl} {t : Pn} {P : D → List Sl → Pn → Prop} {R : D → Pn → Prop} (h : (fn ds t).post (fun d _ t' => R d t') noX) (q : ∀ d t', R d t' → P d ρ t') : (callP fn ds ρ t).post P noX := by
  unfold callP
  cases e : fn ds t with
  | ok d0 ρ0 t0 => rw [e] at h; exact q _ _ h
  | ex c ns vs t0 => rw [e] at h; exact h.elim
  | bad => rw [e] at h; exact h.elim
theorem draw_ok' (t : Pn) (m : Int) (h : PnOk t top40) (m1 : 1 ≤ m) (m2 : m < 1000000) : (f_law_draw [.int m] t).post (fun d _ t' => ∃ j, d = .int j ∧ 0 ≤ j ∧ j < m ∧ Nx t t' 1) noX :=
  post_mono (draw_ok t m h m1 m2) (fun d _ t' ⟨j, e, j0, j1, c, k1, k2, z⟩ => ⟨j, e, j0, j1, c, k1, k2, z⟩) fun _ _ _ _ h => h
theorem dix_mem (xs : List D) (j : Int) (h0 : 0 ≤ j) (h1 : j < xs.length) (ρ : List Sl) (t : Pn) : ∃ d ∈ xs, dix (.lst xs) (.int j) ρ t = .ok d ρ t := by
  obtain ⟨n, rfl⟩ := Int.eq_ofNat_of_zero_le h0
  have hn : n < xs.length := by omega
  refine ⟨xs[n], List.getElem_mem hn, ?_⟩
  have e : L2.atI xs (n : Int) = some xs[n] := by
    unfold L2.atI L2.ixN
    rw [if_pos h0, if_pos (by omega)]
    simp [List.getElem?_eq_getElem hn]
  simp only [dix, e]
  rfl
/-- one of a list -/
theorem pick_ok (t : Pn) (xs : List D) (h : PnOk t top40) (h1 : xs ≠ []) (h2 : xs.length ≤ 100) :
    (f_law_pick [.lst xs] t).post (fun d _ t' => d ∈ xs ∧ Nx t t' 1) noX := by
  have hl : 0 < xs.length := List.length_pos_iff.mpr h1
  show (runD m_law_pick (ent 2 (.pn :: [.lst xs].map Sl.im)) t).post _ _
  unfold runD ent m_law_pick
  simp only [sret_ap, e2_ap, List.map_cons, List.map_nil, List.length_cons, List.length_nil, List.replicate, List.append_nil, Nat.sub_self]
  refine bind_post (bind_post (bind_post ?_))
  rw [evar_ap 1 _ _ (.lst xs) rfl]
  refine bind_post ?_
  unfold penc
  simp only [List.getElem?_cons_zero, mb_ap, acons_ap, anil_ap, mr_ap, bind_ok', len_l]
  rw [evar_ap 1 _ _ (.lst xs) rfl]
  simp only [bind_ok', len_l, mb_ap, mr_ap, acons_ap, anil_ap]
  refine callP_p (draw_ok' t xs.length h (by omega) (by omega)) fun d t' ⟨j, e, j0, j1, nx⟩ => ?_
  subst e
  obtain ⟨d, hd, e⟩ := dix_mem xs j j0 j1 [Sl.pn, Sl.im (.lst xs)] t'
  rw [e]
  exact ⟨hd, nx⟩
end K38

set_option Elab.async false
set_option linter.all false
set_option maxRecDepth 100000
set_option maxHeartbeats 1000000
namespace K38
open PySem DL
/-! ### commutes -/
def sB : D → Bool
  | .str _ => true
  | _ => false
def part (d : D) : Prop := (∃ s, d = .str s) ∨ d = .non ∨ ∃ i, d = .int i
theorem part_isT {d : D} (h : part d) : isT "str" d = some (sB d) := by
  rcases h with ⟨s, rfl⟩ | rfl | ⟨i, rfl⟩ <;> rfl
theorem part_isS {d : D} (h : part d) : isS d = true := by
  rcases h with ⟨s, rfl⟩ | rfl | ⟨i, rfl⟩ <;> rfl
def lookD (A : Acc) (k : D) : D := (dlook (ksD A) (vsD A) (nk k)).getD .non
def tupK (d1 d2 d3 d4 d5 : D) (b : Bool) : D := .tup [d1, d2, d3, d4, d5, .bl b]
theorem look_non {A : Acc} {d1 d2 d3 d4 d5 : D} {b : Bool} (p1 : part d1) (p2 : part d2) (p3 : part d3) (p4 : part d4) (p5 : part d5) (h : (sB d1 && (sB d2 && (sB d3 && (sB d4 && sB d5)))) = false) : lookD A (tupK d1 d2 d3 d4 d5 b) = .non := by
  unfold lookD
  rw [look_none]
  · rfl
  · intro c e
    have e : NestedKey.tup [nkS d1, nkS d2, nkS d3, nkS d4, nkS d5, .num (b2n b)] = .tup [.text c.1, .text c.2.1, .text c.2.2.1, .text c.2.2.2.1, .text c.2.2.2.2.1, .num (b2n c.2.2.2.2.2)] := e
    injection e with e
    injection e with e1 e
    injection e with e2 e
    injection e with e3 e
    injection e with e4 e
    injection e with e5 e
    have t : ∀ {d : D} {x : Str}, part d → nkS d = .text x → sB d = true := fun {d x} p z => by
      rcases p with ⟨s, rfl⟩ | rfl | ⟨i, rfl⟩
      · rfl
      · cases z
      · cases z
    rw [t p1 e1, t p2 e2, t p3 e3, t p4 e4, t p5 e5] at h
    cases h
theorem look_all {A : Acc} {d1 d2 d3 d4 d5 : D} {b : Bool} (h : (sB d1 && (sB d2 && (sB d3 && (sB d4 && sB d5)))) = true) : ∃ c : K6, tupK d1 d2 d3 d4 d5 b = key c := by
  simp only [Bool.and_eq_true] at h
  have t : ∀ {d : D}, sB d = true → ∃ s, d = .str s := fun {d} z => by cases d <;> first | exact ⟨_, rfl⟩ | cases z
  obtain ⟨a1, rfl⟩ := t h.1
  obtain ⟨a2, rfl⟩ := t h.2.1
  obtain ⟨a3, rfl⟩ := t h.2.2.1
  obtain ⟨a4, rfl⟩ := t h.2.2.2.1
  obtain ⟨a5, rfl⟩ := t h.2.2.2.2
  exact ⟨(a1, a2, a3, a4, a5, b), rfl⟩
theorem look_same {A B : Acc} (hs : ∀ c, look A c = look B c) {d1 d2 d3 d4 d5 : D} {b : Bool} (p1 : part d1) (p2 : part d2) (p3 : part d3) (p4 : part d4) (p5 : part d5) : lookD A (tupK d1 d2 d3 d4 d5 b) = lookD B (tupK d1 d2 d3 d4 d5 b) := by
  cases h : (sB d1 && (sB d2 && (sB d3 && (sB d4 && sB d5)))) with
  | false => rw [look_non p1 p2 p3 p4 p5 h, look_non p1 p2 p3 p4 p5 h]
  | true =>
    obtain ⟨c, e⟩ := look_all (A := A) (b := b) h
    unfold lookD
    rw [e, look_key, look_key, hs]
theorem lookD_plain (A : Acc) (d1 d2 d3 d4 d5 : D) (b : Bool) : lookD A (tupK d1 d2 d3 d4 d5 b) = .non ∨ ∃ x, lookD A (tupK d1 d2 d3 d4 d5 b) = .bl x := by
  unfold lookD
  have h : ∀ (r : Acc) (n : NestedKey), dlook (ksD r) (vsD r) n = none ∨ ∃ x, dlook (ksD r) (vsD r) n = some (.bl x) := fun r n => by
    induction r with
    | nil => exact .inl rfl
    | cons p r ih =>
      show (if nk (key p.1) = n then some (D.bl p.2) else dlook (ksD r) (vsD r) n) = none ∨ ∃ x, (if nk (key p.1) = n then some (D.bl p.2) else dlook (ksD r) (vsD r) n) = some (.bl x)
      split
      · exact .inr ⟨_, rfl⟩
      · exact ih
  rcases h A (nk (tupK d1 d2 d3 d4 d5 b)) with e | ⟨x, e⟩
  · rw [e]; exact .inl rfl
  · rw [e]; exact .inr ⟨x, rfl⟩
theorem kk_tup {d1 d2 d3 d4 d5 : D} {b : Bool} (p1 : part d1) (p2 : part d2) (p3 : part d3) (p4 : part d4) (p5 : part d5) : kkind (tupK d1 d2 d3 d4 d5 b) = some true := by
  show (if [d1, d2, d3, d4, d5, D.bl b].all isS = true then some true else none) = some true
  rw [if_pos]
  simp only [List.all_cons, List.all_nil, part_isS p1, part_isS p2, part_isS p3, part_isS p4, part_isS p5, Bool.true_and, Bool.and_true]
  rfl
theorem getT_ok {A : Acc} (hA : A ≠ []) {d1 d2 d3 d4 d5 : D} {b : Bool} (p1 : part d1) (p2 : part d2) (p3 : part d3) (p4 : part d4) (p5 : part d5) (ρ : List Sl) (t : Pn) : dgetT (aD A) (tupK d1 d2 d3 d4 d5 b) ρ t = .ok (lookD A (tupK d1 d2 d3 d4 d5 b)) ρ t := by
  show (if tdk (ksD A) = true ∧ ksD A ≠ [] ∧ kkind (tupK d1 d2 d3 d4 d5 b) = some true then mr ((dlook (ksD A) (vsD A) (nk (tupK d1 d2 d3 d4 d5 b))).getD .non) else mx : M D) ρ t = _
  rw [if_pos ⟨tdk_ks A, fun z => hA (List.map_eq_nil_iff.mp z), kk_tup p1 p2 p3 p4 p5⟩]
  rfl
theorem lc_str {ρ : List Sl} (h8 : 8 < ρ.length) : ∀ (ds acc : List D) (t : Pn), (∀ d ∈ ds, part d) → acc.length + ds.length ≤ lim → lcGo (gname 8) (mr true) (eisi "str" (evar 8)) [8] ρ ds acc t = .ok (acc ++ ds.map fun d => .bl (sB d)) ρ t
  | [], acc, t, _, _ => by rw [List.map_nil, List.append_nil]; rfl
  | d :: ds, acc, t, hp, hl => by
    rw [List.length_cons] at hl
    have h9 : (((unS ρ [8]).set 8 (.im d)) : List Sl)[8]? = some (.im d) := by
      rw [List.getElem?_set_self]
      show 8 < ((ρ.set 8 .un)).length
      rw [List.length_set]; exact h8
    have e : eisi "str" (evar 8) ((unS ρ [8]).set 8 (.im d)) t = .ok (.bl (sB d)) ((unS ρ [8]).set 8 (.im d)) t := by
      unfold eisi
      rw [eq_mb (evar_ok h9), part_isT (hp d List.mem_cons_self)]
      rfl
    show (((gname 8) d (unS ρ [8]) t).bind _) = _
    rw [show gname 8 d (unS ρ [8]) t = .ok () ((unS ρ [8]).set 8 (.im d)) t from rfl, bind_ok, show (mr true : M Bool) ((unS ρ [8]).set 8 (.im d)) t = .ok true ((unS ρ [8]).set 8 (.im d)) t from rfl, bind_ok, if_pos rfl, e, bind_ok, if_pos (show acc.length < lim by omega), lc_str h8 ds (acc ++ [D.bl (sB d)]) t (fun x hx => hp x (List.mem_cons_of_mem _ hx)) (by rw [List.length_append]; show acc.length + 1 + ds.length ≤ lim; omega), List.append_assoc]
    rfl
theorem bools_map' {A : Type} (f : A → Bool) : ∀ cs : List A, bools (cs.map fun c => D.bl (f c)) = some (cs.map f)
  | [] => rfl
  | c :: cs => by rw [List.map_cons, bools, bools_map' f cs]; rfl
theorem dall_map' {A : Type} (f : A → Bool) (cs : List A) (ρ : List Sl) (t : Pn) : dall [.lst (cs.map fun c => D.bl (f c))] ρ t = .ok (.bl (cs.all f)) ρ t := by
  simp only [dall, bools_map']
  rw [List.all_map]; rfl
theorem com_ok {B : Acc} (hB : B ≠ []) {d1 d2 d3 d4 d5 : D} {b : Bool} (p1 : part d1) (p2 : part d2) (p3 : part d3) (p4 : part d4) (p5 : part d5) : (f_Book_commutes [bk B, d1, d2, d3, d4, d5, .bl b]).is (lookD B (tupK d1 d2 d3 d4 d5 b)) := by
  show Ou.is (runD m_Book_commutes [.im (bk B), .im d1, .im d2, .im d3, .im d4, .im d5, .im (.bl b), .un, .un] pn0) _
  refine run_is ?_
  generalize pn0 = t
  unfold m_Book_commutes
  have hE : bk B = .obj "Book" ["_told"] [aD B] := rfl
  refine p_sq <| p_asg ?_
  rw [eq_etup (eq_acons (evar_ok rfl) (eq_acons (evar_ok rfl) (eq_acons (evar_ok rfl) (eq_acons (evar_ok rfl) (eq_acons (evar_ok rfl) (eq_acons (evar_ok rfl) (nil_ok _ t))))))) (by show 6 ≤ lim; decide)]
  refine p_nx ?_
  show (sq _ _ [.im (bk B), .im d1, .im d2, .im d3, .im d4, .im d5, .im (.bl b), .im (tupK d1 d2 d3 d4 d5 b), .un] t).post _ _
  generalize hR : ([.im (bk B), .im d1, .im d2, .im d3, .im d4, .im d5, .im (.bl b), .im (tupK d1 d2 d3 d4 d5 b), .un] : List Sl) = R
  have r0 : R[0]? = some (.im (bk B)) := by rw [← hR]; rfl
  have r6 : R[6]? = some (.im (.bl b)) := by rw [← hR]; rfl
  have r7 : R[7]? = some (.im (tupK d1 d2 d3 d4 d5 b)) := by rw [← hR]; rfl
  have r8 : 8 < R.length := by rw [← hR]; show 8 < 9; decide
  have c1 : mb (esl (evar 7) (mr none) (osome (mb (mr (D.int 1)) dneg))) items R t = .ok [d1, d2, d3, d4, d5] R t := by
    have : esl (evar 7) (mr none) (osome (mb (mr (D.int 1)) dneg)) R t = .ok (.tup [d1, d2, d3, d4, d5]) R t := by
      unfold esl
      rw [eq_mb (evar_ok r7)]
      rfl
    rw [eq_mb this]
    rfl
  have c2 : lcD (mb (esl (evar 7) (mr none) (osome (mb (mr (D.int 1)) dneg))) items) (gname 8) (mr true) (eisi "str" (evar 8)) [8] R t = .ok (.lst ([d1, d2, d3, d4, d5].map fun d => .bl (sB d))) R t := by
    unfold lcD
    rw [eq_mb c1, lc_str r8 [d1, d2, d3, d4, d5] [] t (fun d hd => by
      simp only [List.mem_cons, List.not_mem_nil, or_false] at hd
      rcases hd with rfl | rfl | rfl | rfl | rfl <;> assumption) (by show 0 + 5 ≤ lim; decide)]
    rfl
  have c3 : mb (acons (lcD (mb (esl (evar 7) (mr none) (osome (mb (mr (D.int 1)) dneg))) items) (gname 8) (mr true) (eisi "str" (evar 8)) [8]) anil) dall R t = .ok (.bl (sB d1 && (sB d2 && (sB d3 && (sB d4 && sB d5))))) R t := by
    rw [eq_mb (eq_acons c2 (nil_ok R t)), dall_map']
    simp only [List.all_cons, List.all_nil, Bool.and_true]
  have c4 : eisi "bool" (evar 6) R t = .ok (.bl true) R t := by
    unfold eisi
    rw [eq_mb (evar_ok r6)]
    rfl
  have fin : (sret (mb (mb (evar 0) (dfld ["Book"] "_told")) fun d => mb (evar 7) fun k => dgetT d k) R t).post (fun fl _ _ => fl = .rt (lookD B (tupK d1 d2 d3 d4 d5 b))) noX := by
    refine p_sret ?_
    have e : mb (evar 0) (dfld ["Book"] "_told") R t = .ok (aD B) R t := by
      rw [eq_mb (evar_ok r0)]
      rfl
    rw [eq_mb e, eq_mb (evar_ok r7), getT_ok hB p1 p2 p3 p4 p5]
    rfl
  refine p_sq ?_
  cases hs : (sB d1 && (sB d2 && (sB d3 && (sB d4 && sB d5)))) with
  | false =>
    rw [hs] at c3
    rw [eq_if (eq_bor1 (eq_bnot (eq_btru (b := false) c3 rfl)))]
    rw [if_pos rfl]
    refine p_sret (p_mr ?_)
    show Fl.rt D.non = .rt (lookD B (tupK d1 d2 d3 d4 d5 b))
    rw [look_non p1 p2 p3 p4 p5 hs]
  | true =>
    rw [hs] at c3
    rw [eq_if ((eq_bor0 (eq_bnot (eq_btru (b := true) c3 rfl))).trans (eq_bnot (eq_btru (b := true) c4 rfl)))]
    exact p_nx fin
end K38

set_option Elab.async false
set_option linter.all false
set_option maxRecDepth 100000
set_option maxHeartbeats 1000000
namespace K38
open PySem DL
def nmD : List D := [(D.str "has"), (D.str "get"), (D.str "put"), (D.str "set"), (D.str "strike"), (D.str "begins"), (D.str ""), D.non]
def kdD : List D := [(D.str "yes"), (D.str "no"), (D.str "is"), (D.str "none"), (D.str "at"), (D.str "misuse"), (D.int 0)]
def rlD : List D := [(D.str "same"), (D.str "within"), (D.str "around"), (D.str "apart"), (D.str "beside")]
@[irreducible] def lw_one : M Fl := (spar 5 6 (acons (call0 f_law_all []) (acons (call0 f_known_book []) anil)))
@[irreducible] def lw_cond : M Fl := (sif (bor (asB (e2 (deqA true) (mb (evar 6) (dmeth "Book" "told_rows" f_Book_told_rows [] anil)) (evar 5))) (bor (asB (e2 (deqO "Book" f_Book__eq true) (evar 6) (mb (acons (evar 5) anil) fun ds => callI "Book" f_Book__init (ds ++ [])))) (bnot (asB (e2 (deqO "Book" f_Book__eq false) (evar 6) (call0 f_known_book [])))))) (sret (mr (D.bl false))) (mr Fl.nx))
@[irreducible] def lw_nm : M Fl := (asg 2 (elst (acons (mr (D.str "has")) (acons (mr (D.str "get")) (acons (mr (D.str "put")) (acons (mr (D.str "set")) (acons (mr (D.str "strike")) (acons (mr (D.str "begins")) (acons (mr (D.str "")) (acons (mr D.non) anil))))))))))
@[irreducible] def lw_kd : M Fl := (asg 3 (elst (acons (mr (D.str "yes")) (acons (mr (D.str "no")) (acons (mr (D.str "is")) (acons (mr (D.str "none")) (acons (mr (D.str "at")) (acons (mr (D.str "misuse")) (acons (mr (D.int 0)) anil)))))))))
@[irreducible] def lw_a : M Fl := (asg 7 (elst (acons (penc 1 (mb (acons (evar 2) anil) (callP f_law_pick))) (acons (penc 1 (mb (acons (evar 3) anil) (callP f_law_pick))) (acons (penc 1 (mb (acons (evar 2) anil) (callP f_law_pick))) (acons (penc 1 (mb (acons (evar 3) anil) (callP f_law_pick))) anil))))))
@[irreducible] def lw_b : M Fl := (asg 7 (e2 dadd (evar 7) (elst (acons (penc 1 (mb (acons (elst (acons (mr (D.str "same")) (acons (mr (D.str "within")) (acons (mr (D.str "around")) (acons (mr (D.str "apart")) (acons (mr (D.str "beside")) anil)))))) anil) (callP f_law_pick))) (acons (e2 deq (penc 1 (mb (acons (mr (D.int 2)) anil) (callP f_law_draw))) (mr (D.int 0))) anil)))))
@[irreducible] def lw_c : M Fl := (sif (asB (e2 dne (mb (evar 6) (dmeth "Book" "commutes" f_Book_commutes [] (acons (e2 dix (evar 7) (mr (D.int 0))) (acons (e2 dix (evar 7) (mr (D.int 1))) (acons (e2 dix (evar 7) (mr (D.int 2))) (acons (e2 dix (evar 7) (mr (D.int 3))) (acons (e2 dix (evar 7) (mr (D.int 4))) (acons (e2 dix (evar 7) (mr (D.int 5))) anil)))))))) (mb (evar 5) fun d => mb (mb (acons (evar 7) anil) dtuple) fun k => dgetT d k))) (sret (mr (D.bl false))) (mr Fl.nx))
@[irreducible] def lw_for : M Fl := (sfor (mb (acons (mr (D.int 12)) anil) drng1) (gname 4) (sq lw_a (sq lw_b lw_c)))
theorem m_law_eq : m_law = sq lw_one (sq lw_cond (sq lw_nm (sq lw_kd (sq lw_for (sret (mr (D.bl true))))))) := by
  unfold m_law lw_one lw_cond lw_nm lw_kd lw_for lw_a lw_b lw_c
  rfl

theorem eq_deqO {neg : Bool} {A B : Acc} (hA : A ≠ []) (hB : B ≠ []) (h : eqDct (ksD A) (vsD A) (ksD B) (vsD B) = true) (ρ : List Sl) (t : Pn) : deqO "Book" f_Book__eq neg (bk A) (bk B) ρ t = .ok (.bl (true != neg)) ρ t := by
  obtain ⟨ρ0, t0, e⟩ := beq_ok hA hB h
  show (if "Book" = "Book" ∧ "Book" = "Book" then mb (call0 f_Book__eq [bk A, bk B]) fun d => match d with
    | .bl r => mr (.bl (r != neg))
    | _ => mx else mx : M D) ρ t = _
  rw [if_pos ⟨rfl, rfl⟩]
  rw [eq_mb (show call0 f_Book__eq [bk A, bk B] ρ t = .ok (.bl true) ρ t by unfold call0; rw [e]; rfl)]
  rfl
theorem eq_e2 {c : D → D → M D} {f h : M D} {x y z : D} {ρ : List Sl} {t : Pn} (e1 : f ρ t = .ok x ρ t) (e2' : h ρ t = .ok y ρ t) (e3 : c x y ρ t = .ok z ρ t) : e2 c f h ρ t = .ok z ρ t := by
  unfold e2
  rw [eq_mb e1, eq_mb e2', e3]
theorem cond_ok {A B : Acc} (hA : A ≠ []) (hB : B ≠ []) (nA : (A.map (·.1)).Nodup) (nB : (B.map (·.1)).Nodup) (lA : A.length ≤ lim) (lB : B.length ≤ lim) (h : eqDct (ksD B) (vsD B) (ksD A) (vsD A) = true) (hBB : eqDct (ksD B) (vsD B) (ksD B) (vsD B) = true) (hk : (f_known_book []).is (bk B))
    {ρ : List Sl} {t : Pn} (h5 : ρ[5]? = some (.im (aD A))) (h6 : ρ[6]? = some (.im (bk B))) {P : Fl → List Sl → Pn → Prop} (q : P .nx ρ t) : (lw_cond ρ t).post P noX := by
  unfold lw_cond
  obtain ⟨ρ0, t0, e0⟩ := told_ok nB lB
  obtain ⟨ρ1, t1, e1⟩ := hk
  have a1 : mb (evar 6) (dmeth "Book" "told_rows" f_Book_told_rows [] anil) ρ t = .ok (aD B) ρ t := by
    rw [eq_mb (evar_ok h6)]
    show (if "Book" = "Book" ∧ (["_told"] : List Str).contains "told_rows" = false then mb anil fun ds => call0 f_Book_told_rows (bk B :: (ds ++ [])) else mx : M D) ρ t = _
    rw [if_pos ⟨rfl, by decide⟩, eq_mb (nil_ok ρ t)]
    show call0 f_Book_told_rows [bk B] ρ t = _
    unfold call0
    rw [e0]
    rfl
  have c1 := eq_e2 (c := deqA true) a1 (evar_ok h5) (ne_ok' hB hA h ρ t)
  have a2 : (mb (acons (evar 5) anil) fun ds => callI "Book" f_Book__init (ds ++ [])) ρ t = .ok (bk A) ρ t := by
    rw [eq_mb (eq_acons (evar_ok h5) (nil_ok ρ t)), show [aD A] ++ ([] : List D) = [aD A] from rfl]
    exact init_ok nA lA ρ t
  have c2 := eq_e2 (c := deqO "Book" f_Book__eq true) (evar_ok h6) a2 (eq_deqO hB hA h ρ t)
  have a3 : call0 f_known_book [] ρ t = .ok (bk B) ρ t := by
    unfold call0
    rw [e1]
    rfl
  have c3 := eq_e2 (c := deqO "Book" f_Book__eq false) (evar_ok h6) a3 (eq_deqO hB hB hBB ρ t)
  rw [eq_no ((eq_bor0 (eq_asB c1)).trans ((eq_bor0 (eq_asB c2)).trans (eq_bnot (eq_asB c3))))]
  exact q
theorem pick_p {h : M (List D)} {xs : List D} {ρ : List Sl} {t : Pn} (hp : ρ[1]? = some .pn) (hx : h ρ t = .ok [.lst xs] ρ t) (hk : PnOk t top40) (h1 : xs ≠ []) (h2 : xs.length ≤ 100) {P : D → List Sl → Pn → Prop} (q : ∀ d ∈ xs, ∀ t', Nx t t' 1 → P d ρ t') : (penc 1 (mb h (callP f_law_pick)) ρ t).post P noX := by
  refine p_penc hp ?_
  rw [eq_mb hx]
  exact callP_p (pick_ok t xs hk h1 h2) fun d t' ⟨hd, nx⟩ => q d hd t' nx
theorem nm_part : ∀ d ∈ nmD, part d := by
  intro d hd
  simp only [nmD, List.mem_cons, List.not_mem_nil, or_false] at hd
  rcases hd with rfl | rfl | rfl | rfl | rfl | rfl | rfl | rfl <;> first | exact .inl ⟨_, rfl⟩ | exact .inr (.inl rfl)
theorem kd_part : ∀ d ∈ kdD, part d := by
  intro d hd
  simp only [kdD, List.mem_cons, List.not_mem_nil, or_false] at hd
  rcases hd with rfl | rfl | rfl | rfl | rfl | rfl | rfl <;> first | exact .inl ⟨_, rfl⟩ | exact .inr (.inr ⟨_, rfl⟩)
theorem rl_part : ∀ d ∈ rlD, part d := by
  intro d hd
  simp only [rlD, List.mem_cons, List.not_mem_nil, or_false] at hd
  rcases hd with rfl | rfl | rfl | rfl | rfl <;> exact .inl ⟨_, rfl⟩
theorem rl_it (ρ : List Sl) (t : Pn) : acons (elst (acons (mr (D.str "same")) (acons (mr (D.str "within")) (acons (mr (D.str "around")) (acons (mr (D.str "apart")) (acons (mr (D.str "beside")) anil)))))) anil ρ t = .ok [.lst rlD] ρ t := by
  have e : elst (acons (mr (D.str "same")) (acons (mr (D.str "within")) (acons (mr (D.str "around")) (acons (mr (D.str "apart")) (acons (mr (D.str "beside")) anil))))) ρ t = .ok (.lst rlD) ρ t := by
    unfold elst
    rw [eq_mb (eq_acons (mr_ok _ ρ t) (eq_acons (mr_ok _ ρ t) (eq_acons (mr_ok _ ρ t) (eq_acons (mr_ok _ ρ t) (eq_acons (mr_ok _ ρ t) (nil_ok ρ t)))))), if_pos (by show 5 ≤ lim; decide)]
    rfl
  exact eq_acons e (nil_ok ρ t)
theorem ix_key (A : Acc) (d1 d2 d3 d4 d5 : D) (b : Bool) (ρ : List Sl) (t : Pn) (h : ρ[7]? = some (.im (.lst [d1, d2, d3, d4, d5, .bl b]))) : acons (e2 dix (evar 7) (mr (D.int 0))) (acons (e2 dix (evar 7) (mr (D.int 1))) (acons (e2 dix (evar 7) (mr (D.int 2))) (acons (e2 dix (evar 7) (mr (D.int 3))) (acons (e2 dix (evar 7) (mr (D.int 4))) (acons (e2 dix (evar 7) (mr (D.int 5))) anil))))) ρ t = .ok [d1, d2, d3, d4, d5, .bl b] ρ t :=
  eq_acons (eq_e2 (evar_ok h) (mr_ok _ ρ t) rfl) (eq_acons (eq_e2 (evar_ok h) (mr_ok _ ρ t) rfl) (eq_acons (eq_e2 (evar_ok h) (mr_ok _ ρ t) rfl) (eq_acons (eq_e2 (evar_ok h) (mr_ok _ ρ t) rfl) (eq_acons (eq_e2 (evar_ok h) (mr_ok _ ρ t) rfl) (eq_acons (eq_e2 (evar_ok h) (mr_ok _ ρ t) rfl) (nil_ok ρ t))))))
theorem dne_ok {x : D} (h : x = .non ∨ ∃ b, x = .bl b) (ρ : List Sl) (t : Pn) : dne x x ρ t = .ok (.bl false) ρ t := by
  rcases h with rfl | ⟨b, rfl⟩
  · rfl
  · cases b <;> rfl
theorem c_ok {A B : Acc} (hA : A ≠ []) (hB : B ≠ []) (hs : ∀ c, look A c = look B c) {d1 d2 d3 d4 d5 : D} {b : Bool} (p1 : part d1) (p2 : part d2) (p3 : part d3) (p4 : part d4) (p5 : part d5) {ρ : List Sl} {t : Pn} (h5 : ρ[5]? = some (.im (aD A))) (h6 : ρ[6]? = some (.im (bk B))) (h7 : ρ[7]? = some (.im (.lst [d1, d2, d3, d4, d5, .bl b]))) {P : Fl → List Sl → Pn → Prop} (q : P .nx ρ t) :
    (lw_c ρ t).post P noX := by
  unfold lw_c
  obtain ⟨ρ0, t0, e0⟩ := com_ok hB (b := b) p1 p2 p3 p4 p5
  have a1 : ∀ M1 : M (List D), M1 ρ t = .ok [d1, d2, d3, d4, d5, .bl b] ρ t → mb (evar 6) (dmeth "Book" "commutes" f_Book_commutes [] M1) ρ t = .ok (lookD B (tupK d1 d2 d3 d4 d5 b)) ρ t := fun M1 h => by
    rw [eq_mb (evar_ok h6)]
    show (if "Book" = "Book" ∧ (["_told"] : List Str).contains "commutes" = false then mb M1 fun ds => call0 f_Book_commutes (bk B :: (ds ++ [])) else mx : M D) ρ t = _
    rw [if_pos ⟨rfl, by decide⟩, eq_mb h]
    show call0 f_Book_commutes [bk B, d1, d2, d3, d4, d5, .bl b] ρ t = _
    unfold call0
    rw [e0]
    rfl
  have a2 : (mb (evar 5) fun d => mb (mb (acons (evar 7) anil) dtuple) fun k => dgetT d k) ρ t = .ok (lookD B (tupK d1 d2 d3 d4 d5 b)) ρ t := by
    have e : mb (acons (evar 7) anil) dtuple ρ t = .ok (tupK d1 d2 d3 d4 d5 b) ρ t := by
      rw [eq_mb (eq_acons (evar_ok h7) (nil_ok ρ t))]
      rfl
    rw [eq_mb (evar_ok h5), eq_mb e, getT_ok hA p1 p2 p3 p4 p5, look_same hs p1 p2 p3 p4 p5]
  rw [eq_no (eq_asB (eq_e2 (c := dne) (a1 _ (ix_key A d1 d2 d3 d4 d5 b ρ t h7)) a2 (dne_ok (lookD_plain B d1 d2 d3 d4 d5 b) ρ t)))]
  exact q
end K38

set_option Elab.async false
set_option linter.all false
set_option maxRecDepth 100000
set_option maxHeartbeats 1000000
namespace K38
open PySem DL
theorem deq_int (j : Int) (ρ : List Sl) (t : Pn) : deq (.int j) (.int 0) ρ t = .ok (.bl (PyData.eqv (toP (.int j)) (toP (.int 0)))) ρ t := by
  unfold deq
  rw [if_pos ⟨rfl, rfl⟩]
  rfl
theorem nm_ne : nmD ≠ [] := by unfold nmD; simp
theorem kd_ne : kdD ≠ [] := by unfold kdD; simp
theorem rl_ne : rlD ≠ [] := by unfold rlD; simp
theorem nm_len : nmD.length ≤ 100 := by unfold nmD; simp
theorem kd_len : kdD.length ≤ 100 := by unfold kdD; simp
theorem rl_len : rlD.length ≤ 100 := by unfold rlD; simp
theorem turn_ok {A B : Acc} (hA : A ≠ []) (hB : B ≠ []) (hs : ∀ c, look A c = look B c) {N K : List D} (hN : N = nmD) (hK : K = kdD) {x4 x7 : Sl} {t : Pn} {n : Int} (hk : PnOk t n) (hn : n + 6 ≤ top40) :
    ((sq lw_a (sq lw_b lw_c)) [.un, .pn, .im (.lst N), .im (.lst K), x4, .im (aD A), .im (bk B), x7] t).post (fun fl ρ' t' => fl = .nx ∧ ∃ x7, ρ' = [.un, .pn, .im (.lst N), .im (.lst K), x4, .im (aD A), .im (bk B), x7] ∧ PnOk t' (n + 6)) noX := by
  have nN : N ≠ [] := by rw [hN]; exact nm_ne
  have nK : K ≠ [] := by rw [hK]; exact kd_ne
  have lN : N.length ≤ 100 := by rw [hN]; exact nm_len
  have lK : K.length ≤ 100 := by rw [hK]; exact kd_len
  have pN : ∀ d ∈ N, part d := by rw [hN]; exact nm_part
  have pK : ∀ d ∈ K, part d := by rw [hK]; exact kd_part
  clear hN hK
  refine p_sq ?_
  unfold lw_a
  refine p_asg <| p_elst <| p_acons ?_
  refine pick_p rfl (eq_acons (evar_ok rfl) (nil_ok _ _)) (hk.le (by omega)) nN lN fun d1 m1 t1 x1 => ?_
  have k1 := hk.nx x1
  refine p_acons ?_
  refine pick_p rfl (eq_acons (evar_ok rfl) (nil_ok _ _)) (k1.le (by omega)) nK lK fun d2 m2 t2 x2 => ?_
  have k2 := k1.nx x2
  refine p_acons ?_
  refine pick_p rfl (eq_acons (evar_ok rfl) (nil_ok _ _)) (k2.le (by omega)) nN lN fun d3 m3 t3 x3 => ?_
  have k3 := k2.nx x3
  refine p_acons ?_
  refine pick_p rfl (eq_acons (evar_ok rfl) (nil_ok _ _)) (k3.le (by omega)) nK lK fun d4 m4 t4 x4' => ?_
  have k4 := k3.nx x4'
  refine p_anil ⟨by show 4 ≤ lim; decide, p_nx ?_⟩
  refine p_sq ?_
  unfold lw_b
  refine p_asg <| p_e2 <| p_var (d := .lst [d1, d2, d3, d4]) rfl ?_
  refine p_elst <| p_acons ?_
  refine pick_p rfl (rl_it _ _) (k4.le (by omega)) rl_ne rl_len fun d5 m5 t5 x5 => ?_
  have k5 := k4.nx x5
  refine p_acons <| p_e2 ?_
  refine draw_p rfl (k5.le (by omega)) (by decide) (by decide) fun j t6 j0 j1 x6 => ?_
  have k6 := k5.nx x6
  refine p_mr ?_
  rw [deq_int]
  refine p_ok ?_
  refine p_anil ?_
  refine ⟨by show 2 ≤ lim; decide, ?_⟩
  show ((if [d1, d2, d3, d4].length + [d5, D.bl (PyData.eqv (toP (.int j)) (toP (.int 0)))].length ≤ lim then mr (D.lst ([d1, d2, d3, d4] ++ [d5, D.bl (PyData.eqv (toP (.int j)) (toP (.int 0)))])) else mx : M D) _ t6).post _ _
  rw [if_pos (by show 6 ≤ lim; decide)]
  refine p_mr (p_nx ?_)
  generalize PyData.eqv (toP (.int j)) (toP (.int 0)) = b
  exact c_ok (b := b) hA hB hs (pN d1 m1) (pK d2 m2) (pN d3 m3) (pK d4 m4) (rl_part d5 m5) rfl rfl rfl ⟨rfl, _, rfl, k6.le (by omega)⟩
theorem nm_it (ρ : List Sl) (t : Pn) {P : Fl → List Sl → Pn → Prop} (q : P .nx (ρ.set 2 (.im (.lst nmD))) t) : (lw_nm ρ t).post P noX := by
  unfold lw_nm
  refine p_asg ?_
  unfold elst
  rw [eq_mb (eq_acons (mr_ok _ ρ t) (eq_acons (mr_ok _ ρ t) (eq_acons (mr_ok _ ρ t) (eq_acons (mr_ok _ ρ t) (eq_acons (mr_ok _ ρ t) (eq_acons (mr_ok _ ρ t) (eq_acons (mr_ok _ ρ t) (eq_acons (mr_ok _ ρ t) (nil_ok ρ t))))))))), if_pos (by show 8 ≤ lim; decide)]
  exact q
theorem kd_it (ρ : List Sl) (t : Pn) {P : Fl → List Sl → Pn → Prop} (q : P .nx (ρ.set 3 (.im (.lst kdD))) t) : (lw_kd ρ t).post P noX := by
  unfold lw_kd
  refine p_asg ?_
  unfold elst
  rw [eq_mb (eq_acons (mr_ok _ ρ t) (eq_acons (mr_ok _ ρ t) (eq_acons (mr_ok _ ρ t) (eq_acons (mr_ok _ ρ t) (eq_acons (mr_ok _ ρ t) (eq_acons (mr_ok _ ρ t) (eq_acons (mr_ok _ ρ t) (nil_ok ρ t)))))))), if_pos (by show 7 ≤ lim; decide)]
  exact q
theorem for_ok {A B : Acc} (hA : A ≠ []) (hB : B ≠ []) (hs : ∀ c, look A c = look B c) {N K : List D} (hN : N = nmD) (hK : K = kdD) {x4 x7 : Sl} {t : Pn} (hk : PnOk t 0) {P : Fl → List Sl → Pn → Prop} (q : ∀ ρ t, P .nx ρ t) :
    (lw_for [.un, .pn, .im (.lst N), .im (.lst K), x4, .im (aD A), .im (bk B), x7] t).post P noX := by
  unfold lw_for
  refine p_for (ds := rng 0 12) (I := fun i ρ t => ∃ x4 x7, ρ = [.un, .pn, .im (.lst N), .im (.lst K), x4, .im (aD A), .im (bk B), x7] ∧ PnOk t (6 * i)) rfl ⟨_, _, rfl, hk.le (by omega)⟩ (fun i d ρ t e h => ?_) fun ρ t _ => q ρ t
  obtain ⟨x4, x7, rfl, hp⟩ := h
  have hi : i < 12 := by
    have := (List.getElem?_eq_some_iff.mp e).1
    simpa [rng] using this
  rw [eq_mb (show gname 4 d [.un, .pn, .im (.lst N), .im (.lst K), x4, .im (aD A), .im (bk B), x7] t = .ok () [.un, .pn, .im (.lst N), .im (.lst K), .im d, .im (aD A), .im (bk B), x7] t from rfl)]
  exact post_mono (turn_ok hA hB hs hN hK hp (by unfold top40; omega)) (fun fl ρ' t' ⟨e, x7, er, hp⟩ => ⟨e, _, x7, er, hp.le (by omega)⟩) fun _ _ _ _ h => h
theorem one_ok {A B : Acc} (fA : (f_law_all []).is (aD A)) (fB : (f_known_book []).is (bk B)) {ρ : List Sl} {t : Pn} {P : Fl → List Sl → Pn → Prop} (q : P .nx ((ρ.set 5 (.im (aD A))).set 6 (.im (bk B))) t) : (lw_one ρ t).post P noX := by
  have c : ∀ (r : Ou D) (d : D), r.is d → (r.bind fun d _ _ => .ok d ρ t) = .ok d ρ t := fun r d h => by
    obtain ⟨ρ0, t0, e⟩ := h
    rw [e]
    rfl
  have c1 : call0 f_law_all [] ρ t = .ok (aD A) ρ t := c _ _ fA
  have c2 : call0 f_known_book [] ρ t = .ok (bk B) ρ t := c _ _ fB
  unfold lw_one spar
  rw [eq_mb (eq_acons c1 (eq_acons c2 (nil_ok ρ t)))]
  exact q
theorem hM (ns : List Int) (hl : ns.length ≤ 63) : (m_law (rho0 N_law.length) ⟨ns, 0, 0⟩).post (fun fl _ _ => fl = .rt (.bl true)) noX := by
  have lA : itemsA.length ≤ lim := by rw [lenA]; decide
  have lB : itemsB.length ≤ lim := by rw [← same_len, lenA]; decide
  have eBA : eqDct (ksD itemsB) (vsD itemsB) (ksD itemsA) (vsD itemsA) = true := eqDct_ok same_len.symm (fun c v h => by rw [same_look]; exact h) nodupB
  have eBB : eqDct (ksD itemsB) (vsD itemsB) (ksD itemsB) (vsD itemsB) = true := eqDct_ok rfl (fun c v h => h) nodupB
  have fA := all_ok nodupA
  have fB := known_ok nodupB
  have nA := nodupA
  have nB := nodupB
  have eA := nonA
  have eB := nonB
  have hs := same_look
  have hk : PnOk ⟨ns, 0, 0⟩ 0 := ⟨Int.le_refl 0, Int.le_refl 0, Int.le_refl 0, hl⟩
  rw [m_law_eq]
  generalize (⟨ns, 0, 0⟩ : Pn) = t at hk
  generalize itemsA = A at lA eBA fA nA eA hs
  generalize itemsB = B at lB eBA eBB fB nB eB hs
  show ((sq lw_one (sq lw_cond (sq lw_nm (sq lw_kd (sq lw_for (sret (mr (D.bl true)))))))) [.un, .pn, .un, .un, .un, .un, .un, .un] t).post _ _
  refine p_sq (one_ok fA fB (p_nx ?_))
  refine p_sq ?_
  refine cond_ok eA eB nA nB lA lB eBA eBB fB rfl rfl (p_nx ?_)
  refine p_sq <| nm_it _ _ (p_nx ?_)
  refine p_sq <| kd_it _ _ (p_nx ?_)
  generalize hN : nmD = N
  generalize hK : kdD = K
  refine p_sq ?_
  exact for_ok eA eB hs hN.symm hK.symm hk fun ρ t => p_nx (p_sret (p_mr rfl))
end K38

set_option Elab.async false
set_option linter.all false
set_option maxRecDepth 100000
set_option maxHeartbeats 1000000
namespace DL
open PySem PySem.Spec PyProof.Rows L2
/-! ### heads: a hook that sees functions behind properties, too -/
/-- what lies at a as a function -/
def fnA (K : PySem.W.Frag) (a : Addr) : He.FnW := match K.lookup a with
  | some ⟨_, _, .func fd, _⟩ => some (fd.name, fd.qualname, fd.params, fd.body, fd.scope, fd.globals, fd.closure, fd.builtins)
  | _ => none
/-- the property's object, its getter -/
def prP (K : PySem.W.Frag) (x f : Str) : Addr := match PySem.W.findIn K (.ref (He.ga K x)) f with
  | some (some (.ref p)) => p
  | _ => 0
def prG (K : PySem.W.Frag) (x f : Str) : Addr := match PySem.W.recIn K (prP K x f) "property" with
  | some (.ref q :: _) => q
  | _ => 0
def prB (K : PySem.W.Frag) (x f qual : Str) : Bool := He.eqO (PySem.W.findIn K (.ref (He.ga K x)) f) (some (some (.ref (prP K x f)))) &&
  (He.eqO (PySem.W.specialIn K (.ref (prP K x f)) "__get__") (some (some (.builtin "property.__get__"))) && (decide (PySem.W.takesIn K (.ref (prP K x f)) = some true) &&
  ((match PySem.W.recIn K (prP K x f) "property" with
    | some (.ref q :: _) => decide (q = prG K x f)
    | _ => false) && (PySem.W.keepIn K (.ref (prG K x f)) &&
  (match K.lookup (prG K x f) with
    | some ⟨_, _, .func fd, _⟩ => PySem.W.codeIn K fd.code qual && (He.dflB K fd.defaults [] && He.kwdB K fd.kwdefaults [])
    | _ => false)))))
theorem prB_ok {K : PySem.W.Frag} {x f qual name : Str} {params : Arguments} {body : List Stmt} {scope : Scope} (h : prB K x f qual = true) (e : fnA K (prG K x f) = some (name, qual, params, .stmts body, scope, mainGlobals, [], builtinsNs)) :
    PropOf K (He.ga K x) f (prP K x f) (prG K x f) ∧ ∃ fd, FunD K name qual params body scope [] [] (prG K x f) fd := by
  unfold prB at h
  rw [Bool.and_eq_true, Bool.and_eq_true, Bool.and_eq_true, Bool.and_eq_true, Bool.and_eq_true] at h
  obtain ⟨h1, h2, h3, h4, h5, h6⟩ := h
  refine ⟨⟨He.eqO_ok h1, He.eqO_ok h2, of_decide_eq_true h3, ?_⟩, ?_⟩
  · cases er : PySem.W.recIn K (prP K x f) "property" with
    | none => rw [er] at h4; cases h4
    | some l =>
      rw [er] at h4
      cases l with
      | nil => cases h4
      | cons v r =>
        cases v with
        | ref q =>
          cases (of_decide_eq_true h4)
          exact ⟨r, rfl⟩
        | _ => cases h4
  · unfold fnA at e
    cases el : K.lookup (prG K x f) with
    | none => rw [el] at e; cases e
    | some o =>
      rw [el] at e h6
      obtain ⟨oc, od, dt, osl⟩ := o
      cases dt with
      | func fd =>
        simp only [Option.some.injEq, Prod.mk.injEq] at e
        obtain ⟨e1, e2, e3, e4, e5, e6, e7, e8⟩ := e
        rw [Bool.and_eq_true, Bool.and_eq_true] at h6
        obtain ⟨g1, g2, g3⟩ := h6
        obtain ⟨nm, qn, pm, bd, sc, gl, cl, df, kd, doc, pmm, an, cd, ct, bu⟩ := fd
        simp only at e1 e2 e3 e4 e5 e6 e7 e8
        subst e1 e2 e3 e4 e5 e6 e7 e8
        exact ⟨_, ⟨⟨oc, od, df, kd, doc, pmm, an, cd, ct, osl, rfl, el, g1, He.dflB_ok g2, He.kwdB_ok g3⟩, h5⟩⟩
      | _ => cases e
/-- the hook -/
def hookY (n : Nat) (fa : List He.Fa) (fn : List He.DefD) (ts : List He.Tab) (tf : List He.Defn) (ex : PySem.W.Frag → Bool) (ga : List (PySem.W.Frag → Addr)) (gv : List He.FnW) : PySem.W.Hook where
  α := He.AlX × List He.FnW
  obs := fun s => (He.obsX n fa fn ts tf ex s.heap.get?, ga.map fun a => fnA (He.frT s.heap.get? (He.asD s.heap.get? n)) (a (He.frT s.heap.get? (He.asD s.heap.get? n))))
  val := fun w => (He.valX fn ts w, gv)
  says := fun w h => ∃ K : PySem.W.Frag, K.In h ∧ He.SaysX fa fn ts tf ex w h K ∧ (ga.map fun a => fnA K (a K)) = gv
  of := fun w s e => ⟨_, He.frT_in, He.saysX_of (congrArg Prod.fst e), congrArg Prod.snd e⟩
  keeps := fun w h h' ⟨K, h1, h2, h3⟩ k => ⟨K, PySem.W.Frag.In.keeps h1 k, ⟨h2.t, h2.more, h2.hd, h2.out, fun p hp => k _ _ (h2.empty p hp)⟩, h3⟩
def obY (n : Nat) (fa : List He.Fa) (fn : List He.DefD) (ts : List He.Tab) (tf : List He.Defn) (ex : PySem.W.Frag → Bool) (ga : List (PySem.W.Frag → Addr)) (g : Addr → Option Obj) : He.AlX × List He.FnW :=
  (He.obsX n fa fn ts tf ex g, ga.map fun a => fnA (He.frT g (He.asD g n)) (a (He.frT g (He.asD g n))))
theorem obY_eq {n : Nat} {fa : List He.Fa} {fn : List He.DefD} {ts : List He.Tab} {tf : List He.Defn} {ex : PySem.W.Frag → Bool} {ga : List (PySem.W.Frag → Addr)} {gv : List He.FnW} {g : Addr → Option Obj} {s : Shared} (h : ∀ a, g a = s.heap.get? a) :
    obY n fa fn ts tf ex ga g = (hookY n fa fn ts tf ex ga gv).obs s := by
  have e : g = s.heap.get? := funext h
  subst e
  rfl
/-! ### facts of the module -/
def kTupB (K : PySem.W.Frag) (x : Str) (ds : List D) : Bool := match K.lookup (He.ga K x) with
  | some ⟨.type T, none, .seq its _, _⟩ => decide (T = "tuple") && decide (its.size ≤ sizeLine) && all2 (kLd 4 K) its.toList ds
  | _ => false
theorem kTupB_ok {c : Ct} {x : Str} {ds : List D} (hm : c.mg x = some (.ref (He.ga c.K x))) (h : kTupB c.K x ds = true) : KTup c x ds := by
  unfold kTupB at h
  split at h
  · rename_i T its m osl q
    rw [Bool.and_eq_true, Bool.and_eq_true] at h
    obtain ⟨⟨h1, h2⟩, h3⟩ := h
    obtain ⟨xs, h4, h5⟩ := all2_ok (kLd_ok 4) _ _ h3
    exact ⟨_, _, hm, q, congrArg Value.type (of_decide_eq_true h1), rfl, xs, fun H => .inr ⟨_, its, m, q, congrArg Value.type (of_decide_eq_true h1), rfl, of_decide_eq_true h2, h4⟩, h5⟩
  · cases h
theorem kd_ok {c : Ct} {x : Str} {d : D} (hm : c.mg x = some (.ref (He.ga c.K x))) (h : kLd 5 c.K (.ref (He.ga c.K x)) d = true) : KD c x d := by
  obtain ⟨v, h1, h2⟩ := kLd_ok 5 _ _ h
  exact ⟨_, v, hm, h1, h2⟩
theorem fld_ok {c : Ct} {n f : Str} (hm : c.mg n = some (.ref (He.ga c.K n))) (h1 : Cls c.K (He.ga c.K n)) (h2 : NoAttr c.K (He.ga c.K n) f) : FldOk c n f := fun C hC => by
  unfold ClsOf at hC
  rw [hm] at hC
  cases hC
  exact ⟨h1, h2⟩
end DL

set_option Elab.async false
set_option linter.all false
set_option maxRecDepth 100000
set_option maxHeartbeats 1000000
namespace DL
open PySem PySem.Spec PyProof.Rows
open L2 hiding isNon
/-! ### facts of the module: constant dicts, classes that are asked for -/
def keyOne (K : PySem.W.Frag) (a : Addr) (z : Str) (d : D) : Bool := match PySem.W.nsIn K a z with
  | some (some u) => kLd 5 K u d
  | _ => false
def kdB (K : PySem.W.Frag) (a : Addr) : List Str → List D → Bool
  | k :: ks, d :: ds => keyOne K a k d && kdB K a ks ds
  | [], [] => true
  | _, _ => false
theorem kdB_ok {c : Ct} {a : Addr} : ∀ {ks : List Str} {ds : List D}, kdB c.K a ks ds = true → ∀ z d, slook ks ds z = some d → ∃ u v, PySem.W.nsIn c.K a z = some (some u) ∧ RelV v u ∧ ∀ H, Ld c H v d
  | [], [], _, z, d, e => by cases e
  | [], _ :: _, h, z, d, e => by cases h
  | _ :: _, [], h, z, d, e => by cases h
  | k :: ks, d0 :: ds, h, z, d, e => by
    have h' : (keyOne c.K a k d0 && kdB c.K a ks ds) = true := h
    rw [Bool.and_eq_true] at h'
    unfold slook at e
    by_cases hk : k = z
    · rw [if_pos hk] at e
      cases e
      subst hk
      have h1 := h'.1
      unfold keyOne at h1
      split at h1
      · rename_i u eu
        obtain ⟨v, r1, r2⟩ := kLd_ok 5 _ _ h1
        exact ⟨u, v, eu, r1, r2⟩
      · cases h1
    · rw [if_neg hk] at e
      exact kdB_ok h'.2 z d e
theorem keyTx_of {e : DictEntry} : keyTx e = (He.keyOf e).map (·.1) := by
  unfold keyTx He.keyOf
  cases e.key <;> rfl
theorem kdc_ok {c : Ct} {x : Str} {ks : List Str} {ds : List D} (hm : c.mg x = some (.ref (He.ga c.K x))) (h : He.dicW c.K (He.ga c.K x) = some (He.keysIn c.w.params ks)) (hv : kdB c.K (He.ga c.K x) ks ds = true) : KDc c x ks ds := by
  obtain ⟨es, n, D⟩ := He.dicW_ok h
  refine ⟨_, es, n, hm, D, ?_, kdB_ok hv⟩
  have e : es.toList.map He.keyOf = He.keysIn c.w.params ks := by
    unfold He.dicW at h
    rw [D.at_] at h
    have h1 : (match decide (("dict" : String) = "dict") && ((#[] : Array (Option Value)).isEmpty && !(He.ga c.K x == sysModules)) with
      | true => some (es.toList.map He.keyOf)
      | false => none) = some (He.keysIn c.w.params ks) := h
    rw [D.low] at h1
    exact Option.some.inj h1
  have e2 := congrArg (List.map (Option.map (·.1))) e
  rw [List.map_map] at e2
  have e3 : (es.toList.map keyTx) = es.toList.map (Option.map (·.1) ∘ He.keyOf) := List.map_congr_left fun z _ => keyTx_of
  rw [e3, e2]
  unfold He.keysIn
  rw [List.map_map]
  exact List.map_congr_left fun z _ => rfl
def isoB (K : PySem.W.Frag) (x : Str) : Bool := He.eqO (PySem.W.findIn K (.ref (He.ga K x)) "__class__") (some (some (.builtin "object.__class__"))) && (He.eqO (PySem.W.specialIn K (.builtin "object.__class__") "__get__") (some (some (.builtin "getset_descriptor.__get__"))) &&
  (decide (PySem.W.takesIn K (.builtin "object.__class__") = some true) && decide (PySem.W.mroIn K (He.ga K x) (.type "object") = some true)))
theorem iso_ok {c : Ct} {x : Str} (hm : c.mg x = some (.ref (He.ga c.K x))) (hc : Cls c.K (He.ga c.K x)) (h : isoB c.K x = true) : IsO c x := by
  unfold isoB at h
  rw [Bool.and_eq_true, Bool.and_eq_true, Bool.and_eq_true] at h
  exact ⟨_, hm, hc, He.eqO_ok h.1, He.eqO_ok h.2.1, of_decide_eq_true h.2.2.1, of_decide_eq_true h.2.2.2⟩
def neB (K : PySem.W.Frag) (x : Str) : Bool := He.eqO (PySem.W.findIn K (.ref (He.ga K x)) "__ne__") (some (some (.builtin "object.__ne__"))) && decide (PySem.W.mroIn K (He.ga K x) (.type "object") = some true)
theorem ne_ok {c : Ct} {x : Str} (hm : c.mg x = some (.ref (He.ga c.K x))) (h : neB c.K x = true) : NeOk c x := by
  unfold neB at h
  rw [Bool.and_eq_true] at h
  exact ⟨_, hm, He.eqO_ok h.1, of_decide_eq_true h.2⟩
end DL

set_option Elab.async false
set_option linter.all false
set_option maxRecDepth 100000
set_option maxHeartbeats 0
namespace K38
open PySem PySem.Spec PyProof.Rows L2 DL
def hfn : List He.DefD := [⟨("_law_pen", none), "_law_pen", "_law_pen", defArgs s_penOf, defBody s_penOf, defScope s_penOf, [], []⟩, ⟨("_law_did", none), "_law_did", "_law_did", defArgs s_law_did, defBody s_law_did, defScope s_law_did, [], []⟩, ⟨("Book", some "__init__"), "__init__", "Book.__init__", defArgs s_Book__init, defBody s_Book__init, defScope s_Book__init, [], []⟩, ⟨("Book", some "__eq__"), "__eq__", "Book.__eq__", defArgs s_Book__eq, defBody s_Book__eq, defScope s_Book__eq, [], []⟩, ⟨("Book", some "told_rows"), "told_rows", "Book.told_rows", defArgs s_Book_told_rows, defBody s_Book_told_rows, defScope s_Book_told_rows, [], []⟩, ⟨("Book", some "commutes"), "commutes", "Book.commutes", defArgs s_Book_commutes, defBody s_Book_commutes, defScope s_Book_commutes, [], []⟩, ⟨("unlike_word_keys", none), "unlike_word_keys", "unlike_word_keys", defArgs s_unlike_word_keys, defBody s_unlike_word_keys, defScope s_unlike_word_keys, [], []⟩, ⟨("known_book", none), "known_book", "known_book", defArgs s_known_book, defBody s_known_book, defScope s_known_book, [], []⟩, ⟨("_law_draw", none), "_law_draw", "_law_draw", defArgs s_law_draw, defBody s_law_draw, defScope s_law_draw, [], []⟩, ⟨("_law_pick", none), "_law_pick", "_law_pick", defArgs s_law_pick, defBody s_law_pick, defScope s_law_pick, [], []⟩, ⟨("_law_kind", none), "_law_kind", "_law_kind", defArgs s_law_kind, defBody s_law_kind, defScope s_law_kind, [], []⟩, ⟨("_law_due", none), "_law_due", "_law_due", defArgs s_law_due, defBody s_law_due, defScope s_law_due, [], []⟩, ⟨("_law_all", none), "_law_all", "_law_all", defArgs s_law_all, defBody s_law_all, defScope s_law_all, [], []⟩, ⟨("law", none), "law", "law", defArgs s_law, defBody s_law, defScope s_law, [], []⟩]
def hfa : List He.Fa := [.glo "_law_pen", .glo "_law_did", .glo "unlike_word_keys", .glo "known_book", .glo "_law_draw", .glo "_law_pick", .glo "_law_kind", .glo "_law_due", .glo "_law_all", .glo "law", .glo "Book", .glo "SAME_WORD", .glo "BOOK_KINDS", .free "abs", .free "all", .free "bool", .free "dict", .free "int", .free "isinstance", .free "len", .free "list", .free "range", .free "str", .free "tuple", .cls "Book", .noat "Book" "_told", .mkr "Book", .meth "Book" "__eq__", .meth "Book" "told_rows", .meth "Book" "commutes"]
def hloose : List Str := (["_wall", "SAME_WORD", "BOOK_KINDS", "Book", "known_book", "unlike_word_keys", "_law_pen", "_law_draw", "_law_pick", "_law_did", "_law_kind", "_law_due", "_law_lets", "_law_all"] : List Str)
def hex (K : PySem.W.Frag) : Bool := kLd 5 K (.ref (He.ga K "SAME_WORD")) d_SAME_WORD && (kdB K (He.ga K "BOOK_KINDS") ks_BOOK_KINDS ds_BOOK_KINDS && (isoB K "Book" && (neB K "Book")))
def hts : List He.Tab := [(fun K => He.ga K "BOOK_KINDS", ks_BOOK_KINDS)]
def hga : List (PySem.W.Frag → Addr) := []
def hgv : List He.FnW := []
abbrev R : PySem.W.OpenRow := PySem.W.OpenLaw.row PySem.Challenge.rw_treeshed_k38_whole_known_book_by_maps
abbrev hk : PySem.W.Hook := hookY 6 hfa hfn hts [] hex hga hgv
def ob (s : PySem.W.SharedT) : He.AlX × List He.FnW := obY 6 hfa hfn hts [] hex hga (HandSHeadRun.getT s)
theorem ob_eq (s : PySem.W.SharedT) : ob s = hk.obs s.abs := obY_eq (HandSHeadRun.getT_eq s)
theorem runF (w : World) : HandSHeadRun.RunEq R (PySem.W.view R.prog [15]) hk ob 20000 hloose (w.withFollow "special-get-raises" false) := by
  intro os
  kernel_rfl
theorem runT (w : World) : HandSHeadRun.RunEq R (PySem.W.view R.prog [15]) hk ob 20000 hloose (w.withFollow "special-get-raises" true) := by
  intro os
  kernel_rfl
theorem run (w : World) : HandSHeadRun.RunEq R (PySem.W.view R.prog [15]) hk ob 20000 hloose w :=
  PySem.W.byRow2 "special-get-raises" (P := fun w => HandSHeadRun.RunEq R (PySem.W.view R.prog [15]) hk ob 20000 hloose w) runF runT w
end K38

set_option Elab.async false
set_option linter.all false
set_option maxRecDepth 100000
set_option maxHeartbeats 0
namespace K38
open PySem PySem.Spec PyProof.Rows L2 DL
theorem facts {P : Program} {w : World} {K : PySem.W.Frag} {h : Heap} {mg : Str → Option Value} {f : Addr} (X : K.In h) (G : h.Ns mainGlobals mg) (hfa0 : mg ("law" : Str) = some (.ref f)) (cx : He.SaysX hfa hfn hts [] hex w h K) (cg : (hga.map fun a => fnA K (a K)) = hgv)
    (hM : ∀ ns : List Int, ns.length ≤ 63 → (m_law (rho0 N_law.length) ⟨ns, 0, 0⟩).post (fun fl _ _ => fl = .rt (.bl true)) noX) :
    ∃ fd : FuncData, (∀ (s : Shared) (v : Value), BindsTo s fd ⟨[v], []⟩ [("_law_script", v)]) ∧ ∀ base : Heap, K.In base → base.Ns mainGlobals mg → FnOk P w K mg base CX0 4 f fd ["_law_script"] (spLaw K) := by
  have cc := cx.t.d
  let c : Ct := ⟨K, mg, w⟩
  obtain ⟨fd_penOf, F_penOf⟩ : ∃ fd, FunD c.K "_law_pen" "_law_pen" (defArgs s_penOf) (defBody s_penOf) (defScope s_penOf) [] [] (He.ga K "_law_pen") fd := cc.def_ 0 (d := hfn[0]) rfl
  obtain ⟨fd_law_did, F_law_did⟩ : ∃ fd, FunD c.K "_law_did" "_law_did" (defArgs s_law_did) (defBody s_law_did) (defScope s_law_did) [] [] (He.ga K "_law_did") fd := cc.def_ 1 (d := hfn[1]) rfl
  obtain ⟨fd_Book__init, F_Book__init⟩ : ∃ fd, FunD c.K "__init__" "Book.__init__" (defArgs s_Book__init) (defBody s_Book__init) (defScope s_Book__init) [] [] (He.ma K (He.ga K "Book") "__init__") fd := cc.def_ 2 (d := hfn[2]) rfl
  obtain ⟨fd_Book__eq, F_Book__eq⟩ : ∃ fd, FunD c.K "__eq__" "Book.__eq__" (defArgs s_Book__eq) (defBody s_Book__eq) (defScope s_Book__eq) [] [] (He.ma K (He.ga K "Book") "__eq__") fd := cc.def_ 3 (d := hfn[3]) rfl
  obtain ⟨fd_Book_told_rows, F_Book_told_rows⟩ : ∃ fd, FunD c.K "told_rows" "Book.told_rows" (defArgs s_Book_told_rows) (defBody s_Book_told_rows) (defScope s_Book_told_rows) [] [] (He.ma K (He.ga K "Book") "told_rows") fd := cc.def_ 4 (d := hfn[4]) rfl
  obtain ⟨fd_Book_commutes, F_Book_commutes⟩ : ∃ fd, FunD c.K "commutes" "Book.commutes" (defArgs s_Book_commutes) (defBody s_Book_commutes) (defScope s_Book_commutes) [] [] (He.ma K (He.ga K "Book") "commutes") fd := cc.def_ 5 (d := hfn[5]) rfl
  obtain ⟨fd_unlike_word_keys, F_unlike_word_keys⟩ : ∃ fd, FunD c.K "unlike_word_keys" "unlike_word_keys" (defArgs s_unlike_word_keys) (defBody s_unlike_word_keys) (defScope s_unlike_word_keys) [] [] (He.ga K "unlike_word_keys") fd := cc.def_ 6 (d := hfn[6]) rfl
  obtain ⟨fd_known_book, F_known_book⟩ : ∃ fd, FunD c.K "known_book" "known_book" (defArgs s_known_book) (defBody s_known_book) (defScope s_known_book) [] [] (He.ga K "known_book") fd := cc.def_ 7 (d := hfn[7]) rfl
  obtain ⟨fd_law_draw, F_law_draw⟩ : ∃ fd, FunD c.K "_law_draw" "_law_draw" (defArgs s_law_draw) (defBody s_law_draw) (defScope s_law_draw) [] [] (He.ga K "_law_draw") fd := cc.def_ 8 (d := hfn[8]) rfl
  obtain ⟨fd_law_pick, F_law_pick⟩ : ∃ fd, FunD c.K "_law_pick" "_law_pick" (defArgs s_law_pick) (defBody s_law_pick) (defScope s_law_pick) [] [] (He.ga K "_law_pick") fd := cc.def_ 9 (d := hfn[9]) rfl
  obtain ⟨fd_law_kind, F_law_kind⟩ : ∃ fd, FunD c.K "_law_kind" "_law_kind" (defArgs s_law_kind) (defBody s_law_kind) (defScope s_law_kind) [] [] (He.ga K "_law_kind") fd := cc.def_ 10 (d := hfn[10]) rfl
  obtain ⟨fd_law_due, F_law_due⟩ : ∃ fd, FunD c.K "_law_due" "_law_due" (defArgs s_law_due) (defBody s_law_due) (defScope s_law_due) [] [] (He.ga K "_law_due") fd := cc.def_ 11 (d := hfn[11]) rfl
  obtain ⟨fd_law_all, F_law_all⟩ : ∃ fd, FunD c.K "_law_all" "_law_all" (defArgs s_law_all) (defBody s_law_all) (defScope s_law_all) [] [] (He.ga K "_law_all") fd := cc.def_ 12 (d := hfn[12]) rfl
  obtain ⟨fd_law, F_law⟩ : ∃ fd, FunD c.K "law" "law" (defArgs s_law) (defBody s_law) (defScope s_law) [] [] (He.ga K "law") fd := cc.def_ 13 (d := hfn[13]) rfl
  have g__law_pen : mg "_law_pen" = some (.ref (He.ga K "_law_pen")) := He.glo_ok X G (cc.fact 0 (f := .glo "_law_pen") rfl)
  have g__law_did : mg "_law_did" = some (.ref (He.ga K "_law_did")) := He.glo_ok X G (cc.fact 1 (f := .glo "_law_did") rfl)
  have g_unlike_word_keys : mg "unlike_word_keys" = some (.ref (He.ga K "unlike_word_keys")) := He.glo_ok X G (cc.fact 2 (f := .glo "unlike_word_keys") rfl)
  have g_known_book : mg "known_book" = some (.ref (He.ga K "known_book")) := He.glo_ok X G (cc.fact 3 (f := .glo "known_book") rfl)
  have g__law_draw : mg "_law_draw" = some (.ref (He.ga K "_law_draw")) := He.glo_ok X G (cc.fact 4 (f := .glo "_law_draw") rfl)
  have g__law_pick : mg "_law_pick" = some (.ref (He.ga K "_law_pick")) := He.glo_ok X G (cc.fact 5 (f := .glo "_law_pick") rfl)
  have g__law_kind : mg "_law_kind" = some (.ref (He.ga K "_law_kind")) := He.glo_ok X G (cc.fact 6 (f := .glo "_law_kind") rfl)
  have g__law_due : mg "_law_due" = some (.ref (He.ga K "_law_due")) := He.glo_ok X G (cc.fact 7 (f := .glo "_law_due") rfl)
  have g__law_all : mg "_law_all" = some (.ref (He.ga K "_law_all")) := He.glo_ok X G (cc.fact 8 (f := .glo "_law_all") rfl)
  have g_law : mg "law" = some (.ref (He.ga K "law")) := He.glo_ok X G (cc.fact 9 (f := .glo "law") rfl)
  have g_Book : mg "Book" = some (.ref (He.ga K "Book")) := He.glo_ok X G (cc.fact 10 (f := .glo "Book") rfl)
  have g_SAME_WORD : mg "SAME_WORD" = some (.ref (He.ga K "SAME_WORD")) := He.glo_ok X G (cc.fact 11 (f := .glo "SAME_WORD") rfl)
  have g_BOOK_KINDS : mg "BOOK_KINDS" = some (.ref (He.ga K "BOOK_KINDS")) := He.glo_ok X G (cc.fact 12 (f := .glo "BOOK_KINDS") rfl)
  have T : Tx c.mg := ⟨He.free_ok X G (cc.fact 13 (f := .free "abs") rfl), He.free_ok X G (cc.fact 14 (f := .free "all") rfl), He.free_ok X G (cc.fact 15 (f := .free "bool") rfl), He.free_ok X G (cc.fact 16 (f := .free "dict") rfl), He.free_ok X G (cc.fact 17 (f := .free "int") rfl), He.free_ok X G (cc.fact 18 (f := .free "isinstance") rfl), He.free_ok X G (cc.fact 19 (f := .free "len") rfl), He.free_ok X G (cc.fact 20 (f := .free "list") rfl), He.free_ok X G (cc.fact 21 (f := .free "range") rfl), He.free_ok X G (cc.fact 22 (f := .free "str") rfl), He.free_ok X G (cc.fact 23 (f := .free "tuple") rfl)⟩
  have hF : Fs c := ⟨fld_ok g_Book (He.cls_ok (cc.fact 24 (f := .cls "Book") rfl)) (He.noat_ok (cc.fact 25 (f := .noat "Book" "_told") rfl))⟩
  have hx : hex K = true := cx.more
  unfold hex at hx
  simp only [Bool.and_eq_true] at hx
  obtain ⟨x0, x1, x2, x3⟩ := hx
  have k_SAME_WORD : KD c "SAME_WORD" d_SAME_WORD := kd_ok g_SAME_WORD x0
  have tb_BOOK_KINDS : He.dicW K (He.ga K "BOOK_KINDS") = some (He.keysIn w.params ks_BOOK_KINDS) := by
    have e := congrArg (fun z : He.AlT => z.2[0]?) cx.t
    exact Option.some.inj e
  have kd_BOOK_KINDS : KDc c "BOOK_KINDS" ks_BOOK_KINDS ds_BOOK_KINDS := kdc_ok g_BOOK_KINDS tb_BOOK_KINDS x1
  have is_Book : IsO c "Book" := iso_ok g_Book (He.cls_ok (cc.fact 24 (f := .cls "Book") rfl)) x2
  have ne_Book : NeOk c "Book" := ne_ok g_Book x3
  have e := hfa0.symm.trans g_law
  cases e
  have bl := FunD.bindsA (ps := ["_law_script"]) F_law fun _ _ _ _ _ _ us hl => match us, hl with | [_], _ => rfl
  refine ⟨fd_law, fun s v => bl s [v] rfl, fun base _ _ => ?_⟩
  have o_penOf := ok_penOf (P := P) (base := base) (c := c) T F_penOf
  have b_penOf : Binds c.K fd_penOf ["_law_script"] [] := FunD.bindsN F_penOf fun _ _ _ _ _ _ us hl => match us, hl with | [_], _ => rfl
  have h_penOf : ClD P base c 1 "_law_pen" ["_law_script"] (spPen c.K "opened") [] := ⟨_, _, [], [], o_penOf, g__law_pen, F_penOf.kp, b_penOf, .nil, fun _ => .nil⟩
  have o_law_did := ok_law_did (P := P) (base := base) (c := c) F_law_did
  have b_law_did : Binds c.K fd_law_did p_law_did [] := FunD.bindsN F_law_did fun _ _ _ _ _ _ us hl => match us, hl with | [_, _, _, _], _ => rfl
  have h__law_did : ClD P base c 1 "_law_did" p_law_did spDid [] := ⟨_, _, [], [], o_law_did, g__law_did, F_law_did.kp, b_law_did, .nil, fun _ => .nil⟩
  have o_Book__init := ok_Book__init (P := P) (base := base) (c := c) T hF  F_Book__init
  have b_Book__init : Binds c.K fd_Book__init p_Book__init [] := FunD.bindsN F_Book__init fun _ _ _ _ _ _ us hl => match us, hl with | [_, _], _ => rfl
  have h_Book__init_0 : ClI P base c 1 "Book" p_Book__init (spI c "Book" f_Book__init) [] := ⟨_, _, _, [], [], He.mkr_ok (cc.fact 26 (f := .mkr "Book") rfl), o_Book__init, g_Book, b_Book__init, .nil, fun _ => .nil⟩
  have o_Book__eq := ok_Book__eq (P := P) (base := base) (c := c) T hF is_Book F_Book__eq
  have b_Book__eq : Binds c.K fd_Book__eq p_Book__eq [] := FunD.bindsN F_Book__eq fun _ _ _ _ _ _ us hl => match us, hl with | [_, _], _ => rfl
  have q_Book : ClQ P base c 1 "Book" f_Book__eq := ⟨_, _, _, p_Book__eq, g_Book, He.meth_ok (cc.fact 27 (f := .meth "Book" "__eq__") rfl), o_Book__eq, b_Book__eq⟩
  have o_Book_told_rows := ok_Book_told_rows (P := P) (base := base) (c := c) T hF  F_Book_told_rows
  have b_Book_told_rows : Binds c.K fd_Book_told_rows p_Book_told_rows [] := FunD.bindsN F_Book_told_rows fun _ _ _ _ _ _ us hl => match us, hl with | [_], _ => rfl
  have h_Book_told_rows : ClM P base c 1 "Book" "told_rows" (sp0 c f_Book_told_rows) [] := ⟨_, _, _, p_Book_told_rows, [], [], g_Book, He.cls_ok (cc.fact 24 (f := .cls "Book") rfl), He.meth_ok (cc.fact 28 (f := .meth "Book" "told_rows") rfl), o_Book_told_rows, b_Book_told_rows, .nil, fun _ => .nil⟩
  have o_Book_commutes := ok_Book_commutes (P := P) (base := base) (c := c) T hF  F_Book_commutes
  have b_Book_commutes : Binds c.K fd_Book_commutes p_Book_commutes [] := FunD.bindsN F_Book_commutes fun _ _ _ _ _ _ us hl => match us, hl with | [_, _, _, _, _, _, _], _ => rfl
  have h_Book_commutes : ClM P base c 1 "Book" "commutes" (sp0 c f_Book_commutes) [] := ⟨_, _, _, p_Book_commutes, [], [], g_Book, He.cls_ok (cc.fact 24 (f := .cls "Book") rfl), He.meth_ok (cc.fact 29 (f := .meth "Book" "commutes") rfl), o_Book_commutes, b_Book_commutes, .nil, fun _ => .nil⟩
  have o_unlike_word_keys := ok_unlike_word_keys (P := P) (base := base) (c := c) T hF kd_BOOK_KINDS F_unlike_word_keys
  have b_unlike_word_keys : Binds c.K fd_unlike_word_keys p_unlike_word_keys [] := FunD.bindsN F_unlike_word_keys fun _ _ _ _ _ _ us hl => match us, hl with | [_, _], _ => rfl
  have h_unlike_word_keys : ClD P base c 1 "unlike_word_keys" p_unlike_word_keys (sp0 c f_unlike_word_keys) [] := ⟨_, _, [], [], o_unlike_word_keys, g_unlike_word_keys, F_unlike_word_keys.kp, b_unlike_word_keys, .nil, fun _ => .nil⟩
  have o_known_book := ok_known_book (P := P) (base := base) (c := c) T hF k_SAME_WORD kd_BOOK_KINDS h_unlike_word_keys h_Book__init_0 F_known_book
  have b_known_book : Binds c.K fd_known_book p_known_book [] := FunD.bindsN F_known_book fun _ _ _ _ _ _ us hl => match us, hl with | [], _ => rfl
  have h_known_book : ClD P base c 3 "known_book" p_known_book (sp0 c f_known_book) [] := ⟨_, _, [], [], o_known_book, g_known_book, F_known_book.kp, b_known_book, .nil, fun _ => .nil⟩
  have o_law_draw := ok_law_draw (P := P) (base := base) (c := c) T hF  F_law_draw
  have b_law_draw : Binds c.K fd_law_draw p_law_draw [] := FunD.bindsN F_law_draw fun _ _ _ _ _ _ us hl => match us, hl with | [_, _], _ => rfl
  have h_law_draw : ClD P base c 1 "_law_draw" p_law_draw (spP c "opened" f_law_draw) [] := ⟨_, _, [], [], o_law_draw, g__law_draw, F_law_draw.kp, b_law_draw, .nil, fun _ => .nil⟩
  have o_law_pick := ok_law_pick (P := P) (base := base) (c := c) T hF h_law_draw F_law_pick
  have b_law_pick : Binds c.K fd_law_pick p_law_pick [] := FunD.bindsN F_law_pick fun _ _ _ _ _ _ us hl => match us, hl with | [_, _], _ => rfl
  have h_law_pick : ClD P base c 2 "_law_pick" p_law_pick (spP c "opened" f_law_pick) [] := ⟨_, _, [], [], o_law_pick, g__law_pick, F_law_pick.kp, b_law_pick, .nil, fun _ => .nil⟩
  have o_law_kind := ok_law_kind (P := P) (base := base) (c := c) T hF  F_law_kind
  have b_law_kind : Binds c.K fd_law_kind p_law_kind [] := FunD.bindsN F_law_kind fun _ _ _ _ _ _ us hl => match us, hl with | [_], _ => rfl
  have h_law_kind : ClD P base c 1 "_law_kind" p_law_kind (sp0 c f_law_kind) [] := ⟨_, _, [], [], o_law_kind, g__law_kind, F_law_kind.kp, b_law_kind, .nil, fun _ => .nil⟩
  have o_law_due := ok_law_due (P := P) (base := base) (c := c) T hF h__law_did h_law_kind F_law_due
  have b_law_due : Binds c.K fd_law_due p_law_due [] := FunD.bindsN F_law_due fun _ _ _ _ _ _ us hl => match us, hl with | [_, _], _ => rfl
  have h_law_due : ClD P base c 2 "_law_due" p_law_due (sp0 c f_law_due) [] := ⟨_, _, [], [], o_law_due, g__law_due, F_law_due.kp, b_law_due, .nil, fun _ => .nil⟩
  have o_law_all := ok_law_all (P := P) (base := base) (c := c) T hF h_law_due F_law_all
  have b_law_all : Binds c.K fd_law_all p_law_all [] := FunD.bindsN F_law_all fun _ _ _ _ _ _ us hl => match us, hl with | [], _ => rfl
  have h_law_all : ClD P base c 3 "_law_all" p_law_all (sp0 c f_law_all) [] := ⟨_, _, [], [], o_law_all, g__law_all, F_law_all.kp, b_law_all, .nil, fun _ => .nil⟩
  exact ok_law T hF h_penOf h_known_book h_law_all h_Book_told_rows h_Book__init_0 q_Book ne_Book h_law_pick h_law_draw h_Book_commutes hM F_law
end K38
open PySem PySem.W PySem.Calls PyProof.Rows
theorem PySem.Challenge.cw_treeshed_k38_whole_known_book_by_maps_holds_of (hM : ∀ ns : List Int, ns.length ≤ 63 → (K38.m_law (DL.rho0 K38.N_law.length) ⟨ns, 0, 0⟩).post (fun fl _ _ => fl = .rt (.bl true)) DL.noX) : PySem.Challenge.rw_treeshed_k38_whole_known_book_by_maps.Holds := by
  w_on; o_law
  refine HandSHeadRun.head_any (r := OpenLaw.row PySem.Challenge.rw_treeshed_k38_whole_known_book_by_maps) (q := view (OpenLaw.row PySem.Challenge.rw_treeshed_k38_whole_known_book_by_maps).prog [15]) (H := K38.hk) (ob := K38.ob) (M := 20000) (loose := K38.hloose) (d := HandSHeadRun.topDef (OpenLaw.row PySem.Challenge.rw_treeshed_k38_whole_known_book_by_maps).prog 15) (kwd := []) K38.ob_eq
    (by kernel_rfl) (fun s => by kernel_rfl) K38.run (by kernel_rfl) (by kernel_rfl) (by kernel_rfl) (by rfl) (by first | assumption | decide +kernel) (by decide +kernel) ⟨rfl, rfl, rfl, rfl, rfl, by decide +kernel⟩ ?hw ?hc
  case hw => w_witness2
  case hc =>
    refine L2.walk_ofE (l := PySem.Challenge.rw_treeshed_k38_whole_known_book_by_maps) (n := 63) (k := 4) (x := "_law_script") (CX := L2.CX0) rfl (by decide) (by kernel_rfl) ⟨rfl, by decide, by decide⟩ ?F (fun _ _ _ _ z => z)
    intro w mg fa h Y G hmg0
    obtain ⟨K, KX, c, cg⟩ := Y
    have hmg : mg ("law" : PySem.Str) = some (.ref fa) := by
      have e : (HandSHeadRun.topDef (OpenLaw.row PySem.Challenge.rw_treeshed_k38_whole_known_book_by_maps).prog 15).name = ("law" : PySem.Str) := by kernel_rfl
      rw [← e]
      exact hmg0
    obtain ⟨fd, hb, hF⟩ := K38.facts (P := (PySem.Challenge.rw_treeshed_k38_whole_known_book_by_maps).prog) (w := w) KX G hmg c cg hM
    exact ⟨K, fd, DL.spLaw K, KX, hb, fun H a ns hl _ hS => ⟨a, ns, rfl, hS, hl, fun _ => rfl⟩, hF⟩

open PySem PySem.W PyProof.Rows
set_option Elab.async false
set_option maxRecDepth 100000 in
set_option maxHeartbeats 8000000 in
theorem PySem.Challenge.cw_treeshed_k38_whole_known_book_by_maps_holds : PySem.Challenge.rw_treeshed_k38_whole_known_book_by_maps.Holds := by
  exact PySem.Challenge.cw_treeshed_k38_whole_known_book_by_maps_holds_of K38.hM
