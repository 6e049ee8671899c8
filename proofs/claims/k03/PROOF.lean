import PyProof.Rows.All
import Wide.All
import OpenK.AllK
import Wide.FinOn
import HandS.ForMost
import HandS.Walk
import HandS.IsInst
import HandS.Property
import HandS.FStr
import HandS.Star
import HandS.TupAny
import HandS.Conv
import HandS.Flow
import HandS.Evl
import KE.GoesMore
import KE.GoesEnum
import KE.DataMinMax
import KE.DataAny
import KE.DataCmp
import KE.SortData
import KE.KSortedM
import HandS.TupMul
import HandS.Deep
import OpenK.KOps
import KE.KCallOwn
import HandS.Codes
import HandS.Wide
import HandS.Defaults
import PyProof.InstNe
import PyProof.FactsAll.object_1
import PyProof.FactsAll.object_2
import HandS.Strs
import HandS.SetBool
import HandS.SetFor
import HandS.Zip
import PyProof.SumWalkG
import PyProof.ListOps
import PyProof.WalksS
import HandS.Zip0
import KE.KDictZip
import KE.KeyNested
import KE.KDictSum
import KE.KDictCopyH
import PyProof.DictMoreH
import HandS.DictComp
import HandS.TupLen
import HandS.Small
import PySem.Challenge.RW_poolmaps_k03_whole_made_webs_and_roots
set_option Elab.async false
set_option linter.all false
set_option maxRecDepth 100000
set_option autoImplicit false
/-! Tx: data behind values, judgements of readings by data. -/
namespace Tx
open PySem L2

/-- data behind a value -/
inductive D where
  | non | bl (b : Bool) | int (i : Int) | str (s : Str)
  | lst (xs : List D) | tup (xs : List D)
  | obj (C : Addr) (ns : List Str) (xs : List D)
  | adr (a : Addr) | dic | frl (xs : List D)
  | ftp (xs : List D)
  | dct (hs : List Int) (ks vs : List D)

/-- a tuple of the written part -/
def KTup (K : PySem.W.Frag) (a : Addr) (xs : List V) : Prop := ∃ (o : Obj) (its : Array Value) (n : Nat), K.lookup a = some o ∧ o.cls = .type "tuple" ∧ o.data = .seq its n ∧ its.size ≤ sizeLine ∧ Vals xs its.toList
/-- a list of the written part -/
def KLst (K : PySem.W.Frag) (a : Addr) (xs : List V) : Prop := ∃ (o : Obj) (its : Array Value) (n : Nat), K.lookup a = some o ∧ o.cls = .type "list" ∧ o.dict = none ∧ o.data = .seq its n ∧ its.size ≤ sizeLine ∧ Vals xs its.toList
/-- the object at a is a dict of these entries: hash, key, value -/
def isDict (a : Addr) (es : List (Int × V × V)) : Heap → Prop := fun h => ∃ o ents ep, h.get? a = some o ∧ o.ExactDict ∧ o.data = .dict ents ep ∧ (a == sysModules) = false ∧ es.length ≤ 10000 ∧ Paired (fun (e : Int × V × V) (x : DictEntry) => x.hash = e.1 ∧ RelV e.2.1 x.key ∧ RelV e.2.2 x.val) es ents.toList
mutual
inductive Rp (K : PySem.W.Frag) (F : Addr → Prop) (H : Hp) : V → D → Prop
  | non : Rp K F H .non .non
  | bl (b : Bool) : Rp K F H (.bl b) (.bl b)
  | int (i : Int) : Rp K F H (.int i) (.int i)
  | str (s : Str) : Rp K F H (.str s) (.str s)
  | lst {a : Addr} {vs : List V} {ds : List D} : ¬ F a → H a = some (.lst vs) → RpAll K F H vs ds → Rp K F H (.ref a) (.lst ds)
  | tup {a : Addr} {vs : List V} {ds : List D} : ¬ F a → Rd H a (.tup vs) → RpAll K F H vs ds → Rp K F H (.ref a) (.tup ds)
  | ktup {a : Addr} {vs : List V} {ds : List D} : KTup K a vs → RpAll K F H vs ds → Rp K F H (.ref a) (.tup ds)
  | frl {a : Addr} {o : Obj} {vs : List V} {ds : List D} : ¬ F a → H a = some (.frz o (.lst vs)) → RpAll K F H vs ds → Rp K F H (.ref a) (.frl ds)
  | kfrl {a : Addr} {vs : List V} {ds : List D} : KLst K a vs → RpAll K F H vs ds → Rp K F H (.ref a) (.frl ds)
  | ftp {a : Addr} {o : Obj} {vs : List V} {ds : List D} : ¬ F a → H a = some (.frz o (.tup vs)) → o.cls = .type "tuple" → o.dict = none → RpAll K F H vs ds → Rp K F H (.ref a) (.ftp ds)
  | obj {a C dx : Addr} {ns : List Str} {vs : List V} {ds : List D} : ¬ F a → H a = some (.ins C dx (ns.zip vs)) → ns.length = vs.length → RpAll K F H vs ds → Rp K F H (.ref a) (.obj C ns ds)
  | adr (a : Addr) : Rp K F H (.ref a) (.adr a)
  | dic {a : Addr} : ¬ F a → H a = some (.dK []) → Rp K F H (.ref a) .dic
  | dct {a : Addr} {es : List (Int × V × V)} {hs : List Int} {ks vs : List D} : ¬ F a → H a = some (.ext (isDict a es)) → es.map (·.1) = hs → RpAll K F H (es.map (·.2.1)) ks → RpAll K F H (es.map (·.2.2)) vs → Rp K F H (.ref a) (.dct hs ks vs)
inductive RpAll (K : PySem.W.Frag) (F : Addr → Prop) (H : Hp) : List V → List D → Prop
  | nil : RpAll K F H [] []
  | cons {v : V} {vs : List V} {d : D} {ds : List D} : Rp K F H v d → RpAll K F H vs ds → RpAll K F H (v :: vs) (d :: ds)
end

section
variable {K : PySem.W.Frag} {F F' : Addr → Prop} {H H' : Hp}
theorem RpAll.len : ∀ {vs : List V} {ds : List D}, RpAll K F H vs ds → vs.length = ds.length
  | _, _, .nil => rfl
  | _, _, .cons _ t => by rw [List.length_cons, List.length_cons, t.len]
theorem RpAll.get : ∀ {vs : List V} {ds : List D} {i : Nat} {d : D}, RpAll K F H vs ds → ds[i]? = some d → ∃ v, vs[i]? = some v ∧ Rp K F H v d
  | _, _, _, _, .nil, e => by simp at e
  | _, _, 0, _, .cons r _, e => by simp at e; subst e; exact ⟨_, rfl, r⟩
  | _, _, i + 1, _, .cons _ t, e => by
    obtain ⟨v, h1, h2⟩ := RpAll.get (i := i) t (by simpa using e)
    exact ⟨v, by simpa using h1, h2⟩
theorem RpAll.at : ∀ {vs : List V} {ds : List D} {i : Nat} {v : V}, RpAll K F H vs ds → vs[i]? = some v → ∃ d, ds[i]? = some d ∧ Rp K F H v d
  | _, _, _, _, .nil, e => by simp at e
  | _, _, 0, _, .cons r _, e => by simp at e; subst e; exact ⟨_, rfl, r⟩
  | _, _, i + 1, _, .cons _ t, e => by
    obtain ⟨v, h1, h2⟩ := RpAll.at (i := i) t (by simpa using e)
    exact ⟨v, by simpa using h1, h2⟩
theorem RpAll.append : ∀ {vs ws : List V} {ds es : List D}, RpAll K F H vs ds → RpAll K F H ws es → RpAll K F H (vs ++ ws) (ds ++ es)
  | _, _, _, _, .nil, s => s
  | _, _, _, _, .cons r t, s => .cons r (t.append s)
theorem RpAll.take : ∀ {vs : List V} {ds : List D} (n : Nat), RpAll K F H vs ds → RpAll K F H (vs.take n) (ds.take n)
  | _, _, 0, _ => by simpa using RpAll.nil
  | _, _, _ + 1, .nil => by simpa using RpAll.nil
  | _, _, n + 1, .cons r t => by simpa using RpAll.cons r (RpAll.take n t)
theorem RpAll.drop : ∀ {vs : List V} {ds : List D} (n : Nat), RpAll K F H vs ds → RpAll K F H (vs.drop n) (ds.drop n)
  | _, _, 0, r => by simpa using r
  | _, _, _ + 1, .nil => by simpa using RpAll.nil
  | _, _, n + 1, .cons _ t => by simpa using RpAll.drop n t
theorem RpAll.set {v : V} {d : D} (r : Rp K F H v d) : ∀ {vs : List V} {ds : List D} (i : Nat), RpAll K F H vs ds → RpAll K F H (vs.set i v) (ds.set i d)
  | _, _, _, .nil => .nil
  | _, _, 0, .cons _ t => .cons r t
  | _, _, i + 1, .cons q t => .cons q (RpAll.set r i t)
theorem RpAll.rep {v : V} {d : D} (r : Rp K F H v d) : ∀ n : Nat, RpAll K F H (List.replicate n v) (List.replicate n d)
  | 0 => .nil
  | n + 1 => .cons r (RpAll.rep r n)
theorem RpAll.map {α : Type} {f : α → V} {g : α → D} (h : ∀ x, Rp K F H (f x) (g x)) : ∀ l : List α, RpAll K F H (l.map f) (l.map g)
  | [] => .nil
  | x :: l => .cons (h x) (RpAll.map h l)
theorem rd_up {a : Addr} {u : HO} (h : Rd H a u) (e : ∀ o, H a = some o → H' a = some o) : Rd H' a u := h.elim (fun h => .inl (e _ h)) fun ⟨o, h⟩ => .inr ⟨o, e _ h⟩
mutual
theorem Rp.go (k : ∀ a o, ¬ F a → H a = some o → ¬ F' a ∧ H' a = some o) : ∀ {d : D} {v : V}, Rp K F H v d → Rp K F' H' v d
  | .non, _, .non => .non
  | .bl _, _, .bl b => .bl b
  | .int _, _, .int i => .int i
  | .str _, _, .str s => .str s
  | .lst _, _, .lst n h t => .lst (k _ _ n h).1 (k _ _ n h).2 (Rp.goAll k t)
  | .tup _, _, .tup n h t => .tup (h.elim (fun h => (k _ _ n h).1) fun ⟨_, h⟩ => (k _ _ n h).1) (rd_up h fun o e => (k _ o n e).2) (Rp.goAll k t)
  | .tup _, _, .ktup h t => .ktup h (Rp.goAll k t)
  | .obj _ _ _, _, .obj n h l t => .obj (k _ _ n h).1 (k _ _ n h).2 l (Rp.goAll k t)
  | .adr _, _, .adr a => .adr a
  | .dic, _, .dic n h => .dic (k _ _ n h).1 (k _ _ n h).2
  | .dct _ _ _, _, .dct n h e a b => .dct (k _ _ n h).1 (k _ _ n h).2 e (Rp.goAll k a) (Rp.goAll k b)
  | .frl _, _, .frl n h t => .frl (k _ _ n h).1 (k _ _ n h).2 (Rp.goAll k t)
  | .frl _, _, .kfrl h t => .kfrl h (Rp.goAll k t)
  | .ftp _, _, .ftp n h c e t => .ftp (k _ _ n h).1 (k _ _ n h).2 c e (Rp.goAll k t)
theorem Rp.goAll (k : ∀ a o, ¬ F a → H a = some o → ¬ F' a ∧ H' a = some o) : ∀ {ds : List D} {vs : List V}, RpAll K F H vs ds → RpAll K F' H' vs ds
  | [], _, .nil => .nil
  | _ :: _, _, .cons r t => .cons (Rp.go k r) (Rp.goAll k t)
end
theorem Rp.mv (k : ∀ a o, ¬ F a → H a = some o → H' a = some o) {d : D} {v : V} (r : Rp K F H v d) : Rp K F H' v d := r.go fun a o n e => ⟨n, k a o n e⟩
theorem RpAll.mv (k : ∀ a o, ¬ F a → H a = some o → H' a = some o) {ds : List D} {vs : List V} (r : RpAll K F H vs ds) : RpAll K F H' vs ds := Rp.goAll (fun a o n e => ⟨n, k a o n e⟩) r
theorem Rp.sqt {a : Addr} {ds : List D} (r : Rp K F H (.ref a) (.tup ds)) : ∃ vs, SqT K H a vs ∧ RpAll K F H vs ds := by
  cases r with
  | tup n h t => exact ⟨_, .inl h, t⟩
  | ktup h t => exact ⟨_, .inr h, t⟩
theorem Rp.tupE {v : V} {ds : List D} (r : Rp K F H v (.tup ds)) : ∃ a vs, v = .ref a ∧ SqT K H a vs ∧ RpAll K F H vs ds := by
  cases r with
  | tup n h t => exact ⟨_, _, rfl, .inl h, t⟩
  | ktup h t => exact ⟨_, _, rfl, .inr h, t⟩
theorem Rp.lstE {v : V} {ds : List D} (r : Rp K F H v (.lst ds)) : ∃ a vs, v = .ref a ∧ H a = some (.lst vs) ∧ RpAll K F H vs ds := by
  cases r with
  | lst n h t => exact ⟨_, _, rfl, h, t⟩
theorem Rp.intE {v : V} {i : Int} (r : Rp K F H v (.int i)) : v = .int i := by cases r; rfl
theorem Rp.blE {v : V} {i : Bool} (r : Rp K F H v (.bl i)) : v = .bl i := by cases r; rfl
theorem Rp.strE {v : V} {i : Str} (r : Rp K F H v (.str i)) : v = .str i := by cases r; rfl
theorem Rp.adrE {v : V} {a : Addr} (r : Rp K F H v (.adr a)) : v = .ref a := by cases r; rfl
theorem RpAll.ints : ∀ {l : List Int} {vs : List V}, RpAll K F H vs (l.map D.int) → vs = l.map V.int
  | [], _, .nil => rfl
  | _ :: _, _, .cons r t => by rw [r.intE, RpAll.ints t] <;> rfl
theorem RpAll.bls : ∀ {l : List Bool} {vs : List V}, RpAll K F H vs (l.map D.bl) → vs = l.map V.bl
  | [], _, .nil => rfl
  | _ :: _, _, .cons r t => by rw [r.blE, RpAll.bls t] <;> rfl
theorem RpAll.strs : ∀ {l : List Str} {vs : List V}, RpAll K F H vs (l.map D.str) → vs = l.map V.str
  | [], _, .nil => rfl
  | _ :: _, _, .cons r t => by rw [r.strE, RpAll.strs t] <;> rfl
end

/-! ### plain data -/
mutual
def D.py : D → PyData
  | .non => .none | .bl b => .bool b | .int i => .int i | .str s => .str s
  | .lst xs => .list (D.pys xs) | .tup xs => .tuple (D.pys xs)
  | .obj _ _ _ => .none | .adr _ => .none | .dic => .none | .frl xs => .list (D.pys xs) | .ftp _ => .none | .dct _ _ _ => .none
def D.pys : List D → List PyData
  | [] => []
  | x :: xs => x.py :: D.pys xs
end
mutual
def D.plain : D → Bool
  | .non => true | .bl _ => true | .int _ => true | .str _ => true
  | .lst xs => D.plains xs | .tup xs => D.plains xs
  | .obj _ _ _ => false | .adr _ => false | .dic => false | .frl xs => D.plains xs | .ftp _ => false | .dct _ _ _ => false
def D.plains : List D → Bool
  | [] => true
  | x :: xs => x.plain && D.plains xs
end
section
variable {K : PySem.W.Frag} {F : Addr → Prop} {H : Hp}
mutual
theorem Rp.dp : ∀ {d : D} {v : V}, Rp K F H v d → d.plain = true → Dp K H v d.py
  | .non, _, .non, _ => .non
  | .bl _, _, .bl b, _ => .bl b
  | .int _, _, .int i, _ => .int i
  | .str _, _, .str s, _ => .str s
  | .lst _, _, .lst n h t, p => .lst (.inl (.inl h)) (Rp.dpAll t (by simpa [D.plain] using p))
  | .tup _, _, .tup n h t, p => .tup (.inl h) (Rp.dpAll t (by simpa [D.plain] using p))
  | .tup _, _, .ktup h t, p => .tup (.inr h) (Rp.dpAll t (by simpa [D.plain] using p))
  | .obj _ _ _, _, .obj n h l t, p => by simp [D.plain] at p
  | .adr _, _, .adr a, p => by simp [D.plain] at p
  | .ftp _, _, .ftp n h c e t, p => by simp [D.plain] at p
  | .dic, _, .dic n h, p => by simp [D.plain] at p
  | .dct _ _ _, _, .dct n h e a b, p => by simp [D.plain] at p
  | .frl _, _, .frl n h t, p => .lst (.inl (.inr ⟨_, h⟩)) (Rp.dpAll t (by simpa [D.plain] using p))
  | .frl _, _, .kfrl h t, p => .lst (.inr h) (Rp.dpAll t (by simpa [D.plain] using p))
theorem Rp.dpAll : ∀ {ds : List D} {vs : List V}, RpAll K F H vs ds → D.plains ds = true → DpAll K H vs (D.pys ds)
  | [], _, .nil, _ => .nil
  | _ :: _, _, .cons r t, p => by
    have p' := Bool.and_eq_true_iff.mp (by simpa [D.plains] using p)
    exact .cons (Rp.dp r p'.1) (Rp.dpAll t p'.2)
end
end

/-! ### modes -/
/-- F: what data may not lean on; R: how the heap may move; I: what is true all along -/
structure Mo where
  F : Addr → Prop
  R : Hp → Hp → Prop
  I : Hp → Prop
  refl : ∀ H, R H H
  trans : ∀ {H H1 H2}, R H H1 → R H1 H2 → R H H2
  keep : ∀ {H H'}, R H H' → I H → ∀ a o, ¬ F a → H a = some o → H' a = some o
  grow : ∀ {H H'}, I H → Same H H' → R H H'
  inv : ∀ {H H'}, R H H' → I H → I H'
  fa : ∀ {H a}, I H → F a → H a ≠ none
  chg : ∀ {H H1 p o}, I H → R H H1 → H p = none → R H (upd H1 p o)
  had : ∀ {H H' a}, I H → R H H' → H a ≠ none → H' a ≠ none
theorem same_chg {H H' : Hp} {p : Addr} {o : HO} (e : Same H H') (h : H p = none) : Same H (upd H' p o) := fun a u ha => by
  rw [upd_ne (ne_of_none ha h)]
  exact e a u ha
theorem same_new {H : Hp} {p : Addr} {o : HO} (h : H p = none) : Same H (upd H p o) := same_chg (Same.refl H) h
/-- nothing known changes -/
def pureMo (F : Addr → Prop) : Mo where
  F := F
  R := Same
  I := fun H => ∀ a, F a → H a ≠ none
  refl := Same.refl
  trans := fun a b => a.trans b
  keep := fun r _ a o _ e => r a o e
  grow := fun _ r => r
  inv := fun {H H'} r i a f => by
    cases e : H a with
    | none => exact absurd e (i a f)
    | some o => rw [r a o e]; exact fun z => nomatch z
  fa := fun i f => i _ f
  chg := fun _ r h => same_chg r h
  had := fun {H H' a} _ r n => by
    cases e : H a with
    | none => exact absurd e n
    | some o => rw [r a o e]; exact fun z => nomatch z
/-- one more address that data may not lean on -/
def Mo.ext (m : Mo) (p : Addr) : Mo where
  F := fun a => m.F a ∨ a = p
  R := m.R
  I := fun H => m.I H ∧ H p ≠ none
  refl := m.refl
  trans := m.trans
  keep := fun r i a o n e => m.keep r i.1 a o (fun z => n (.inl z)) e
  grow := fun i r => m.grow i.1 r
  inv := fun r i => ⟨m.inv r i.1, m.had i.1 r i.2⟩
  fa := fun i f => f.elim (fun f => m.fa i.1 f) fun e => e ▸ i.2
  chg := fun i r h => m.chg i.1 r h
  had := fun i r n => m.had i.1 r n
structure Mo.Le (m m' : Mo) : Prop where
  R : m'.R = m.R
  F : ∀ a, m.F a → m'.F a
  I : ∀ H, m'.I H → m.I H
theorem Mo.Le.refl (m : Mo) : m.Le m := ⟨rfl, fun _ h => h, fun _ h => h⟩
theorem Mo.Le.trans {m m1 m2 : Mo} (a : m.Le m1) (b : m1.Le m2) : m.Le m2 := ⟨b.R.trans a.R, fun x h => b.F x (a.F x h), fun H h => a.I H (b.I H h)⟩
theorem Mo.le_ext (m : Mo) (p : Addr) : m.Le (m.ext p) := ⟨rfl, fun _ h => .inl h, fun _ h => h.1⟩

end Tx

set_option Elab.async false
set_option linter.all false
set_option maxRecDepth 100000
set_option autoImplicit false
/-! Tx: judgements -/
namespace Tx
open PySem L2
abbrev G := List (Option D)
section
variable {K : PySem.W.Frag}
/-- the slots hold these data -/
structure ER (m : Mo) (K : PySem.W.Frag) (Γ : G) (σ : St) (H : Hp) : Prop where
  i : m.I H
  len : Γ.length = σ.length
  at_ : ∀ (i : Nat) (d : D), Γ[i]? = some (some d) → ∃ v, σ[i]? = some (some v) ∧ Rp K m.F H v d
theorem ER.mv {m : Mo} {Γ : G} {σ : St} {H H' : Hp} (e : ER m K Γ σ H) (r : m.R H H') : ER m K Γ σ H' :=
  ⟨m.inv r e.i, e.len, fun i d h => let ⟨v, h1, h2⟩ := e.at_ i d h; ⟨v, h1, h2.mv fun a o n x => m.keep r e.i a o n x⟩⟩
theorem ER.set {m : Mo} {Γ : G} {σ : St} {H : Hp} {v : V} {d : D} (e : ER m K Γ σ H) (j : Nat) (r : Rp K m.F H v d) : ER m K (Γ.set j (some d)) (σ.set j (some v)) H := by
  refine ⟨e.i, by rw [List.length_set, List.length_set, e.len], fun i d' h => ?_⟩
  by_cases hj : j = i
  · subst hj
    by_cases hl : j < Γ.length
    · rw [List.getElem?_set_self hl] at h
      cases h
      exact ⟨v, List.getElem?_set_self (e.len ▸ hl), r⟩
    · rw [List.getElem?_eq_none (by rw [List.length_set]; omega)] at h
      cases h
  · rw [List.getElem?_set_ne hj] at h
    obtain ⟨w, h1, h2⟩ := e.at_ i d' h
    exact ⟨w, by rw [List.getElem?_set_ne hj]; exact h1, h2⟩
def wipeG (Γ : G) : List Nat → G
  | [] => Γ
  | v :: vs => (wipeG Γ vs).set v none
theorem ER.unset {m : Mo} {Γ : G} {σ : St} {H : Hp} (e : ER m K Γ σ H) (j : Nat) : ER m K (Γ.set j none) (σ.set j none) H := by
  refine ⟨e.i, by rw [List.length_set, List.length_set, e.len], fun i d' h => ?_⟩
  by_cases hj : j = i
  · subst hj
    by_cases hl : j < Γ.length
    · rw [List.getElem?_set_self hl] at h
      cases h
    · rw [List.getElem?_eq_none (by rw [List.length_set]; omega)] at h
      cases h
  · rw [List.getElem?_set_ne hj] at h
    obtain ⟨w, h1, h2⟩ := e.at_ i d' h
    exact ⟨w, by rw [List.getElem?_set_ne hj]; exact h1, h2⟩
theorem ER.wipe {m : Mo} {Γ : G} {σ : St} {H : Hp} (e : ER m K Γ σ H) : ∀ vs : List Nat, ER m K (wipeG Γ vs) (L2.wipe σ vs) H
  | [] => e
  | v :: vs => (ER.wipe e vs).unset v
/-- a new object comes, which data may not lean on -/
theorem ER.ext {m : Mo} {Γ : G} {σ : St} {H H' : Hp} {p : Addr} (e : ER m K Γ σ H) (hp : H p = none) (r : m.R H H') (hp' : H' p ≠ none) : ER (m.ext p) K Γ σ H' :=
  ⟨⟨m.inv r e.i, hp'⟩, e.len, fun i d h => let ⟨v, h1, h2⟩ := e.at_ i d h; ⟨v, h1, h2.go fun a o n x => ⟨fun z => z.elim n fun z => (by rw [z, hp] at x; cases x), m.keep r e.i a o n x⟩⟩⟩

/-! ### expressions -/
def EvN (m : Mo) (K : PySem.W.Frag) (te : TE) (Γ : G) (S : D → Prop) : Prop :=
  ∀ σ H, ER m K Γ σ H → ∀ Q : VK, (∀ v d H', S d → m.R H H' → Rp K m.F H' v d → Q v H') → te σ H Q
def EvT (m : Mo) (K : PySem.W.Frag) (tt : TT) (Γ : G) (S : Bool → Prop) : Prop :=
  ∀ σ H, ER m K Γ σ H → ∀ Q : Bool → Hp → Prop, (∀ b H', S b → m.R H H' → Q b H') → tt σ H Q
def EvA (m : Mo) (K : PySem.W.Frag) (ta : TA) (Γ : G) (S : List D → Prop) : Prop :=
  ∀ σ H, ER m K Γ σ H → ∀ Q : List V → Hp → Prop, (∀ vs ds H', S ds → m.R H H' → RpAll K m.F H' vs ds → Q vs H') → ta σ H Q
abbrev Ev1 (m : Mo) (K : PySem.W.Frag) (te : TE) (Γ : G) (d : D) : Prop := EvN m K te Γ (fun x => x = d)
abbrev EvT1 (m : Mo) (K : PySem.W.Frag) (tt : TT) (Γ : G) (b : Bool) : Prop := EvT m K tt Γ (fun x => x = b)
abbrev EvA1 (m : Mo) (K : PySem.W.Frag) (ta : TA) (Γ : G) (ds : List D) : Prop := EvA m K ta Γ (fun x => x = ds)
/-- operations, calls by data -/
def OpN (m : Mo) (K : PySem.W.Frag) (r : R2) (a b : D) (S : D → Prop) : Prop :=
  ∀ x y H, m.I H → Rp K m.F H x a → Rp K m.F H y b → ∀ Q : VK, (∀ v d H', S d → m.R H H' → Rp K m.F H' v d → Q v H') → r x y H Q
abbrev Op1 (m : Mo) (K : PySem.W.Frag) (r : R2) (a b c : D) : Prop := OpN m K r a b (fun x => x = c)
def CaN (m : Mo) (K : PySem.W.Frag) (r : List V → Hp → VK → Prop) (ds : List D) (S : D → Prop) : Prop :=
  ∀ vs H, m.I H → RpAll K m.F H vs ds → ∀ Q : VK, (∀ v d H', S d → m.R H H' → Rp K m.F H' v d → Q v H') → r vs H Q
abbrev Ca1 (m : Mo) (K : PySem.W.Frag) (r : List V → Hp → VK → Prop) (ds : List D) (c : D) : Prop := CaN m K r ds (fun x => x = c)

variable {m : Mo} {Γ : G} {T0 : Bool → Prop} {ta tb tc te : TE} {tt tu : TT} {S Sa Sb Sc : D → Prop} {a b c d : D} {r r' : R2}
theorem EvN.mono (h : EvN m K te Γ Sa) (k : ∀ d, Sa d → S d) : EvN m K te Γ S := fun σ H e Q q => h σ H e Q fun v d H' s => q v d H' (k d s)
theorem EvT.mono {Sa S : Bool → Prop} (h : EvT m K tt Γ Sa) (k : ∀ d, Sa d → S d) : EvT m K tt Γ S := fun σ H e Q q => h σ H e Q fun d H' s => q d H' (k d s)
theorem Ev1.is (h : Ev1 m K te Γ a) (e : a = b) : Ev1 m K te Γ b := e ▸ h
theorem EvT1.is {a b : Bool} (h : EvT1 m K tt Γ a) (e : a = b) : EvT1 m K tt Γ b := e ▸ h
theorem en_var (i : Nat) (h : Γ[i]? = some (some d)) : Ev1 m K (tVar i) Γ d := fun σ H e Q q =>
  let ⟨v, h1, h2⟩ := e.at_ i d h; ⟨v, h1, q v d H rfl (m.refl H) h2⟩
theorem en_int (i : Int) : Ev1 m K (tC (.int i)) Γ (.int i) := fun σ H e Q q => q _ _ H rfl (m.refl H) (.int i)
theorem en_bl (i : Bool) : Ev1 m K (tC (.bl i)) Γ (.bl i) := fun σ H e Q q => q _ _ H rfl (m.refl H) (.bl i)
theorem en_str (i : Str) : Ev1 m K (tC (.str i)) Γ (.str i) := fun σ H e Q q => q _ _ H rfl (m.refl H) (.str i)
theorem en_non : Ev1 m K (tC .non) Γ .non := fun σ H e Q q => q _ _ H rfl (m.refl H) .non
theorem en_op (ha : EvN m K ta Γ Sa) (hb : EvN m K tb Γ Sb) (ho : ∀ a b, Sa a → Sb b → OpN m K r a b S) : EvN m K (tOp r ta tb) Γ S := fun σ H e Q q =>
  ha σ H e _ fun x a H1 sa r1 ra => hb σ H1 (e.mv r1) _ fun y b H2 sb r2 rb =>
    ho a b sa sb x y H2 (m.inv r2 (m.inv r1 e.i)) (ra.mv (m.keep r2 (m.inv r1 e.i))) rb Q fun v d H3 s r3 rv => q v d H3 s (m.trans r1 (m.trans r2 r3)) rv
theorem en_op1 (ha : Ev1 m K ta Γ a) (hb : Ev1 m K tb Γ b) (ho : OpN m K r a b S) : EvN m K (tOp r ta tb) Γ S := en_op ha hb fun _ _ e1 e2 => e1 ▸ e2 ▸ ho
theorem en_if (ht : EvT m K tt Γ T0) (h1 : T0 true → EvN m K ta Γ S) (h2 : T0 false → EvN m K tb Γ S) : EvN m K (tIf tt ta tb) Γ S := fun σ H e Q q =>
  ht σ H e _ fun k H1 s r1 => by
    cases k with
    | true => exact h1 s σ H1 (e.mv r1) Q fun v d H2 sd r2 => q v d H2 sd (m.trans r1 r2)
    | false => exact h2 s σ H1 (e.mv r1) Q fun v d H2 sd r2 => q v d H2 sd (m.trans r1 r2)
theorem en_if1 {k : Bool} (ht : EvT1 m K tt Γ k) (h1 : k = true → EvN m K ta Γ S) (h2 : k = false → EvN m K tb Γ S) : EvN m K (tIf tt ta tb) Γ S := en_if (T0 := fun x => x = k) ht (fun e => h1 e.symm) (fun e => h2 e.symm)
theorem en_andV {p : Bool} (ha : Ev1 m K ta Γ (.bl p)) (hb : p = true → EvN m K tb Γ S) (h0 : p = false → S (.bl false)) : EvN m K (tAndV ta tb) Γ S := fun σ H e Q q =>
  ha σ H e _ fun x a H1 sa r1 ra => by
    subst sa
    refine ⟨p, ra.blE, ?_⟩
    cases p with
    | true => exact hb rfl σ H1 (e.mv r1) Q fun v d H2 s r2 => q v d H2 s (m.trans r1 r2)
    | false => exact q _ _ H1 (h0 rfl) r1 (.bl false)
theorem en_and {p k : Bool} (ha : Ev1 m K ta Γ (.bl p)) (hb : p = true → Ev1 m K tb Γ (.bl k)) : Ev1 m K (tAndV ta tb) Γ (.bl (p && k)) :=
  en_andV ha (fun e => by subst e; exact hb rfl) fun e => by subst e; rfl
theorem en_orV {p : Bool} (ha : Ev1 m K ta Γ (.bl p)) (hb : p = false → EvN m K tb Γ S) (h0 : p = true → S (.bl true)) : EvN m K (tOrV ta tb) Γ S := fun σ H e Q q =>
  ha σ H e _ fun x a H1 sa r1 ra => by
    subst sa
    refine ⟨p, ra.blE, ?_⟩
    cases p with
    | false => exact hb rfl σ H1 (e.mv r1) Q fun v d H2 s r2 => q v d H2 s (m.trans r1 r2)
    | true => exact q _ _ H1 (h0 rfl) r1 (.bl true)
theorem en_or {p k : Bool} (ha : Ev1 m K ta Γ (.bl p)) (hb : p = false → Ev1 m K tb Γ (.bl k)) : Ev1 m K (tOrV ta tb) Γ (.bl (p || k)) :=
  en_orV ha (fun e => by subst e; exact hb rfl) fun e => by subst e; rfl
theorem en_not {p : Bool} (ha : Ev1 m K ta Γ (.bl p)) : Ev1 m K (tNotV ta) Γ (.bl (!p)) := fun σ H e Q q =>
  ha σ H e _ fun x a H1 sa r1 ra => by subst sa; exact ⟨p, ra.blE, q _ _ H1 rfl r1 (.bl _)⟩
theorem en_chain {k1 k2 : Bool} (ha : Ev1 m K ta Γ a) (hb : Ev1 m K tb Γ b) (hc : k1 = true → Ev1 m K tc Γ c) (h1 : Op1 m K r a b (.bl k1)) (h2 : k1 = true → Op1 m K r' b c (.bl k2)) :
    Ev1 m K (tChain r r' ta tb tc) Γ (.bl (k1 && k2)) := fun σ H e Q q =>
  ha σ H e _ fun x a' H1 sa r1 ra => hb σ H1 (e.mv r1) _ fun y b' H2 sb r2 rb => by
    subst sa; subst sb
    have i1 := m.inv r1 e.i
    have i2 := m.inv r2 i1
    refine h1 x y H2 i2 (ra.mv (m.keep r2 i1)) rb _ fun z d H3 s3 r3 rz => ?_
    subst s3
    refine ⟨k1, rz.blE, ?_⟩
    cases k1 with
    | false => exact q _ _ H3 rfl (m.trans r1 (m.trans r2 r3)) (.bl _)
    | true =>
      refine hc rfl σ H3 (e.mv (m.trans r1 (m.trans r2 r3))) _ fun w c' H4 s4 r4 rc => ?_
      subst s4
      have i3 := m.inv r3 i2
      refine h2 rfl y w H4 (m.inv r4 i3) (rb.mv (m.keep (m.trans r3 r4) i2)) rc Q fun v d H5 s5 r5 => q v d H5 ?_ (m.trans r1 (m.trans r2 (m.trans r3 (m.trans r4 r5))))
      subst s5
      simp
/-! tests -/
theorem et_test {k : Bool} (h : Ev1 m K te Γ (.bl k)) : EvT1 m K (tTest te) Γ k := fun σ H e Q q => h σ H e _ fun v d H1 s r1 rv => by subst s; exact ⟨k, rv.blE, q k H1 rfl r1⟩
theorem et_B {k : Bool} (h : Ev1 m K te Γ (.bl k)) : EvT1 m K (tB te) Γ k := fun σ H e Q q => h σ H e _ fun v d H1 s r1 rv => by subst s; exact ⟨k, rv.blE, q k H1 rfl r1⟩
theorem et_testN {T : Bool → Prop} (h : EvN m K te Γ (fun d => ∃ k, d = .bl k ∧ T k)) : EvT m K (tTest te) Γ T := fun σ H e Q q => h σ H e _ fun v d H1 s r1 rv => by obtain ⟨k, e, t⟩ := s; subst e; exact ⟨k, rv.blE, q k H1 t r1⟩
theorem et_BN {T : Bool → Prop} (h : EvN m K te Γ (fun d => ∃ k, d = .bl k ∧ T k)) : EvT m K (tB te) Γ T := fun σ H e Q q => h σ H e _ fun v d H1 s r1 rv => by obtain ⟨k, e, t⟩ := s; subst e; exact ⟨k, rv.blE, q k H1 t r1⟩
theorem et_andN {p : Bool} {T : Bool → Prop} (h1 : EvT1 m K tt Γ p) (h2 : p = true → EvT m K tu Γ T) (h0 : p = false → T false) : EvT m K (tAnd tt tu) Γ T := fun σ H e Q q =>
  h1 σ H e _ fun x H1 s r1 => by
    subst s
    cases x with
    | true => exact h2 rfl σ H1 (e.mv r1) Q fun b H2 s2 r2 => q b H2 s2 (m.trans r1 r2)
    | false => exact q _ H1 (h0 rfl) r1
theorem et_and {p k : Bool} (h1 : EvT1 m K tt Γ p) (h2 : p = true → EvT1 m K tu Γ k) : EvT1 m K (tAnd tt tu) Γ (p && k) :=
  et_andN h1 (fun e => by subst e; exact h2 rfl) fun e => by subst e; rfl
theorem et_orN {p : Bool} {T : Bool → Prop} (h1 : EvT1 m K tt Γ p) (h2 : p = false → EvT m K tu Γ T) (h0 : p = true → T true) : EvT m K (tOr tt tu) Γ T := fun σ H e Q q =>
  h1 σ H e _ fun x H1 s r1 => by
    subst s
    cases x with
    | false => exact h2 rfl σ H1 (e.mv r1) Q fun b H2 s2 r2 => q b H2 s2 (m.trans r1 r2)
    | true => exact q _ H1 (h0 rfl) r1
theorem et_or {p k : Bool} (h1 : EvT1 m K tt Γ p) (h2 : p = false → EvT1 m K tu Γ k) : EvT1 m K (tOr tt tu) Γ (p || k) :=
  et_orN h1 (fun e => by subst e; exact h2 rfl) fun e => by subst e; rfl
theorem et_not {p : Bool} (h1 : EvT1 m K tt Γ p) : EvT1 m K (tNot tt) Γ (!p) := fun σ H e Q q => h1 σ H e _ fun x H1 s r1 => by subst s; exact q _ H1 rfl r1
theorem et_notN {T : Bool → Prop} (h1 : EvT m K tt Γ (fun b => T (!b))) : EvT m K (tNot tt) Γ T := fun σ H e Q q => h1 σ H e _ fun x H1 s r1 => q _ H1 s r1
theorem et_yes : EvT1 m K tYes Γ true := fun σ H e Q q => q _ H rfl (m.refl H)
/-! arguments -/
theorem ea_nil : EvA1 m K tNil Γ [] := fun σ H e Q q => q _ _ H rfl (m.refl H) .nil
theorem ea_consN {tr : TA} {T U : List D → Prop} (h : EvN m K te Γ S) (hr : EvA m K tr Γ T) (k : ∀ d ds, S d → T ds → U (d :: ds)) : EvA m K (tCons te tr) Γ U := fun σ H e Q q =>
  h σ H e _ fun v d H1 s r1 rv => hr σ H1 (e.mv r1) _ fun vs ds H2 s2 r2 rs => q _ _ H2 (k d ds s s2) (m.trans r1 r2) (.cons (rv.mv (m.keep r2 (m.inv r1 e.i))) rs)
theorem ea_cons {tr : TA} {ds : List D} (h : Ev1 m K te Γ d) (hr : EvA1 m K tr Γ ds) : EvA1 m K (tCons te tr) Γ (d :: ds) := ea_consN h hr fun _ _ e1 e2 => by rw [e1, e2]
theorem EvA.mono {ta : TA} {T U : List D → Prop} (h : EvA m K ta Γ T) (k : ∀ d, T d → U d) : EvA m K ta Γ U := fun σ H e Q q => h σ H e Q fun v d H' s => q v d H' (k d s)
theorem rp_new {H : Hp} {p : Addr} {vs : List V} {ds : List D} (i : m.I H) (hp : H p = none) (r : RpAll K m.F H vs ds) : Rp K m.F (upd H p (.tup vs)) (.ref p) (.tup ds) :=
  .tup (fun f => m.fa i f hp) (.inl upd_same) (r.mv fun a o n e => same_new hp a o e)
theorem rp_newL {H : Hp} {p : Addr} {vs : List V} {ds : List D} (i : m.I H) (hp : H p = none) (r : RpAll K m.F H vs ds) : Rp K m.F (upd H p (.lst vs)) (.ref p) (.lst ds) :=
  .lst (fun f => m.fa i f hp) upd_same (r.mv fun a o n e => same_new hp a o e)
theorem en_tupN {ta : TA} {T : List D → Prop} (h : EvA m K ta Γ T) (hl : ∀ ds, T ds → ds.length ≤ 100000) : EvN m K (tTup ta) Γ (fun x => ∃ ds, x = .tup ds ∧ T ds) := fun σ H e Q q =>
  h σ H e _ fun vs ds H1 s r1 rs => ⟨Nat.le_trans (by rw [rs.len]; exact hl ds s) (by decide), fun p hp => q _ _ _ ⟨ds, rfl, s⟩ (m.trans r1 (m.grow (m.inv r1 e.i) (same_new hp))) (rp_new (m.inv r1 e.i) hp rs)⟩
theorem en_lstN {ta : TA} {T : List D → Prop} (h : EvA m K ta Γ T) (hl : ∀ ds, T ds → ds.length ≤ 100000) : EvN m K (tLst ta) Γ (fun x => ∃ ds, x = .lst ds ∧ T ds) := fun σ H e Q q =>
  h σ H e _ fun vs ds H1 s r1 rs => ⟨Nat.le_trans (by rw [rs.len]; exact hl ds s) (by decide), fun p hp => q _ _ _ ⟨ds, rfl, s⟩ (m.trans r1 (m.grow (m.inv r1 e.i) (same_new hp))) (rp_newL (m.inv r1 e.i) hp rs)⟩
theorem en_tup {ta : TA} {ds : List D} (h : EvA1 m K ta Γ ds) (hl : ds.length ≤ 100000) : Ev1 m K (tTup ta) Γ (.tup ds) := (en_tupN h fun x e => by rw [e]; exact hl).mono fun d ⟨x, e1, e2⟩ => by rw [e1, e2]
theorem en_lst {ta : TA} {ds : List D} (h : EvA1 m K ta Γ ds) (hl : ds.length ≤ 100000) : Ev1 m K (tLst ta) Γ (.lst ds) := (en_lstN h fun x e => by rw [e]; exact hl).mono fun d ⟨x, e1, e2⟩ => by rw [e1, e2]
/-- [*xs, ..] -/
theorem ea_starN {tr : TA} {T U : List D → Prop} (h : EvN m K te Γ S) (hr : EvA m K tr Γ T) (k : ∀ d ds, S d → T ds → ∃ es, (d = .tup es ∨ d = .lst es) ∧ U (es ++ ds)) (h0 : ∀ d, S d → ∃ es, d = .tup es ∨ d = .lst es) : EvA m K (StX.tStar K te tr) Γ U := by
  intro σ H e Q q
  refine h σ H e _ fun v d H1 s r1 rv => ?_
  have i1 := m.inv r1 e.i
  have fin : ∀ (a : Addr) (vs : List V) (es : List D), v = .ref a → (SqT K H1 a vs ∨ SqL K H1 a vs) → RpAll K m.F H1 vs es → (∀ ds, T ds → U (es ++ ds)) → ∃ p xs, v = V.ref p ∧ (SqT K H1 p xs ∨ SqL K H1 p xs) ∧ tr σ H1 fun ys H2 => Q (xs ++ ys) H2 := fun a vs es ev hs ra hu =>
    ⟨a, vs, ev, hs, hr σ H1 (e.mv r1) _ fun ws ds H2 s2 r2 rs => q _ _ H2 (hu ds s2) (m.trans r1 r2) ((ra.mv (m.keep r2 i1)).append rs)⟩
  obtain ⟨es, hd⟩ := h0 d s
  rcases hd with hd | hd
  · subst hd
    obtain ⟨a, vs, ev, hs, ra⟩ := rv.tupE
    exact fin a vs es ev (.inl hs) ra fun ds t => by
      obtain ⟨es', he, u⟩ := k _ ds s t
      rcases he with he | he
      · cases he; exact u
      · cases he
  · subst hd
    obtain ⟨a, vs, ev, hs, ra⟩ := rv.lstE
    exact fin a vs es ev (.inr (SqL.of hs)) ra fun ds t => by
      obtain ⟨es', he, u⟩ := k _ ds s t
      rcases he with he | he
      · cases he
      · cases he; exact u
theorem ea_star {tr : TA} {es ds : List D} (h : EvN m K te Γ (fun x => x = d)) (hd : d = .tup es ∨ d = .lst es) (hr : EvA1 m K tr Γ ds) : EvA1 m K (StX.tStar K te tr) Γ (es ++ ds) :=
  ea_starN h hr (fun x y e1 e2 => ⟨es, by rw [e1]; exact hd, by rw [e2]⟩) fun x e => ⟨es, by rw [e]; exact hd⟩
theorem en_cb {ta : TA} {rr : List V → Hp → VK → Prop} {T : List D → Prop} (h : EvA m K ta Γ T) (hc : ∀ ds, T ds → CaN m K rr ds S) : EvN m K (tCB rr ta) Γ S := fun σ H e Q q =>
  h σ H e _ fun vs ds H1 s r1 rs => hc ds s vs H1 (m.inv r1 e.i) rs Q fun v d H2 s2 r2 => q v d H2 s2 (m.trans r1 r2)
theorem en_cb1 {ta : TA} {rr : List V → Hp → VK → Prop} {ds : List D} (h : EvA1 m K ta Γ ds) (hc : CaN m K rr ds S) : EvN m K (tCB rr ta) Γ S := en_cb h fun _ e => e ▸ hc
end
end Tx

set_option Elab.async false
set_option linter.all false
set_option maxRecDepth 100000
set_option autoImplicit false
/-! Tx: statements, iteration, comprehensions -/
namespace Tx
open PySem L2
structure Out where
  nx : G → Prop
  rt : D → Prop
  bk : G → Prop := fun _ => False
  ct : G → Prop := fun _ => False
section
variable {K : PySem.W.Frag} {m : Mo} {Γ : G} {ta tb tc te : TE} {tt tu : TT} {ts tv : TS} {S : D → Prop} {d : D} {O O' : Out}
structure Meets (m : Mo) (K : PySem.W.Frag) (H : Hp) (O : Out) (E : Ends) : Prop where
  nx : ∀ Γ' σ' H', O.nx Γ' → m.R H H' → ER m K Γ' σ' H' → E.nx σ' H'
  rt : ∀ d v H', O.rt d → m.R H H' → Rp K m.F H' v d → E.rt v H'
  bk : ∀ Γ' σ' H', O.bk Γ' → m.R H H' → ER m K Γ' σ' H' → E.bk σ' H'
  ct : ∀ Γ' σ' H', O.ct Γ' → m.R H H' → ER m K Γ' σ' H' → E.ct σ' H'
theorem Meets.mv {H H1 : Hp} {E : Ends} (M : Meets m K H O E) (r : m.R H H1) : Meets m K H1 O E :=
  ⟨fun Γ' σ' H' o r' e => M.nx Γ' σ' H' o (m.trans r r') e, fun d v H' o r' e => M.rt d v H' o (m.trans r r') e, fun Γ' σ' H' o r' e => M.bk Γ' σ' H' o (m.trans r r') e, fun Γ' σ' H' o r' e => M.ct Γ' σ' H' o (m.trans r r') e⟩
def SG (m : Mo) (K : PySem.W.Frag) (ts : TS) (Γ : G) (O : Out) : Prop :=
  ∀ σ H, ER m K Γ σ H → ∀ E : Ends, Meets m K H O E → ts E σ H
theorem SG.mono (h : SG m K ts Γ O) (h1 : ∀ x, O.nx x → O'.nx x) (h2 : ∀ x, O.rt x → O'.rt x) (h3 : ∀ x, O.bk x → O'.bk x) (h4 : ∀ x, O.ct x → O'.ct x) : SG m K ts Γ O' := fun σ H e E M =>
  h σ H e E ⟨fun Γ' σ' H' o => M.nx Γ' σ' H' (h1 _ o), fun d v H' o => M.rt d v H' (h2 _ o), fun Γ' σ' H' o => M.bk Γ' σ' H' (h3 _ o), fun Γ' σ' H' o => M.ct Γ' σ' H' (h4 _ o)⟩
theorem sg_next (h : O.nx Γ) : SG m K tNext Γ O := fun σ H e E M => M.nx _ _ _ h (m.refl H) e
theorem sg_seq (N : G → Prop) (h1 : SG m K ts Γ { O with nx := N }) (h2 : ∀ Γ', N Γ' → SG m K tv Γ' O) : SG m K (tSeq ts tv) Γ O := fun σ H e E M =>
  h1 σ H e _ ⟨fun Γ' σ' H' o r e' => h2 Γ' o σ' H' e' E (M.mv r), M.rt, M.bk, M.ct⟩
theorem sg_retN (h : EvN m K te Γ S) (k : ∀ d, S d → O.rt d) : SG m K (tRet te) Γ O := fun σ H e E M => h σ H e _ fun v d H' s r rv => M.rt d v H' (k d s) r rv
theorem sg_ret (h : Ev1 m K te Γ d) (k : O.rt d) : SG m K (tRet te) Γ O := sg_retN h fun _ e => e ▸ k
theorem sg_asgN {i : Nat} (h : EvN m K te Γ S) (k : ∀ d, S d → O.nx (Γ.set i (some d))) : SG m K (tAsg te (gName i)) Γ O := fun σ H e E M =>
  h σ H e _ fun v d H' s r rv => M.nx _ _ _ (k d s) r ((e.mv r).set i rv)
theorem sg_asg {i : Nat} (h : Ev1 m K te Γ d) (k : O.nx (Γ.set i (some d))) : SG m K (tAsg te (gName i)) Γ O := sg_asgN h fun _ e => e ▸ k
/-- x = e; rest -/
theorem sq_asgN {i : Nat} (h : EvN m K te Γ S) (k : ∀ d, S d → SG m K tv (Γ.set i (some d)) O) : SG m K (tSeq (tAsg te (gName i)) tv) Γ O :=
  sg_seq (fun Γ' => ∃ d, S d ∧ Γ' = Γ.set i (some d)) (sg_asgN h fun d s => ⟨d, s, rfl⟩) fun Γ' ⟨d, s, e⟩ => e ▸ k d s
theorem sq_asg {i : Nat} (h : Ev1 m K te Γ d) (k : SG m K tv (Γ.set i (some d)) O) : SG m K (tSeq (tAsg te (gName i)) tv) Γ O := sq_asgN h fun _ e => e ▸ k
theorem sg_ifN {T : Bool → Prop} (h : EvT m K tt Γ T) (h1 : T true → SG m K ts Γ O) (h2 : T false → SG m K tv Γ O) : SG m K (tIfS tt ts tv) Γ O := fun σ H e E M =>
  h σ H e _ fun b H' s r => by
    cases b with
    | true => exact h1 s σ H' (e.mv r) E (M.mv r)
    | false => exact h2 s σ H' (e.mv r) E (M.mv r)
theorem sg_if {b : Bool} (h : EvT1 m K tt Γ b) (h1 : b = true → SG m K ts Γ O) (h2 : b = false → SG m K tv Γ O) : SG m K (tIfS tt ts tv) Γ O := sg_ifN h (fun e => h1 e.symm) (fun e => h2 e.symm)
theorem sg_drop (h : EvN m K te Γ S) (k : O.nx Γ) : SG m K (tDrop te) Γ O := fun σ H e E M => h σ H e _ fun v d H' s r rv => M.nx _ _ _ k r (e.mv r)
theorem sg_seqIf {b : Bool} {tw : TS} (h : EvT1 m K tt Γ b) (h1 : b = true → SG m K ts Γ { O with nx := fun _ => False }) (h2 : b = false → SG m K tw Γ O) : SG m K (tSeq (tIfS tt ts tNext) tw) Γ O :=
  sg_seq (fun Γ' => b = false ∧ Γ' = Γ) (sg_if h (fun e => (h1 e).mono (fun _ f => f.elim) (fun _ x => x) (fun _ x => x) (fun _ x => x)) fun e => sg_next ⟨e, rfl⟩) fun Γ' ⟨e, e2⟩ => by subst e2; exact h2 e
/-- while, by a word over what the slots hold and a number that falls -/
theorem sg_while (W : Nat → G → Prop) (m0 : Nat) (h0 : W m0 Γ)
    (hs : ∀ k Γ', W k Γ' → ∃ T : Bool → Prop, EvT m K tt Γ' T ∧ (T true → SG m K ts Γ' { nx := fun Γ2 => ∃ k', k' < k ∧ W k' Γ2, ct := fun Γ2 => ∃ k', k' < k ∧ W k' Γ2, bk := O.nx, rt := O.rt }) ∧ (T false → O.nx Γ')) : SG m K (tWhile tt ts) Γ O := fun σ H e E M => by
  refine ⟨fun k σ' H' => ∃ Γ', W k Γ' ∧ m.R H H' ∧ ER m K Γ' σ' H', ⟨m0, Γ, h0, m.refl H, e⟩, ?_⟩
  rintro k σ' H' ⟨Γ', w, r, e'⟩
  obtain ⟨T, ht, h1, h2⟩ := hs k Γ' w
  refine ht σ' H' e' _ fun b H2 s r2 => ?_
  have e2 := e'.mv r2
  cases b with
  | true =>
    show ∃ N : St → Hp → Prop, _ ∧ _
    refine ⟨fun σ3 H3 => ∃ k', k' < k ∧ ∃ Γ3, W k' Γ3 ∧ m.R H H3 ∧ ER m K Γ3 σ3 H3, fun σ3 H3 q => q, ?_⟩
    refine h1 s σ' H2 e2 _ ⟨?_, ?_, ?_, ?_⟩
    · rintro Γ3 σ3 H3 ⟨k', hk, w3⟩ r3 e3
      exact ⟨k', hk, Γ3, w3, m.trans r (m.trans r2 r3), e3⟩
    · exact fun d v H3 o r3 rv => M.rt d v H3 o (m.trans r (m.trans r2 r3)) rv
    · exact fun Γ3 σ3 H3 o r3 e3 => M.nx Γ3 σ3 H3 o (m.trans r (m.trans r2 r3)) e3
    · rintro Γ3 σ3 H3 ⟨k', hk, w3⟩ r3 e3
      exact ⟨k', hk, Γ3, w3, m.trans r (m.trans r2 r3), e3⟩
  | false => exact M.nx Γ' σ' H2 (h2 s) (m.trans r r2) e2

/-! ### what is walked -/
structure WkD (m : Mo) (K : PySem.W.Frag) (J : It) (H1 : Hp) (xs : List D) : Prop where
  go : ∀ i H, m.R H1 H → i < xs.length → J.go i H
  stop : ∀ H, m.R H1 H → J.stop xs.length H
  yld : ∀ i H x H', m.R H1 H → i < xs.length → J.yld i H x H' → m.R H H' ∧ ∃ d, xs[i]? = some d ∧ Rp K m.F H' x d
/-- the same with one more address that data may not lean on -/
def ItD (m : Mo) (K : PySem.W.Frag) (wi : TI) (Γ : G) (T : List D → Prop) : Prop :=
  ∀ σ H, ER m K Γ σ H → ∀ Q : It → Hp → Prop, (∀ J xs H1, T xs → m.R H H1 → (∀ m', Mo.Le m m' → ∀ H2, m'.I H2 → m.R H1 H2 → (∀ a, m'.F a → ¬ m.F a → H1 a = none) → WkD m' K J H2 xs) → Q J H1) → wi σ H Q
abbrev ItD1 (m : Mo) (K : PySem.W.Frag) (wi : TI) (Γ : G) (xs : List D) : Prop := ItD m K wi Γ (fun x => x = xs)
/-- what a target stores -/
def TgD (m : Mo) (K : PySem.W.Frag) (g : TG) (Γ : G) (d : D) (js : List Nat) (Γ2 : G) : Prop :=
  ∀ x σ H, ER m K Γ σ H → Rp K m.F H x d → ∀ Q : St → Hp → Prop, (∀ σ2 H2, ER m K Γ2 σ2 H2 → m.R H H2 → (∀ vs, (∀ j ∈ js, j ∈ vs) → wipe σ2 vs = wipe σ vs) → Q σ2 H2) → g x σ H Q
theorem wipe_set {vs : List Nat} {σ : St} {j : Nat} {x : Option V} : j ∈ vs → wipe (σ.set j x) vs = wipe σ vs := by
  induction vs with
  | nil => intro h; cases h
  | cons v vs ih =>
    intro h
    show (wipe (σ.set j x) vs).set v none = (wipe σ vs).set v none
    by_cases hj : j ∈ vs
    · rw [ih hj]
    · have e : j = v := by
        rcases List.mem_cons.mp h with h | h
        · exact h
        · exact absurd h hj
      subst e
      have : ∀ (us : List Nat), j ∉ us → wipe (σ.set j x) us = (wipe σ us).set j x := by
        intro us
        induction us with
        | nil => intro _; rfl
        | cons u us ih2 =>
          intro hu
          show (wipe (σ.set j x) us).set u none = ((wipe σ us).set u none).set j x
          rw [ih2 (fun z => hu (List.mem_cons_of_mem _ z)), List.set_comm]
          intro z
          exact hu (z ▸ List.mem_cons_self)
      rw [this vs hj, List.set_set]
theorem wipe_wipe (σ : St) (vs : List Nat) : wipe (wipe σ vs) vs = wipe σ vs := by
  have h : ∀ us : List Nat, (∀ u ∈ us, u ∈ vs) → wipe (wipe σ us) vs = wipe σ vs := by
    intro us
    induction us with
    | nil => intro _; rfl
    | cons u us ih =>
      intro hu
      show wipe ((wipe σ us).set u none) vs = wipe σ vs
      rw [wipe_set (hu u List.mem_cons_self), ih fun z hz => hu z (List.mem_cons_of_mem _ hz)]
  exact h vs fun u hu => hu
theorem tg_name (j : Nat) : TgD m K (gName j) Γ d [j] (Γ.set j (some d)) := fun x σ H e r Q q =>
  q _ H (e.set j r) (m.refl H) fun vs h => wipe_set (h j (List.mem_singleton.mpr rfl))
theorem tg_pair {i j : Nat} {a b : D} : TgD m K (gTup K 2 (gCons (gName i) (gCons (gName j) gNil))) Γ (.tup [a, b]) [i, j] ((Γ.set i (some a)).set j (some b)) := fun x σ H e r Q q => by
  obtain ⟨p, vs, ev, hs, ra⟩ := r.tupE
  cases ra with
  | cons r1 ra =>
    cases ra with
    | cons r2 ra =>
      cases ra
      refine ⟨p, _, ev, hs, rfl, _, _, rfl, _, _, rfl, rfl, ?_⟩
      refine q _ H ((e.set i r1).set j r2) (m.refl H) fun vs h => ?_
      rw [wipe_set (h j (by simp)), wipe_set (h i (by simp))]
/-! ### for -/
theorem sg_for {wi : TI} {g : TG} {T : List D → Prop} {js : List Nat} (hi : ItD m K wi Γ T) (W : List D → Nat → G → Prop) (h0 : ∀ xs, T xs → W xs 0 Γ)
    (hs : ∀ xs i d Γ', T xs → xs[i]? = some d → W xs i Γ' → ∃ Γ2, TgD m K g Γ' d js Γ2 ∧ SG m K ts Γ2 { nx := W xs (i + 1), ct := W xs (i + 1), bk := O.nx, rt := O.rt }) (hd : ∀ xs Γ', T xs → W xs xs.length Γ' → O.nx Γ') : SG m K (tFor wi g ts) Γ O := fun σ H e E M => by
  refine hi σ H e _ fun J xs H1 ht r1 wk => ?_
  have e1 := e.mv r1
  have wk1 := wk m (Mo.Le.refl m) H1 e1.i (m.refl H1) fun a f n => absurd f n
  refine ⟨fun i k σ' H' => k = xs.length - i ∧ i ≤ xs.length ∧ ∃ Γ', W xs i Γ' ∧ m.R H1 H' ∧ ER m K Γ' σ' H', ⟨_, rfl, Nat.zero_le _, Γ, h0 xs ht, m.refl H1, e1⟩, ?_⟩
  rintro i k σ' H' ⟨rfl, hle, Γ', w, r, e'⟩
  by_cases hlt : i < xs.length
  · refine .inr ⟨wk1.go i H' r hlt, fun σ3 H3 => ∃ Γ3, W xs (i + 1) Γ3 ∧ m.R H1 H3 ∧ ER m K Γ3 σ3 H3, fun σ3 H3 q => ⟨xs.length - (i + 1), by omega, rfl, hlt, q⟩, fun x H2 y => ?_⟩
    obtain ⟨r2, d, hd', rx⟩ := wk1.yld i H' x H2 r hlt y
    obtain ⟨Γ2, tg, body⟩ := hs xs i d Γ' ht hd' w
    refine tg x σ' H2 (e'.mv r2) rx _ fun σ3 H3 e3 r3 _ => ?_
    have rr := m.trans r (m.trans r2 r3)
    refine body σ3 H3 e3 _ ⟨?_, ?_, ?_, ?_⟩
    · exact fun Γ4 σ4 H4 o r4 e4 => ⟨Γ4, o, m.trans rr r4, e4⟩
    · exact fun d v H4 o r4 rv => M.rt d v H4 o (m.trans r1 (m.trans rr r4)) rv
    · exact fun Γ4 σ4 H4 o r4 e4 => M.nx Γ4 σ4 H4 o (m.trans r1 (m.trans rr r4)) e4
    · exact fun Γ4 σ4 H4 o r4 e4 => ⟨Γ4, o, m.trans rr r4, e4⟩
  · have e0 : i = xs.length := by omega
    subst e0
    exact .inl ⟨wk1.stop H' r, M.nx Γ' σ' H' (hd xs Γ' ht w) (m.trans r1 r) e'⟩
/-! ### comprehensions -/
inductive LcR (T : D → Bool → Prop) (V : D → D → Prop) : List D → List D → Prop
  | nil : LcR T V [] []
  | no {x : D} {xs ys : List D} : T x false → LcR T V xs ys → LcR T V (x :: xs) ys
  | yes {x y : D} {xs ys : List D} : T x true → V x y → LcR T V xs ys → LcR T V (x :: xs) (y :: ys)
theorem LcR.append {T : D → Bool → Prop} {V : D → D → Prop} {xs ys zs ws : List D} (a : LcR T V xs ys) (b : LcR T V zs ws) : LcR T V (xs ++ zs) (ys ++ ws) := by
  induction a with
  | nil => exact b
  | no t _ ih => exact .no t ih
  | yes t v _ ih => exact .yes t v ih
theorem LcR.len {T : D → Bool → Prop} {V : D → D → Prop} {xs ys : List D} (a : LcR T V xs ys) : ys.length ≤ xs.length := by
  induction a with
  | nil => exact Nat.le_refl _
  | no _ _ ih => exact Nat.le_succ_of_le ih
  | yes _ _ _ ih => exact Nat.succ_le_succ ih
theorem LcR.fn {t : D → Bool} {f : D → D} {T : D → Bool → Prop} {V : D → D → Prop} {xs ys : List D} (a : LcR T V xs ys) (ht : ∀ x ∈ xs, ∀ b, T x b → b = t x) (hf : ∀ x ∈ xs, ∀ y, V x y → y = f x) : ys = (xs.filter t).map f := by
  induction a with
  | nil => rfl
  | @no x xs ys h _ ih =>
    have e := ht x List.mem_cons_self _ h
    rw [ih (fun x hx => ht x (List.mem_cons_of_mem _ hx)) fun x hx => hf x (List.mem_cons_of_mem _ hx), List.filter_cons, ← e]
    rfl
  | @yes x y xs ys h v _ ih =>
    have e := ht x List.mem_cons_self _ h
    rw [ih (fun x hx => ht x (List.mem_cons_of_mem _ hx)) fun x hx => hf x (List.mem_cons_of_mem _ hx), List.filter_cons, ← e, if_pos rfl, List.map_cons, hf x List.mem_cons_self _ v]
theorem Rp.weak {F F' : Addr → Prop} {H : Hp} (k : ∀ a, F a → F' a) {d : D} {v : V} (r : Rp K F' H v d) : Rp K F H v d := r.go fun a o n e => ⟨fun f => n (k a f), e⟩
theorem RpAll.weak {F F' : Addr → Prop} {H : Hp} (k : ∀ a, F a → F' a) {d : List D} {v : List V} (r : RpAll K F' H v d) : RpAll K F H v d := Rp.goAll (fun a o n e => ⟨fun f => n (k a f), e⟩) r
theorem en_lc {wi : TI} {g : TG} {vs : List Nat} {U : List D → Prop} {T : D → Bool → Prop} {V' : D → D → Prop} {js : List Nat} (hj : ∀ j ∈ js, j ∈ vs) (hi : ItD m K wi Γ U) (hu : ∀ xs, U xs → xs.length ≤ 100000)
    (hs : ∀ m', Mo.Le m m' → ∀ xs d, U xs → d ∈ xs → ∃ Γ2, TgD m' K g (wipeG Γ vs) d js Γ2 ∧ EvT m' K tt Γ2 (T d) ∧ (T d true → EvN m' K te Γ2 (V' d))) : EvN m K (tLc wi g tt te vs) Γ (fun r => ∃ xs ys, U xs ∧ LcR T V' xs ys ∧ r = .lst ys) := fun σ H e Q q => by
  refine hi σ H e _ fun J xs H1 ht r1 wk => fun Dl hD => ?_
  have e1 := e.mv r1
  have rN : m.R H1 (upd H1 Dl (.lst [])) := m.grow e1.i (same_new hD)
  have nF : ¬ m.F Dl := fun f => m.fa e1.i f hD
  have wkA : ∀ H', m.R H1 H' → (m.ext Dl).I H' → WkD (m.ext Dl) K J H' xs := fun H' r i => wk (m.ext Dl) (m.le_ext Dl) H' i r fun a f n => f.elim (fun f => absurd f n) fun z => z ▸ hD
  -- the word: what the new list holds
  refine ⟨fun i k H' => k = xs.length - i ∧ i ≤ xs.length ∧ m.R H1 H' ∧ ∃ acc ys, H' Dl = some (.lst acc) ∧ RpAll K (m.ext Dl).F H' acc ys ∧ LcR T V' (xs.take i) ys, ⟨_, rfl, Nat.zero_le _, rN, [], [], upd_same, .nil, by simpa using LcR.nil⟩, ?_⟩
  rintro i k H' ⟨rfl, hle, r, acc, ys, hacc, ra, lr⟩
  have eX : ER (m.ext Dl) K Γ σ H' := e1.ext hD r (by rw [hacc]; exact fun z => nomatch z)
  have iX := eX.i
  have wkX := wkA H' r iX
  by_cases hlt : i < xs.length
  · refine .inr ⟨wkX.go i H' (m.refl _) hlt, fun H3 => m.R H1 H3 ∧ ∃ acc ys, H3 Dl = some (.lst acc) ∧ RpAll K (m.ext Dl).F H3 acc ys ∧ LcR T V' (xs.take (i + 1)) ys, fun H3 q => ⟨xs.length - (i + 1), by omega, rfl, hlt, q⟩, fun x H2 y => ?_⟩
    obtain ⟨r2, d, hd', rx⟩ := wkX.yld i H' x H2 (m.refl _) hlt y
    obtain ⟨Γ2, tg, tst, el⟩ := hs (m.ext Dl) (m.le_ext Dl) xs d ht (List.mem_of_getElem? hd')
    have hlen : acc.length < sizeLine := Nat.lt_of_lt_of_le (show acc.length < 100001 by
      have := lr.len; have h2 := ra.len; have h3 := hu xs ht; rw [List.length_take] at this; omega) (by decide)
    have tk : xs.take (i + 1) = xs.take i ++ [d] := by rw [List.take_add_one, hd']; rfl
    have kD : ∀ {Ha Hb : Hp}, (m.ext Dl).I Ha → m.R Ha Hb → Ha Dl = some (.lst acc) → Hb Dl = some (.lst acc) := fun ia r h => m.keep r ia.1 Dl _ nF h
    refine tg x (wipe σ vs) H2 ((eX.mv r2).wipe vs) rx _ fun σ3 H3 e3 r3 w3 => ⟨by rw [w3 vs hj, wipe_wipe], ?_⟩
    have i2 := (m.ext Dl).inv r2 iX
    refine tst σ3 H3 e3 _ fun b H4 tb' r4 => ?_
    have i3 := e3.i
    have i4 := (m.ext Dl).inv r4 i3
    have rr := m.trans r2 (m.trans r3 r4)
    cases b with
    | false =>
      exact ⟨m.trans r rr, acc, ys, kD iX rr hacc, ra.mv ((m.ext Dl).keep rr iX), by rw [tk]; simpa using lr.append (.no tb' .nil)⟩
    | true =>
      refine el tb' σ3 H4 (e3.mv r4) _ fun w dw H5 sv r5 rw' => ?_
      have i5 := (m.ext Dl).inv r5 i4
      have rr5 := m.trans rr r5
      refine ⟨acc, kD iX rr5 hacc, hlen, m.chg e1.i (m.trans r rr5) hD, acc ++ [w], ys ++ [dw], upd_same, ?_, by rw [tk]; exact lr.append (.yes tb' sv .nil)⟩
      have k5 : ∀ a o, ¬ (m.ext Dl).F a → H5 a = some o → (upd H5 Dl (.lst (acc ++ [w]))) a = some o := fun a o n x => by rw [upd_ne (fun z => n (.inr z))]; exact x
      exact (((ra.mv ((m.ext Dl).keep rr5 iX)).append (.cons rw' .nil)).mv k5)
  · have e0 : i = xs.length := by omega
    subst e0
    exact .inl ⟨wkX.stop H' (m.refl _), q _ _ H' ⟨xs, ys, ht, by simpa using lr, rfl⟩ (m.trans r1 r) (.lst nF hacc (ra.weak fun a f => .inl f))⟩
/-- the plain form: what each gives is a function of it -/
theorem en_lc1 {wi : TI} {g : TG} {vs : List Nat} {xs : List D} {js : List Nat} (t : D → Bool) (f : D → D) (hj : ∀ j ∈ js, j ∈ vs) (hi : ItD1 m K wi Γ xs) (hu : xs.length ≤ 100000)
    (hs : ∀ m', Mo.Le m m' → ∀ d, d ∈ xs → ∃ Γ2, TgD m' K g (wipeG Γ vs) d js Γ2 ∧ EvT1 m' K tt Γ2 (t d) ∧ (t d = true → Ev1 m' K te Γ2 (f d))) : Ev1 m K (tLc wi g tt te vs) Γ (.lst ((xs.filter t).map f)) :=
  (en_lc (U := fun x => x = xs) (T := fun d b => b = t d) (V' := fun d y => y = f d) hj hi (fun x e => e ▸ hu) fun m' l x d e hd => by
    subst e
    obtain ⟨Γ2, h1, h2, h3⟩ := hs m' l d hd
    exact ⟨Γ2, h1, h2, fun e => h3 e.symm⟩).mono fun r ⟨x, ys, e1, e2, e3⟩ => by
      subst e1
      rw [e3, e2.fn (t := t) (f := f) (fun _ _ _ e => e) fun _ _ _ e => e]
/-- without a test -/
theorem en_lcA {wi : TI} {g : TG} {vs : List Nat} {xs : List D} {js : List Nat} (f : D → D) (hj : ∀ j ∈ js, j ∈ vs) (hi : ItD1 m K wi Γ xs) (hu : xs.length ≤ 100000)
    (hs : ∀ m', Mo.Le m m' → ∀ d, d ∈ xs → ∃ Γ2, TgD m' K g (wipeG Γ vs) d js Γ2 ∧ Ev1 m' K te Γ2 (f d)) : Ev1 m K (tLc wi g tYes te vs) Γ (.lst (xs.map f)) :=
  (en_lc1 (fun _ => true) f hj hi hu fun m' l d hd => by
    obtain ⟨Γ2, h1, h2⟩ := hs m' l d hd
    exact ⟨Γ2, h1, et_yes, fun _ => h2⟩).is (by rw [List.filter_eq_self.mpr (fun _ _ => rfl)])
end
end Tx

set_option Elab.async false
set_option linter.all false
set_option maxRecDepth 100000
set_option autoImplicit false
/-! Tx: enumerate of a tuple; a list or a tuple walked -/
namespace PySem
open Sem (wp)
open AutoSeq1 (wpAny_loadPart')
theorem tx_enumerate_newT (l : Addr) (items : Array Value) (n : Nat) (dct : Option Addr) (sl : Array (Option Value)) :
    Meets (Builtin.«enumerate.__new__» ⟨[.type "enumerate", .ref l], []⟩) (fun _ R s => s.heap.get? l = some { cls := .type "tuple", dict := dct, data := .seq items n, slots := sl } ∧
      R (.ok (.ret (.ref (s.heap.push { cls := .type "tuple_iterator", data := .fields #[.ref l, .int 0 0] }).objs.size)))
        { s with heap := (s.heap.push { cls := .type "tuple_iterator", data := .fields #[.ref l, .int 0 0] }).push { cls := .type "enumerate", data := .fields #[.none, .bool false, .ref s.heap.objs.size, rawInt 0, .none, .none] } }) :=
  .of_wp fun prog w A R s h => by
    obtain ⟨hp, g, d, tk, os⟩ := s; obtain ⟨hl, h⟩ := h
    have hsub := sub_enumerate
    have hL : Heap.IsTuple (Shared.heap ⟨hp, g, d, tk, os⟩) l items := ⟨_, hl, rfl, n, rfl⟩
    wp_walk using wpAny_loadPart' hl
    refine wpAny_stack_any fun st => wpAny_pure ?_
    split
    · rename_i c _ _ _ _ _
      cases (c == Value.type "enumerate")
      · wp_walk using wpAny_loadPart' hl, wpAny_pyIter_tuple hL
        exact ⟨_, rfl, h⟩
      · wp_walk using wpAny_loadPart' hl, wpAny_pyIter_tuple hL
        exact ⟨_, rfl, h⟩
    · wp_walk using wpAny_loadPart' hl, wpAny_pyIter_tuple hL
      exact ⟨_, rfl, h⟩
section
variable {prog : Program} {w : World} {A : Around} {E : Value → Shared → Prop} {s : Shared}
theorem tx_call_enumerate_tuple {l : Addr} {items : Array Value} {Q : Value → Shared → Prop} (hL : s.heap.IsTuple l items)
    (h : ∀ h', IsEnum h' (s.heap.objs.size + 1) s.heap.objs.size 0 .none → h'.IsTupleIter s.heap.objs.size l 0 → h'.objs.size = s.heap.objs.size + 2 →
      (∀ b o, s.heap.get? b = some o → h'.get? b = some o) → Q (.ref (s.heap.objs.size + 1)) { s with heap := h' }) :
    wpAny (model prog w) A (call (.type "enumerate") [.ref l]) Q E s := by
  obtain ⟨⟨c, dct, dt, sl⟩, hl, hc, n, hd⟩ := hL
  replace hc : c = .type "tuple" := hc
  replace hd : dt = .seq items n := hd
  subst hc hd
  refine callType_new F.called_enumerate (by decide) (F.typeCall_enumerate_1 _) (F.newCall_enumerate_1 _) (fun obj => F.args_object_init_2 obj _) F.entry_enumerate_new
    (tx_enumerate_newT l items n dct sl) ⟨hl, ?_⟩
  have hz : (s.heap.push { cls := .type "tuple_iterator", data := .fields #[.ref l, .int 0 0] }).objs.size = s.heap.objs.size + 1 := Heap.size_push ..
  show _ ∧ _
  rw [hz]
  have he : IsEnum ((s.heap.push { cls := .type "tuple_iterator", data := .fields #[.ref l, .int 0 0] }).push
      { cls := .type "enumerate", data := .fields #[.none, .bool false, .ref s.heap.objs.size, rawInt 0, .none, .none] }) (s.heap.objs.size + 1) s.heap.objs.size 0 .none := by
    have := Heap.get?_push_size (s.heap.push { cls := .type "tuple_iterator", data := .fields #[.ref l, .int 0 0] })
      (o := { cls := .type "enumerate", data := .fields #[.none, .bool false, .ref s.heap.objs.size, rawInt 0, .none, .none] }) rfl
    rw [hz] at this; exact this
  refine ⟨⟨_, he, rfl⟩, h _ he ⟨_, Heap.get?_push_of_some _ (Heap.get?_push_size _ rfl), rfl, rfl⟩ (by rw [Heap.size_push, hz]) fun b o x => Heap.get?_push_of_some _ (Heap.get?_push_of_some _ x)⟩
theorem tx_pyNext_enumT_end {e it l : Addr} {i : Nat} {items : Array Value} {old : Value} {Q : Option Value → Shared → Prop} (hh : A.handled = none)
    (he : IsEnum s.heap e it i old) (hit : s.heap.IsTupleIter it l i) (hl : s.heap.IsTuple l items) (hx : items[i]? = none)
    (hQ : ∀ h', Heap.ExtBut it s.heap h' → Q none { s with heap := h' }) : wpAny (model prog w) A (pyNext (.ref e)) Q E s := by
  have hT : s.TypeIs (.ref e) "enumerate" := ⟨_, he, rfl⟩
  unfold pyNext
  refine wpAny_bind (wpAny_attempt (wpAny_callSpecial?_slot (name := Str.ofString "__next__") hT F.slot_enumerate_next
    (wpAny_call_entry F.slot_enumerate_next hT F.entry_enumerate_next ?_ (F.args_enumerate_next_1 _))))
  show wpAny _ _ (field (.ref e) 2 >>= _) _ _ _
  refine wpAny_bind (wpAny_field he rfl (x := .ref it) rfl ?_)
  refine wpAny_bind (wpAny_nextOf_tuple_end hh hit hl hx fun h' x he' hx' => ?_)
  obtain ⟨o, ho, hc⟩ := hx'
  refine wpAny_bind (wpAny_isInstance (T := "StopIteration") (b := true) ⟨o, ho, hc⟩ isSubtype_stop ?_)
  exact wpAny_pure (hQ _ he')
end
end PySem
namespace Tx
open PySem PySem.Spec PyProof.Rows L2
/-- the tuple at a, each item in a new pair -/
def IteT (K : PySem.W.Frag) (a : Addr) : It :=
  ⟨fun i H => ∃ (xs : List V) (x : V), SqT K H a xs ∧ xs[i]? = some x, fun i H v H' => ∃ T x, v = .ref T ∧ H T = none ∧ H' = upd H T (.tup [.int (i : Nat), x]) ∧ ∀ xs, SqT K H a xs → xs[i]? = some x, fun i H => ∃ xs : List V, SqT K H a xs ∧ xs.length ≤ i⟩
theorem turn_enumT {P : Program} {w : World} {K : PySem.W.Frag} {elts : List Expr} {kk : Nat} {tpos : Pos} (a e it : Addr) :
    Turn P w K (.Tuple elts kk tpos) (IteT K a) [e, it] e (fun i h => (∃ old, IsEnum h e it ((i : Nat) : Int) old) ∧ h.IsTupleIter it a i ∧ e ≠ it) where
  mem := by simp
  obj := fun i h st b hb => by
    obtain ⟨⟨old, he⟩, ⟨o, ho, hc, hd⟩, _⟩ := st
    have e' : b = e ∨ b = it := by simpa using hb
    rcases e' with z | z
    · rw [z]; exact ⟨_, he, fun v q => nomatch q⟩
    · rw [z]; exact ⟨o, ho, fun v q => by rw [hd] at q; cases q⟩
  keep := fun i h h' st k => let ⟨⟨old, he⟩, hi, hne⟩ := st; ⟨⟨old, k e (by simp) _ he⟩, hi.at fun o q => k it (by simp) o q, hne⟩
  item := by
    intro X hP hw hK hc i pins s σ H E I hf st hg
    subst hP hw hK
    obtain ⟨⟨old, he⟩, hit, hne⟩ := st
    obtain ⟨xs, x, hq, hx⟩ := hg
    obtain ⟨its, rv, p, hz⟩ := I.tuple hq
    have pT : s.heap.IsTuple a its.toArray := p
    obtain ⟨u, hu, ru⟩ := rv.get hx
    have hel : e < s.heap.objs.size := Heap.lt_size he
    have hil : it < s.heap.objs.size := by obtain ⟨_, q, _⟩ := hit; exact Heap.lt_size q
    have hai : a ≠ it := by
      rintro rfl
      obtain ⟨o1, q1, c1, _⟩ := hit
      obtain ⟨o2, q2, c2, _⟩ := pT
      rw [q1] at q2
      cases q2
      rw [c1] at c2
      exact absurd (Value.type.inj c2) (by decide)
    have hae : e ≠ a := by
      rintro rfl
      obtain ⟨o2, q2, c2, _⟩ := pT
      have he' : s.heap.get? e = some _ := he
      rw [he'] at q2
      cases q2
      exact absurd (Value.type.inj c2) (by decide)
    have hlt : i < its.length := by
      have := (List.getElem?_eq_some_iff.mp hu).1
      exact this
    refine wpAny_pyNext_enum_itemD (Draws.tuple (A := X.A.in1) (I.ok.hd hc) it a hai its.toArray) he ⟨hit, pT⟩ (by simpa using hlt) hne (by simp only [List.mem_cons, List.not_mem_nil, or_false, not_or]; exact ⟨hne, hae⟩) fun y h' tk hP ho hit' hT hsz hk => ?_
    have hy : y = u := by
      have : its[i]? = some y := by simpa using hP
      rw [hu] at this
      exact (Option.some.inj this).symm
    subst hy
    refine ⟨_, rfl, wpAny_letOwnedTupleGo_enum (s := { s with heap := h', toks := tk + 1 }) ho fun h'' he' sb => ?_⟩
    have hT2 : h''.get? s.heap.objs.size = some { cls := .type "tuple", data := .seq #[.int i tk, y] } := (sb.2 _ (Nat.ne_of_gt hel)).trans hT
    have new : ObjOk X.prog X.w (upd H s.heap.objs.size (.tup [.int (i : Nat), x])) h'' s.heap.objs.size (.tup [.int (i : Nat), x]) :=
      ⟨by show 2 ≤ sizeLine; decide, [.int i tk, y], .cons ⟨_, rfl⟩ (.cons ru .nil), ⟨_, hT2, rfl, _, rfl⟩⟩
    have I1 : Inv X pins σ (upd H s.heap.objs.size (.tup [.int (i : Nat), x])) { s with heap := h'', toks := tk + 1 } :=
      I.turnedNew (ch := [e, it]) (fun b ob hb q => (sb.2 b (fun z => hb (by simp [z]))).trans (hk b ob (fun z => hb (by simp [z])) (fun z => hb (by simp [z])) q)) hf (Nat.le_refl _) new
    refine ⟨.ref s.heap.objs.size, _, I1, rfl, ⟨_, x, rfl, I.hok.fresh (Nat.le_refl _), rfl, fun ys hy => by rw [I.tuple_inj hy hq]; exact hx⟩, ⟨⟨y, ?_⟩, hit'.1.at fun o q => (sb.2 it (Ne.symm hne)).trans q, hne⟩, fun b hb => ?_⟩
    · have e1 : ((i + 1 : Nat) : Int) = (i : Int) + 1 := by omega
      rw [e1]; exact he'
    · have hb' : b < s.heap.objs.size := by
        have e' : b = e ∨ b = it := by simpa using hb
        rcases e' with z | z
        · rw [z]; exact hel
        · rw [z]; exact hil
      rw [upd_ne (Nat.ne_of_lt hb')]
      exact (hf b hb).1
  done := by
    intro X hP hw hK hc i pins s σ H E I hf st hg
    subst hP hw hK
    obtain ⟨⟨old, he⟩, hit, hne⟩ := st
    obtain ⟨xs, hq, hx⟩ := hg
    obtain ⟨its, rv, p, hz⟩ := I.tuple hq
    have pT : s.heap.IsTuple a its.toArray := p
    obtain ⟨f0, f1, f2, f3, f4, f5⟩ := hf it (by simp)
    have hl := rv.length
    have hai : a ≠ it := by
      rintro rfl
      obtain ⟨o1, q1, c1, _⟩ := hit
      obtain ⟨o2, q2, c2, _⟩ := pT
      rw [q1] at q2
      cases q2
      rw [c1] at c2
      exact absurd (Value.type.inj c2) (by decide)
    have e0 : its.toArray.size ≤ i := by simp; omega
    exact tx_pyNext_enumT_end (I.ok.hd hc) he hit pT (by simp; omega) fun h' eb => ⟨rfl, I.turned (t' := s.toks) (fun b o hb q => eb b o hb q) f0 f1 f3 f4 f5⟩
  self := fun A i s Q E st h => let ⟨⟨_, he⟩, _⟩ := st; wpAny_pyIter_enum he h

section
variable {X : Cx} {tg : Expr}
/-- for x in e: e a list or a tuple -/
def iSeq (K : PySem.W.Frag) (tl : TE) : TI := fun σ H R => tl σ H fun x H1 => ∃ a, x = .ref a ∧ (((∃ xs, SqL K H1 a xs) ∧ R (Itl K a) H1) ∨ ((∃ xs, SqT K H1 a xs) ∧ R (Itt K a) H1))
theorem pi_seq {l : Expr} {tl : TE} (hl : PE X l tl) : PI X tg l (iSeq X.K tl) := by
  refine ⟨fun pins s σ H R I h => ?_⟩
  refine thn (hl.run pins s σ H _ I h) fun v s1 ⟨x, H1, I1, r1, q1⟩ => ?_
  obtain ⟨a, e, q⟩ := q1
  subst e
  cases r1
  rcases q with ⟨⟨xs, hq⟩, q⟩ | ⟨⟨xs, hq⟩, q⟩
  · obtain ⟨its, rv, p, hz⟩ := I1.list hq
    refine wpAny_pyIter_list p.isList ?_
    refine ⟨s1.heap.objs.size, [s1.heap.objs.size], _, _, H1, rfl, I1.kept (t' := s1.toks) fun b o e => Heap.get?_push_of_some _ e, turn_list a _, ⟨_, Heap.get?_push_size _ rfl, rfl, rfl⟩, fun b hb => ?_, q⟩
    have e : b = s1.heap.objs.size := by simpa using hb
    subst e
    exact I1.fpOk (Nat.le_refl _) (I1.hok.fresh (Nat.le_refl _))
  · obtain ⟨its, rv, p, hz⟩ := I1.tuple hq
    refine wpAny_pyIter_tuple (show s1.heap.IsTuple a its.toArray from p) ?_
    refine ⟨s1.heap.objs.size, [s1.heap.objs.size], _, _, H1, rfl, I1.kept (t' := s1.toks) fun b o e => Heap.get?_push_of_some _ e, turn_tuple a _, ⟨_, Heap.get?_push_size _ rfl, rfl, rfl⟩, fun b hb => ?_, q⟩
    have e : b = s1.heap.objs.size := by simpa using hb
    subst e
    exact I1.fpOk (Nat.le_refl _) (I1.hok.fresh (Nat.le_refl _))
/-- for i, x in enumerate(e): e a list or a tuple -/
def iEnumS (K : PySem.W.Frag) (ta : TA) : TI := fun σ H R => ta σ H fun vs H1 => ∃ a, vs = [.ref a] ∧ (((∃ xs, SqL K H1 a xs) ∧ R (Ite K a) H1) ∨ ((∃ xs, SqT K H1 a xs) ∧ R (IteT K a) H1))
theorem pi_enumS {e : Expr} {ta : TA} {p pos tpos : Pos} {elts : List Expr} {kk : Nat} (hg : Gl X "enumerate") (hm : X.mg "enumerate" = none) (ha : PA X [e] ta) (hs : starEach [e] X.env = [(false, eval e X.env)] := by rfl) :
    PI X (.Tuple elts kk tpos) (.Call (.Name "enumerate" p) [e] [] pos) (iEnumS X.K ta) := by
  refine ⟨fun pins s σ H R I h => ?_⟩
  refine Call_ (ld_blt I hg hm boot_enumerate (PyProof.Rows.callWith_type1 (thn (ha.run pos pins s σ H _ I h) fun us s1 ⟨vs, H1, I1, r1, q1⟩ => ?_) hs rfl))
  obtain ⟨a, ex, q⟩ := q1
  subst ex
  cases r1 with
  | cons r rr =>
    cases rr
    cases r
    have ap : ∀ b, (b ∈ [s1.heap.objs.size + 1, s1.heap.objs.size]) → FpOk X pins H1 b := fun b hb => by
      have e' : b = s1.heap.objs.size + 1 ∨ b = s1.heap.objs.size := by simpa using hb
      have hle : s1.heap.objs.size ≤ b := by
        rcases e' with z | z
        · rw [z]; exact Nat.le_add_right _ _
        · rw [z]; exact Nat.le_refl _
      exact I1.fpOk hle (I1.hok.fresh hle)
    rcases q with ⟨⟨xs, hq⟩, q⟩ | ⟨⟨xs, hq⟩, q⟩
    · obtain ⟨its, rv, p', hz⟩ := I1.list hq
      refine call_enumerate_list p'.isList fun h' he hit hsz hk => wpAny_pyIter_enum he ?_
      have I2 : Inv X pins σ H1 { s1 with heap := h' } := I1.kept (t' := s1.toks) hk
      exact ⟨s1.heap.objs.size + 1, [s1.heap.objs.size + 1, s1.heap.objs.size], _, _, H1, rfl, I2, turn_enum a (s1.heap.objs.size + 1) s1.heap.objs.size, ⟨⟨.none, he⟩, hit, Nat.succ_ne_self _⟩, ap, q⟩
    · obtain ⟨its, rv, p', hz⟩ := I1.tuple hq
      refine tx_call_enumerate_tuple (show s1.heap.IsTuple a its.toArray from p') fun h' he hit hsz hk => wpAny_pyIter_enum he ?_
      have I2 : Inv X pins σ H1 { s1 with heap := h' } := I1.kept (t' := s1.toks) hk
      exact ⟨s1.heap.objs.size + 1, [s1.heap.objs.size + 1, s1.heap.objs.size], _, _, H1, rfl, I2, turn_enumT a (s1.heap.objs.size + 1) s1.heap.objs.size, ⟨⟨.none, he⟩, hit, Nat.succ_ne_self _⟩, ap, q⟩
end
end Tx

set_option Elab.async false
set_option linter.all false
set_option maxRecDepth 100000
set_option maxHeartbeats 1000000
set_option autoImplicit false
/-! Tx: built-in functions, by values -/
namespace PyProof.Rows
open PySem PyProof
section
variable {prog : Program} {w : World} {A : Around} {E : Value → Shared → Prop} {s : Shared}
theorem tx_collect_tuple {l : Addr} {vs : List Value} {Q : List Value → Shared → Prop} (hl : s.heap.IsTuple l vs.toArray)
    (h : Q vs { s with heap := (s.heap.push (seqObj "list" #[] 0)).update s.heap.objs.size (Obj.mapSeq (· ++ vs.toArray)) }) (hsz : vs.length ≤ sizeLine) :
    wpAny (model prog w) A (collect (.ref l)) Q E s := by
  obtain ⟨o, ho, hc, n, hd⟩ := id hl
  unfold collect
  refine wpAny_bind (wpAny_runValue (codeAny_builtin entry_proto_collect' ?_))
  show wpAny _ _ (do again (.builtin "list.__iadd__" ⟨[← newList [], .ref l], []⟩)) _ _ s
  refine wpAny_bind (wpAny_newList (wpAny_pure ⟨Code.quiet_builtin _ (by decide +kernel), codeAny_builtin entry_list_iadd' ?_⟩))
  show wpAny _ _ (Builtin.List.listExtendWith (.ref s.heap.objs.size) (.ref l) (.ref s.heap.objs.size)) _ _ { s with heap := s.heap.push (seqObj "list" #[] 0) }
  unfold Builtin.List.listExtendWith
  have ho' : (s.heap.push (seqObj "list" #[] 0)).get? l = some o := Heap.get?_push_of_some _ ho
  refine wpAny_bind (wpAny_typeOf (T := "tuple") ⟨o, ho', hc⟩ ?_)
  have ht : (Value.type "tuple" == Value.type "tuple") = true := by rfl
  rw [if_pos (by rw [ht]; simp)]
  refine wpAny_bind (listItems_at ho' hd ?_)
  refine wpAny_bind (listItems_at (xs := #[]) (n := 0) (Heap.get?_push_size _ rfl) rfl ?_)
  rw [if_neg (by simp)]
  refine wpAny_bind (listUpdate_at (xs := #[]) (n := 0) (Heap.get?_push_size _ rfl) rfl ?_ (Nat.zero_le _) (by show (#[] ++ vs.toArray).size ≤ sizeLine + 1; simp only [Array.size_append, List.size_toArray, List.length_nil]; omega))
  refine wpAny_pure ?_
  show wpAny (model prog w) A (do
      let o ← load s.heap.objs.size
      match o.data with
      | .seq xs _ => pure xs.toList
      | _ => unsupported "internal:collect") Q E { s with heap := (s.heap.push (seqObj "list" #[] 0)).update s.heap.objs.size (Obj.mapSeq (· ++ vs.toArray)) }
  refine wpAny_bind (wpAny_load (get?_update_seq (Heap.get?_push_size _ rfl) _) ?_)
  show wpAny _ _ (pure ((#[] : Array Value) ++ vs.toArray).toList) Q E _
  rw [show ((#[] : Array Value) ++ vs.toArray).toList = vs by simp]
  exact wpAny_pure h
theorem tx_sorted_ints_tup {l : Addr} {vs : List Value} {ns : List Int} {Q : Value → Shared → Prop} (hl : s.heap.IsTuple l vs.toArray) (hI : IntsAre vs ns) (h64 : vs.length < 64)
    (h : ∀ (out : Array Value) (ns' : List Int), IntsAre out.toList ns' → ns'.Perm ns → ns'.Pairwise (· ≤ ·) → Q (.ref (s.heap.objs.size + 1)) { s with heap := sortedAll s.heap vs out }) :
    wpAny (model prog w) A (call (.builtin "sorted") [.ref l]) Q E s := by
  refine Calls.call_function_entry kind_sorted plain_sorted entry_sorted (args_sorted1 _) ?_
  unfold Builtin.«sorted»
  refine wpAny_bind (m := checkCount "sorted" 1 1 _) (wpAny_pure ?_)
  refine wpAny_bind (tx_collect_tuple hl ?_ (by rw [sizeLine_eq]; omega))
  refine wpAny_bind (wpAny_newList ?_)
  have hsz : ((s.heap.push (seqObj "list" #[] 0)).update s.heap.objs.size (Obj.mapSeq (· ++ vs.toArray))).objs.size = s.heap.objs.size + 1 := by
    rw [Heap.size_update, size_push']
  have hoL : (((s.heap.push (seqObj "list" #[] 0)).update s.heap.objs.size (Obj.mapSeq (· ++ vs.toArray))).push (seqObj "list" vs.toArray 0)).get? (s.heap.objs.size + 1) = some (seqObj "list" vs.toArray 0) := by
    rw [← hsz]; exact Heap.get?_push_size _ rfl
  show wpAny _ _ _ _ _ { s with heap := ((s.heap.push (seqObj "list" #[] 0)).update s.heap.objs.size (Obj.mapSeq (· ++ vs.toArray))).push (seqObj "list" vs.toArray 0) }
  rw [hsz]
  refine wpAny_bind (wpAny_holding (wpAny_call_entry slot_list_sort ⟨_, hoL, rfl⟩ entry_list_sort (list_sort_tree hoL hI h64 fun out ns' a1 a2 a3 => ⟨_, rfl, ?_⟩) (args_list_sort _)))
  exact wpAny_pure ⟨_, rfl, h out ns' a1 a2 a3⟩
end
end PyProof.Rows

namespace Tx
open PySem PySem.Spec PyProof.Rows L2
section
variable {X : Cx}
def srt (l : List Int) : List Int := l.mergeSort fun a b => decide (a ≤ b)
theorem srt_perm (l : List Int) : (srt l).Perm l := List.mergeSort_perm l _
theorem srt_up (l : List Int) : (srt l).Pairwise (· ≤ ·) := by
  have h := List.pairwise_mergeSort (le := fun a b : Int => decide (a ≤ b)) (fun a b c h1 h2 => by simp at *; omega) (fun a b => by simp; omega) l
  exact h.imp fun {a b} q => by simpa using q
theorem srt_of {l l' : List Int} (p : l'.Perm l) (u : l'.Pairwise (· ≤ ·)) : l' = srt l := PySem.W.ksm_same (p.trans (srt_perm l).symm) u (srt_up l)
/-- sorted(xs), a list or tuple of fewer than 64 ints -/
def rSortS (K : PySem.W.Frag) : List V → Hp → VK → Prop := fun vs H Q => ∃ (a : Addr) (ns : List Int), vs = [V.ref a] ∧ (SqL K H a (ns.map V.int) ∨ SqT K H a (ns.map V.int)) ∧ ns.length < 64 ∧
  ∀ p : Addr, H p = none → Q (.ref p) (upd H p (.lst ((srt ns).map V.int)))
theorem cr_sortS : CallR X (.builtin "sorted") (rSortS X.K) := by
  intro pins s σ H vs us Q I r h
  obtain ⟨a, ns, rfl, hs, h64, q⟩ := h
  rw [Vals.ref1 r]
  have fin : ∀ (its : List Value) (out : Array Value) (ns' : List Int), IntsAre out.toList ns' → ns'.Perm ns → ns'.Pairwise (· ≤ ·) → EP X pins σ Q (.ref (s.heap.objs.size + 1)) { s with heap := sortedAll s.heap its out } := fun its out ns' h1 h2 h3 => by
    obtain ⟨ep, he'⟩ := PyProof.Rows.sortedAll_at s.heap its out
    have e := srt_of h2 h3
    subst e
    have hlen : ((srt ns).map V.int).length ≤ sizeLine := by rw [List.length_map, h2.length_eq]; exact small64 h64
    exact ⟨.ref _, upd H (s.heap.objs.size + 1) (.lst ((srt ns).map V.int)), I.laid (t' := s.toks) (fun _ _ => PyProof.Rows.sortedAll_old) (Nat.le_succ _) ⟨hlen, out.toList, ep, vals_of_ints h1, he'⟩, rfl, q _ (I.hok.fresh (Nat.le_succ _))⟩
  rcases hs with hs | hs
  · obtain ⟨its, rv, hl, _⟩ := I.list hs
    have hi := rv.ints
    exact PyProof.Rows.sorted_ints hl.isList hi (by rw [hi.length]; exact h64) fun out ns' h1 h2 h3 => fin its out ns' h1 h2 h3
  · obtain ⟨its, rv, hl, _⟩ := I.tuple hs
    have hi := rv.ints
    exact PyProof.Rows.tx_sorted_ints_tup (show s.heap.IsTuple a its.toArray from hl) hi (by rw [hi.length]; exact h64) fun out ns' h1 h2 h3 => fin its out ns' h1 h2 h3
theorem dp_ints {K : PySem.W.Frag} {H : Hp} : ∀ ns : List Int, DpAll K H (ns.map V.int) (ns.map PyData.int)
  | [] => .nil
  | n :: ns => .cons (.int n) (dp_ints ns)
theorem alike_int (l : List Int) : PySem.W.AlikeAll (l.map PyData.int) := by
  refine ⟨fun x hx y hy => ?_, fun x hx => ?_⟩
  · obtain ⟨a, _, rfl⟩ := List.mem_map.mp hx
    obtain ⟨b, _, rfl⟩ := List.mem_map.mp hy
    simp [PySem.W.alike]
  · obtain ⟨a, _, rfl⟩ := List.mem_map.mp hx
    exact fun z => nomatch z
/-- max(xs), a list or tuple of ints, not empty -/
def rMaxS (K : PySem.W.Frag) : List V → Hp → VK → Prop := fun vs H Q => ∃ (a : Addr) (n : Int) (ns : List Int), vs = [V.ref a] ∧ (SqL K H a ((n :: ns).map V.int) ∨ SqT K H a ((n :: ns).map V.int)) ∧ Q (.int (ns.foldl max n)) H
theorem cr_maxS (hc : X.calm = true) (hu : X.A.units + 64 < cLine) : CallR X (.builtin "max") (rMaxS X.K) := by
  intro pins s σ H vs us Q I r h
  obtain ⟨a, n, ns, rfl, hs, q⟩ := h
  rw [Vals.ref1 r]
  have hz : PyData.depthAll ((n :: ns).map PyData.int) = 0 := PySem.W.depth_ints _
  have fin : ∀ (v : Value) (h' : Heap) (tk : Nat) (bs : List Addr), Reads h' v (PySem.W.maxD (.int n) (ns.map PyData.int)) bs → (∀ b o, s.heap.get? b = some o → h'.get? b = some o) → EP X pins σ Q v { s with heap := h', toks := tk } := fun v h' tk bs hr hk => by
    rw [PySem.W.maxD_ints] at hr
    cases hr with
    | int i t => exact ⟨.int _, H, I.kept (t' := tk) hk, ⟨_, rfl⟩, q⟩
  rcases hs with hs | hs
  · obtain ⟨its, rv, hl, _⟩ := I.list hs
    obtain ⟨as, ra⟩ := Dp.readsAll I _ _ its (dp_ints (n :: ns)) rv
    exact PySem.W.max_list_data (I.ok.hd hc) hl.isList (x := .int n) (xs := ns.map .int) ra (alike_int (n :: ns)) (by have e : PyData.depthAll (PyData.int n :: ns.map PyData.int) = 0 := hz; rw [e]; omega) fun i v h' tk bs _ hr hk => fin v h' tk bs hr hk
  · obtain ⟨its, rv, hl, _⟩ := I.tuple hs
    obtain ⟨as, ra⟩ := Dp.readsAll I _ _ its (dp_ints (n :: ns)) rv
    exact PySem.W.max_tuple_data (I.ok.hd hc) (show s.heap.IsTuple a its.toArray from hl) (x := .int n) (xs := ns.map .int) ra (alike_int (n :: ns)) (by have e : PyData.depthAll (PyData.int n :: ns.map PyData.int) = 0 := hz; rw [e]; omega) fun i v h' tk bs _ hr hk => fin v h' tk bs hr hk
/-- any(xs), all(xs): truth values, a list -/
def rAnyS (K : PySem.W.Frag) : List V → Hp → VK → Prop := fun vs H Q => (∃ (a : Addr) (bs : List Bool), vs = [V.ref a] ∧ SqL K H a (bs.map V.bl) ∧ Q (.bl (bs.any id)) H) ∨ (∃ (a : Addr) (ns : List Int), vs = [V.ref a] ∧ SqT K H a (ns.map V.int) ∧ Q (.bl (ns.any (· != 0))) H)
theorem plain_ints : ∀ l : List Int, PyData.plainAll (l.map PyData.int) = true
  | [] => by simp [PyData.plainAll]
  | n :: l => by simp [PyData.plainAll, PyData.plain, plain_ints l]
theorem cr_anyS (hc : X.calm = true) : CallR X (.builtin "any") (rAnyS X.K) := by
  intro pins s σ H vs us Q I r h
  rcases h with h | h
  · exact cr_any hc pins s σ H vs us Q I r h
  · obtain ⟨a, ns, rfl, hs, q⟩ := h
    rw [Vals.ref1 r]
    obtain ⟨its, rv, hl, _⟩ := I.tuple hs
    obtain ⟨as, ra⟩ := Dp.readsAll I _ _ its (dp_ints ns) rv
    refine PySem.W.any_tuple_data (I.ok.hd hc) (show s.heap.IsTuple a its.toArray from hl) ra (plain_ints ns) (fun x hx => ?_) fun h' tk hk => ?_
    · obtain ⟨k, _, rfl⟩ := List.mem_map.mp hx
      trivial
    · refine ⟨.bl _, H, I.kept (t' := tk) hk, ?_, q⟩
      show Value.bool _ = Value.bool _
      rw [List.any_map]
      rfl
/-- x in t, t a tuple or list of data -/
def rInS (K : PySem.W.Frag) (neg : Bool) : R2 := fun x y H Q => ∃ (d : PyData) (ds : List PyData), Dp K H x d ∧ (Dp K H y (.list ds) ∨ Dp K H y (.tuple ds)) ∧ SeqAt.shaped d = true ∧ SeqAt.shaped (.list ds) = true ∧ Q (.bl (if neg then !(ds.any fun z => PyData.eqv z d) else ds.any fun z => PyData.eqv z d)) H
theorem op_inS (hu : X.A.units + 65 < cLine) : OpR X (compareOp .In) (rInS X.K false) := by
  intro pins s σ H x y v u Q I rx ry h
  obtain ⟨d, ds, hd, he, sd, se, q⟩ := h
  obtain ⟨as, r1⟩ := Dp.reads I d x v hd rx
  rcases he with he | he
  · obtain ⟨bs, r2⟩ := Dp.reads I (.list ds) y u he ry
    exact SeqAt.in_list_reads r2 r1 (SeqAt.canLay_of_shaped se) (SeqAt.canLay_of_shaped sd) (room_in_shaped sd hu) ⟨.bl _, H, I, rfl, q⟩
  · obtain ⟨bs, r2⟩ := Dp.reads I (.tuple ds) y u he ry
    exact SeqAt.in_tuple_reads r2 r1 (SeqAt.canLay_of_shaped se) (SeqAt.canLay_of_shaped sd) (room_in_shaped sd hu) ⟨.bl _, H, I, rfl, q⟩
theorem op_notInS (hu : X.A.units + 65 < cLine) : OpR X (compareOp .NotIn) (rInS X.K true) := by
  intro pins s σ H x y v u Q I rx ry h
  obtain ⟨d, ds, hd, he, sd, se, q⟩ := h
  obtain ⟨as, r1⟩ := Dp.reads I d x v hd rx
  rcases he with he | he
  · obtain ⟨bs, r2⟩ := Dp.reads I (.list ds) y u he ry
    exact SeqAt.notIn_list_reads r2 r1 (SeqAt.canLay_of_shaped se) (SeqAt.canLay_of_shaped sd) (room_in_shaped sd hu) ⟨.bl _, H, I, rfl, q⟩
  · obtain ⟨bs, r2⟩ := Dp.reads I (.tuple ds) y u he ry
    exact SeqAt.notIn_tuple_reads r2 r1 (SeqAt.canLay_of_shaped se) (SeqAt.canLay_of_shaped sd) (room_in_shaped sd hu) ⟨.bl _, H, I, rfl, q⟩
/-! t * k -/
theorem tuple_mul1 (l : Addr) (items : Array Value) (n : Nat) (dd : Option Addr) (sl : Array (Option Value)) (x : Int) (u : Tok) (c0 : (decide (x < -(2 ^ 63)) || decide (x ≥ 2 ^ 63)) = false) (c1 : (items.isEmpty || x == 1) = true) :
    PySem.Meets (Builtin.«tuple.__mul__» ⟨[.ref l, .int x u], []⟩) (fun _ R s => s.heap.get? l = some { cls := .type "tuple", dict := dd, data := .seq items n, slots := sl } ∧ R (.ok (.ret (Value.ref l))) s) :=
  .of_wp fun prog w A R s h => by
    obtain ⟨hp, g, d, tk, os⟩ := s
    obtain ⟨hl, h⟩ := h
    have f1 := AutoSeq1.idx_int
    wp_walk using wpAny_loadPart' hl
    repeat (first
      | (refine wpAny_ite_false (decide_eq_false (by rw [c0]; exact Bool.false_ne_true)) ?_; wp_walk using wpAny_loadPart' hl)
      | (refine wpAny_ite_true (decide_eq_true (by rw [c1])) ?_; wp_walk using wpAny_loadPart' hl))
    exact ⟨_, rfl, h⟩
/-- t * k, k at least 1 -/
def rRepS (K : PySem.W.Frag) : R2 := fun x y H Q => ∃ (l : Addr) (k : Int) (xs : List V), x = .ref l ∧ y = .int k ∧ SqT K H l xs ∧ xs ≠ [] ∧ 1 ≤ k ∧ k ≤ 1000 ∧ xs.length ≤ 1000 ∧ (k = 1 → Q (.ref l) H) ∧ (2 ≤ k → ∀ p, H p = none → Q (.ref p) (upd H p (.tup (List.replicate k.toNat xs).flatten)))
theorem op_repS : OpR X (binaryOp .Mult) (rRepS X.K) := by
  intro pins s σ H x y v u Q I rx ry h
  obtain ⟨l, k, xs, rfl, rfl, hT, hne, h1, h2, hz, q1, q2⟩ := h
  by_cases hk : k = 1
  · cases rx
    obtain ⟨t, rfl⟩ := ry
    obtain ⟨its, r, ⟨⟨cls, dd, data, sl⟩, ho, hc, n, hd⟩, hs⟩ := I.tuple hT
    simp only at hc hd
    subst hc hd
    refine wpAny_binaryOp_repeat_ref (T := "tuple") (U := "int") (by decide) ⟨_, ho, rfl⟩ (fun s' => typeIs_int s' k t) noFill_tuple_mul F.fills_int_mul F.slot_int_rmul repeat_tuple F.slot_int_index.lookup
      (call_meets F.slot_int_rmul (typeIs_int s k t) F.entry_int_rmul (F.args_int_rmul_2 _ _) (int_rmul_tuple k t l its.toArray n dd sl)
        ⟨ho, rfl, ⟨_, ho, rfl⟩, call_meets F.slot_tuple_mul ⟨_, ho, rfl⟩ F.entry_tuple_mul (F.args_tuple_mul_2 _ _) (tuple_mul1 l its.toArray n dd sl k t (by subst hk; decide) (by subst hk; simp)) ⟨ho, ?_⟩⟩)
    exact ⟨.ref l, H, I, rfl, q1 hk⟩
  · exact op_repT pins s σ H (.ref l) (.int k) v u Q I rx ry ⟨l, k, xs, rfl, rfl, hT, hne, by omega, h2, hz, q2 (by omega)⟩
end
end Tx

set_option Elab.async false
set_option linter.all false
set_option maxRecDepth 100000
set_option maxHeartbeats 1000000
set_option autoImplicit false
/-! Tx: len, in, str, == of own instances, by their own methods -/
namespace Tx
open PySem PySem.Spec PyProof.Rows L2
theorem rr1 (a : Addr) : Vals [V.ref a] [Value.ref a] := .cons rfl .nil
theorem rr2 (a : Addr) {x : V} {u : Value} (r : RelV x u) : Vals [V.ref a, x] [Value.ref a, u] := .cons rfl (.cons r .nil)
section
variable {X : Cx} {pins : List (Addr × Obj)} {σ : L2.St} {H : Hp} {s : Shared}
theorem run_own {n : Nat} {f : Addr} {fd : FuncData} {ps : List Str} {sp : Sp} {vs : List V} {us : List Value} {Q : VK} {A : Around} {E' : Value → Shared → Prop} (F : FnOk X.prog X.w X.K X.mg X.base CX0 n f fd ps sp) (hb : Binds X.K fd ps [])
    (hr : Room n A) (fr : A.frames = X.A.frames) (I : Inv X pins σ H s) (r : Vals vs us) (h : sp vs H Q E0) : wpAny (model X.prog X.w) A (call (.ref f) us) (EP X pins σ Q) E' s := by
  have e0 : Env0 X.prog X.w X.K X.mg X.base A X.stack s H := by
    have e := I.env0
    exact ⟨by rw [fr]; exact e.frames, e.mod, e.bs, e.bsz, e.funs, e.frf, e.hok, e.bare⟩
  have hl := F.len _ _ _ _ h
  refine wpAny_call (codeAny_mono (F.run A X.stack s H ⟨us, []⟩ us vs Q E0 hr e0 (by
    have := hb s us I.kIn (by rw [List.append_nil, ← r.length]; exact hl)
    simpa using this) r h) fun r s' hq => ?_)
  cases r with
  | error e => exact False.elim hq
  | ok fl =>
    cases fl with
    | ret w => exact I.after hq
    | next => exact False.elim hq
    | brk => exact False.elim hq
    | cont => exact False.elim hq
/-- what an own method promises of the instance and what else it gets -/
structure Own (X : Cx) (C : Addr) (nm : Str) (n : Nat) (f : Addr) (sp : Sp) : Prop where
  at_ : PySem.W.findIn X.K (.ref C) nm = some (some (.ref f))
  fn : PySem.W.isFn X.K (.ref f) = true
  ok : ∃ fd ps, FnOk X.prog X.w X.K X.mg X.base CX0 n f fd ps sp ∧ Binds X.K fd ps []
/-- len(o) -/
def rLenO (C : Addr) (sp : Sp) : List V → Hp → VK → Prop := fun vs H Q => ∃ (a dx : Addr) (fs : List (Str × V)), vs = [.ref a] ∧ H a = some (.ins C dx fs) ∧ sp [.ref a] H (fun v H' => ∃ n : Int, v = .int n ∧ 0 ≤ n ∧ n < 2 ^ 63 ∧ Q (.int n) H') E0
theorem cr_lenO {C f : Addr} {n : Nat} {sp : Sp} (O : Own X C "__len__" n f sp) (hr : Room (n + 1) X.A) : CallR X (.builtin "len") (rLenO C sp) := by
  intro pins s σ H vs us Q I r h
  obtain ⟨a, dx, fs, rfl, ha, hsp⟩ := h
  rw [Vals.ref1 r]
  obtain ⟨fd, ps, F, hb⟩ := O.ok
  obtain ⟨mA, J, _⟩ := ins_get I.hok ha
  obtain ⟨od, J, _⟩ := J.look
  obtain ⟨m, hF⟩ := I.fr
  refine PySem.W.len_K hF I.ok.mod.kin J O.at_ O.fn (wpAny_mono (run_own F hb hr.in1 rfl I (rr1 a) hsp) (fun v s' hv => ?_) fun _ _ z => z)
  obtain ⟨w, H', I', rw', n', e, h0, h1, q⟩ := hv
  subst e
  obtain ⟨t, rfl⟩ := rw'
  exact ⟨⟨h0, h1⟩, .int n', H', I'.tok _, ⟨_, rfl⟩, q⟩
/-- str(o) -/
def rStrO (C : Addr) (sp : Sp) : List V → Hp → VK → Prop := fun vs H Q => ∃ (a dx : Addr) (fs : List (Str × V)), vs = [.ref a] ∧ H a = some (.ins C dx fs) ∧ sp [.ref a] H (fun v H' => ∃ n : Str, v = .str n ∧ Q (.str n) H') E0
theorem cr_strO {C f : Addr} {n : Nat} {sp : Sp} (O : Own X C "__str__" n f sp) (hr : Room (n + 2) X.A) : CallR X (.type "str") (rStrO C sp) := by
  intro pins s σ H vs us Q I r h
  obtain ⟨a, dx, fs, rfl, ha, hsp⟩ := h
  rw [Vals.ref1 r]
  obtain ⟨fd, ps, F, hb⟩ := O.ok
  obtain ⟨mA, J, _⟩ := ins_get I.hok ha
  obtain ⟨od, J, _⟩ := J.look
  refine PySem.W.kso_call hr.in1.in1.units0 I.kIn J O.at_ O.fn (wpAny_mono (run_own F hb hr.in1.in1 rfl I (rr1 a) hsp) (fun v s' hv => ?_) fun _ _ z => z)
  obtain ⟨w, H', I', rw', n', e, q⟩ := hv
  subst e
  obtain ⟨t, rfl⟩ := rw'
  exact ⟨.str n', H', I', ⟨_, rfl⟩, q⟩
theorem in_own {M : Model} {A : Around} {E : Value → Shared → Prop} {K : PySem.W.Frag} {x C f : Addr} {ox : Obj} {od : Option Obj} {v : Value} {Q : Bool → Shared → Prop} (Xk : K.In s.heap) (I : PySem.W.InstAt s.heap x ox C od) (hs : PySem.W.findIn K (.ref C) "__contains__" = some (some (.ref f)))
    (hf : PySem.W.isFn K (.ref f) = true) (h : wpAny M A (call (.ref f) [.ref x, v]) (fun r s' => ∃ b, r = .bool b ∧ Q b s') E s) : wpAny M A (contains (.ref x) v) Q E s := by
  unfold contains
  refine wpAny_holding ?_
  rw [show stdlibNamesSay? (.ref x) v = none from rfl]
  refine wpAny_bind (wpAny_bind (I.type.here ((PySem.W.looks_findIn Xk hs).here ?_)))
  show wpAny M A (if (some (Value.ref f) == some Value.none) = true then _ else _) Q E s
  rw [if_neg (by simp)]
  refine wpAny_bind (m := callSpecialUnlessNone? (.ref x) (Str.ofString "__contains__") [v] _) ?_
  simp only [callSpecialUnlessNone?]
  refine wpAny_bind (wpAny_bind (I.type.here ((PySem.W.looks_findIn Xk hs).here ?_)))
  refine wpAny_holding (wpAny_bind ((PySem.W.bind_fn Xk _ (beq_iff_eq.mp hf)).here ?_))
  show wpAny M A (if (Value.ref f == Value.none) = true then _ else _) _ E s
  rw [if_neg (show ¬ (Value.ref f == Value.none) = true from Bool.false_ne_true)]
  refine wpAny_bind (wpAny_mono h (fun r s' hr => wpAny_pure ?_) fun _ _ z => z)
  obtain ⟨b, rfl, q⟩ := hr
  exact wpAny_truthy_bool q
/-- x in o -/
def rInO (C : Addr) (sp : Sp) : R2 := fun x y H Q => ∃ (a dx : Addr) (fs : List (Str × V)), y = .ref a ∧ H a = some (.ins C dx fs) ∧ sp [.ref a, x] H (fun v H' => ∃ b : Bool, v = .bl b ∧ Q (.bl b) H') E0
theorem op_inO {C f : Addr} {n : Nat} {sp : Sp} (O : Own X C "__contains__" n f sp) (hr : Room n X.A) : OpR X (compareOp .In) (rInO C sp) := by
  intro pins s σ H x y v u Q I rx ry h
  obtain ⟨a, dx, fs, rfl, ha, hsp⟩ := h
  cases ry
  obtain ⟨fd, ps, F, hb⟩ := O.ok
  obtain ⟨mA, J, _⟩ := ins_get I.hok ha
  obtain ⟨od, J, _⟩ := J.look
  show wpAny _ _ (do return Value.bool (← contains (.ref a) v)) _ _ s
  refine wpAny_bind (in_own I.kIn J O.at_ O.fn (wpAny_mono (run_own F hb hr rfl I (rr2 a rx) hsp) (fun w s' hv => ?_) fun _ _ z => z))
  obtain ⟨w', H', I', rw', b, e, q⟩ := hv
  subst e
  cases rw'
  exact ⟨b, rfl, wpAny_pure ⟨.bl b, H', I', rfl, q⟩⟩
/-- the type of what stands on the right, as == asks it -/
inductive NotSub (K : PySem.W.Frag) (C : Addr) (H : Hp) : V → Prop where
  | ins {a dx : Addr} {fs : List (Str × V)} : H a = some (.ins C dx fs) → NotSub K C H (.ref a)
  | tup {a : Addr} {vs : List V} : SqT K H a vs → PySem.W.notFirst K C (.type "tuple") = true → NotSub K C H (.ref a)
/-- o == y -/
def rEqO (K : PySem.W.Frag) (C : Addr) (sp : Sp) : R2 := fun x y H Q => ∃ (a dx : Addr) (fs : List (Str × V)), x = .ref a ∧ H a = some (.ins C dx fs) ∧ NotSub K C H y ∧ sp [.ref a, y] H (fun v H' => ∃ b : Bool, v = .bl b ∧ Q (.bl b) H') E0
theorem op_eqO {C f : Addr} {n : Nat} {sp : Sp} (O : Own X C "__eq__" n f sp) (hr : Room n X.A) : OpR X (compareOp .Eq) (rEqO X.K C sp) := by
  intro pins s σ H x y v u Q I rx ry h
  obtain ⟨a, dx, fs, rfl, ha, ns, hsp⟩ := h
  cases rx
  obtain ⟨fd, ps, F, hb⟩ := O.ok
  obtain ⟨mA, J, _⟩ := ins_get I.hok ha
  obtain ⟨od, J, _⟩ := J.look
  obtain ⟨m, hF⟩ := I.fr
  have hl : ∃ tb, PySem.W.Looks (model X.prog X.w) s.heap (typeOf u) tb ∧ PySem.W.notFirst X.K C tb = true := by
    cases ns with
    | ins hb' =>
      cases ry
      obtain ⟨mB, J', _⟩ := ins_get I.hok hb'
      obtain ⟨od', J', _⟩ := J'.look
      exact ⟨_, J'.type, by simp [PySem.W.notFirst]⟩
    | tup ht hn =>
      cases ry
      obtain ⟨its, rv, p, _⟩ := I.tuple ht
      obtain ⟨o, ho, hc, _⟩ := p
      refine ⟨_, ?_, hn⟩
      exact hc ▸ (PySem.W.Looks.ld ho).andThen .now
  obtain ⟨tb, hl, hn⟩ := hl
  show wpAny _ X.A (richCompare .Eq (.ref a) u) (EP X pins σ Q) X.xe s
  refine PySem.W.cmp_K (op := .Eq) (tb := tb) hr.units0 hF I.ok.mod.kin J hl hn O.at_ O.fn (wpAny_mono (run_own F hb hr rfl I (rr2 a ry) hsp) (fun w s' hv => ?_) fun _ _ z => z)
  obtain ⟨w', H', I', rw', b, e, q⟩ := hv
  subst e
  cases rw'
  exact ⟨.bl b, H', I', rfl, q⟩
end
end Tx

set_option Elab.async false
set_option linter.all false
set_option maxRecDepth 100000
set_option maxHeartbeats 1000000
set_option autoImplicit false
/-! Tx: what is walked, operators and built-ins, by data -/
namespace Tx
open PySem L2
section
variable {K : PySem.W.Frag} {m : Mo} {Γ : G} {ta tb te : TE} {d : D} {ds : List D}
theorem carry {m' : Mo} {H1 H : Hp} (i1 : m.I H1) (r : m.R H1 H) (c : ∀ a, m'.F a → ¬ m.F a → H1 a = none) : ∀ b o, ¬ m.F b → H1 b = some o → ¬ m'.F b ∧ H b = some o := fun b o n e =>
  ⟨fun f => (by rw [c b f n] at e; cases e), m.keep r i1 b o n e⟩
theorem wk_list {m' : Mo} {H1 H2 : Hp} {a : Addr} {vs : List V} (i1 : m.I H1) (le : m.Le m') (i2 : m'.I H2) (r : m.R H1 H2) (c : ∀ a, m'.F a → ¬ m.F a → H1 a = none)
    (hs : ∀ H, m.R H1 H → SqL K H a vs) (ra : RpAll K m.F H1 vs ds) : WkD m' K (Itl K a) H2 ds := by
  have hl := ra.len
  have up : ∀ H, m'.R H2 H → m.R H1 H := fun H q => m.trans r (by have := q; rw [le.R] at this; exact this)
  refine ⟨fun i H q hi => ⟨vs, vs[i], hs H (up H q), by simp [hl, hi]⟩, fun H q => ⟨vs, hs H (up H q), by omega⟩, fun i H x H' q hi y => ?_⟩
  obtain ⟨e, y⟩ := y
  subst e
  have hx := y vs (hs H' (up H' q))
  obtain ⟨d, hd, rd⟩ := ra.at hx
  exact ⟨m'.refl _, d, hd, rd.go (carry i1 (up H' q) c)⟩
theorem wk_tup {m' : Mo} {H1 H2 : Hp} {a : Addr} {vs : List V} (i1 : m.I H1) (le : m.Le m') (i2 : m'.I H2) (r : m.R H1 H2) (c : ∀ a, m'.F a → ¬ m.F a → H1 a = none)
    (hs : ∀ H, m.R H1 H → SqT K H a vs) (ra : RpAll K m.F H1 vs ds) : WkD m' K (Itt K a) H2 ds := by
  have hl := ra.len
  have up : ∀ H, m'.R H2 H → m.R H1 H := fun H q => m.trans r (by have := q; rw [le.R] at this; exact this)
  refine ⟨fun i H q hi => ⟨vs, vs[i], hs H (up H q), by simp [hl, hi]⟩, fun H q => ⟨vs, hs H (up H q), by omega⟩, fun i H x H' q hi y => ?_⟩
  obtain ⟨e, y⟩ := y
  subst e
  have hx := y vs (hs H' (up H' q))
  obtain ⟨d, hd, rd⟩ := ra.at hx
  exact ⟨m'.refl _, d, hd, rd.go (carry i1 (up H' q) c)⟩
def isSeq (d : D) (ds : List D) : Prop := d = .tup ds ∨ d = .lst ds ∨ d = .frl ds
/-- how a sequence stands, and stays -/
theorem seq_stands {H1 : Hp} {v : V} (i1 : m.I H1) (rv : Rp K m.F H1 v d) (hd : isSeq d ds) : ∃ a vs, v = .ref a ∧ RpAll K m.F H1 vs ds ∧ ((∀ H, m.R H1 H → SqL K H a vs) ∨ (∀ H, m.R H1 H → SqT K H a vs)) := by
  rcases hd with e | e | e
  · subst e
    cases rv with
    | tup n h t => exact ⟨_, _, rfl, t, .inr fun H r => .inl (rd_up h fun o q => m.keep r i1 _ o n q)⟩
    | ktup h t => exact ⟨_, _, rfl, t, .inr fun H r => .inr h⟩
  · subst e
    cases rv with
    | lst n h t => exact ⟨_, _, rfl, t, .inl fun H r => SqL.of (m.keep r i1 _ _ n h)⟩
  · subst e
    cases rv with
    | frl n h t => exact ⟨_, _, rfl, t, .inl fun H r => .inl (.inr ⟨_, m.keep r i1 _ _ n h⟩)⟩
    | kfrl h t => exact ⟨_, _, rfl, t, .inl fun H r => .inr h⟩
theorem it_seqN {S : D → Prop} {T : List D → Prop} (h : EvN m K te Γ S) (hd : ∀ d, S d → ∃ ds, isSeq d ds ∧ T ds) : ItD m K (iSeq K te) Γ T := fun σ H e Q q =>
  h σ H e _ fun v d H1 s r1 rv => by
    obtain ⟨ds, hds, ht⟩ := hd d s
    have i1 := m.inv r1 e.i
    obtain ⟨a, vs, rfl, ra, hs⟩ := seq_stands i1 rv hds
    refine ⟨a, rfl, ?_⟩
    rcases hs with hs | hs
    · exact .inl ⟨⟨vs, hs H1 (m.refl _)⟩, q _ ds H1 ht r1 fun m' le H2 i2 r c => wk_list i1 le i2 r c hs ra⟩
    · exact .inr ⟨⟨vs, hs H1 (m.refl _)⟩, q _ ds H1 ht r1 fun m' le H2 i2 r c => wk_tup i1 le i2 r c hs ra⟩
theorem it_seq (h : Ev1 m K te Γ d) (hd : isSeq d ds) : ItD1 m K (iSeq K te) Γ ds := it_seqN h fun x e => ⟨ds, e ▸ hd, rfl⟩
def rngD (lo : Int) (n : Nat) : List D := (List.range n).map fun i : Nat => D.int (lo + (i : Int))
theorem rngD_len (lo : Int) (n : Nat) : (rngD lo n).length = n := by unfold rngD; rw [List.length_map, List.length_range]
theorem rngD_at {lo : Int} {n i : Nat} (h : i < n) : (rngD lo n)[i]? = some (.int (lo + (i : Int))) := by unfold rngD; simp [h]
theorem wk_rng {m' : Mo} {H2 : Hp} (lo : Int) (n : Nat) : WkD m' K (Itr lo n) H2 (rngD lo n) := by
  refine ⟨fun i H _ hi => by rw [rngD_len] at hi; exact hi, fun H _ => by rw [rngD_len]; exact Nat.le_refl _, fun i H x H' q hi y => ?_⟩
  rw [rngD_len] at hi
  obtain ⟨e, ex⟩ := y
  subst e; subst ex
  exact ⟨m'.refl _, _, rngD_at hi, .int _⟩
theorem it_rng1 {ta : TA} {n : Int} (h : EvA1 m K ta Γ [.int n]) (hn : -100000 ≤ n ∧ n ≤ 100000) : ItD1 m K (iRng1 ta) Γ (rngD 0 n.toNat) := fun σ H e Q q =>
  h σ H e _ fun vs ds H1 s r1 rs => by
    subst s
    cases rs with
    | cons r rs =>
      cases rs
      exact ⟨n, by rw [r.intE], by omega, by omega, q _ _ H1 rfl r1 fun m' _ H2 _ _ _ => wk_rng 0 n.toNat⟩
theorem it_rng2 {ta : TA} {lo n : Int} (h : EvA1 m K ta Γ [.int lo, .int n]) (hn : -100000 ≤ n ∧ n ≤ 100000 ∧ -100000 ≤ lo ∧ lo ≤ 100000) : ItD1 m K (iRng2 ta) Γ (rngD lo (n - lo).toNat) := fun σ H e Q q =>
  h σ H e _ fun vs ds H1 s r1 rs => by
    subst s
    cases rs with
    | cons r rs =>
      cases rs with
      | cons r' rs =>
        cases rs
        exact ⟨lo, n, by rw [r.intE, r'.intE], ⟨by omega, by omega, by omega, by omega⟩, q _ _ H1 rfl r1 fun m' _ H2 _ _ _ => wk_rng lo (n - lo).toNat⟩
def enumD (ds : List D) : List D := ds.mapIdx fun i d => .tup [.int (i : Int), d]
theorem enumD_len : (enumD ds).length = ds.length := by unfold enumD; rw [List.length_mapIdx]
theorem enumD_at {i : Nat} {d : D} (h : ds[i]? = some d) : (enumD ds)[i]? = some (.tup [.int (i : Int), d]) := by unfold enumD; rw [List.getElem?_mapIdx, h]; rfl
theorem wk_enum {m' : Mo} {J : It} {H1 H2 : Hp} {vs : List V} (i1 : m.I H1) (le : m.Le m') (i2 : m'.I H2) (r : m.R H1 H2) (c : ∀ a, m'.F a → ¬ m.F a → H1 a = none) (ra : RpAll K m.F H1 vs ds)
    (hg : ∀ i H, m.R H1 H → i < vs.length → J.go i H) (hp : ∀ H, m.R H1 H → J.stop vs.length H) (hy : ∀ i H x H', m.R H1 H → i < vs.length → J.yld i H x H' → ∃ T y, x = .ref T ∧ H T = none ∧ H' = upd H T (.tup [.int (i : Nat), y]) ∧ vs[i]? = some y) : WkD m' K J H2 (enumD ds) := by
  have hl := ra.len
  have up : ∀ H, m'.R H2 H → m.R H1 H := fun H q => m.trans r (by have := q; rw [le.R] at this; exact this)
  refine ⟨fun i H q hi => hg i H (up H q) (by rw [enumD_len] at hi; omega), fun H q => by rw [enumD_len, ← hl]; exact hp H (up H q), fun i H x H' q hi y => ?_⟩
  rw [enumD_len] at hi
  obtain ⟨T, w, rfl, hT, rfl, hw⟩ := hy i H x H' (up H q) (by omega) y
  obtain ⟨d, hd, rd⟩ := ra.at hw
  have iH : m'.I H := m'.inv q i2
  exact ⟨m'.grow iH (same_new hT), _, enumD_at hd, rp_new iH hT (.cons (.int _) (.cons (rd.go (carry i1 (up H q) c)) .nil))⟩
theorem it_enum {ta : TA} (h : EvA1 m K ta Γ [d]) (hd : isSeq d ds) : ItD1 m K (iEnumS K ta) Γ (enumD ds) := fun σ H e Q q =>
  h σ H e _ fun vs es H1 s r1 rs => by
    subst s
    cases rs with
    | cons rv rs =>
      cases rs
      have i1 := m.inv r1 e.i
      obtain ⟨a, ws, rfl, ra, hs⟩ := seq_stands i1 rv hd
      refine ⟨a, rfl, ?_⟩
      rcases hs with hs | hs
      · refine .inl ⟨⟨ws, hs H1 (m.refl _)⟩, q _ _ H1 rfl r1 fun m' le H2 i2 r c => wk_enum i1 le i2 r c ra (fun i H q hi => ⟨ws, ws[i], hs H q, by simp [hi]⟩) (fun H q => ⟨ws, hs H q, Nat.le_refl _⟩) fun i H x H' q hi y => ?_⟩
        obtain ⟨T, w, h1, h2, h3, h4⟩ := y
        exact ⟨T, w, h1, h2, h3, h4 ws (hs H q)⟩
      · refine .inr ⟨⟨ws, hs H1 (m.refl _)⟩, q _ _ H1 rfl r1 fun m' le H2 i2 r c => wk_enum i1 le i2 r c ra (fun i H q hi => ⟨ws, ws[i], hs H q, by simp [hi]⟩) (fun H q => ⟨ws, hs H q, Nat.le_refl _⟩) fun i H x H' q hi y => ?_⟩
        obtain ⟨T, w, h1, h2, h3, h4⟩ := y
        exact ⟨T, w, h1, h2, h3, h4 ws (hs H q)⟩

/-! ### operators -/
theorem o_I0 {g : Int → Int → V} {g' : Int → Int → D} (hg : ∀ i j F H, Rp K F H (g i j) (g' i j)) {i j : Int} : Op1 m K (rI0 g) (.int i) (.int j) (g' i j) := fun x y H I rx ry Q q => ⟨i, j, rx.intE, ry.intE, q _ _ H rfl (m.refl H) (hg i j _ _)⟩
theorem o_I {C : Int → Int → Prop} {g : Int → Int → V} {g' : Int → Int → D} (hg : ∀ i j F H, Rp K F H (g i j) (g' i j)) {i j : Int} (hc : C i j) : Op1 m K (rI C g) (.int i) (.int j) (g' i j) := fun x y H I rx ry Q q => ⟨i, j, rx.intE, ry.intE, hc, q _ _ H rfl (m.refl H) (hg i j _ _)⟩
theorem o_int {g : Int → Int → Int} {i j : Int} : Op1 m K (rI0 fun i j => .int (g i j)) (.int i) (.int j) (.int (g i j)) := o_I0 (g' := fun i j => .int (g i j)) fun _ _ _ _ => .int _
theorem o_bl {g : Int → Int → Bool} {i j : Int} : Op1 m K (rI0 fun i j => .bl (g i j)) (.int i) (.int j) (.bl (g i j)) := o_I0 (g' := fun i j => .bl (g i j)) fun _ _ _ _ => .bl _
theorem o_intC {C : Int → Int → Prop} {g : Int → Int → Int} {i j : Int} (hc : C i j) : Op1 m K (rI C fun i j => .int (g i j)) (.int i) (.int j) (.int (g i j)) := o_I (g' := fun i j => .int (g i j)) (fun _ _ _ _ => .int _) hc
theorem o_eqD {a b : D} (ha : a.plain = true) (hb : b.plain = true) (sa : SeqAt.shaped a.py = true) (sb : SeqAt.shaped b.py = true) : Op1 m K (rEqD K) a b (.bl (PyData.eqv a.py b.py)) := fun x y H I rx ry Q q => ⟨_, _, rx.dp ha, ry.dp hb, sa, sb, q _ _ H rfl (m.refl H) (.bl _)⟩
theorem o_neD {a b : D} (ha : a.plain = true) (hb : b.plain = true) (sa : SeqAt.shaped a.py = true) (sb : SeqAt.shaped b.py = true) : Op1 m K (rNeD K) a b (.bl (!PyData.eqv a.py b.py)) := fun x y H I rx ry Q q => ⟨_, _, rx.dp ha, ry.dp hb, sa, sb, q _ _ H rfl (m.refl H) (.bl _)⟩
theorem o_inS {neg : Bool} {a b : D} (hd : isSeq b ds) (ha : a.plain = true) (hb : D.plains ds = true) (sa : SeqAt.shaped a.py = true) (sb : SeqAt.shaped (.list (D.pys ds)) = true) : Op1 m K (rInS K neg) a b (.bl (if neg then !((D.pys ds).any fun z => PyData.eqv z a.py) else (D.pys ds).any fun z => PyData.eqv z a.py)) := fun x y H I rx ry Q q => by
  refine ⟨_, D.pys ds, rx.dp ha, ?_, sa, sb, q _ _ H rfl (m.refl H) (.bl _)⟩
  rcases hd with e | e | e
  · subst e; exact .inr (ry.dp (by simpa [D.plain] using hb))
  · subst e; exact .inl (ry.dp (by simpa [D.plain] using hb))
  · subst e; exact .inl (ry.dp (by simpa [D.plain] using hb))
theorem atI_D {vs : List V} {F : Addr → Prop} {H : Hp} (ra : RpAll K F H vs ds) {i : Int} (h : atI ds i = some d) : ∃ v, atI vs i = some v ∧ Rp K F H v d := by
  unfold atI at h ⊢
  rw [ra.len]
  cases e : ixN ds.length i with
  | none => rw [e] at h; cases h
  | some j =>
    rw [e] at h
    obtain ⟨v, h1, h2⟩ := ra.get (show ds[j]? = some d from h)
    exact ⟨v, h1, h2⟩
theorem o_ix {b : D} {i : Int} (hd : isSeq b ds) (h : atI ds i = some d) : Op1 m K (rIx K) b (.int i) d := fun x y H I rx ry Q q => by
  rcases hd with e | e | e
  · subst e
    obtain ⟨a, vs, rfl, hs, ra⟩ := rx.tupE
    obtain ⟨v, hv, rv⟩ := atI_D ra h
    exact .inr (.inl ⟨a, vs, i, v, rfl, ry.intE, hs, hv, q _ _ H rfl (m.refl H) rv⟩)
  · subst e
    obtain ⟨a, vs, rfl, hs, ra⟩ := rx.lstE
    obtain ⟨v, hv, rv⟩ := atI_D ra h
    exact .inl ⟨a, vs, i, v, rfl, ry.intE, SqL.of hs, hv, q _ _ H rfl (m.refl H) rv⟩
  · subst e
    cases rx with
    | frl n h' ra =>
      obtain ⟨v, hv, rv⟩ := atI_D ra h
      exact .inl ⟨_, _, i, v, rfl, ry.intE, .inl (.inr ⟨_, h'⟩), hv, q _ _ H rfl (m.refl H) rv⟩
    | kfrl h' ra =>
      obtain ⟨v, hv, rv⟩ := atI_D ra h
      exact .inl ⟨_, _, i, v, rfl, ry.intE, .inr h', hv, q _ _ H rfl (m.refl H) rv⟩
theorem atI_of {i : Nat} (h : ds[i]? = some d) : atI ds (i : Int) = some d := by
  have hl := (List.getElem?_eq_some_iff.mp h).1
  unfold atI
  rw [Evl.ixN_nat hl]
  exact h
theorem o_catT {as bs : List D} (hl : as.length + bs.length ≤ 100000) : Op1 m K (rCatA K) (.tup as) (.tup bs) (.tup (as ++ bs)) := fun x y H I rx ry Q q => by
  have rx0 := rx
  have ry0 := ry
  obtain ⟨a, vs, rfl, hs, ra⟩ := rx.tupE
  obtain ⟨b, ws, rfl, ht, rb⟩ := ry.tupE
  refine ⟨a, b, vs, ws, rfl, rfl, hs, ht, Nat.le_trans (by rw [ra.len, rb.len]; exact hl) (by decide), fun e => ?_, fun h1 e => ?_, fun h1 h2 p hp => ?_⟩
  · have e' : as = [] := List.eq_nil_of_length_eq_zero (by rw [← ra.len, e]; rfl)
    subst e'
    exact q _ _ H rfl (m.refl H) ry0
  · have e' : bs = [] := List.eq_nil_of_length_eq_zero (by rw [← rb.len, e]; rfl)
    subst e'
    exact q _ _ H (by rw [List.append_nil]) (m.refl H) rx0
  · exact q _ _ _ rfl (m.grow I (same_new hp)) (rp_new I hp (ra.append rb))
theorem o_catL {as bs : List D} (hl : as.length + bs.length ≤ 100000) : Op1 m K rCat (.lst as) (.lst bs) (.lst (as ++ bs)) := fun x y H I rx ry Q q => by
  obtain ⟨a, vs, rfl, hs, ra⟩ := rx.lstE
  obtain ⟨b, ws, rfl, ht, rb⟩ := ry.lstE
  exact ⟨a, b, vs, ws, rfl, rfl, hs, ht, Nat.le_trans (by rw [ra.len, rb.len]; exact hl) (by decide), fun p hp => q _ _ _ rfl (m.grow I (same_new hp)) (rp_newL I hp (ra.append rb))⟩
theorem flat_rep {F : Addr → Prop} {H : Hp} {vs : List V} (ra : RpAll K F H vs ds) : ∀ n : Nat, RpAll K F H (List.replicate n vs).flatten (List.replicate n ds).flatten
  | 0 => .nil
  | n + 1 => by rw [List.replicate_succ, List.replicate_succ, List.flatten_cons, List.flatten_cons]; exact ra.append (flat_rep ra n)
theorem o_repT {k : Int} (hn : ds ≠ []) (hk : 1 ≤ k ∧ k ≤ 1000) (hl : ds.length ≤ 1000) : Op1 m K (rRepS K) (.tup ds) (.int k) (.tup (List.replicate k.toNat ds).flatten) := fun x y H I rx ry Q q => by
  have rx0 := rx
  obtain ⟨a, vs, rfl, hs, ra⟩ := rx.tupE
  refine ⟨a, k, vs, rfl, ry.intE, hs, fun e => hn (List.eq_nil_of_length_eq_zero (by rw [← ra.len, e]; rfl)), hk.1, hk.2, by rw [ra.len]; exact hl, fun e => ?_, fun h2 p hp => ?_⟩
  · subst e
    exact q _ _ H (by simp) (m.refl H) rx0
  · exact q _ _ _ rfl (m.grow I (same_new hp)) (rp_new I hp (flat_rep ra _))

/-! ### built-ins -/
theorem c_len {b : D} (hd : isSeq b ds) : Ca1 m K (fun xs H Q => ∃ x n, xs = [x] ∧ LenV K x H n ∧ Q (.int (n : Nat)) H) [b] (.int ds.length) := fun vs H I rs Q q => by
  cases rs with
  | cons rv rs =>
    cases rs
    obtain ⟨a, ws, rfl, ra, hs⟩ := seq_stands I rv hd
    refine ⟨_, ws.length, rfl, ?_, q _ _ H (by rw [ra.len]) (m.refl H) (.int _)⟩
    rcases hs with hs | hs
    · exact .inl ⟨ws, hs H (m.refl H), rfl⟩
    · exact .inr ⟨ws, hs H (m.refl H), rfl⟩
theorem c_tuple {b : D} (hd : isSeq b ds) : Ca1 m K (fun xs H Q => ∃ p ys, xs = [V.ref p] ∧ ((SqL K H p ys ∧ ∀ (l : Addr), H l = none → Q (.ref l) (upd H l (.tup ys))) ∨ SqT K H p ys ∧ Q (.ref p) H)) [b] (.tup ds) := fun vs H I rs Q q => by
  cases rs with
  | cons rv rs =>
    cases rs
    have rv0 := rv
    rcases hd with e | e | e
    · subst e
      obtain ⟨a, ws, rfl, hs, ra⟩ := rv.tupE
      exact ⟨a, ws, rfl, .inr ⟨hs, q _ _ H rfl (m.refl H) rv0⟩⟩
    · subst e
      obtain ⟨a, ws, rfl, hs, ra⟩ := rv.lstE
      exact ⟨a, ws, rfl, .inl ⟨SqL.of hs, fun l hl => q _ _ _ rfl (m.grow I (same_new hl)) (rp_new I hl ra)⟩⟩
    · subst e
      cases rv with
      | frl n h' ra => exact ⟨_, _, rfl, .inl ⟨.inl (.inr ⟨_, h'⟩), fun l hl => q _ _ _ rfl (m.grow I (same_new hl)) (rp_new I hl ra)⟩⟩
      | kfrl h' ra => exact ⟨_, _, rfl, .inl ⟨.inr h', fun l hl => q _ _ _ rfl (m.grow I (same_new hl)) (rp_new I hl ra)⟩⟩
theorem c_list {b : D} (hd : isSeq b ds) : Ca1 m K (fun xs H Q => ∃ p ys, xs = [V.ref p] ∧ (SqL K H p ys ∨ SqT K H p ys) ∧ ∀ (l : Addr), H l = none → Q (.ref l) (upd H l (.lst ys))) [b] (.lst ds) := fun vs H I rs Q q => by
  cases rs with
  | cons rv rs =>
    cases rs
    obtain ⟨a, ws, rfl, ra, hs⟩ := seq_stands I rv hd
    refine ⟨a, ws, rfl, ?_, fun l hl => q _ _ _ rfl (m.grow I (same_new hl)) (rp_newL I hl ra)⟩
    rcases hs with hs | hs
    · exact .inl (hs H (m.refl H))
    · exact .inr (hs H (m.refl H))
theorem c_sorted {b : D} {ns : List Int} (hd : isSeq b (ns.map D.int)) (hl : ns.length < 64) : Ca1 m K (rSortS K) [b] (.lst ((srt ns).map D.int)) := fun vs H I rs Q q => by
  cases rs with
  | cons rv rs =>
    cases rs
    obtain ⟨a, ws, rfl, ra, hs⟩ := seq_stands I rv hd
    have e := ra.ints
    subst e
    refine ⟨a, ns, rfl, ?_, hl, fun p hp => q _ _ _ rfl (m.grow I (same_new hp)) (rp_newL I hp (RpAll.map (fun x => .int x) _))⟩
    rcases hs with hs | hs
    · exact .inl (hs H (m.refl H))
    · exact .inr (hs H (m.refl H))
theorem c_max {b : D} {n : Int} {ns : List Int} (hd : isSeq b ((n :: ns).map D.int)) : Ca1 m K (rMaxS K) [b] (.int (ns.foldl max n)) := fun vs H I rs Q q => by
  cases rs with
  | cons rv rs =>
    cases rs
    obtain ⟨a, ws, rfl, ra, hs⟩ := seq_stands I rv hd
    have e := ra.ints
    subst e
    refine ⟨a, n, ns, rfl, ?_, q _ _ _ rfl (m.refl H) (.int _)⟩
    rcases hs with hs | hs
    · exact .inl (hs H (m.refl H))
    · exact .inr (hs H (m.refl H))
theorem c_all {bs : List Bool} : Ca1 m K (rAll K) [.lst (bs.map D.bl)] (.bl (bs.all id)) := fun vs H I rs Q q => by
  cases rs with
  | cons rv rs =>
    cases rs
    obtain ⟨a, ws, rfl, hs, ra⟩ := rv.lstE
    have e := ra.bls
    subst e
    exact ⟨a, bs, rfl, SqL.of hs, q _ _ _ rfl (m.refl H) (.bl _)⟩
theorem c_any {bs : List Bool} : Ca1 m K (rAnyS K) [.lst (bs.map D.bl)] (.bl (bs.any id)) := fun vs H I rs Q q => by
  cases rs with
  | cons rv rs =>
    cases rs
    obtain ⟨a, ws, rfl, hs, ra⟩ := rv.lstE
    have e := ra.bls
    subst e
    exact .inl ⟨a, bs, rfl, SqL.of hs, q _ _ _ rfl (m.refl H) (.bl _)⟩
theorem c_anyI {ns : List Int} : Ca1 m K (rAnyS K) [.tup (ns.map D.int)] (.bl (ns.any (· != 0))) := fun vs H I rs Q q => by
  cases rs with
  | cons rv rs =>
    cases rs
    obtain ⟨a, ws, rfl, hs, ra⟩ := rv.tupE
    have e := ra.ints
    subst e
    exact .inr ⟨a, ns, rfl, hs, q _ _ _ rfl (m.refl H) (.bl _)⟩
theorem c_sum {b : D} {ns : List Int} (hd : b = .lst (ns.map D.int)) : Ca1 m K (rSum K) [b] (.int ns.sum) := fun vs H I rs Q q => by
  subst hd
  cases rs with
  | cons rv rs =>
    cases rs
    obtain ⟨a, ws, rfl, hs, ra⟩ := rv.lstE
    have e := ra.ints
    subst e
    exact ⟨a, ns, rfl, SqL.of hs, q _ _ _ rfl (m.refl H) (.int _)⟩
end
end Tx

set_option Elab.async false
set_option linter.all false
set_option maxRecDepth 100000
set_option maxHeartbeats 1000000
set_option autoImplicit false
/-! Tx: fields, calls, defs, the pouch -/
namespace Tx
open PySem L2
section
variable {K : PySem.W.Frag} {m : Mo} {Γ : G} {ta tb te : TE} {d : D} {ds : List D} {S : D → Prop} {O : Out} {tv : TS}
/-! ### fields -/
theorem lookup_zip {F : Addr → Prop} {H : Hp} {f : Str} : ∀ {ns : List Str} {vs : List V} {ds : List D}, RpAll K F H vs ds → (ns.zip ds).lookup f = some d → ∃ v, (ns.zip vs).lookup f = some v ∧ Rp K F H v d
  | [], _, _, _, h => by simp at h
  | n :: ns, _, _, .nil, h => by simp at h
  | n :: ns, _, _, .cons (v := v) r t, h => by
    rw [List.zip_cons_cons, List.lookup_cons] at h
    rw [List.zip_cons_cons, List.lookup_cons]
    cases e : f == n with
    | true =>
      rw [e] at h
      cases h
      exact ⟨v, rfl, r⟩
    | false =>
      rw [e] at h
      exact lookup_zip t h
theorem en_fld {C : Addr} {ns : List Str} {xs : List D} {f : Str} (h : Ev1 m K te Γ (.obj C ns xs)) (cl : Cls K C) (na : NoAttr K C f) (hf : (ns.zip xs).lookup f = some d) : Ev1 m K (tFld K te f) Γ d := fun σ H e Q q =>
  h σ H e _ fun v d' H1 s r1 rv => by
    subst s
    cases rv with
    | obj n h' hl t =>
      obtain ⟨v, hv, rv⟩ := lookup_zip t hf
      exact ⟨_, C, _, _, v, rfl, h', cl, na, hv, q v _ H1 rfl r1 rv⟩
theorem Rp.ins {F : Addr → Prop} {H : Hp} {v : V} {C : Addr} {ns : List Str} {xs : List D} (r : Rp K F H v (.obj C ns xs)) : ∃ a dx fs, v = .ref a ∧ H a = some (.ins C dx fs) ∧ ∀ f, f ∉ ns → fs.lookup f = none := by
  cases r with
  | obj n h' hl t =>
    refine ⟨_, _, _, rfl, h', fun f hf => ?_⟩
    have : ∀ {ns : List Str} {vs : List V}, f ∉ ns → (ns.zip vs).lookup f = none := by
      intro ns
      induction ns with
      | nil => intro vs _; rfl
      | cons n ns ih =>
        intro vs hn
        cases vs with
        | nil => rfl
        | cons v vs =>
          rw [List.zip_cons_cons, List.lookup_cons]
          have e : (f == n) = false := by
            simp only [List.mem_cons, not_or] at hn
            simpa using hn.1
          rw [e]
          exact ih fun z => hn (List.mem_cons_of_mem _ z)
    exact this hf
/-! ### promises of defs that change nothing -/
def spS (K : PySem.W.Frag) (pre : List D → Prop) (S : List D → D → Prop) : Sp := fun vs H Q _ => ∃ (F : Addr → Prop) (ds : List D), (∀ a, F a → H a ≠ none) ∧ RpAll K F H vs ds ∧ pre ds ∧ ∀ v d H', S ds d → Same H H' → Rp K F H' v d → Q v H'
theorem en_callN {pre : List D → Prop} {Sf : List D → D → Prop} {dvs : List V} {dds : List D} {E : XK} {ta : TA} {T : List D → Prop} (h : EvA m K ta Γ T) (hd : ∀ F H, RpAll K F H dvs dds) (hp : ∀ ds, T ds → pre (ds ++ dds)) (hs : ∀ ds d, T ds → Sf (ds ++ dds) d → S d) : EvN m K (tCall (spS K pre Sf) dvs E ta) Γ S := fun σ H e Q q =>
  h σ H e _ fun vs ds H1 s r1 rs => ⟨m.F, ds ++ dds, fun a f => m.fa (m.inv r1 e.i) f, rs.append (hd _ _), hp ds s, fun v d H' sd sm rv => q v d H' (hs ds d s sd) (m.trans r1 (m.grow (m.inv r1 e.i) sm)) rv⟩
theorem en_call {pre : List D → Prop} {Sf : List D → D → Prop} {E : XK} {ta : TA} (h : EvA1 m K ta Γ ds) (hp : pre ds) (hs : ∀ d, Sf ds d → S d) : EvN m K (tCall (spS K pre Sf) [] E ta) Γ S :=
  en_callN (T := fun x => x = ds) (dds := []) h (fun _ _ => .nil) (fun x e => by rw [e, List.append_nil]; exact hp) fun x d e sd => hs d (by rw [e, List.append_nil] at sd; exact sd)
/-- a deterministic one -/
def spF (K : PySem.W.Frag) (pre : List D → Prop) (f : List D → D) : Sp := spS K pre fun ds d => d = f ds
theorem en_callF {pre : List D → Prop} {f : List D → D} {E : XK} {ta : TA} (h : EvA1 m K ta Γ ds) (hp : pre ds) : Ev1 m K (tCall (spF K pre f) [] E ta) Γ (f ds) := en_call h hp fun _ e => e
/-- a property, a method -/
theorem en_propN {pre : List D → Prop} {Sf : List D → D → Prop} {C : Addr} {ns : List Str} {xs : List D} {E : XK} (h : Ev1 m K te Γ (.obj C ns xs)) (hp : pre [.obj C ns xs]) (hs : ∀ d, Sf [.obj C ns xs] d → S d) : EvN m K (tProp C (spS K pre Sf) [] E te) Γ S := fun σ H e Q q =>
  h σ H e _ fun v d' H1 s r1 rv => by
    subst s
    obtain ⟨a, dx, fs, rfl, ha, _⟩ := rv.ins
    have i1 := m.inv r1 e.i
    exact ⟨a, dx, fs, rfl, ha, m.F, [.obj C ns xs], fun a f => m.fa i1 f, .cons rv .nil, hp, fun v d H' sd sm rv => q v d H' (hs d sd) (m.trans r1 (m.grow i1 sm)) rv⟩
theorem en_prop {pre : List D → Prop} {f : List D → D} {C : Addr} {ns : List Str} {xs : List D} {E : XK} (h : Ev1 m K te Γ (.obj C ns xs)) (hp : pre [.obj C ns xs]) : Ev1 m K (tProp C (spF K pre f) [] E te) Γ (f [.obj C ns xs]) := en_propN h hp fun _ e => e
theorem en_methN {pre : List D → Prop} {Sf : List D → D → Prop} {C : Addr} {ns : List Str} {xs : List D} {mt : Str} {E : XK} {ta : TA} {T : List D → Prop} (h : Ev1 m K te Γ (.obj C ns xs)) (hn : mt ∉ ns) (ha : EvA m K ta Γ T) (hp : ∀ ds, T ds → pre (.obj C ns xs :: ds)) (hs : ∀ ds d, T ds → Sf (.obj C ns xs :: ds) d → S d) :
    EvN m K (tMeth C mt (spS K pre Sf) [] E te ta) Γ S := fun σ H e Q q =>
  h σ H e _ fun v d' H1 s r1 rv => by
    subst s
    obtain ⟨a, dx, fs, rfl, hi, hno⟩ := rv.ins
    have i1 := m.inv r1 e.i
    refine ⟨a, dx, fs, rfl, hi, hno mt hn, ha σ H1 (e.mv r1) _ fun vs ds H2 t r2 rs => ?_⟩
    have i2 := m.inv r2 i1
    exact ⟨m.F, .obj C ns xs :: ds, fun a f => m.fa i2 f, .cons (rv.mv (m.keep r2 i1)) (by rw [List.append_nil]; exact rs), hp ds t, fun v d H' sd sm rv => q v d H' (hs ds d t sd) (m.trans r1 (m.trans r2 (m.grow i2 sm))) rv⟩
theorem en_meth {pre : List D → Prop} {f : List D → D} {C : Addr} {ns : List Str} {xs : List D} {mt : Str} {E : XK} {ta : TA} (h : Ev1 m K te Γ (.obj C ns xs)) (hn : mt ∉ ns) (ha : EvA1 m K ta Γ ds) (hp : pre (.obj C ns xs :: ds)) : Ev1 m K (tMeth C mt (spF K pre f) [] E te ta) Γ (f (.obj C ns xs :: ds)) :=
  en_methN h hn ha (fun x e => e ▸ hp) fun x d e s => by rw [e] at s; exact s
/-! own methods behind len, str, in, == -/
theorem c_lenO {pre : List D → Prop} {f : List D → D} {C : Addr} {ns : List Str} {xs : List D} {n : Int} (hp : pre [.obj C ns xs]) (hn : f [.obj C ns xs] = .int n) (hb : 0 ≤ n ∧ n < 2 ^ 63) : Ca1 m K (rLenO C (spF K pre f)) [.obj C ns xs] (.int n) := fun vs H I rs Q q => by
  cases rs with
  | cons rv rs =>
    cases rs
    obtain ⟨a, dx, fs, rfl, ha, _⟩ := rv.ins
    exact ⟨a, dx, fs, rfl, ha, m.F, [.obj C ns xs], fun a f => m.fa I f, .cons rv .nil, hp, fun v d H' sd sm rv => ⟨n, (by rw [sd, hn] at rv; exact rv.intE), hb.1, hb.2, q _ _ H' rfl (m.grow I sm) (.int n)⟩⟩
theorem c_strO {pre : List D → Prop} {f : List D → D} {C : Addr} {ns : List Str} {xs : List D} {n : Str} (hp : pre [.obj C ns xs]) (hn : f [.obj C ns xs] = .str n) : Ca1 m K (rStrO C (spF K pre f)) [.obj C ns xs] (.str n) := fun vs H I rs Q q => by
  cases rs with
  | cons rv rs =>
    cases rs
    obtain ⟨a, dx, fs, rfl, ha, _⟩ := rv.ins
    exact ⟨a, dx, fs, rfl, ha, m.F, [.obj C ns xs], fun a f => m.fa I f, .cons rv .nil, hp, fun v d H' sd sm rv => ⟨n, (by rw [sd, hn] at rv; exact rv.strE), q _ _ H' rfl (m.grow I sm) (.str n)⟩⟩
theorem o_inO {pre : List D → Prop} {f : List D → D} {C : Addr} {ns : List Str} {xs : List D} {x : D} {b : Bool} (hp : pre [.obj C ns xs, x]) (hn : f [.obj C ns xs, x] = .bl b) : Op1 m K (rInO C (spF K pre f)) x (.obj C ns xs) (.bl b) := fun vx vo H I rx rv Q q => by
  obtain ⟨a, dx, fs, rfl, ha, _⟩ := rv.ins
  exact ⟨a, dx, fs, rfl, ha, m.F, [.obj C ns xs, x], fun a f => m.fa I f, .cons rv (.cons rx .nil), hp, fun v d H' sd sm rv => ⟨b, (by rw [sd, hn] at rv; exact rv.blE), q _ _ H' rfl (m.grow I sm) (.bl b)⟩⟩
theorem o_eqO {pre : List D → Prop} {f : List D → D} {C : Addr} {ns : List Str} {xs : List D} {x : D} {b : Bool} (hx : (∃ ns' xs', x = .obj C ns' xs') ∨ ((∃ ts, x = .tup ts) ∧ PySem.W.notFirst K C (.type "tuple") = true)) (hp : pre [.obj C ns xs, x]) (hn : f [.obj C ns xs, x] = .bl b) : Op1 m K (rEqO K C (spF K pre f)) (.obj C ns xs) x (.bl b) := fun vo vx H I rv rx Q q => by
  obtain ⟨a, dx, fs, rfl, ha, _⟩ := rv.ins
  refine ⟨a, dx, fs, rfl, ha, ?_, m.F, [.obj C ns xs, x], fun a f => m.fa I f, .cons rv (.cons rx .nil), hp, fun v d H' sd sm rv => ⟨b, (by rw [sd, hn] at rv; exact rv.blE), q _ _ H' rfl (m.grow I sm) (.bl b)⟩⟩
  rcases hx with ⟨ns', xs', e⟩ | ⟨⟨ts, e⟩, hnf⟩
  · subst e
    obtain ⟨a', dx', fs', rfl, ha', _⟩ := rx.ins
    exact .ins ha'
  · subst e
    obtain ⟨a', vs', rfl, hs, _⟩ := rx.tupE
    exact .tup hs hnf
/-! ### making an instance: its __init__ fills the fields -/
def spI (K : PySem.W.Frag) (C : Addr) (pre : List D → Prop) (ns : List Str) (f : List D → List D) : Sp := fun vs H Q _ => ∃ (F : Addr → Prop) (x dx : Addr) (ws : List V) (ds : List D), vs = .ref x :: ws ∧ H x = some (.ins C dx []) ∧ F x ∧ (∀ a, F a → H a ≠ none) ∧ RpAll K F H ws ds ∧ pre ds ∧
  ∀ fvs H', (∀ a o, a ≠ x → H a = some o → H' a = some o) → H' x = some (.ins C dx (ns.zip fvs)) → ns.length = fvs.length → RpAll K F H' fvs (f ds) → Q .non H'
theorem en_make {C : Addr} {pre : List D → Prop} {ns : List Str} {f : List D → List D} {dvs : List V} {dds : List D} {E : XK} {ta : TA} (h : EvA1 m K ta Γ ds) (hd : ∀ F H, RpAll K F H dvs dds) (hp : pre (ds ++ dds)) : Ev1 m K (tMake C (spI K C pre ns f) dvs E ta) Γ (.obj C ns (f (ds ++ dds))) := fun σ H e Q q =>
  h σ H e _ fun vs ds' H1 s r1 rs => by
    subst s
    intro x dx hx hdx hne
    have i1 := m.inv r1 e.i
    have s1 : Same H1 (upd (upd H1 dx (.own x)) x (.ins C dx [])) := same_chg (same_new hdx) hx
    refine ⟨fun a => m.F a ∨ a = x, x, dx, vs ++ dvs, ds' ++ dds, rfl, upd_same, .inr rfl, fun a f => ?_, ?_, hp, fun fvs H' k hx' hl ra => ⟨rfl, ?_⟩⟩
    · rcases f with f | f
      · cases q1 : H1 a with
        | none => exact absurd q1 (m.fa i1 f)
        | some o => rw [s1 a o q1]; exact fun z => nomatch z
      · rw [f, upd_same]; exact fun z => nomatch z
    · exact Rp.goAll (fun a o n q1 => ⟨fun z => z.elim n fun z => (by rw [z, hx] at q1; cases q1), s1 a o q1⟩) (rs.append (hd _ _))
    · have sm : Same H1 H' := fun a o q1 => k a o (fun z => by rw [z, hx] at q1; cases q1) (s1 a o q1)
      exact q _ _ H' rfl (m.trans r1 (m.grow i1 sm)) (.obj (fun f => m.fa i1 f hx) hx' hl (ra.weak fun a f => .inl f))
/-! ### a def by its body -/
def startG (N : List Str) (ds : List D) : G := ds.map some ++ List.replicate (N.length - ds.length) none
theorem er_start {H : Hp} {vs : List V} (i : m.I H) (ra : RpAll K m.F H vs ds) (N : List Str) : ER m K (startG N ds) (L2.start N vs) H := by
  refine ⟨i, ?_, fun j d h => ?_⟩
  · unfold startG L2.start
    rw [List.length_append, List.length_append, List.length_map, List.length_map, List.length_replicate, List.length_replicate, ra.len]
  · unfold startG at h
    unfold L2.start
    by_cases hj : j < ds.length
    · rw [List.getElem?_append_left (by rw [List.length_map]; exact hj), List.getElem?_map] at h
      cases e : ds[j]? with
      | none => rw [e] at h; cases h
      | some d' =>
        rw [e] at h
        cases h
        obtain ⟨v, h1, h2⟩ := ra.get e
        exact ⟨v, by rw [List.getElem?_append_left (by rw [List.length_map, ra.len]; exact hj), List.getElem?_map, h1]; rfl, h2⟩
    · rw [List.getElem?_append_right (by rw [List.length_map]; omega)] at h
      rw [List.getElem?_replicate] at h
      split at h <;> simp at h
section
variable {P : Program} {w : World} {mg : Str → Option Value} {base : Heap}
theorem fn_pure {x qual : Str} {st : Stmt} {f : Addr} {fd : FuncData} {N ps : List Str} {k : Nat} {pre : List D → Prop} {Sf : List D → D → Prop} (Fu : Fun K x qual st f fd) (Sc : FnScope N ps (defScope st)) (hl : ∀ ds, pre ds → ds.length = ps.length)
    (body : ∀ (cdv : Value) (A : Around) (outer : List Env) (s : Shared) (H : Hp) (E : XK), Room k (A.deeper (PyProof.Rows.envOfC qual (defScope st) s.heap.objs.size f cdv)) →
      ∃ t, PSs (cxOf CX0 P w K mg base N qual (defScope st) f cdv A outer s H E).nox (defBody st) t ∧ ∀ (F : Addr → Prop) (ds : List D), pre ds → SG (pureMo F) K t (startG N ds) { nx := fun _ => Sf ds .non, rt := Sf ds }) :
    FnOk P w K mg base CX0 (k + 1) f fd ps (spS K pre Sf) := by
  refine Fu.ok Sc (fun vs H Q E h => ?_) (fun cdv A outer s H vs Q E hr h => ?_)
  · obtain ⟨F, ds, _, ra, hp, _⟩ := h
    rw [ra.len]
    exact hl ds hp
  · obtain ⟨F, ds, hF, ra, hp, q⟩ := h
    obtain ⟨t, ht, hs⟩ := body cdv A outer s H E hr
    refine ⟨t, ht, hs F ds hp _ H (er_start (m := pureMo F) hF ra N) _ ⟨fun Γ' σ' H' o r _ => q _ _ H' o r .non, fun d v H' o r rv => q v d H' o r rv, fun _ _ _ o => o.elim, fun _ _ _ o => o.elim⟩⟩
end
/-! ### the pouch: a list of three ints that draws -/
def PI (H : Hp) (p : Addr) : Prop := ∃ a b c : Int, H p = some (.lst [.int a, .int b, .int c])
def RP (p : Addr) (H H' : Hp) : Prop := (∀ a o, a ≠ p → H a = some o → H' a = some o) ∧ (PI H p → PI H' p)
theorem PI.ne {H : Hp} {p : Addr} (h : PI H p) : H p ≠ none := by obtain ⟨a, b, c, e⟩ := h; rw [e]; exact fun z => nomatch z
def pouchMo (p : Addr) (F : Addr → Prop) : Mo where
  F := fun a => F a ∨ a = p
  R := RP p
  I := fun H => (∀ a, F a → H a ≠ none) ∧ PI H p
  refl := fun H => ⟨fun _ _ _ e => e, fun z => z⟩
  trans := fun a b => ⟨fun x o n e => b.1 x o n (a.1 x o n e), fun z => b.2 (a.2 z)⟩
  keep := fun r _ a o n e => r.1 a o (fun z => n (.inr z)) e
  grow := fun _ s => ⟨fun a o _ e => s a o e, fun ⟨a, b, c, e⟩ => ⟨a, b, c, s _ _ e⟩⟩
  inv := fun {H H'} r i => ⟨fun a f => by
    by_cases e : a = p
    · rw [e]; exact (r.2 i.2).ne
    · cases q : H a with
      | none => exact absurd q (i.1 a f)
      | some o => (rw [r.1 a o e q]; exact fun z => nomatch z), r.2 i.2⟩
  fa := fun i f => f.elim (fun f => i.1 _ f) fun e => e ▸ i.2.ne
  chg := fun {H H1 q o} i r hq => by
    have hpq : p ≠ q := fun z => i.2.ne (z ▸ hq)
    refine ⟨fun a u n e => by rw [upd_ne (ne_of_none e hq)]; exact r.1 a u n e, fun z => ?_⟩
    obtain ⟨x, y, w, e⟩ := r.2 z
    exact ⟨x, y, w, by rw [upd_ne hpq]; exact e⟩
  had := fun {H H' a} i r n => by
    by_cases e : a = p
    · rw [e]; exact (r.2 i.2).ne
    · cases q : H a with
      | none => exact absurd q n
      | some o => rw [r.1 a o e q]; exact fun z => nomatch z
structure HasP (m : Mo) (p : Addr) : Prop where
  r : ∀ H H', RP p H H' → m.R H H'
  i : ∀ H, m.I H → PI H p
  f : m.F p
theorem HasP.self (p : Addr) (F : Addr → Prop) : HasP (pouchMo p F) p := ⟨fun _ _ r => r, fun _ i => i.2, .inr rfl⟩
theorem HasP.le {m m' : Mo} {p : Addr} (h : HasP m p) (l : m.Le m') : HasP m' p := ⟨fun H H' r => by rw [l.R]; exact h.r H H' r, fun H i => h.i H (l.I H i), l.F p h.f⟩
def spP (K : PySem.W.Frag) (pre : List D → Prop) (S : List D → D → Prop) : Sp := fun vs H Q _ => ∃ (p : Addr) (F : Addr → Prop) (ws : List V) (ds : List D), vs = .ref p :: ws ∧ (∀ a, F a → H a ≠ none) ∧ PI H p ∧ RpAll K (fun a => F a ∨ a = p) H ws ds ∧ pre ds ∧ ∀ v d H', S ds d → RP p H H' → Rp K (fun a => F a ∨ a = p) H' v d → Q v H'
theorem en_pcall {p : Addr} {pre : List D → Prop} {Sf : List D → D → Prop} {E : XK} {ta : TA} {T : List D → Prop} (hp : HasP m p) (h : EvA m K ta Γ T) (hh : ∀ ds, T ds → ∃ es, ds = .adr p :: es ∧ pre es ∧ ∀ d, Sf es d → S d) : EvN m K (tCall (spP K pre Sf) [] E ta) Γ S := fun σ H e Q q =>
  h σ H e _ fun vs ds H1 s r1 rs => by
    obtain ⟨es, rfl, hpre, hs⟩ := hh ds s
    have i1 := m.inv r1 e.i
    cases rs with
    | cons rv rs =>
      obtain rfl := rv.adrE
      refine ⟨p, m.F, _, es, by rw [List.append_nil], fun a f => m.fa i1 f, hp.i H1 i1, Rp.goAll (fun a o n e => ⟨fun z => n (z.elim (fun z => z) fun z => z ▸ hp.f), e⟩) rs, hpre, fun v d H' sd r rv => q v d H' (hs d sd) (m.trans r1 (hp.r _ _ r)) (rv.weak fun a f => .inl f)⟩
theorem en_pcall1 {p : Addr} {pre : List D → Prop} {Sf : List D → D → Prop} {E : XK} {ta : TA} (hp : HasP m p) (h : EvA1 m K ta Γ (.adr p :: ds)) (h1 : pre ds) (h2 : ∀ d, Sf ds d → S d) : EvN m K (tCall (spP K pre Sf) [] E ta) Γ S := en_pcall hp h fun x e => ⟨ds, e, h1, h2⟩
section
variable {P : Program} {w : World} {mg : Str → Option Value} {base : Heap}
theorem fn_pouch {x qual : Str} {st : Stmt} {f : Addr} {fd : FuncData} {N ps : List Str} {k : Nat} {pre : List D → Prop} {Sf : List D → D → Prop} (Fu : Fun K x qual st f fd) (Sc : FnScope N ps (defScope st)) (hl : ∀ ds, pre ds → ds.length + 1 = ps.length)
    (body : ∀ (cdv : Value) (A : Around) (outer : List Env) (s : Shared) (H : Hp) (E : XK), Room k (A.deeper (PyProof.Rows.envOfC qual (defScope st) s.heap.objs.size f cdv)) →
      ∃ t, PSs (cxOf CX0 P w K mg base N qual (defScope st) f cdv A outer s H E).nox (defBody st) t ∧ ∀ (p : Addr) (F : Addr → Prop) (ds : List D), pre ds → SG (pouchMo p F) K t (startG N (.adr p :: ds)) { nx := fun _ => Sf ds .non, rt := Sf ds }) :
    FnOk P w K mg base CX0 (k + 1) f fd ps (spP K pre Sf) := by
  refine Fu.ok Sc (fun vs H Q E h => ?_) (fun cdv A outer s H vs Q E hr h => ?_)
  · obtain ⟨p, F, ws, ds, rfl, _, _, ra, hp, _⟩ := h
    rw [List.length_cons, ra.len]
    exact hl ds hp
  · obtain ⟨p, F, ws, ds, rfl, hF, hpi, ra, hp, q⟩ := h
    obtain ⟨t, ht, hs⟩ := body cdv A outer s H E hr
    exact ⟨t, ht, hs p F ds hp _ H (er_start (m := pouchMo p F) ⟨hF, hpi⟩ (.cons (.adr p) ra) N) _ ⟨fun Γ' σ' H' o r _ => q _ _ H' o r .non, fun d v H' o r rv => q v d H' o r rv, fun _ _ _ o => o.elim, fun _ _ _ o => o.elim⟩⟩
end
/-- a new pouch -/
def EvNew (m : Mo) (K : PySem.W.Frag) (te : TE) (Γ : G) : Prop := ∀ σ H, ER m K Γ σ H → ∀ Q : VK, (∀ p H', H p = none → Same H H' → PI H' p → Q (.ref p) H') → te σ H Q
theorem sq_pouch {i : Nat} {F : Addr → Prop} (h : EvNew (pureMo F) K te Γ) (k : ∀ p, SG (pouchMo p F) K tv (Γ.set i (some (.adr p))) O) : SG (pureMo F) K (tSeq (tAsg te (gName i)) tv) Γ O := fun σ H e E M =>
  h σ H e _ fun p H' hp sm hpi => by
    have iP : (pouchMo p F).I H' := ⟨fun a f => (pureMo F).had e.i sm (e.i a f), hpi⟩
    have eP : ER (pouchMo p F) K Γ σ H' := ⟨iP, e.len, fun i d h => let ⟨v, h1, h2⟩ := e.at_ i d h; ⟨v, h1, h2.go fun a o n x => ⟨fun z => z.elim n fun z => (by rw [z, hp] at x; cases x), sm a o x⟩⟩⟩
    have up : ∀ {H2 : Hp}, RP p H' H2 → Same H H2 := fun r a o x => r.1 a o (fun z => by rw [z, hp] at x; cases x) (sm a o x)
    have down : ∀ {Γ' : G} {σ' : L2.St} {H2 : Hp}, ER (pouchMo p F) K Γ' σ' H2 → ER (pureMo F) K Γ' σ' H2 := fun e2 => ⟨e2.i.1, e2.len, fun i d h => let ⟨v, h1, h2⟩ := e2.at_ i d h; ⟨v, h1, h2.weak fun a f => .inl f⟩⟩
    exact k p _ H' (eP.set i (.adr p)) E ⟨fun Γ' σ' H2 o r e2 => M.nx Γ' σ' H2 o (up r) (down e2), fun d v H2 o r rv => M.rt d v H2 o (up r) (rv.weak fun a f => .inl f), fun Γ' σ' H2 o r e2 => M.bk Γ' σ' H2 o (up r) (down e2), fun Γ' σ' H2 o r e2 => M.ct Γ' σ' H2 o (up r) (down e2)⟩
end
end Tx

set_option Elab.async false
set_option linter.all false
set_option maxRecDepth 100000
set_option maxHeartbeats 1000000
set_option autoImplicit false
/-! Tx: operators for every kind of operand, texts, isinstance -/
namespace Tx
open PySem L2
section
variable {X : Cx}
def rAddU (K : PySem.W.Frag) : R2 := fun x y H Q => (rI0 fun i j => .int (i + j)) x y H Q ∨ rCatA K x y H Q ∨ rCat x y H Q ∨ (∃ i j, x = .str i ∧ y = .str j ∧ i.length + j.length ≤ sizeLine ∧ Q (.str (i ++ j)) H)
theorem op_addU : OpR X (binaryOp .Add) (rAddU X.K) := op_add.or (op_catA.or (op_cat.or op_add_str))
def rMulU (K : PySem.W.Frag) : R2 := fun x y H Q => (rI CMul fun i j => .int (i * j)) x y H Q ∨ (rI CMulW fun i j => .int (i * j)) x y H Q ∨ rRepS K x y H Q
theorem op_mulU : OpR X (binaryOp .Mult) (rMulU X.K) := op_mul.or (op_mulW.or op_repS)
/-- == and != of data | of an own instance -/
def rEqU (K : PySem.W.Frag) (C : Addr) (sp : Sp) : R2 := fun x y H Q => rEqD K x y H Q ∨ rEqO K C sp x y H Q
theorem op_eqU {C f : Addr} {n : Nat} {sp : Sp} (O : Own X C "__eq__" n f sp) (hr : Room n X.A) (hu : X.A.units + 64 < cLine) : OpR X (compareOp .Eq) (rEqU X.K C sp) := (op_eqD hu).or (op_eqO O hr)
def rInU (K : PySem.W.Frag) (C : Addr) (sp : Sp) : R2 := fun x y H Q => rInS K false x y H Q ∨ rInO C sp x y H Q
theorem op_inU {C f : Addr} {n : Nat} {sp : Sp} (O : Own X C "__contains__" n f sp) (hr : Room n X.A) (hu : X.A.units + 65 < cLine) : OpR X (compareOp .In) (rInU X.K C sp) := (op_inS hu).or (op_inO O hr)
theorem callR_or {f : Value} {r r' : List V → Hp → VK → Prop} (h : CallR X f r) (h' : CallR X f r') : CallR X f (fun vs H Q => r vs H Q ∨ r' vs H Q) := by
  intro pins s σ H vs us Q I rr q
  rcases q with q | q
  · exact h pins s σ H vs us Q I rr q
  · exact h' pins s σ H vs us Q I rr q
def rLenS (K : PySem.W.Frag) : List V → Hp → VK → Prop := fun xs H Q => ∃ x n, xs = [x] ∧ LenV K x H n ∧ Q (.int (n : Nat)) H
theorem cr_len : CallR X (.builtin "len") (rLenS X.K) := call_len
def rLenU (K : PySem.W.Frag) (C : Addr) (sp : Sp) : List V → Hp → VK → Prop := fun vs H Q => rLenS K vs H Q ∨ rLenO C sp vs H Q
theorem cr_lenU {C f : Addr} {n : Nat} {sp : Sp} (O : Own X C "__len__" n f sp) (hr : Room (n + 1) X.A) : CallR X (.builtin "len") (rLenU X.K C sp) := callR_or cr_len (cr_lenO O hr)
def rStrI : List V → Hp → VK → Prop := fun xs H Q => ∃ i, xs = [.int i] ∧ i.natAbs.log2 < 1920 ∧ Q (.str (toString i)) H
theorem cr_strI : CallR X (.type "str") rStrI := call_str_int
def rStrU (C : Addr) (sp : Sp) : List V → Hp → VK → Prop := fun vs H Q => rStrI vs H Q ∨ rStrO C sp vs H Q
theorem cr_strU {C f : Addr} {n : Nat} {sp : Sp} (O : Own X C "__str__" n f sp) (hr : Room (n + 2) X.A) : CallR X (.type "str") (rStrU C sp) := callR_or cr_strI (cr_strO O hr)
def rTup (K : PySem.W.Frag) : List V → Hp → VK → Prop := fun xs H Q => ∃ p ys, xs = [V.ref p] ∧ ((SqL K H p ys ∧ ∀ (l : Addr), H l = none → Q (.ref l) (upd H l (.tup ys))) ∨ SqT K H p ys ∧ Q (.ref p) H)
theorem cr_tup : CallR X (.type "tuple") (rTup X.K) := call_tuple_of
def rLst (K : PySem.W.Frag) : List V → Hp → VK → Prop := fun xs H Q => ∃ p ys, xs = [V.ref p] ∧ (SqL K H p ys ∨ SqT K H p ys) ∧ ∀ (l : Addr), H l = none → Q (.ref l) (upd H l (.lst ys))
theorem cr_lst : CallR X (.type "list") (rLst X.K) := call_list_of
def rInt : List V → Hp → VK → Prop := fun xs H Q => (∃ i, xs = [.int i] ∧ Q (.int i) H) ∨ ∃ k, xs = [.bl k] ∧ Q (.int (if k then 1 else 0)) H
theorem cr_int : CallR X (.type "int") rInt := call_int1
def rAbs : List V → Hp → VK → Prop := fun xs H Q => ∃ i, xs = [.int i] ∧ Q (.int (if i < 0 then -i else i)) H
theorem cr_abs : CallR X (.builtin "abs") rAbs := call_abs
def rMaxU (K : PySem.W.Frag) : List V → Hp → VK → Prop := fun vs H Q => (∃ i j, vs = [.int i, .int j] ∧ Q (.int (if j > i then j else i)) H) ∨ rMaxS K vs H Q
theorem cr_maxU (hc : X.calm = true) (hu : X.A.units + 64 < cLine) : CallR X (.builtin "max") (rMaxU X.K) := callR_or (call_max2 hc) (cr_maxS hc hu)
def rMin2 : List V → Hp → VK → Prop := fun vs H Q => ∃ i j, vs = [.int i, .int j] ∧ Q (.int (if j < i then j else i)) H
theorem cr_min2 (hc : X.calm = true) : CallR X (.builtin "min") rMin2 := call_min2 hc
end
section
variable {K : PySem.W.Frag} {m : Mo} {Γ : G} {ta tb te : TE} {d : D} {ds : List D} {S : D → Prop}
theorem o_addI {i j : Int} : Op1 m K (rAddU K) (.int i) (.int j) (.int (i + j)) := fun x y H I rx ry Q q => .inl (o_int (g := fun i j => i + j) x y H I rx ry Q q)
theorem o_addT {as bs : List D} (hl : as.length + bs.length ≤ 100000) : Op1 m K (rAddU K) (.tup as) (.tup bs) (.tup (as ++ bs)) := fun x y H I rx ry Q q => .inr (.inl (o_catT hl x y H I rx ry Q q))
theorem o_addL {as bs : List D} (hl : as.length + bs.length ≤ 100000) : Op1 m K (rAddU K) (.lst as) (.lst bs) (.lst (as ++ bs)) := fun x y H I rx ry Q q => .inr (.inr (.inl (o_catL hl x y H I rx ry Q q)))
theorem o_addS {a b : Str} (hl : a.length + b.length ≤ 100000) : Op1 m K (rAddU K) (.str a) (.str b) (.str (a ++ b)) := fun x y H I rx ry Q q => .inr (.inr (.inr ⟨a, b, rx.strE, ry.strE, Nat.le_trans hl (by decide), q _ _ H rfl (m.refl H) (.str _)⟩))
theorem o_mulI {i j : Int} (hc : CMul i j) : Op1 m K (rMulU K) (.int i) (.int j) (.int (i * j)) := fun x y H I rx ry Q q => .inl (o_intC (g := fun i j => i * j) hc x y H I rx ry Q q)
theorem o_mulW {i j : Int} (hc : CMulW i j) : Op1 m K (rMulU K) (.int i) (.int j) (.int (i * j)) := fun x y H I rx ry Q q => .inr (.inl (o_intC (g := fun i j => i * j) hc x y H I rx ry Q q))
theorem o_mulT {k : Int} (hn : ds ≠ []) (hk : 1 ≤ k ∧ k ≤ 1000) (hl : ds.length ≤ 1000) : Op1 m K (rMulU K) (.tup ds) (.int k) (.tup (List.replicate k.toNat ds).flatten) := fun x y H I rx ry Q q => .inr (.inr (o_repT hn hk hl x y H I rx ry Q q))
theorem o_eqUD {C : Addr} {sp : Sp} {a b : D} (ha : a.plain = true) (hb : b.plain = true) (sa : SeqAt.shaped a.py = true) (sb : SeqAt.shaped b.py = true) : Op1 m K (rEqU K C sp) a b (.bl (PyData.eqv a.py b.py)) := fun x y H I rx ry Q q => .inl (o_eqD ha hb sa sb x y H I rx ry Q q)
theorem o_eqUO {C : Addr} {pre : List D → Prop} {f : List D → D} {ns : List Str} {xs : List D} {x : D} {b : Bool} (hx : (∃ ns' xs', x = .obj C ns' xs') ∨ ((∃ ts, x = .tup ts) ∧ PySem.W.notFirst K C (.type "tuple") = true)) (hp : pre [.obj C ns xs, x]) (hn : f [.obj C ns xs, x] = .bl b) : Op1 m K (rEqU K C (spF K pre f)) (.obj C ns xs) x (.bl b) := fun vx vy H I rx ry Q q => .inr (o_eqO hx hp hn vx vy H I rx ry Q q)
theorem o_inUO {C : Addr} {pre : List D → Prop} {f : List D → D} {ns : List Str} {xs : List D} {x : D} {b : Bool} (hp : pre [.obj C ns xs, x]) (hn : f [.obj C ns xs, x] = .bl b) : Op1 m K (rInU K C (spF K pre f)) x (.obj C ns xs) (.bl b) := fun vx vy H I rx ry Q q => .inr (o_inO hp hn vx vy H I rx ry Q q)
theorem o_inUS {C : Addr} {sp : Sp} {a b : D} (hd : isSeq b ds) (ha : a.plain = true) (hb : D.plains ds = true) (sa : SeqAt.shaped a.py = true) (sb : SeqAt.shaped (.list (D.pys ds)) = true) : Op1 m K (rInU K C sp) a b (.bl ((D.pys ds).any fun z => PyData.eqv z a.py)) := fun x y H I rx ry Q q => .inl (o_inS (neg := false) hd ha hb sa sb x y H I rx ry Q q)
theorem c_lenU {C : Addr} {sp : Sp} {b : D} (hd : isSeq b ds) : Ca1 m K (rLenU K C sp) [b] (.int ds.length) := fun vs H I rs Q q => .inl (c_len hd vs H I rs Q q)
theorem c_lenUO {C : Addr} {pre : List D → Prop} {f : List D → D} {ns : List Str} {xs : List D} {n : Int} (hp : pre [.obj C ns xs]) (hn : f [.obj C ns xs] = .int n) (hb : 0 ≤ n ∧ n < 2 ^ 63) : Ca1 m K (rLenU K C (spF K pre f)) [.obj C ns xs] (.int n) := fun vs H I rs Q q => .inr (c_lenO hp hn hb vs H I rs Q q)
theorem c_strI {i : Int} (h : i.natAbs.log2 < 1920) : Ca1 m K rStrI [.int i] (.str (toString i)) := fun vs H I rs Q q => by
  cases rs with
  | cons rv rs => cases rs; exact ⟨i, by rw [rv.intE], h, q _ _ H rfl (m.refl H) (.str _)⟩
theorem c_strU {C : Addr} {sp : Sp} {i : Int} (h : i.natAbs.log2 < 1920) : Ca1 m K (rStrU C sp) [.int i] (.str (toString i)) := fun vs H I rs Q q => .inl (c_strI (K := K) h vs H I rs Q q)
theorem c_strUO {C : Addr} {pre : List D → Prop} {f : List D → D} {ns : List Str} {xs : List D} {n : Str} (hp : pre [.obj C ns xs]) (hn : f [.obj C ns xs] = .str n) : Ca1 m K (rStrU C (spF K pre f)) [.obj C ns xs] (.str n) := fun vs H I rs Q q => .inr (c_strO hp hn vs H I rs Q q)
theorem c_intI {i : Int} : Ca1 m K rInt [.int i] (.int i) := fun vs H I rs Q q => by
  cases rs with
  | cons rv rs => cases rs; exact .inl ⟨i, by rw [rv.intE], q _ _ H rfl (m.refl H) (.int _)⟩
theorem c_intB {i : Bool} : Ca1 m K rInt [.bl i] (.int (if i then 1 else 0)) := fun vs H I rs Q q => by
  cases rs with
  | cons rv rs => cases rs; exact .inr ⟨i, by rw [rv.blE], q _ _ H rfl (m.refl H) (.int _)⟩
theorem c_abs {i : Int} : Ca1 m K rAbs [.int i] (.int (if i < 0 then -i else i)) := fun vs H I rs Q q => by
  cases rs with
  | cons rv rs => cases rs; exact ⟨i, by rw [rv.intE], q _ _ H rfl (m.refl H) (.int _)⟩
theorem c_max2 {i j : Int} : Ca1 m K (rMaxU K) [.int i, .int j] (.int (if j > i then j else i)) := fun vs H I rs Q q => by
  cases rs with
  | cons rv rs => cases rs with
    | cons rw' rs => cases rs; exact .inl ⟨i, j, by rw [rv.intE, rw'.intE], q _ _ H rfl (m.refl H) (.int _)⟩
theorem c_maxU {b : D} {n : Int} {ns : List Int} (hd : isSeq b ((n :: ns).map D.int)) : Ca1 m K (rMaxU K) [b] (.int (ns.foldl max n)) := fun vs H I rs Q q => .inr (c_max hd vs H I rs Q q)
theorem c_min2 {i j : Int} : Ca1 m K rMin2 [.int i, .int j] (.int (if j < i then j else i)) := fun vs H I rs Q q => by
  cases rs with
  | cons rv rs => cases rs with
    | cons rw' rs => cases rs; exact ⟨i, j, by rw [rv.intE, rw'.intE], q _ _ H rfl (m.refl H) (.int _)⟩
/-! ### is None -/
def isNonD : D → Bool
  | .non => true | _ => false
theorem en_isN (h : Ev1 m K te Γ d) : Ev1 m K (tIsN te) Γ (.bl (isNonD d)) := fun σ H e Q q =>
  h σ H e _ fun v d' H1 s r1 rv => by
    subst s
    have : decide (v = V.non) = isNonD d' := by cases rv <;> simp [isNonD]
    rw [this]
    exact q _ _ H1 rfl r1 (.bl _)
/-! ### isinstance -/
def tyD : D → Option String
  | .non => some "NoneType" | .bl _ => some "bool" | .int _ => some "int" | .str _ => some "str" | .lst _ => some "list" | .tup _ => some "tuple" | .dic => some "dict"
  | _ => none
theorem tyx_of {F : Addr → Prop} {H : Hp} {v : V} {t : String} (r : Rp K F H v d) (h : tyD d = some t) : TyX K H v (.type t) := by
  cases r with
  | non => cases h; exact .base .non
  | bl b => cases h; exact .base (.bl b)
  | int i => cases h; exact .base (.int i)
  | str s => cases h; exact .base (.str s)
  | lst n e t => cases h; exact .base (.lst e)
  | tup n e t =>
    cases h
    rcases e with e | ⟨o, e⟩
    · exact .base (.tup e)
    · exact .fTuple e
  | ktup e t => cases h; obtain ⟨o, its, n, h1, h2, _⟩ := e; exact .kTuple h1 h2
  | obj n e l t => cases h
  | adr a => cases h
  | dic n e => cases h; exact .base (.dK e)
  | dct n e h1 h2 h3 => cases h
  | frl n e t => cases h
  | kfrl e t => cases h
  | ftp n e c e2 t => cases h
theorem en_isi {n t : String} {b : Bool} (h : Ev1 m K te Γ d) (ht : tyD d = some t) (hk : kitB t n = some b) : Ev1 m K (tCB (rIsi K) (tCons te (tCons (tC (.ty n)) tNil))) Γ (.bl b) := fun σ H e Q q =>
  h σ H e _ fun v d' H1 s r1 rv => by
    subst s
    exact ⟨v, .ty n, .type t, .type n, b, rfl, .ty n, tyx_of rv ht, kit_ty hk, q _ _ H1 rfl r1 (.bl _)⟩
/-- an own class -/
theorem en_isiC {C : Addr} {ns : List Str} {xs : List D} (h : Ev1 m K te Γ (.obj C ns xs)) (ic : C8.InsC K C) : Ev1 m K (tCB (rIsi K) (tCons te (tCons (tC (.ref C)) tNil))) Γ (.bl true) := fun σ H e Q q =>
  h σ H e _ fun v d' H1 s r1 rv => by
    subst s
    obtain ⟨a, dx, fs, rfl, ha, _⟩ := rv.ins
    exact ⟨.ref a, .ref C, .ref C, .ref C, true, rfl, .own C, .base (.ins ha ic.cl ic.ha ic.hn ic.htk ic.hm), by unfold PySem.W.kitOne; rw [if_pos (by simp)], q _ _ H1 rfl r1 (.bl _)⟩
theorem en_isiN {C : Addr} {t : String} (h : Ev1 m K te Γ d) (ht : tyD d = some t) (hk : PySem.W.kitOne K (.type t) (.ref C) = some false) : Ev1 m K (tCB (rIsi K) (tCons te (tCons (tC (.ref C)) tNil))) Γ (.bl false) := fun σ H e Q q =>
  h σ H e _ fun v d' H1 s r1 rv => by
    subst s
    exact ⟨v, .ref C, .type t, .ref C, false, rfl, .own C, tyx_of rv ht, hk, q _ _ H1 rfl r1 (.bl _)⟩
/-! ### texts -/
theorem en_fmtI {i : Int} (h : Ev1 m K te Γ (.int i)) (hz : i.natAbs.log2 < 1920) : Ev1 m K (tFmt te) Γ (.str (toString i)) := fun σ H e Q q =>
  h σ H e _ fun v d' H1 s r1 rv => by subst s; exact .inr ⟨i, rv.intE, hz, q _ _ H1 rfl r1 (.str _)⟩
theorem en_fmtS {i : Str} (h : Ev1 m K te Γ (.str i)) (hz : i.length ≤ 100000) : Ev1 m K (tFmt te) Γ (.str i) := fun σ H e Q q =>
  h σ H e _ fun v d' H1 s r1 rv => by subst s; exact .inl ⟨i, rv.strE, Nat.le_trans hz (by decide), q _ _ H1 rfl r1 (.str _)⟩
inductive Js (m : Mo) (K : PySem.W.Frag) (Γ : G) : List TE → Str → Str → Prop
  | nil {acc : Str} : Js m K Γ [] acc acc
  | cons {t : TE} {ts : List TE} {acc y out : Str} : Ev1 m K t Γ (.str y) → (acc ++ y).length ≤ 100000 → Js m K Γ ts (acc ++ y) out → Js m K Γ (t :: ts) acc out
theorem js_run {ts : List TE} {acc out : Str} (j : Js m K Γ ts acc out) : ∀ (σ : L2.St) (H : Hp), ER m K Γ σ H → ∀ Q : Str → Hp → Prop, (∀ H', m.R H H' → Q out H') → tJs ts acc σ H Q := by
  induction j with
  | nil => intro σ H e Q q; exact q H (m.refl H)
  | cons h hl _ ih =>
    intro σ H e Q q
    exact h σ H e _ fun v d' H1 s r1 rv => by subst s; exact ⟨_, rv.strE, Nat.le_trans hl (by decide), ih σ H1 (e.mv r1) Q fun H' r2 => q H' (m.trans r1 r2)⟩
theorem en_js {ts : List TE} {out : Str} (j : Js m K Γ ts Str.empty out) : Ev1 m K (fun σ H Q => tJs ts Str.empty σ H fun out H1 => Q (.str out) H1) Γ (.str out) := fun σ H e Q q => js_run j σ H e _ fun H' r => q _ _ H' rfl r (.str _)
theorem en_join {b : D} {sep : Str} {ys : List Str} (hs : Ev1 m K ta Γ (.str sep)) (h : Ev1 m K te Γ b) (hb : isSeq b (ys.map D.str)) (hl : (ys.map (·.length)).sum + ys.length * sep.length ≤ 16777216) :
    Ev1 m K (tM1 (fun x xs H Q => ∃ a p, ∃ ys : List Str, x = .str a ∧ xs = [.ref p] ∧ (SqL K H p (ys.map V.str) ∨ SqT K H p (ys.map V.str)) ∧ (ys.map (·.length)).sum + ys.length * a.length ≤ 16777216 ∧ Q (.str (Txt.join a ys)) H) ta te) Γ (.str (Txt.join sep ys)) := fun σ H e Q q =>
  hs σ H e _ fun v d' H1 s r1 rv => by
    subst s
    refine ⟨⟨_, rv.strE⟩, h σ H1 (e.mv r1) _ fun w d'' H2 s2 r2 rw' => ?_⟩
    subst s2
    have i2 := m.inv r2 (m.inv r1 e.i)
    obtain ⟨a, vs, rfl, ra, hq⟩ := seq_stands i2 rw' hb
    have ev := ra.strs
    subst ev
    refine ⟨sep, a, ys, rv.strE, rfl, ?_, hl, q _ _ H2 rfl (m.trans r1 r2) (.str _)⟩
    rcases hq with hq | hq
    · exact .inl (hq H2 (m.refl H2))
    · exact .inr (hq H2 (m.refl H2))
/-! ### truth of a sequence as a test -/
theorem et_truth (h : Ev1 m K te Γ d) (hd : isSeq d ds) : EvT1 m K (fun σ H Q => te σ H fun x H' => ∃ k, TruV K x H' k ∧ Q k H') Γ (!ds.isEmpty) := fun σ H e Q q =>
  h σ H e _ fun v d' H1 s r1 rv => by
    subst s
    have i1 := m.inv r1 e.i
    obtain ⟨a, vs, rfl, ra, hq⟩ := seq_stands i1 rv hd
    have em : vs.isEmpty = ds.isEmpty := by cases ra <;> rfl
    refine ⟨!ds.isEmpty, ?_, q _ H1 rfl r1⟩
    rcases hq with hq | hq
    · exact .inl ⟨vs, hq H1 (m.refl H1), by rw [em]⟩
    · exact .inr (.inl ⟨vs, hq H1 (m.refl H1), by rw [em]⟩)
end
end Tx

set_option Elab.async false
set_option linter.all false
set_option maxRecDepth 100000
set_option maxHeartbeats 1000000
set_option autoImplicit false
/-! Tx: isinstance of the built-in classes by data -/
namespace Tx
open PySem L2
theorem hu65 {k : Nat} {A : Around} (hr : Room k A) : A.units + 65 < cLine := by have := hr.un; omega
def okD (d : D) : Bool := (tyD d).isSome
def isIntD : D → Bool | .int _ => true | .bl _ => true | _ => false
def isBoolD : D → Bool | .bl _ => true | _ => false
def isTupD : D → Bool | .tup _ => true | _ => false
def isStrD : D → Bool | .str _ => true | _ => false
section
variable {K : PySem.W.Frag} {m : Mo} {Γ : G} {te : TE} {d : D}
theorem en_isInt (h : Ev1 m K te Γ d) (hd : okD d = true) : Ev1 m K (tCB (rIsi K) (tCons te (tCons (tC (.ty "int")) tNil))) Γ (.bl (isIntD d)) := by
  cases d <;> first
    | exact en_isi (t := "NoneType") (b := false) h rfl (by decide +kernel)
    | exact en_isi (t := "bool") (b := true) h rfl (by decide +kernel)
    | exact en_isi (t := "dict") (b := false) h rfl (by decide +kernel)
    | exact en_isi (t := "int") (b := true) h rfl (by decide +kernel)
    | exact en_isi (t := "list") (b := false) h rfl (by decide +kernel)
    | exact en_isi (t := "str") (b := false) h rfl (by decide +kernel)
    | exact en_isi (t := "tuple") (b := false) h rfl (by decide +kernel)
    | (exact absurd hd (by simp [okD, tyD]))
theorem en_isBool (h : Ev1 m K te Γ d) (hd : okD d = true) : Ev1 m K (tCB (rIsi K) (tCons te (tCons (tC (.ty "bool")) tNil))) Γ (.bl (isBoolD d)) := by
  cases d <;> first
    | exact en_isi (t := "NoneType") (b := false) h rfl (by decide +kernel)
    | exact en_isi (t := "bool") (b := true) h rfl (by decide +kernel)
    | exact en_isi (t := "dict") (b := false) h rfl (by decide +kernel)
    | exact en_isi (t := "int") (b := false) h rfl (by decide +kernel)
    | exact en_isi (t := "list") (b := false) h rfl (by decide +kernel)
    | exact en_isi (t := "str") (b := false) h rfl (by decide +kernel)
    | exact en_isi (t := "tuple") (b := false) h rfl (by decide +kernel)
    | (exact absurd hd (by simp [okD, tyD]))
theorem en_isTup (h : Ev1 m K te Γ d) (hd : okD d = true) : Ev1 m K (tCB (rIsi K) (tCons te (tCons (tC (.ty "tuple")) tNil))) Γ (.bl (isTupD d)) := by
  cases d <;> first
    | exact en_isi (t := "NoneType") (b := false) h rfl (by decide +kernel)
    | exact en_isi (t := "bool") (b := false) h rfl (by decide +kernel)
    | exact en_isi (t := "dict") (b := false) h rfl (by decide +kernel)
    | exact en_isi (t := "int") (b := false) h rfl (by decide +kernel)
    | exact en_isi (t := "list") (b := false) h rfl (by decide +kernel)
    | exact en_isi (t := "str") (b := false) h rfl (by decide +kernel)
    | exact en_isi (t := "tuple") (b := true) h rfl (by decide +kernel)
    | (exact absurd hd (by simp [okD, tyD]))
theorem en_isStr (h : Ev1 m K te Γ d) (hd : okD d = true) : Ev1 m K (tCB (rIsi K) (tCons te (tCons (tC (.ty "str")) tNil))) Γ (.bl (isStrD d)) := by
  cases d <;> first
    | exact en_isi (t := "NoneType") (b := false) h rfl (by decide +kernel)
    | exact en_isi (t := "bool") (b := false) h rfl (by decide +kernel)
    | exact en_isi (t := "dict") (b := false) h rfl (by decide +kernel)
    | exact en_isi (t := "int") (b := false) h rfl (by decide +kernel)
    | exact en_isi (t := "list") (b := false) h rfl (by decide +kernel)
    | exact en_isi (t := "str") (b := true) h rfl (by decide +kernel)
    | exact en_isi (t := "tuple") (b := false) h rfl (by decide +kernel)
    | (exact absurd hd (by simp [okD, tyD]))
end
end Tx

set_option Elab.async false
set_option linter.all false
set_option maxRecDepth 100000
set_option maxHeartbeats 1000000
set_option autoImplicit false
/-! Tx: lists of natural numbers as data -/
namespace Tx
open PySem L2
abbrev dN (k : Nat) : D := .int (k : Int)
abbrev tupN (l : List Nat) : D := .tup (l.map dN)
abbrev lstN (l : List Nat) : D := .lst (l.map dN)
theorem dN_ints (l : List Nat) : l.map dN = (l.map fun k : Nat => (k : Int)).map D.int := by rw [List.map_map]; rfl
theorem plains_dN : ∀ l : List Nat, D.plains (l.map dN) = true
  | [] => rfl
  | k :: l => by simp [D.plains, D.plain, plains_dN l]
theorem pys_dN : ∀ l : List Nat, D.pys (l.map dN) = l.map fun k : Nat => PyData.int (k : Int)
  | [] => rfl
  | k :: l => by simp [D.pys, D.py, pys_dN l]
theorem lay_ints : ∀ l : List Nat, PyData.canLayAll0 (l.map fun k : Nat => PyData.int (k : Int)) = true
  | [] => by simp [PyData.canLayAll0]
  | k :: l => by simp [PyData.canLayAll0, PyData.canLay0, lay_ints l]
theorem dep_ints : ∀ l : List Nat, PyData.depthAll (l.map fun k : Nat => PyData.int (k : Int)) = 0
  | [] => by simp [PyData.depthAll]
  | k :: l => by simp [PyData.depthAll, PyData.depth, dep_ints l]
theorem sh_int (i : Int) : SeqAt.shaped (PyData.int i) = true := by simp [SeqAt.shaped, PyData.canLay0, PyData.depth]
theorem sh_str (i : Str) (h : PyData.strOk i = true) : SeqAt.shaped (PyData.str i) = true := by simp [SeqAt.shaped, PyData.canLay0, PyData.depth, h]
theorem sh_ints (l : List Nat) : SeqAt.shaped (.list (D.pys (l.map dN))) = true := by
  rw [pys_dN]
  simp [SeqAt.shaped, PyData.canLay0, lay_ints, PyData.depth, dep_ints]
theorem any_ints (l : List Nat) (k : Nat) : ((D.pys (l.map dN)).any fun z => PyData.eqv z (dN k).py) = decide (k ∈ l) := by
  rw [pys_dN]
  induction l with
  | nil => simp
  | cons a l ih =>
    rw [List.map_cons, List.any_cons, ih]
    simp only [D.py, PyData.eqv, List.mem_cons]
    by_cases h : a = k
    · subst h; simp
    · have h2 : ¬ k = a := fun z => h z.symm
      have h3 : ((a : Int) == (k : Int)) = false := by simp; omega
      simp [h2, h3]
theorem eqv_int (i j : Int) : PyData.eqv (PyData.int i) (.int j) = (i == j) := by simp [PyData.eqv]
theorem beq_dec (i j : Int) : (i == j) = decide (i = j) := by by_cases h : i = j <;> simp [h]
section
variable {K : PySem.W.Frag} {m : Mo} {Γ : G} {te : TE} {d : D}
theorem o_inN {k : Nat} {l : List Nat} {b : D} (hb : isSeq b (l.map dN)) : Op1 m K (rInS K false) (dN k) b (.bl (decide (k ∈ l))) := by
  have h := o_inS (m := m) (K := K) (neg := false) (a := dN k) hb rfl (plains_dN l) (sh_int _) (sh_ints l)
  rw [any_ints] at h
  exact h
theorem o_niN {k : Nat} {l : List Nat} {b : D} (hb : isSeq b (l.map dN)) : Op1 m K (rInS K true) (dN k) b (.bl (!decide (k ∈ l))) := by
  have h := o_inS (m := m) (K := K) (neg := true) (a := dN k) hb rfl (plains_dN l) (sh_int _) (sh_ints l)
  rw [any_ints] at h
  exact h
theorem o_eqI {i j : Int} : Op1 m K (rEqD K) (.int i) (.int j) (.bl (decide (i = j))) := by
  have h := o_eqD (m := m) (K := K) (a := .int i) (b := .int j) rfl rfl (sh_int _) (sh_int _)
  have e : PyData.eqv (D.int i).py (D.int j).py = decide (i = j) := by simp only [D.py, PyData.eqv]; exact beq_dec i j
  rw [e] at h
  exact h
theorem o_neI {i j : Int} : Op1 m K (rNeD K) (.int i) (.int j) (.bl (!decide (i = j))) := by
  have h := o_neD (m := m) (K := K) (a := .int i) (b := .int j) rfl rfl (sh_int _) (sh_int _)
  have e : PyData.eqv (D.int i).py (D.int j).py = decide (i = j) := by simp only [D.py, PyData.eqv]; exact beq_dec i j
  rw [e] at h
  exact h
theorem rngD_N (n : Nat) : rngD 0 n = (List.range n).map dN := by
  unfold rngD
  exact List.map_congr_left fun i _ => by rw [Int.zero_add]
theorem it_rng {ta : TA} {n : Nat} (h : EvA1 m K ta Γ [dN n]) (hn : n ≤ 100000) : ItD1 m K (iRng1 ta) Γ ((List.range n).map dN) := by
  have := it_rng1 h ⟨by omega, by omega⟩
  rw [rngD_N, Int.toNat_natCast] at this
  exact this
theorem enumD_map {α : Type} [Inhabited α] (g : α → D) (l : List α) : enumD (l.map g) = (List.range l.length).map fun i => .tup [dN i, g (l.getD i default)] := by
  apply List.ext_getElem
  · rw [enumD_len, List.length_map, List.length_map, List.length_range]
  · intro i h1 h2
    rw [enumD_len, List.length_map] at h1
    have e1 : (enumD (l.map g))[i]? = some (.tup [.int (i : Int), g (l.getD i default)]) := enumD_at (by rw [List.getElem?_map, List.getElem?_eq_getElem h1, List.getD_eq_getElem?_getD, List.getElem?_eq_getElem h1]; rfl)
    have e2 : ((List.range l.length).map fun i => D.tup [dN i, g (l.getD i default)])[i]? = some (.tup [.int (i : Int), g (l.getD i default)]) := by rw [List.getElem?_map, List.getElem?_range h1]; rfl
    rw [List.getElem?_eq_getElem (by rw [enumD_len, List.length_map]; exact h1)] at e1
    rw [List.getElem?_eq_getElem (by rw [List.length_map, List.length_range]; exact h1)] at e2
    exact (Option.some.inj e1).trans (Option.some.inj e2).symm
/-! ### a comprehension over a mapped list -/
theorem LcR.fnM {α : Type} {enc : α → D} {t : α → Bool} {f : α → D} {T : D → Bool → Prop} {V : D → D → Prop} : ∀ {xs : List α} {ys : List D}, LcR T V (xs.map enc) ys → (∀ x ∈ xs, ∀ b, T (enc x) b → b = t x) → (∀ x ∈ xs, ∀ y, t x = true → V (enc x) y → y = f x) → ys = (xs.filter t).map f
  | [], ys, a, _, _ => by cases a; rfl
  | x :: xs, ys, a, ht, hf => by
    rw [List.map_cons] at a
    cases a with
    | no h a =>
      have e := ht x List.mem_cons_self _ h
      rw [LcR.fnM a (fun x hx => ht x (List.mem_cons_of_mem _ hx)) fun x hx => hf x (List.mem_cons_of_mem _ hx), List.filter_cons, ← e]
      rfl
    | yes h v a =>
      have e := ht x List.mem_cons_self _ h
      rw [LcR.fnM a (fun x hx => ht x (List.mem_cons_of_mem _ hx)) fun x hx => hf x (List.mem_cons_of_mem _ hx), List.filter_cons, ← e, if_pos rfl, List.map_cons, hf x List.mem_cons_self _ e.symm v]
theorem en_lcM {α : Type} {wi : TI} {g : TG} {tt : TT} {vs : List Nat} {xs : List α} {js : List Nat} (enc : α → D) (t : α → Bool) (f : α → D) (hc : ∀ x ∈ xs, ∀ y ∈ xs, enc x = enc y → x = y) (hj : ∀ j ∈ js, j ∈ vs) (hi : ItD1 m K wi Γ (xs.map enc)) (hu : xs.length ≤ 100000)
    (hs : ∀ m', Mo.Le m m' → ∀ x, x ∈ xs → ∃ Γ2, TgD m' K g (wipeG Γ vs) (enc x) js Γ2 ∧ EvT1 m' K tt Γ2 (t x) ∧ (t x = true → Ev1 m' K te Γ2 (f x))) : Ev1 m K (tLc wi g tt te vs) Γ (.lst ((xs.filter t).map f)) :=
  (en_lc (U := fun x => x = xs.map enc) (T := fun d b => ∃ x ∈ xs, d = enc x ∧ b = t x) (V' := fun d y => ∃ x ∈ xs, d = enc x ∧ y = f x) hj hi (fun x e => by rw [e, List.length_map]; exact hu) fun m' l ds d e hd => by
    subst e
    obtain ⟨x, hx, rfl⟩ := List.mem_map.mp hd
    obtain ⟨Γ2, h1, h2, h3⟩ := hs m' l x hx
    exact ⟨Γ2, h1, h2.mono fun b e => ⟨x, hx, rfl, e⟩, fun ⟨y, hy, e1, e2⟩ => (h3 (by rw [hc x hx y hy e1]; exact e2.symm)).mono fun d e => ⟨x, hx, rfl, e⟩⟩).mono fun r ⟨ds, ys, e1, e2, e3⟩ => by
      subst e1
      rw [e3, e2.fnM (t := t) (f := f) (fun x hx b ⟨y, hy, e1, e2⟩ => by rw [hc x hx y hy e1]; exact e2) fun x hx d _ ⟨y, hy, e1, e2⟩ => by rw [hc x hx y hy e1]; exact e2]
theorem en_lcMA {α : Type} {wi : TI} {g : TG} {vs : List Nat} {xs : List α} {js : List Nat} (enc : α → D) (f : α → D) (hc : ∀ x ∈ xs, ∀ y ∈ xs, enc x = enc y → x = y) (hj : ∀ j ∈ js, j ∈ vs) (hi : ItD1 m K wi Γ (xs.map enc)) (hu : xs.length ≤ 100000)
    (hs : ∀ m', Mo.Le m m' → ∀ x, x ∈ xs → ∃ Γ2, TgD m' K g (wipeG Γ vs) (enc x) js Γ2 ∧ Ev1 m' K te Γ2 (f x)) : Ev1 m K (tLc wi g tYes te vs) Γ (.lst (xs.map f)) :=
  (en_lcM enc (fun _ => true) f hc hj hi hu fun m' l d hd => by
    obtain ⟨Γ2, h1, h2⟩ := hs m' l d hd
    exact ⟨Γ2, h1, et_yes, fun _ => h2⟩).is (by rw [List.filter_eq_self.mpr (fun _ _ => rfl)])
theorem dN_inj {a b : Nat} (h : dN a = dN b) : a = b := by injection h with h; omega
theorem mapN_inj : ∀ {a b : List Nat}, a.map dN = b.map dN → a = b
  | [], [], _ => rfl
  | [], _ :: _, h => by simp at h
  | _ :: _, [], h => by simp at h
  | x :: a, y :: b, h => by
    rw [List.map_cons, List.map_cons] at h
    injection h with h1 h2
    rw [dN_inj h1, mapN_inj h2]
theorem tupN_inj {a b : List Nat} (h : tupN a = tupN b) : a = b := by injection h with h; exact mapN_inj h
end
end Tx

set_option Elab.async false
set_option linter.all false
set_option maxRecDepth 100000
set_option maxHeartbeats 1000000
set_option autoImplicit false
/-! Tx: all and any over comprehensions -/
namespace Tx
open PySem L2
section
variable {K : PySem.W.Frag} {m : Mo} {Γ : G} {te : TE} {d : D}
theorem en_allM {α : Type} {wi : TI} {g : TG} {vs : List Nat} {xs : List α} {js : List Nat} (enc : α → D) (p : α → Bool) (hc : ∀ x ∈ xs, ∀ y ∈ xs, enc x = enc y → x = y) (hj : ∀ j ∈ js, j ∈ vs) (hi : ItD1 m K wi Γ (xs.map enc)) (hu : xs.length ≤ 100000)
    (hs : ∀ m', Mo.Le m m' → ∀ x, x ∈ xs → ∃ Γ2, TgD m' K g (wipeG Γ vs) (enc x) js Γ2 ∧ Ev1 m' K te Γ2 (.bl (p x))) : Ev1 m K (tCB (rAll K) (tCons (tLc wi g tYes te vs) tNil)) Γ (.bl (xs.all p)) := by
  have h := en_lcMA (m := m) (K := K) (Γ := Γ) (te := te) enc (fun x => D.bl (p x)) hc hj hi hu hs
  have e : (xs.map fun x => D.bl (p x)) = (xs.map p).map D.bl := by rw [List.map_map]; rfl
  rw [e] at h
  exact Ev1.is (en_cb1 (ea_cons h ea_nil) c_all) (by rw [List.all_map]; rfl)
theorem en_anyM {α : Type} {wi : TI} {g : TG} {vs : List Nat} {xs : List α} {js : List Nat} (enc : α → D) (p : α → Bool) (hc : ∀ x ∈ xs, ∀ y ∈ xs, enc x = enc y → x = y) (hj : ∀ j ∈ js, j ∈ vs) (hi : ItD1 m K wi Γ (xs.map enc)) (hu : xs.length ≤ 100000)
    (hs : ∀ m', Mo.Le m m' → ∀ x, x ∈ xs → ∃ Γ2, TgD m' K g (wipeG Γ vs) (enc x) js Γ2 ∧ Ev1 m' K te Γ2 (.bl (p x))) : Ev1 m K (tCB (rAnyS K) (tCons (tLc wi g tYes te vs) tNil)) Γ (.bl (xs.any p)) := by
  have h := en_lcMA (m := m) (K := K) (Γ := Γ) (te := te) enc (fun x => D.bl (p x)) hc hj hi hu hs
  have e : (xs.map fun x => D.bl (p x)) = (xs.map p).map D.bl := by rw [List.map_map]; rfl
  rw [e] at h
  exact Ev1.is (en_cb1 (ea_cons h ea_nil) c_any) (by rw [List.any_map]; rfl)
theorem et_truthB {b : Bool} (h : Ev1 m K te Γ (.bl b)) : EvT1 m K (fun σ H Q => te σ H fun x H' => ∃ k, TruV K x H' k ∧ Q k H') Γ b := fun σ H e Q q =>
  h σ H e _ fun v d' H1 s r1 rv => by
    subst s
    exact ⟨b, by rw [rv.blE]; rfl, q _ H1 rfl r1⟩
theorem pairN_inj {g : Nat → D} {a b : Nat} (h : D.tup [dN a, g a] = D.tup [dN b, g b]) : a = b := by
  injection h with h
  injection h with h _
  exact dN_inj h
end
abbrev tTruK (K : PySem.W.Frag) (te : TE) : TT := fun σ H Q => te σ H fun x H' => ∃ k, TruV K x H' k ∧ Q k H'
end Tx

set_option Elab.async false
set_option linter.all false
set_option maxRecDepth 100000
set_option maxHeartbeats 1000000
set_option autoImplicit false
/-! Tx: lengths of texts -/
namespace Tx
open PySem L2
theorem join_len (sep : Str) : ∀ l : List Str, (Str.join sep l).length ≤ (l.map (·.length)).sum + l.length * sep.length
  | [] => by show Str.empty.length ≤ _; exact Nat.zero_le _
  | [x] => by show x.length ≤ _; simp
  | x :: y :: r => by
    show (x ++ sep ++ Str.join sep (y :: r)).length ≤ _
    have h := join_len sep (y :: r)
    rw [Str.length_append, Str.length_append]
    simp only [List.map_cons, List.sum_cons, List.length_cons, Nat.add_mul, Nat.one_mul] at h ⊢
    omega
theorem sum_le {l : List Str} {c : Nat} (h : ∀ x ∈ l, x.length ≤ c) : (l.map (·.length)).sum ≤ l.length * c := by
  induction l with
  | nil => simp
  | cons x l ih =>
    have h1 := h x List.mem_cons_self
    have h2 := ih fun y hy => h y (List.mem_cons_of_mem _ hy)
    simp only [List.map_cons, List.sum_cons, List.length_cons, Nat.add_mul, Nat.one_mul]
    omega
theorem join_le {sep : Str} {l : List Str} {c : Nat} (h : ∀ x ∈ l, x.length ≤ c) : (Txt.join sep l).length ≤ l.length * (c + sep.length) := by
  have e : Txt.join sep l = Str.join sep l := StrLaws.glued_eq_join sep l
  rw [e, Nat.mul_add]
  have := join_len sep l
  have := sum_le h
  omega
/-- the text of a number -/
def tx (n : Nat) : Str := Str.ofString (toString (n : Int))
theorem tx_le {n k : Nat} (hk : 0 < k) (h : n < 10 ^ k) : (tx n).length ≤ k := PyProof.Rows.toString_length_le (by omega) hk (by exact_mod_cast h)
theorem log_le {n : Nat} (h : n < 10 ^ 6) : ((n : Int)).natAbs.log2 < 1920 := by
  have : n.log2 ≤ n := Nat.log2_le_self n
  show (n : Int).natAbs.log2 < 1920
  rw [Int.natAbs_natCast]
  by_cases hz : n = 0
  · subst hz; decide
  · have : n.log2 < 20 := (Nat.log2_lt hz).mpr (Nat.lt_of_lt_of_le h (by decide))
    omega
section
variable {K : PySem.W.Frag} {m : Mo} {Γ : G} {te : TE}
theorem en_fmtN {n : Nat} (h : Ev1 m K te Γ (dN n)) (hz : n < 10 ^ 6) : Ev1 m K (tFmt te) Γ (.str (tx n)) := en_fmtI h (log_le hz)
theorem c_strN {n : Nat} (hz : n < 10 ^ 6) : Ca1 m K rStrI [dN n] (.str (tx n)) := c_strI (log_le hz)
end
end Tx

set_option Elab.async false
set_option linter.all false
set_option maxRecDepth 100000
set_option maxHeartbeats 1000000
set_option autoImplicit false
/-! Tx: comprehensions of two clauses -/
namespace Tx
open PySem L2
section
variable {K : PySem.W.Frag} {m : Mo} {Γ : G} {te : TE} {tt tt1 : TT} {d : D} {ds : List D}
def StK (m : Mo) (H1 H : Hp) : Prop := ∀ a o, ¬ m.F a → H1 a = some o → H a = some o
def ItX (m : Mo) (K : PySem.W.Frag) (wi : TI) (Γ : G) (xs : List D) : Prop := ∀ σ H, ER m K Γ σ H → ∀ Q : It → Hp → Prop, (∀ (J : It) H1, m.R H H1 → (∀ H2, StK m H1 H2 →
  (∀ i, i < xs.length → J.go i H2) ∧ J.stop xs.length H2 ∧ ∀ i x H', i < xs.length → J.yld i H2 x H' → H' = H2 ∧ ∃ d, xs[i]? = some d ∧ Rp K m.F H2 x d) → Q J H1) → wi σ H Q
theorem seq_standsX {H1 : Hp} {v : V} (rv : Rp K m.F H1 v d) (hd : isSeq d ds) : ∃ a vs, v = .ref a ∧ RpAll K m.F H1 vs ds ∧ ((∀ H, StK m H1 H → SqL K H a vs) ∨ (∀ H, StK m H1 H → SqT K H a vs)) := by
  rcases hd with e | e | e
  · subst e
    cases rv with
    | tup n h t => exact ⟨_, _, rfl, t, .inr fun H r => .inl (rd_up h fun o q => r _ o n q)⟩
    | ktup h t => exact ⟨_, _, rfl, t, .inr fun H r => .inr h⟩
  · subst e
    cases rv with
    | lst n h t => exact ⟨_, _, rfl, t, .inl fun H r => SqL.of (r _ _ n h)⟩
  · subst e
    cases rv with
    | frl n h t => exact ⟨_, _, rfl, t, .inl fun H r => .inl (.inr ⟨_, r _ _ n h⟩)⟩
    | kfrl h t => exact ⟨_, _, rfl, t, .inl fun H r => .inr h⟩
theorem itx_seq (h : Ev1 m K te Γ d) (hd : isSeq d ds) : ItX m K (iSeq K te) Γ ds := fun σ H e Q q =>
  h σ H e _ fun v d' H1 s r1 rv => by
    subst s
    obtain ⟨a, vs, rfl, ra, hs⟩ := seq_standsX rv hd
    have hl := ra.len
    have i1 := m.inv r1 e.i
    refine ⟨a, rfl, ?_⟩
    rcases hs with hs | hs
    · refine .inl ⟨⟨vs, hs H1 fun _ _ _ e => e⟩, q _ H1 r1 fun H2 st => ⟨fun i hi => ⟨vs, vs[i], hs H2 st, by simp [hl, hi]⟩, ⟨vs, hs H2 st, by omega⟩, fun i x H' hi y => ?_⟩⟩
      obtain ⟨e, y⟩ := y
      subst e
      obtain ⟨d, hd, rd⟩ := ra.at (y vs (hs H' st))
      exact ⟨rfl, d, hd, rd.go fun a o n e => ⟨n, st a o n e⟩⟩
    · refine .inr ⟨⟨vs, hs H1 fun _ _ _ e => e⟩, q _ H1 r1 fun H2 st => ⟨fun i hi => ⟨vs, vs[i], hs H2 st, by simp [hl, hi]⟩, ⟨vs, hs H2 st, by omega⟩, fun i x H' hi y => ?_⟩⟩
      obtain ⟨e, y⟩ := y
      subst e
      obtain ⟨d, hd, rd⟩ := ra.at (y vs (hs H' st))
      exact ⟨rfl, d, hd, rd.go fun a o n e => ⟨n, st a o n e⟩⟩
theorem take_one {α : Type} {xs : List α} {i : Nat} {d : α} (h : xs[i]? = some d) : xs.take (i + 1) = xs.take i ++ [d] := by rw [List.take_add_one, h]; rfl
/-- [e for g in xs if t for g1 in sub if t1] -/
theorem en_lc2 {wi wi1 : TI} {g g1 : TG} {vs vs1 : List Nat} {xs : List D} {js js1 : List Nat} (t : D → Bool) (sub : D → List D) (t1 : D → D → Bool) (f : D → D → D) (hj : ∀ j ∈ js, j ∈ vs) (hj1 : ∀ j ∈ js1, j ∈ vs1) (hv : ∀ j ∈ vs1, j ∈ vs) (hi : ItD1 m K wi Γ xs) (c : Nat) (hc : ∀ d ∈ xs, (sub d).length ≤ c) (hu : xs.length * c ≤ 100000)
    (hs : ∀ m', Mo.Le m m' → ∀ d, d ∈ xs → ∃ Γ2, TgD m' K g (wipeG Γ vs) d js Γ2 ∧ EvT1 m' K tt Γ2 (t d) ∧ (t d = true → ItX m' K wi1 Γ2 (sub d) ∧ ∀ d1, d1 ∈ sub d → ∃ Γ3, TgD m' K g1 (wipeG Γ2 vs1) d1 js1 Γ3 ∧ EvT1 m' K tt1 Γ3 (t1 d d1) ∧ (t1 d d1 = true → Ev1 m' K te Γ3 (f d d1)))) :
    Ev1 m K (tLc2 wi g tt wi1 g1 tt1 te vs vs1) Γ (.lst ((xs.filter t).flatMap fun d => ((sub d).filter (t1 d)).map (f d))) := fun σ H e Q q => by
  have outL : ∀ zs : List D, (∀ d ∈ zs, d ∈ xs) → ((zs.filter t).flatMap fun d => ((sub d).filter (t1 d)).map (f d)).length ≤ zs.length * c := fun zs => by
    induction zs with
    | nil => intro _; simp
    | cons z zs ih =>
      intro hz
      have h1 := ih fun d hd => hz d (List.mem_cons_of_mem _ hd)
      have h2 := hc z (hz z List.mem_cons_self)
      have h3 := List.length_filter_le (t1 z) (sub z)
      rw [List.filter_cons]
      split
      · rw [List.flatMap_cons, List.length_append, List.length_map, List.length_cons, Nat.add_mul]; omega
      · rw [List.length_cons, Nat.add_mul]; omega
  refine hi σ H e _ fun J zs H1 ht r1 wk => fun Dl hD => ?_
  subst ht
  have e1 := e.mv r1
  have rN : m.R H1 (upd H1 Dl (.lst [])) := m.grow e1.i (same_new hD)
  have nF : ¬ m.F Dl := fun f => m.fa e1.i f hD
  have wkA : ∀ H', m.R H1 H' → (m.ext Dl).I H' → WkD (m.ext Dl) K J H' zs := fun H' r i => wk (m.ext Dl) (m.le_ext Dl) H' i r fun a f n => f.elim (fun f => absurd f n) fun z => z ▸ hD
  refine ⟨fun i k H' => k = zs.length - i ∧ i ≤ zs.length ∧ m.R H1 H' ∧ ∃ acc, H' Dl = some (.lst acc) ∧ RpAll K (m.ext Dl).F H' acc (((zs.take i).filter t).flatMap fun d => ((sub d).filter (t1 d)).map (f d)), ⟨_, rfl, Nat.zero_le _, rN, [], upd_same, .nil⟩, ?_⟩
  rintro i k H' ⟨rfl, hle, r, acc, hacc, ra⟩
  have eX : ER (m.ext Dl) K Γ σ H' := e1.ext hD r (by rw [hacc]; exact fun z => nomatch z)
  have iX := eX.i
  have wkX := wkA H' r iX
  by_cases hlt : i < zs.length
  · refine .inr ⟨wkX.go i H' (m.refl _) hlt, fun H3 => m.R H1 H3 ∧ ∃ acc, H3 Dl = some (.lst acc) ∧ RpAll K (m.ext Dl).F H3 acc (((zs.take (i + 1)).filter t).flatMap fun d => ((sub d).filter (t1 d)).map (f d)), fun H3 q => ⟨zs.length - (i + 1), by omega, rfl, hlt, q⟩, fun x H2 y => ?_⟩
    obtain ⟨r2, d, hd', rx⟩ := wkX.yld i H' x H2 (m.refl _) hlt y
    have hdm := List.mem_of_getElem? hd'
    obtain ⟨Γ2, tg, tst, el⟩ := hs (m.ext Dl) (m.le_ext Dl) d hdm
    have tk := take_one hd'
    have kD : ∀ {Ha Hb : Hp} {ac : List V}, (m.ext Dl).I Ha → m.R Ha Hb → Ha Dl = some (.lst ac) → Hb Dl = some (.lst ac) := fun ia r h => m.keep r ia.1 Dl _ nF h
    refine tg x (wipe σ vs) H2 ((eX.mv r2).wipe vs) rx _ fun σ3 H3 e3 r3 w3 => ⟨by rw [w3 vs hj, wipe_wipe], ?_⟩
    have i2 := (m.ext Dl).inv r2 iX
    refine tst σ3 H3 e3 _ fun b H4 tb' r4 => ?_
    subst tb'
    have i3 := e3.i
    have i4 := (m.ext Dl).inv r4 i3
    have rr := m.trans r2 (m.trans r3 r4)
    cases hb : t d with
    | false =>
      refine ⟨m.trans r rr, acc, kD iX rr hacc, ?_⟩
      rw [tk, List.filter_append, List.filter_cons, hb]
      simpa using ra.mv ((m.ext Dl).keep rr iX)
    | true =>
      obtain ⟨hi1, hin⟩ := el hb
      refine hi1 σ3 H4 (e3.mv r4) _ fun J1 H5 r5 wk1 => ?_
      have i5 := (m.ext Dl).inv r5 i4
      have rr5 := m.trans rr r5
      have e5 := (e3.mv r4).mv r5
      refine ⟨fun j k H' => k = (sub d).length - j ∧ j ≤ (sub d).length ∧ m.R H1 H' ∧ StK (m.ext Dl) H5 H' ∧ ∃ acc, H' Dl = some (.lst acc) ∧ RpAll K (m.ext Dl).F H' acc ((((zs.take i).filter t).flatMap fun d => ((sub d).filter (t1 d)).map (f d)) ++ (((sub d).take j).filter (t1 d)).map (f d)),
        ⟨_, rfl, Nat.zero_le _, m.trans r rr5, fun _ _ _ e => e, acc, kD iX rr5 hacc, by simpa using ra.mv ((m.ext Dl).keep rr5 iX)⟩, ?_⟩
      rintro j k H6 ⟨rfl, hle1, r6, st6, acc6, hacc6, ra6⟩
      obtain ⟨go1, stop1, yld1⟩ := wk1 H6 st6
      have i6 : (m.ext Dl).I H6 := ⟨m.inv r6 e1.i, by rw [hacc6]; exact fun z => nomatch z⟩
      have e6 : ER (m.ext Dl) K Γ2 σ3 H6 := ⟨i6, e5.len, fun i d h => let ⟨v, h1, h2⟩ := e5.at_ i d h; ⟨v, h1, h2.go fun a o n e => ⟨n, st6 a o n e⟩⟩⟩
      by_cases hlt1 : j < (sub d).length
      · refine .inr ⟨go1 j hlt1, fun H7 => m.R H1 H7 ∧ StK (m.ext Dl) H5 H7 ∧ ∃ acc, H7 Dl = some (.lst acc) ∧ RpAll K (m.ext Dl).F H7 acc ((((zs.take i).filter t).flatMap fun d => ((sub d).filter (t1 d)).map (f d)) ++ (((sub d).take (j + 1)).filter (t1 d)).map (f d)), fun H7 q => ⟨(sub d).length - (j + 1), by omega, rfl, hlt1, q⟩, fun x H7 y => ?_⟩
        obtain ⟨e7, d1, hd1, rx1⟩ := yld1 j x H7 hlt1 y
        subst e7
        obtain ⟨Γ3, tg1, tst1, el1⟩ := hin d1 (List.mem_of_getElem? hd1)
        have tk1 := take_one hd1
        refine tg1 x (wipe σ3 vs1) H7 (e6.wipe vs1) rx1 _ fun σ4 H8 e8 r8 w8 => ⟨by rw [w8 vs1 hj1, wipe_wipe], ?_⟩
        refine tst1 σ4 H8 e8 _ fun b H9 tb' r9 => ?_
        subst tb'
        have i8 := e8.i
        have i9 := (m.ext Dl).inv r9 i8
        have r89 := m.trans r8 r9
        have st9 : StK (m.ext Dl) H5 H9 := fun a o n e => (m.ext Dl).keep r89 i6 a o n (st6 a o n e)
        cases hb1 : t1 d d1 with
        | false =>
          refine ⟨m.trans r6 r89, st9, acc6, kD i6 r89 hacc6, ?_⟩
          rw [tk1, List.filter_append, List.filter_cons, hb1]
          simpa using ra6.mv ((m.ext Dl).keep r89 i6)
        | true =>
          refine el1 hb1 σ4 H9 (e8.mv r9) _ fun w dw H10 sv r10 rw' => ?_
          subst sv
          have r10' := m.trans r89 r10
          have hlen : acc6.length < sizeLine := by
            have h1 := ra6.len
            have h2 := outL (zs.take i) fun d hd => List.mem_of_mem_take hd
            have h3 := List.length_filter_le (t1 d) ((sub d).take j)
            rw [List.length_append, List.length_map] at h1
            rw [List.length_take] at h2 h3
            have h4 := hc d hdm
            have h5 : min i zs.length * c + c ≤ zs.length * c := by
              have : (min i zs.length + 1) * c ≤ zs.length * c := Nat.mul_le_mul_right c (by omega)
              rw [Nat.add_mul, Nat.one_mul] at this
              exact this
            exact Nat.lt_of_lt_of_le (show acc6.length < 100001 by omega) (by decide)
          refine ⟨acc6, kD i6 r10' hacc6, hlen, m.chg e1.i (m.trans r6 r10') hD, fun a o n e => ?_, acc6 ++ [w], upd_same, ?_⟩
          · rw [upd_ne (fun z => n (.inr z))]
            exact (m.ext Dl).keep r10' i6 a o n (st6 a o n e)
          · have k5 : ∀ a o, ¬ (m.ext Dl).F a → H10 a = some o → (upd H10 Dl (.lst (acc6 ++ [w]))) a = some o := fun a o n x => by rw [upd_ne (fun z => n (.inr z))]; exact x
            have := (((ra6.mv ((m.ext Dl).keep r10' i6)).append (.cons rw' .nil)).mv k5)
            rw [tk1, List.filter_append, List.filter_cons, hb1, if_pos rfl, List.map_append, ← List.append_assoc]
            exact this
      · have e0 : j = (sub d).length := by omega
        subst e0
        refine .inl ⟨stop1, r6, acc6, hacc6, ?_⟩
        rw [tk, List.filter_append, List.filter_cons, hb, if_pos rfl, List.flatMap_append]
        rw [List.take_length] at ra6
        simpa using ra6
  · have e0 : i = zs.length := by omega
    subst e0
    rw [List.take_length] at ra
    exact .inl ⟨wkX.stop H' (m.refl _), q _ _ H' rfl (m.trans r1 r) (.lst nF hacc (ra.weak fun a f => .inl f))⟩
end
end Tx

set_option Elab.async false
set_option linter.all false
set_option maxRecDepth 100000
set_option maxHeartbeats 1000000
set_option autoImplicit false
/-! Tx: __init__ that fills the fields one by one -/
namespace Tx
open PySem L2
section
variable {K : PySem.W.Frag} {m : Mo} {Γ : G} {te tv : TE} {tt : TT} {ts tw : TS} {d : D} {ds : List D} {F : Addr → Prop} {C x dx : Addr} {ns : List Str} {fvs : List V}
/-- nothing known changes, and the instance at x holds these fields -/
def instMo (F : Addr → Prop) (K : PySem.W.Frag) (x C dx : Addr) (ns : List Str) (fvs : List V) (ds : List D) : Mo where
  F := F
  R := Same
  I := fun H => (∀ a, F a → H a ≠ none) ∧ H x = some (.ins C dx (ns.zip fvs)) ∧ RpAll K F H fvs ds
  refl := Same.refl
  trans := fun a b => a.trans b
  keep := fun r _ a o _ e => r a o e
  grow := fun _ r => r
  inv := fun {H H'} r i => ⟨(pureMo F).inv r i.1, r _ _ i.2.1, i.2.2.mv fun a o _ e => r a o e⟩
  fa := fun i f => i.1 _ f
  chg := fun _ r h => same_chg r h
  had := fun {H H' a} i r n => (pureMo F).had i.1 r n
def SI (F : Addr → Prop) (K : PySem.W.Frag) (x C : Addr) (ts : TS) (Γ : G) (ns : List Str) (ds : List D) (Fin : List Str → List D → Prop) : Prop :=
  ∀ (dx : Addr) (σ : L2.St) (H : Hp) (fvs : List V), ER (pureMo F) K Γ σ H → H x = some (.ins C dx (ns.zip fvs)) → ns.length = fvs.length → RpAll K F H fvs ds →
    ∀ E : Ends, (∀ σ' H' ns' fvs' ds', Fin ns' ds' → (∀ a o, a ≠ x → H a = some o → H' a = some o) → H' x = some (.ins C dx (ns'.zip fvs')) → ns'.length = fvs'.length → RpAll K F H' fvs' ds' → E.nx σ' H') → ts E σ H
theorem putF_new {n : Str} {v : V} : ∀ {ns : List Str} {fvs : List V}, n ∉ ns → ns.length = fvs.length → putF n v (ns.zip fvs) = (ns ++ [n]).zip (fvs ++ [v])
  | [], [], _, _ => rfl
  | [], _ :: _, _, h => by cases h
  | _ :: _, [], _, h => by cases h
  | a :: ns, b :: fvs, hn, hl => by
    show (if a = n then (a, v) :: ns.zip fvs else (a, b) :: putF n v (ns.zip fvs)) = _
    rw [if_neg (fun e : a = n => hn (by rw [e]; exact List.mem_cons_self)), putF_new (fun z => hn (List.mem_cons_of_mem _ z)) (by simpa using hl)]
    rfl
theorem si_fldN {n : Str} {S : D → Prop} {Fin : List Str → List D → Prop} (hF : F x) (h : ∀ dx fvs, EvN (instMo F K x C dx ns fvs ds) K tv Γ S) (h0 : Γ[0]? = some (some (.adr x))) (cl : Cls K C) (na : NoAttr K C n) (hn : n ∉ ns) (hl : ns.length < 500)
    (k : ∀ d, S d → SI F K x C tw Γ (ns ++ [n]) (ds ++ [d]) Fin) : SI F K x C (tSeq (sFld K (tVar 0) tv n) tw) Γ ns ds Fin := fun dx σ H fvs e hx hlen ra E q => by
  have eI : ER (instMo F K x C dx ns fvs ds) K Γ σ H := ⟨⟨e.i, hx, ra⟩, e.len, e.at_⟩
  refine h dx fvs σ H eI _ fun v d H1 sd r1 rv => ?_
  have e1 := eI.mv r1
  obtain ⟨w, h1, h2⟩ := e1.at_ 0 _ h0
  obtain rfl := h2.adrE
  refine ⟨_, h1, ?_⟩
  have hx1 := e1.i.2.1
  refine ⟨x, C, dx, _, rfl, hx1, cl, na, by rw [List.length_zip]; omega, ?_⟩
  rw [putF_new hn hlen]
  have mvx : ∀ a o, ¬ F a → H1 a = some o → (upd H1 x (.ins C dx ((ns ++ [n]).zip (fvs ++ [v])))) a = some o := fun a o n e => by rw [upd_ne (fun z : a = x => n (by rw [z]; exact hF))]; exact e
  refine k d sd dx σ _ (fvs ++ [v]) ⟨fun a f => ?_, e1.len, fun i d h => let ⟨v, h1, h2⟩ := e1.at_ i d h; ⟨v, h1, h2.go fun a o n e => ⟨n, mvx a o n e⟩⟩⟩ upd_same (by rw [List.length_append, List.length_append, hlen]; rfl) (((e1.i.2.2).append (.cons rv .nil)).mv mvx) E fun σ' H' ns' fvs' ds' hf hk => q σ' H' ns' fvs' ds' hf fun a o n e => hk a o n (by rw [upd_ne n]; exact r1 a o e)
  by_cases z : a = x
  · rw [z, upd_same]; exact fun z => nomatch z
  · rw [upd_ne z]; exact e1.i.1 a f
theorem si_fld {n : Str} {Fin : List Str → List D → Prop} (hF : F x) (h : ∀ dx fvs, Ev1 (instMo F K x C dx ns fvs ds) K tv Γ d) (h0 : Γ[0]? = some (some (.adr x))) (cl : Cls K C) (na : NoAttr K C n) (hn : n ∉ ns) (hl : ns.length < 500)
    (k : SI F K x C tw Γ (ns ++ [n]) (ds ++ [d]) Fin) : SI F K x C (tSeq (sFld K (tVar 0) tv n) tw) Γ ns ds Fin := si_fldN hF h h0 cl na hn hl fun _ e => e ▸ k
theorem si_end {Fin : List Str → List D → Prop} (h : Fin ns ds) : SI F K x C tNext Γ ns ds Fin := fun dx σ H fvs e hx hlen ra E q => q σ H ns fvs ds h (fun _ _ _ e => e) hx hlen ra
theorem si_seqNext {Fin : List Str → List D → Prop} (h : SI F K x C (tSeq ts tNext) Γ ns ds Fin) : SI F K x C ts Γ ns ds Fin := fun dx σ H fvs e hx hlen ra E q => h dx σ H fvs e hx hlen ra E q
theorem si_if {Fin : List Str → List D → Prop} (h : EvT1 (pureMo F) K tt Γ false) (k : SI F K x C tw Γ ns ds Fin) : SI F K x C (tSeq (tIfS tt ts tNext) tw) Γ ns ds Fin := fun dx σ H fvs e hx hlen ra E q =>
  h σ H e _ fun b H1 s r1 => by
    subst s
    exact k dx σ H1 fvs (e.mv r1) (r1 _ _ hx) hlen (ra.mv fun a o _ e => r1 a o e) E fun σ' H' ns' fvs' ds' hf hk => q σ' H' ns' fvs' ds' hf fun a o n e => hk a o n (r1 a o e)
/-- the promise of such an __init__ -/
def spIS (K : PySem.W.Frag) (C : Addr) (pre : List D → Prop) (ns : List Str) (S : List D → List D → Prop) : Sp := fun vs H Q _ => ∃ (F : Addr → Prop) (x dx : Addr) (ws : List V) (ds : List D), vs = .ref x :: ws ∧ H x = some (.ins C dx []) ∧ F x ∧ (∀ a, F a → H a ≠ none) ∧ RpAll K F H ws ds ∧ pre ds ∧
  ∀ fvs xs H', S ds xs → (∀ a o, a ≠ x → H a = some o → H' a = some o) → H' x = some (.ins C dx (ns.zip fvs)) → ns.length = fvs.length → RpAll K F H' fvs xs → Q .non H'
theorem en_makeN {C : Addr} {pre : List D → Prop} {ns : List Str} {S : List D → List D → Prop} {dvs : List V} {dds : List D} {E : XK} {ta : TA} (h : EvA1 m K ta Γ ds) (hd : ∀ F H, RpAll K F H dvs dds) (hp : pre (ds ++ dds)) : EvN m K (tMake C (spIS K C pre ns S) dvs E ta) Γ (fun d => ∃ xs, d = .obj C ns xs ∧ S (ds ++ dds) xs) := fun σ H e Q q =>
  h σ H e _ fun vs ds' H1 s r1 rs => by
    subst s
    intro x dx hx hdx hne
    have i1 := m.inv r1 e.i
    have s1 : Same H1 (upd (upd H1 dx (.own x)) x (.ins C dx [])) := same_chg (same_new hdx) hx
    refine ⟨fun a => m.F a ∨ a = x, x, dx, vs ++ dvs, ds' ++ dds, rfl, upd_same, .inr rfl, fun a f => ?_, ?_, hp, fun fvs xs H' hS k hx' hl ra => ⟨rfl, ?_⟩⟩
    · rcases f with f | f
      · cases q1 : H1 a with
        | none => exact absurd q1 (m.fa i1 f)
        | some o => rw [s1 a o q1]; exact fun z => nomatch z
      · rw [f, upd_same]; exact fun z => nomatch z
    · exact Rp.goAll (fun a o n q1 => ⟨fun z => z.elim n fun z => (by rw [z, hx] at q1; cases q1), s1 a o q1⟩) (rs.append (hd _ _))
    · have sm : Same H1 H' := fun a o q1 => k a o (fun z => by rw [z, hx] at q1; cases q1) (s1 a o q1)
      exact q _ _ H' ⟨xs, rfl, hS⟩ (m.trans r1 (m.grow i1 sm)) (.obj (fun f => m.fa i1 f hx) hx' hl (ra.weak fun a f => .inl f))
variable {P : Program} {w : World} {mg : Str → Option Value} {base : Heap}
theorem fn_init {qual : Str} {st : Stmt} {f : Addr} {fd : FuncData} {N ps : List Str} {k : Nat} {nm : Str} {pre : List D → Prop} {S : List D → List D → Prop} {dvs : List V} {kws : List (Str × V)} (Fu : FunD K nm qual (defArgs st) (defBody st) (defScope st) dvs kws f fd) (Sc : FnScope N ps (defScope st)) (hl : ∀ ds, pre ds → ds.length + 1 = ps.length)
    (body : ∀ (cdv : Value) (A : Around) (outer : List Env) (s : Shared) (H : Hp) (E : XK), Room k (A.deeper (PyProof.Rows.envOfC qual (defScope st) s.heap.objs.size f cdv)) →
      ∃ t, PSs (cxOf CX0 P w K mg base N qual (defScope st) f cdv A outer s H E).nox (defBody st) t ∧ ∀ (F : Addr → Prop) (x : Addr) (ds : List D), pre ds → F x → SI F K x C t (startG N (.adr x :: ds)) [] [] fun ns' ds' => ns' = ns ∧ S ds ds') :
    FnOk P w K mg base CX0 (k + 1) f fd ps (spIS K C pre ns S) := by
  refine Fu.ok Sc (fun vs H Q E h => ?_) (fun cdv A outer s H vs Q E hr h => ?_)
  · obtain ⟨F, x, dx, ws, ds, rfl, _, _, _, ra, hp, _⟩ := h
    rw [List.length_cons, ra.len]
    exact hl ds hp
  · obtain ⟨F, x, dx, ws, ds, rfl, hx, hF, hFa, ra, hp, q⟩ := h
    obtain ⟨t, ht, hs⟩ := body cdv A outer s H E hr
    refine ⟨t, ht.nox, ?_⟩
    refine hs F x ds hp hF dx _ H [] (er_start (m := pureMo F) hFa (.cons (.adr x) ra) N) hx rfl .nil _ fun σ' H' ns' fvs' ds' hf hk hx' hl' ra' => ?_
    obtain ⟨rfl, hS⟩ := hf
    exact q fvs' ds' H' hS hk hx' hl' ra'
/-- self.f[i], where self is being made and f holds numbers -/
theorem en_ixSelf {f : Str} {ti : TE} {ms : List Nat} {i : Nat} {m' : Mo} (le : (instMo F K x C dx ns fvs ds).Le m') (hf : (ns.zip ds).lookup f = some (tupN ms)) (hlen : ns.length = ds.length) (h0 : Ev1 m' K te Γ (.adr x)) (cl : Cls K C) (na : NoAttr K C f) (hi : Ev1 m' K ti Γ (dN i)) (hlt : i < ms.length) : Ev1 m' K (tOp (rIx K) (tFld K te f) ti) Γ (dN (ms.getD i 0)) := fun σ H e Q q =>
  h0 σ H e _ fun v d' H1 s r1 rv => by
    subst s
    obtain rfl := rv.adrE
    have i1 := m'.inv r1 e.i
    obtain ⟨_, hx, ra⟩ := le.I H1 i1
    obtain ⟨v, hv, rv⟩ := lookup_zip ra hf
    refine ⟨x, C, dx, _, v, rfl, hx, cl, na, hv, ?_⟩
    refine hi σ H1 (e.mv r1) _ fun w dw H2 s2 r2 rw' => ?_
    subst s2
    have sm : Same H1 H2 := by have := r2; rw [le.R] at this; exact this
    have hq : ∃ a vs, v = .ref a ∧ RpAll K F H1 vs (ms.map dN) ∧ SqT K H2 a vs := by
      cases rv with
      | tup n h t => exact ⟨_, _, rfl, t, .inl (rd_up h fun o q => sm _ o q)⟩
      | ktup h t => exact ⟨_, _, rfl, t, .inr h⟩
    obtain ⟨a, vs, rfl, ra', hq⟩ := hq
    have hl := ra'.len
    have he : vs[i]? = some (.int ((ms.getD i 0 : Nat) : Int)) := by
      obtain ⟨v, h1, h2⟩ := ra'.get (i := i) (d := dN (ms.getD i 0)) (by rw [List.getElem?_map, List.getD_eq_getElem?_getD, List.getElem?_eq_getElem hlt]; rfl)
      rw [h1, h2.intE]
    obtain rfl := rw'.intE
    refine .inr (.inl ⟨a, vs, i, _, rfl, rfl, hq, by unfold atI; rw [Evl.ixN_nat (List.getElem?_eq_some_iff.mp he).1]; exact he, q _ _ H2 rfl (m'.trans r1 r2) (.int _)⟩)
end
end Tx

set_option Elab.async false
set_option linter.all false
set_option maxRecDepth 100000
set_option maxHeartbeats 1000000
set_option autoImplicit false
/-! Tx: plain data of a small depth; properties -/
namespace Tx
open PySem L2
def pur : Nat → D → Bool
  | _, .non => true
  | _, .bl _ => true
  | _, .int _ => true
  | _, .str s => PyData.strOk s
  | n + 1, .tup xs => xs.all (pur n)
  | n + 1, .lst xs => xs.all (pur n)
  | _, _ => false
theorem plains_of : ∀ {xs : List D}, (∀ x ∈ xs, x.plain = true) → D.plains xs = true
  | [], _ => rfl
  | x :: xs, h => by rw [D.plains, h x List.mem_cons_self, plains_of fun y hy => h y (List.mem_cons_of_mem _ hy)]; rfl
theorem pys_map : ∀ xs : List D, D.pys xs = xs.map D.py
  | [] => rfl
  | x :: xs => by rw [D.pys, pys_map xs]; rfl
theorem lays_of : ∀ {xs : List D}, (∀ x ∈ xs, x.py.canLay0 = true) → PyData.canLayAll0 (D.pys xs) = true
  | [], _ => rfl
  | x :: xs, h => by rw [D.pys, PyData.canLayAll0, h x List.mem_cons_self, lays_of fun y hy => h y (List.mem_cons_of_mem _ hy)]; rfl
theorem deps_of {n : Nat} : ∀ {xs : List D}, (∀ x ∈ xs, x.py.depth ≤ n) → PyData.depthAll (D.pys xs) ≤ n
  | [], _ => by simp [D.pys, PyData.depthAll]
  | x :: xs, h => by
    have h1 := h x List.mem_cons_self
    have h2 := deps_of fun y hy => h y (List.mem_cons_of_mem _ hy)
    simp only [D.pys, PyData.depthAll]
    omega
theorem pur_all : ∀ (n : Nat) (d : D), pur n d = true → d.plain = true ∧ d.py.canLay0 = true ∧ d.py.depth ≤ n
  | n, .non, _ => ⟨rfl, rfl, by simp [D.py, PyData.depth]⟩
  | n, .bl _, _ => ⟨rfl, rfl, by simp [D.py, PyData.depth]⟩
  | n, .int _, _ => ⟨rfl, rfl, by simp [D.py, PyData.depth]⟩
  | n, .str s, h => ⟨rfl, by cases n <;> exact h, by simp [D.py, PyData.depth]⟩
  | 0, .tup _, h => by cases h
  | 0, .lst _, h => by cases h
  | n + 1, .tup xs, h => by
    have h := List.all_eq_true.mp (show xs.all (pur n) = true from h)
    refine ⟨plains_of fun x hx => (pur_all n x (h x hx)).1, ?_, ?_⟩
    · simp only [D.py, PyData.canLay0]
      exact lays_of fun x hx => (pur_all n x (h x hx)).2.1
    · simp only [D.py, PyData.depth]
      have := deps_of fun x hx => (pur_all n x (h x hx)).2.2
      omega
  | n + 1, .lst xs, h => by
    have h := List.all_eq_true.mp (show xs.all (pur n) = true from h)
    refine ⟨plains_of fun x hx => (pur_all n x (h x hx)).1, ?_, ?_⟩
    · simp only [D.py, PyData.canLay0]
      exact lays_of fun x hx => (pur_all n x (h x hx)).2.1
    · simp only [D.py, PyData.depth]
      have := deps_of fun x hx => (pur_all n x (h x hx)).2.2
      omega
  | 0, .obj _ _ _, h => by cases h
  | 0, .adr _, h => by cases h
  | 0, .dic, h => by cases h
  | 0, .frl _, h => by cases h
  | 0, .ftp _, h => by cases h
  | 0, .dct _ _ _, h => by cases h
  | _ + 1, .dct _ _ _, h => by cases h
  | _ + 1, .obj _ _ _, h => by cases h
  | _ + 1, .adr _, h => by cases h
  | _ + 1, .dic, h => by cases h
  | _ + 1, .frl _, h => by cases h
  | _ + 1, .ftp _, h => by cases h
theorem pur_shaped {n : Nat} {d : D} (hn : n ≤ 64) (h : pur n d = true) : SeqAt.shaped d.py = true := by
  obtain ⟨_, h1, h2⟩ := pur_all n d h
  unfold SeqAt.shaped
  rw [Bool.and_eq_true]
  exact ⟨h1, decide_eq_true (by omega)⟩
theorem pur_up : ∀ {n k : Nat} {d : D}, n ≤ k → pur n d = true → pur k d = true
  | n, k, .non, _, _ => by cases k <;> rfl
  | n, k, .bl _, _, _ => by cases k <;> rfl
  | n, k, .int _, _, _ => by cases k <;> rfl
  | n, k, .str s, _, h => by cases n <;> cases k <;> exact h
  | 0, _, .tup _, _, h => by cases h
  | 0, _, .lst _, _, h => by cases h
  | n + 1, 0, .tup xs, hk, _ => absurd hk (by omega)
  | n + 1, 0, .lst xs, hk, _ => absurd hk (by omega)
  | n + 1, k + 1, .tup xs, hk, h => List.all_eq_true.mpr fun x hx => pur_up (by omega) (List.all_eq_true.mp (show xs.all (pur n) = true from h) x hx)
  | n + 1, k + 1, .lst xs, hk, h => List.all_eq_true.mpr fun x hx => pur_up (by omega) (List.all_eq_true.mp (show xs.all (pur n) = true from h) x hx)
  | 0, _, .obj _ _ _, _, h => by cases h
  | 0, _, .adr _, _, h => by cases h
  | 0, _, .dic, _, h => by cases h
  | 0, _, .frl _, _, h => by cases h
  | 0, _, .ftp _, _, h => by cases h
  | 0, _, .dct _ _ _, _, h => by cases h
  | _ + 1, _, .dct _ _ _, _, h => by cases h
  | _ + 1, _, .obj _ _ _, _, h => by cases h
  | _ + 1, _, .adr _, _, h => by cases h
  | _ + 1, _, .dic, _, h => by cases h
  | _ + 1, _, .frl _, _, h => by cases h
  | _ + 1, _, .ftp _, _, h => by cases h
theorem pur_N (l : List Nat) : pur 1 (tupN l) = true := List.all_eq_true.mpr fun x hx => by obtain ⟨k, _, rfl⟩ := List.mem_map.mp hx; rfl
theorem pur_lN (l : List Nat) : pur 1 (lstN l) = true := List.all_eq_true.mpr fun x hx => by obtain ⟨k, _, rfl⟩ := List.mem_map.mp hx; rfl
theorem pur_tup {n : Nat} {xs : List D} (h : ∀ x ∈ xs, pur n x = true) : pur (n + 1) (.tup xs) = true := List.all_eq_true.mpr h
theorem pur_lst {n : Nat} {xs : List D} (h : ∀ x ∈ xs, pur n x = true) : pur (n + 1) (.lst xs) = true := List.all_eq_true.mpr h
section
variable {K : PySem.W.Frag} {m : Mo} {Γ : G} {te : TE} {d : D}
theorem o_eqP {n : Nat} {a b : D} (hn : n ≤ 60) (ha : pur n a = true) (hb : pur n b = true) : Op1 m K (rEqD K) a b (.bl (PyData.eqv a.py b.py)) := o_eqD (pur_all n a ha).1 (pur_all n b hb).1 (pur_shaped (by omega) ha) (pur_shaped (by omega) hb)
theorem o_neP {n : Nat} {a b : D} (hn : n ≤ 60) (ha : pur n a = true) (hb : pur n b = true) : Op1 m K (rNeD K) a b (.bl (!PyData.eqv a.py b.py)) := o_neD (pur_all n a ha).1 (pur_all n b hb).1 (pur_shaped (by omega) ha) (pur_shaped (by omega) hb)
theorem eqv_self {n : Nat} {a : D} (ha : pur n a = true) : PyData.eqv a.py a.py = true := SeqAt.eqv_refl _ (pur_all n a ha).2.1
theorem o_eqS {n : Nat} {a : D} (hn : n ≤ 60) (ha : pur n a = true) : Op1 m K (rEqD K) a a (.bl true) := by
  have h := o_eqP (m := m) (K := K) hn ha ha
  rw [eqv_self ha] at h
  exact h
theorem o_neS {n : Nat} {a : D} (hn : n ≤ 60) (ha : pur n a = true) : Op1 m K (rNeD K) a a (.bl false) := by
  have h := o_neP (m := m) (K := K) hn ha ha
  rw [eqv_self ha] at h
  exact h
theorem o_inP {neg : Bool} {n : Nat} {a b : D} {ds : List D} (hn : n ≤ 60) (hb : isSeq b ds) (ha : pur n a = true) (hd : ∀ x ∈ ds, pur n x = true) : Op1 m K (rInS K neg) a b (.bl (if neg then !((D.pys ds).any fun z => PyData.eqv z a.py) else (D.pys ds).any fun z => PyData.eqv z a.py)) :=
  o_inS hb (pur_all n a ha).1 (plains_of fun x hx => (pur_all n x (hd x hx)).1) (pur_shaped (by omega) ha) (by
    have h : pur (n + 1) (.lst ds) = true := pur_lst hd
    exact pur_shaped (n := n + 1) (by omega) h)
end
end Tx
namespace C8
open PySem PySem.Spec PyProof.Rows L2 SX
/-- a property of the class at C -/
structure PrM (P : Program) (w : World) (K : PySem.W.Frag) (mg : Str → Option Value) (base : Heap) (k : Nat) (C : Addr) (f : Str) (sp : Sp) : Prop where
  ex : ∃ (p g : Addr) (fd : FuncData) (ps : List Str), Cls K C ∧ PropOf K C f p g ∧ FnOk P w K mg base CX0 k g fd ps sp ∧ Binds K fd ps []
theorem pe_prM {X : Cx} {k j : Nat} {C : Addr} {f : Str} {sp : Sp} {pos : Pos} {e : Expr} {ta : TE} (c : PrM X.prog X.w X.K X.mg X.base k C f sp) (hr : Room j X.A) (hk : k + 1 ≤ j) (he : PE X e ta) (hab : attributeBase e f X.env (eval e X.env) = eval e X.env := by rfl) : PE X (.Attribute e f pos) (tProp C sp [] E0 ta) := by
  obtain ⟨p, g, fd, ps, c, hp, F, b⟩ := c.ex
  exact pe_prop he c hp F (hr.mono hk) b .nil pass0 hab
end C8

set_option Elab.async false
set_option linter.all false
set_option maxRecDepth 100000
set_option maxHeartbeats 1000000
set_option autoImplicit false
/-! Tx: the pouch that the laws draw from -/
namespace Tx
open PySem L2
def isI (d : D) : Prop := ∃ a : Int, d = .int a
def inI (lo hi : Int) (d : D) : Prop := ∃ a : Int, d = .int a ∧ lo ≤ a ∧ a < hi
theorem inI.isI {lo hi : Int} {d : D} (h : inI lo hi d) : isI d := let ⟨a, e, _⟩ := h; ⟨a, e⟩
section
variable {K : PySem.W.Frag} {m : Mo} {Γ : G} {ta tb te tv : TE} {ts tw : TS} {d : D} {ds : List D} {p : Addr} {O : Out} {S : D → Prop}
theorem OpN.mono {r : R2} {a b : D} {S S' : D → Prop} (h : OpN m K r a b S) (k : ∀ d, S d → S' d) : OpN m K r a b S' := fun x y H I rx ry Q q => h x y H I rx ry Q fun v d H' s => q v d H' (k d s)
theorem CaN.mono {r : List V → Hp → VK → Prop} {S S' : D → Prop} (h : CaN m K r ds S) (k : ∀ d, S d → S' d) : CaN m K r ds S' := fun vs H I rs Q q => h vs H I rs Q fun v d H' s => q v d H' (k d s)
theorem Ev1.n (h : Ev1 m K te Γ d) (s : S d) : EvN m K te Γ S := h.mono fun _ e => e ▸ s
theorem en_modN {n : Int} (ha : EvN m K ta Γ isI) (hb : Ev1 m K tb Γ (.int n)) (hn : 0 < n) : EvN m K (tOp (rI (fun _ j => 0 < j) fun i j => .int (i % j)) ta tb) Γ (inI 0 n) :=
  en_op ha hb fun a b sa sb => by
    obtain ⟨a, rfl⟩ := sa
    subst sb
    exact OpN.mono (o_intC (g := fun i j => i % j) hn) fun d e => ⟨_, e, Int.emod_nonneg _ (by omega), Int.emod_lt_of_pos _ hn⟩
theorem en_fdivN {n : Int} (ha : EvN m K ta Γ isI) (hb : Ev1 m K tb Γ (.int n)) (hn : CDiv 0 n) : EvN m K (tOp (rI CDiv fun i j => .int (i / j)) ta tb) Γ isI :=
  en_op ha hb fun a b sa sb => by
    obtain ⟨a, rfl⟩ := sa
    subst sb
    exact OpN.mono (o_intC (g := fun i j => i / j) hn) fun d e => ⟨_, e⟩
theorem en_addN (ha : EvN m K ta Γ isI) (hb : EvN m K tb Γ isI) : EvN m K (tOp (rAddU K) ta tb) Γ isI :=
  en_op ha hb fun a b sa sb => by
    obtain ⟨a, rfl⟩ := sa
    obtain ⟨b, rfl⟩ := sb
    exact OpN.mono o_addI fun d e => ⟨_, e⟩
theorem en_mulN {A B : D → Prop} (ha : EvN m K ta Γ A) (hb : EvN m K tb Γ B) (h : ∀ a b, A a → B b → ∃ i j, a = .int i ∧ b = .int j ∧ CMul i j) : EvN m K (tOp (rMulU K) ta tb) Γ isI :=
  en_op ha hb fun a b sa sb => by
    obtain ⟨i, j, rfl, rfl, hc⟩ := h a b sa sb
    exact OpN.mono (o_mulI hc) fun d e => ⟨_, e⟩
theorem en_intN (h : EvN m K te Γ S) (k : ∀ d, S d → isI d) : EvN m K (tCB rInt (tCons te tNil)) Γ S :=
  en_cb (T := fun ds => ∃ d, ds = [d] ∧ S d) (ea_consN h (T := fun x => x = []) ea_nil fun d ds s e => ⟨d, by rw [e], s⟩) fun ds ⟨d, e, s⟩ => by
    obtain ⟨i, e2⟩ := k d s
    subst e; subst e2
    exact CaN.mono c_intI fun d e => e ▸ s
/-- pouch[i] -/
theorem en_pIx {i : Int} (hp : HasP m p) (h : Ev1 m K te Γ (.adr p)) (hi : 0 ≤ i ∧ i ≤ 2) : EvN m K (tOp (rIx K) te (tC (.int i))) Γ isI := fun σ H e Q q =>
  h σ H e _ fun v d' H1 s r1 rv => by
    subst s
    obtain rfl := rv.adrE
    obtain ⟨a, b, c, hx⟩ := hp.i H1 (m.inv r1 e.i)
    have : i = 0 ∨ i = 1 ∨ i = 2 := by omega
    rcases this with rfl | rfl | rfl
    · exact .inl ⟨p, _, 0, .int a, rfl, rfl, SqL.of hx, rfl, q _ _ H1 ⟨a, rfl⟩ r1 (.int _)⟩
    · exact .inl ⟨p, _, 1, .int b, rfl, rfl, SqL.of hx, rfl, q _ _ H1 ⟨b, rfl⟩ r1 (.int _)⟩
    · exact .inl ⟨p, _, 2, .int c, rfl, rfl, SqL.of hx, rfl, q _ _ H1 ⟨c, rfl⟩ r1 (.int _)⟩
/-- pouch[i] = e; rest -/
theorem sq_pSet {i : Int} (hp : HasP m p) (hv : EvN m K tv Γ isI) (h : Ev1 m K te Γ (.adr p)) (hi : 0 ≤ i ∧ i ≤ 2) (k : SG m K tw Γ O) : SG m K (tSeq (tAsg tv (gSub te (tC (.int i)) rSetL)) tw) Γ O := fun σ H e E M =>
  hv σ H e _ fun v d H1 s r1 rv => h σ H1 (e.mv r1) _ fun w d' H2 s2 r2 rw' => by
    subst s2
    obtain rfl := rw'.adrE
    obtain ⟨x, rfl⟩ := s
    obtain rfl := rv.intE
    have e2 := (e.mv r1).mv r2
    obtain ⟨a, b, c, hx⟩ := hp.i H2 e2.i
    have go : ∀ a' b' c' : Int, k = k → tw E σ (upd H2 p (.lst [.int a', .int b', .int c'])) := fun a' b' c' _ => by
      have r3 : m.R H2 (upd H2 p (.lst [.int a', .int b', .int c'])) := hp.r _ _ ⟨fun a o n e => by rw [upd_ne n]; exact e, fun _ => ⟨a', b', c', upd_same⟩⟩
      exact k σ _ (e2.mv r3) E (M.mv (m.trans r1 (m.trans r2 r3)))
    have : i = 0 ∨ i = 1 ∨ i = 2 := by omega
    rcases this with rfl | rfl | rfl
    · exact ⟨p, _, 0, 0, rfl, rfl, hx, rfl, go x b c rfl⟩
    · exact ⟨p, _, 1, 1, rfl, rfl, hx, rfl, go a x c rfl⟩
    · exact ⟨p, _, 2, 2, rfl, rfl, hx, rfl, go a b x rfl⟩
/-! a new pouch -/
def spNew (K : PySem.W.Frag) (pre : List Int → Int → Prop) : Sp := fun vs H Q _ => ∃ (F : Addr → Prop) (xs : List Int) (i : Int), RpAll K F H vs [.frl (xs.map D.int), .int i] ∧ pre xs i ∧ ∀ p H', H p = none → Same H H' → PI H' p → Q (.ref p) H'
theorem ints_any {F F' : Addr → Prop} {H : Hp} : ∀ {xs : List Int} {vs : List V}, RpAll K F H vs (xs.map D.int) → RpAll K F' H vs (xs.map D.int)
  | [], _, h => by cases h; exact .nil
  | x :: xs, _, h => by
    cases h with
    | cons r t =>
      obtain rfl := r.intE
      exact .cons (.int _) (ints_any t)
theorem en_newcall {F : Addr → Prop} {pre : List Int → Int → Prop} {E : XK} {ta : TA} {xs : List Int} {i : Int} (h : EvA1 (pureMo F) K ta Γ [.frl (xs.map D.int), .int i]) (hp : pre xs i) : EvNew (pureMo F) K (tCall (spNew K pre) [] E ta) Γ := fun σ H e Q q =>
  h σ H e _ fun vs ds H1 s r1 rs => by
    subst s
    exact ⟨F, xs, i, by rw [List.append_nil]; exact rs, hp, fun p H' hn sm hpi => q p H' (by
      cases z : H p with
      | none => rfl
      | some o => rw [r1 p o z] at hn; cases hn) (r1.trans sm) hpi⟩
variable {P : Program} {w : World} {mg : Str → Option Value} {base : Heap}
theorem fn_new {x qual : Str} {st : Stmt} {f : Addr} {fd : FuncData} {N ps : List Str} {k : Nat} {pre : List Int → Int → Prop} (Fu : Fun K x qual st f fd) (Sc : FnScope N ps (defScope st)) (hl : ps.length = 2)
    (body : ∀ (cdv : Value) (A : Around) (outer : List Env) (s : Shared) (H : Hp) (E : XK), Room k (A.deeper (PyProof.Rows.envOfC qual (defScope st) s.heap.objs.size f cdv)) →
      ∃ t, PSs (cxOf CX0 P w K mg base N qual (defScope st) f cdv A outer s H E).nox (defBody st) t ∧ ∀ (F : Addr → Prop) (xs : List Int) (i : Int), pre xs i → SG (pureMo F) K t (startG N [.frl (xs.map D.int), .int i]) { nx := fun _ => False, rt := fun d => ∃ a b c : Int, d = .lst [.int a, .int b, .int c] }) :
    FnOk P w K mg base CX0 (k + 1) f fd ps (spNew K pre) := by
  refine Fu.ok Sc (fun vs H Q E h => ?_) (fun cdv A outer s H vs Q E hr h => ?_)
  · obtain ⟨F, xs, i, ra, _⟩ := h
    rw [ra.len, hl]
    rfl
  · obtain ⟨F, xs, i, ra, hp, q⟩ := h
    obtain ⟨t, ht, hs⟩ := body cdv A outer s H E hr
    refine ⟨t, ht, ?_⟩
    have ra' : RpAll K (fun a => H a ≠ none ∧ ∀ o vs, H a ≠ some (.frz o (.lst vs))) H vs [.frl (xs.map D.int), .int i] := by
      cases ra with
      | cons r t =>
        refine .cons ?_ ?_
        · cases r with
          | frl n h tt => exact .frl (fun z => z.2 _ _ h) h (ints_any tt)
          | kfrl h tt => exact .kfrl h (ints_any tt)
        · cases t with
          | cons r2 t2 =>
            cases t2
            obtain rfl := r2.intE
            exact .cons (.int _) .nil
    refine hs _ xs i hp _ H (er_start (m := pureMo _) (fun a f => f.1) ra' N) _ ⟨fun _ _ _ o _ _ => o.elim, fun d v H' o r rv => ?_, fun _ _ _ o => o.elim, fun _ _ _ o => o.elim⟩
    obtain ⟨a, b, c, rfl⟩ := o
    cases rv with
    | lst n h t =>
      rename_i p vs'
      have hn : H p = none := by
        cases z : H p with
        | none => rfl
        | some o =>
          have z2 := r p o z
          rw [h] at z2
          refine absurd (⟨fun y => (by rw [z] at y; cases y), fun o' ws y => ?_⟩ : H p ≠ none ∧ ∀ o vs, H p ≠ some (.frz o (.lst vs))) n
          rw [z] at y
          rw [Option.some.inj y] at z2
          cases z2
      refine q p H' hn r ⟨a, b, c, ?_⟩
      cases t with
      | cons r1 t =>
        cases t with
        | cons r2 t =>
          cases t with
          | cons r3 t =>
            cases t
            obtain rfl := r1.intE
            obtain rfl := r2.intE
            obtain rfl := r3.intE
            exact h
end
end Tx

set_option Elab.async false
set_option linter.all false
set_option maxRecDepth 100000
set_option maxHeartbeats 1000000
set_option autoImplicit false
/-! Tx: a list of one's own that grows -/
namespace Tx
open PySem L2
section
variable {K : PySem.W.Frag} {m : Mo} {Γ : G} {ta tb te tv : TE} {tt : TT} {ts tw : TS} {d : D} {ds : List D} {l : Addr} {H0 : Hp}
theorem itx_rng {ta : TA} {n : Nat} (h : EvA1 m K ta Γ [dN n]) (hn : n ≤ 100000) : ItX m K (iRng1 ta) Γ ((List.range n).map dN) := fun σ H e Q q =>
  h σ H e _ fun vs ds H1 s r1 rs => by
    subst s
    cases rs with
    | cons r rs =>
      cases rs
      refine ⟨n, by rw [r.intE], by omega, by omega, q _ H1 r1 fun H2 st => ⟨fun i hi => ?_, ?_, fun i x H' hi y => ?_⟩⟩
      · rw [List.length_map, List.length_range] at hi
        show i < (n : Int).toNat
        omega
      · rw [List.length_map, List.length_range]
        show (n : Int).toNat ≤ n
        omega
      · rw [List.length_map, List.length_range] at hi
        obtain ⟨e, ex⟩ := y
        subst e; subst ex
        exact ⟨rfl, dN i, by rw [List.getElem?_map, List.getElem?_range hi]; rfl, by rw [Int.zero_add]; exact .int _⟩
structure OutO where
  nx : G → List D → Prop
  rt : D → Prop
variable {O O' : OutO}
structure MeetsO (m : Mo) (K : PySem.W.Frag) (l : Addr) (H0 H : Hp) (O : OutO) (E : Ends) : Prop where
  nx : ∀ Γ' ds' σ' H' vs', O.nx Γ' ds' → m.R H0 H' → StK (m.ext l) H H' → ER (m.ext l) K Γ' σ' H' → H' l = some (.lst vs') → RpAll K (m.ext l).F H' vs' ds' → E.nx σ' H'
  rt : ∀ d v H', O.rt d → m.R H0 H' → Rp K m.F H' v d → E.rt v H'
theorem StK.trans {H H1 H2 : Hp} (a : StK m H H1) (b : StK m H1 H2) : StK m H H2 := fun x o n e => b x o n (a x o n e)
theorem MeetsO.mv {H H1 : Hp} {E : Ends} (M : MeetsO m K l H0 H O E) (s : StK (m.ext l) H H1) : MeetsO m K l H0 H1 O E := ⟨fun Γ' ds' σ' H' vs' o r st => M.nx Γ' ds' σ' H' vs' o r (s.trans st), M.rt⟩
/-- a statement, while the list at l is one's own; H0: the heap ahead of it -/
def SGo (m : Mo) (K : PySem.W.Frag) (l : Addr) (H0 : Hp) (ts : TS) (Γ : G) (ds : List D) (O : OutO) : Prop :=
  H0 l = none → m.I H0 → ∀ σ H vs, m.R H0 H → ER (m.ext l) K Γ σ H → H l = some (.lst vs) → RpAll K (m.ext l).F H vs ds → ∀ E : Ends, MeetsO m K l H0 H O E → ts E σ H
theorem nFl (h0 : H0 l = none) (i0 : m.I H0) : ¬ m.F l := fun f => m.fa i0 f h0
/-- what is read sees the list as data -/
theorem er_dis {i : Nat} {σ : L2.St} {H : Hp} {vs : List V} (h0 : H0 l = none) (i0 : m.I H0) (e : ER (m.ext l) K Γ σ H) (hi : Γ[i]? = some (some (.adr l))) (hl : H l = some (.lst vs)) (ra : RpAll K (m.ext l).F H vs ds) : ER m K (Γ.set i (some (.lst ds))) σ H := by
  refine ⟨e.i.1, by rw [List.length_set, e.len], fun j d h => ?_⟩
  by_cases z : i = j
  · subst z
    have hlt : i < Γ.length := (List.getElem?_eq_some_iff.mp hi).1
    rw [List.getElem?_set_self hlt] at h
    injection h with h
    injection h with h
    subst h
    obtain ⟨v, h1, h2⟩ := e.at_ i _ hi
    obtain rfl := h2.adrE
    exact ⟨_, h1, .lst (nFl h0 i0) hl (ra.weak fun a f => .inl f)⟩
  · rw [List.getElem?_set_ne z] at h
    obtain ⟨v, h1, h2⟩ := e.at_ j d h
    exact ⟨v, h1, h2.weak fun a f => .inl f⟩
theorem so_dis {i : Nat} {O : Out} (hi : Γ[i]? = some (some (.adr l))) (k : SG m K ts (Γ.set i (some (.lst ds))) { nx := fun _ => False, rt := O.rt }) : SGo m K l H0 ts Γ ds { nx := fun _ _ => False, rt := O.rt } := fun h0 i0 σ H vs r e hl ra E M =>
  k σ H (er_dis h0 i0 e hi hl ra) E ⟨fun _ _ _ o => o.elim, fun d v H' o r' rv => M.rt d v H' o (m.trans r r') rv, fun _ _ _ o => o.elim, fun _ _ _ o => o.elim⟩
theorem so_next (h : O.nx Γ ds) : SGo m K l H0 tNext Γ ds O := fun h0 i0 σ H vs r e hl ra E M => M.nx _ _ _ _ _ h r (fun _ _ _ e => e) e hl ra
theorem so_seq (N : G → List D → Prop) (h1 : SGo m K l H0 ts Γ ds { O with nx := N }) (h2 : ∀ Γ' ds', N Γ' ds' → SGo m K l H0 tw Γ' ds' O) : SGo m K l H0 (tSeq ts tw) Γ ds O := fun h0 i0 σ H vs r e hl ra E M =>
  h1 h0 i0 σ H vs r e hl ra _ ⟨fun Γ' ds' σ' H' vs' o r' st e' hl' ra' => h2 Γ' ds' o h0 i0 σ' H' vs' r' e' hl' ra' E (M.mv st), M.rt⟩
theorem so_if {i : Nat} {b : Bool} (hi : Γ[i]? = some (some (.adr l))) (h : EvT1 m K tt (Γ.set i (some (.lst ds))) b) (h1 : b = true → SGo m K l H0 ts Γ ds O) (h2 : b = false → SGo m K l H0 tw Γ ds O) : SGo m K l H0 (tIfS tt ts tw) Γ ds O := fun h0 i0 σ H vs r e hl ra E M =>
  h σ H (er_dis h0 i0 e hi hl ra) _ fun b' H1 s r1 => by
    subst s
    have e1 : ER (m.ext l) K Γ σ H1 := e.mv (m := m.ext l) r1
    have hl1 : H1 l = some (.lst vs) := m.keep r1 e.i.1 l _ (nFl h0 i0) hl
    have ra1 : RpAll K (m.ext l).F H1 vs ds := ra.mv ((m.ext l).keep r1 e.i)
    have st1 : StK (m.ext l) H H1 := fun a o n q => (m.ext l).keep r1 e.i a o n q
    cases b' with
    | true => exact h1 rfl h0 i0 σ H1 vs (m.trans r r1) e1 hl1 ra1 E (M.mv st1)
    | false => exact h2 rfl h0 i0 σ H1 vs (m.trans r r1) e1 hl1 ra1 E (M.mv st1)
theorem so_appN {i : Nat} {S : D → Prop} (hi : Γ[i]? = some (some (.adr l))) (h : EvN (m.ext l) K te Γ S) (hz : ds.length ≤ 100000) (k : ∀ d, S d → O.nx Γ (ds ++ [d])) : SGo m K l H0 (tDrop (tBM K "list" rAppend (tVar i) (tCons te tNil))) Γ ds O := fun h0 i0 σ H vs r e hl ra E M => by
  obtain ⟨w, h1, h2⟩ := e.at_ i _ hi
  obtain rfl := h2.adrE
  refine ⟨_, h1, .inl ⟨rfl, vs, SqL.of hl⟩, ?_⟩
  refine h σ H e _ fun v d' H1 s r1 rv => ?_
  have hl1 : H1 l = some (.lst vs) := m.keep r1 e.i.1 l _ (nFl h0 i0) hl
  have ra1 : RpAll K (m.ext l).F H1 vs ds := ra.mv ((m.ext l).keep r1 e.i)
  have e1 := e.mv r1
  refine ⟨l, vs, v, rfl, rfl, hl1, Nat.lt_of_lt_of_le (show vs.length < 100001 by have := ra.len; omega) (by decide), ?_⟩
  have mv : ∀ a o, ¬ (m.ext l).F a → H1 a = some o → (upd H1 l (.lst (vs ++ [v]))) a = some o := fun a o n q => by rw [upd_ne (fun z => n (.inr z))]; exact q
  have rr : m.R H0 (upd H1 l (.lst (vs ++ [v]))) := m.chg i0 (m.trans r r1) h0
  refine M.nx Γ _ σ _ (vs ++ [v]) (k d' s) rr (fun a o n q => mv a o n ((m.ext l).keep r1 e.i a o n q)) ⟨⟨m.inv rr i0, by rw [upd_same]; exact fun z => nomatch z⟩, e1.len, fun j d h => let ⟨v, h1, h2⟩ := e1.at_ j d h; ⟨v, h1, h2.go fun a o n q => ⟨n, mv a o n q⟩⟩⟩ upd_same ((ra1.append (.cons rv .nil)).mv mv)
theorem so_app {i : Nat} (hi : Γ[i]? = some (some (.adr l))) (h : Ev1 (m.ext l) K te Γ d) (hz : ds.length ≤ 100000) (k : O.nx Γ (ds ++ [d])) : SGo m K l H0 (tDrop (tBM K "list" rAppend (tVar i) (tCons te tNil))) Γ ds O := so_appN hi h hz fun _ e => e ▸ k
theorem so_for {wi : TI} {g : TG} {xs : List D} (hi : ItX (m.ext l) K wi Γ xs) (W : Nat → G → List D → Prop) (hw : W 0 Γ ds)
    (hs : ∀ i d Γ' ds', xs[i]? = some d → W i Γ' ds' → ∃ Γ2 js, TgD (m.ext l) K g Γ' d js Γ2 ∧ SGo m K l H0 ts Γ2 ds' { nx := W (i + 1), rt := O.rt }) (hd : ∀ Γ' ds', W xs.length Γ' ds' → O.nx Γ' ds') : SGo m K l H0 (tFor wi g ts) Γ ds O := fun h0 i0 σ H vs r e hl ra E M => by
  refine hi σ H e _ fun J H1 r1 wk => ?_
  have e1 := e.mv r1
  have r01 : m.R H0 H1 := m.trans r r1
  have hl1 : H1 l = some (.lst vs) := m.keep r1 e.i.1 l _ (nFl h0 i0) hl
  have ra1 : RpAll K (m.ext l).F H1 vs ds := ra.mv ((m.ext l).keep r1 e.i)
  refine ⟨fun i k σ' H' => k = xs.length - i ∧ i ≤ xs.length ∧ m.R H0 H' ∧ StK (m.ext l) H1 H' ∧ ∃ Γ' ds' vs', W i Γ' ds' ∧ ER (m.ext l) K Γ' σ' H' ∧ H' l = some (.lst vs') ∧ RpAll K (m.ext l).F H' vs' ds', ⟨_, rfl, Nat.zero_le _, r01, fun _ _ _ e => e, Γ, ds, vs, hw, e1, hl1, ra1⟩, ?_⟩
  rintro i k σ' H' ⟨rfl, hle, r', st, Γ', ds', vs', w, e', hl', ra'⟩
  obtain ⟨go, stop, yld⟩ := wk H' st
  by_cases hlt : i < xs.length
  · refine .inr ⟨go i hlt, fun σ3 H3 => m.R H0 H3 ∧ StK (m.ext l) H1 H3 ∧ ∃ Γ3 ds3 vs3, W (i + 1) Γ3 ds3 ∧ ER (m.ext l) K Γ3 σ3 H3 ∧ H3 l = some (.lst vs3) ∧ RpAll K (m.ext l).F H3 vs3 ds3, fun σ3 H3 q => ⟨xs.length - (i + 1), by omega, rfl, hlt, q⟩, fun x H2 y => ?_⟩
    obtain ⟨e2, d, hd', rx⟩ := yld i x H2 hlt y
    subst e2
    obtain ⟨Γ2, js, tg, body⟩ := hs i d Γ' ds' hd' w
    refine tg x σ' H2 e' rx _ fun σ3 H3 e3 r3 _ => ?_
    have hl3 : H3 l = some (.lst vs') := m.keep r3 e'.i.1 l _ (nFl h0 i0) hl'
    have ra3 : RpAll K (m.ext l).F H3 vs' ds' := ra'.mv ((m.ext l).keep r3 e'.i)
    have st3 : StK (m.ext l) H1 H3 := fun a o n q => (m.ext l).keep r3 e'.i a o n (st a o n q)
    -- the body keeps what stood in H1: by its own promise about every address that is not forbidden
    refine body h0 i0 σ3 H3 vs' (m.trans r' r3) e3 hl3 ra3 _ ⟨fun Γ4 ds4 σ4 H4 vs4 o r4 st4 e4 hl4 ra4 => ⟨r4, st3.trans st4, Γ4, ds4, vs4, o, e4, hl4, ra4⟩, fun d v H4 o r4 rv => M.rt d v H4 o r4 rv⟩
  · have e0 : i = xs.length := by omega
    subst e0
    exact .inl ⟨stop, M.nx Γ' ds' σ' H' vs' (hd Γ' ds' w) r' (fun a o n q => st a o n ((m.ext l).keep r1 e.i a o n q)) e' hl' ra'⟩
/-- x = [e, ..]; rest -/
theorem sq_newL {i : Nat} {ta : TA} {O : Out} (h : EvA1 m K ta Γ ds) (hz : ds.length ≤ 100000) (hb : i < Γ.length) (k : ∀ l H0, SGo m K l H0 tw (Γ.set i (some (.adr l))) ds { nx := fun _ _ => False, rt := O.rt }) : SG m K (tSeq (tAsg (tLst ta) (gName i)) tw) Γ O := fun σ H e E M =>
  h σ H e _ fun vs ds' H1 s r1 rs => ⟨Nat.le_trans (show vs.length ≤ 100000 by have e : ds' = ds := s; have := rs.len; rw [e] at this; omega) (by decide), fun l hl => by
    subst s
    have e1 := e.mv r1
    have rN : m.R H1 (upd H1 l (.lst vs)) := m.grow e1.i (same_new hl)
    have eX : ER (m.ext l) K Γ σ (upd H1 l (.lst vs)) := e1.ext hl rN (by rw [upd_same]; exact fun z => nomatch z)
    have rs' : RpAll K (m.ext l).F (upd H1 l (.lst vs)) vs ds' := Rp.goAll (fun a o n q => ⟨fun z => z.elim n fun z => (by rw [z, hl] at q; cases q), same_new hl a o q⟩) rs
    exact k l H1 hl e1.i _ _ vs rN (eX.set i (.adr l)) upd_same rs' E ⟨fun _ _ _ _ _ o => o.elim, fun d v H' o r rv => M.rt d v H' o (m.trans r1 r) rv⟩⟩
/-- x, y = [], e; rest -/
theorem sq_newL2 {i j : Nat} {te : TE} {S : D → Prop} {O : Out} (h : ∀ l, EvN (m.ext l) K te Γ S) (k : ∀ l H0 d, S d → SGo m K l H0 tw ((Γ.set i (some (.adr l))).set j (some d)) [] { nx := fun _ _ => False, rt := O.rt }) : SG m K (tSeq (tAsg (tTup (tCons (tLst tNil) (tCons te tNil))) (gTup K 2 (gCons (gName i) (gCons (gName j) gNil)))) tw) Γ O := fun σ H e E M =>
  ⟨by decide, fun l hl => by
    have rN : m.R H (upd H l (.lst [])) := m.grow e.i (same_new hl)
    have eX : ER (m.ext l) K Γ σ (upd H l (.lst [])) := e.ext hl rN (by rw [upd_same]; exact fun z => nomatch z)
    refine h l σ _ eX _ fun v d H1 s r1 rv => ?_
    have nF : ¬ m.F l := fun f => m.fa e.i f hl
    have e1 := eX.mv r1
    have hl1 : H1 l = some (.lst []) := m.keep r1 eX.i.1 l _ nF upd_same
    refine ⟨Nat.le_trans (show _ ≤ 2 from Nat.le_refl 2) (by decide), fun t ht => ?_⟩
    have hlt : l ≠ t := fun z => by rw [z, ht] at hl1; cases hl1
    have r2 : m.R H1 (upd H1 t (.tup [.ref l, v])) := m.grow e1.i.1 (same_new ht)
    have e2 := e1.mv (m := m.ext l) r2
    have rr := m.trans rN (m.trans r1 r2)
    refine ⟨t, [.ref l, v], rfl, .inl (.inl upd_same), rfl, _, _, rfl, _, _, rfl, rfl, ?_⟩
    exact k l H d s hl e.i _ _ [] rr ((e2.set i (.adr l)).set j (rv.mv fun a o _ q => same_new ht a o q)) (by rw [upd_ne hlt]; exact hl1) .nil E ⟨fun _ _ _ _ _ o => o.elim, fun d v H' o r rv => M.rt d v H' o r rv⟩⟩
theorem LcR.sub {T : D → Bool → Prop} {P : Nat → Prop} : ∀ {xs : List Nat} {ys : List D}, LcR T (fun x y => y = x) (xs.map dN) ys → (∀ x ∈ xs, T (dN x) true → P x) → ∃ zs : List Nat, zs.Sublist xs ∧ ys = zs.map dN ∧ ∀ z ∈ zs, P z
  | [], _, h, _ => by cases h; exact ⟨[], .slnil, rfl, fun z hz => nomatch hz⟩
  | x :: xs, _, h, k => by
    rw [List.map_cons] at h
    cases h with
    | no t h =>
      obtain ⟨zs, h1, h2, h3⟩ := LcR.sub h fun y hy => k y (List.mem_cons_of_mem _ hy)
      exact ⟨zs, h1.cons _, h2, h3⟩
    | yes t v h =>
      obtain ⟨zs, h1, h2, h3⟩ := LcR.sub h fun y hy => k y (List.mem_cons_of_mem _ hy)
      refine ⟨x :: zs, h1.cons_cons _, by rw [h2, v]; rfl, fun z hz => ?_⟩
      rcases List.mem_cons.mp hz with e | hz
      · rw [e]; exact k x List.mem_cons_self t
      · exact h3 z hz
theorem LcR.nats {V' : D → D → Prop} {P : Nat → Prop} : ∀ {xs ys : List D}, LcR (fun _ b => b = true) V' xs ys → (∀ x ∈ xs, ∀ y, V' x y → ∃ k, y = dN k ∧ P k) → ∃ zs : List Nat, ys = zs.map dN ∧ zs.length = xs.length ∧ ∀ z ∈ zs, P z
  | [], _, h, _ => by cases h; exact ⟨[], rfl, rfl, fun z hz => nomatch hz⟩
  | x :: xs, _, h, k => by
    cases h with
    | no t h => cases t
    | yes t v h =>
      obtain ⟨zs, h1, h2, h3⟩ := LcR.nats h fun y hy => k y (List.mem_cons_of_mem _ hy)
      obtain ⟨n, e, p⟩ := k x List.mem_cons_self _ v
      refine ⟨n :: zs, by rw [h1, e]; rfl, by rw [List.length_cons, h2, List.length_cons], fun z hz => ?_⟩
      rcases List.mem_cons.mp hz with e | hz
      · rw [e]; exact p
      · exact h3 z hz
theorem sq_asgT {g : TG} {S : D → Prop} {O : Out} {tw : TS} (h : EvN m K te Γ S) (k : ∀ d, S d → ∃ js Γ2, TgD m K g Γ d js Γ2 ∧ SG m K tw Γ2 O) : SG m K (tSeq (tAsg te g) tw) Γ O := fun σ H e E M =>
  h σ H e _ fun v d H1 s r1 rv => by
    obtain ⟨js, Γ2, tg, hk⟩ := k d s
    exact tg v σ H1 (e.mv r1) rv _ fun σ2 H2 e2 r2 _ => hk σ2 H2 e2 E (M.mv (m.trans r1 r2))
end
end Tx

set_option Elab.async false
set_option linter.all false
set_option maxRecDepth 100000
set_option maxHeartbeats 1000000
set_option autoImplicit false
/-! Tx: own methods behind len, str, in, ==, by a relation -/
namespace Tx
open PySem PySem.Spec PyProof.Rows L2
structure OwnK (P : Program) (w : World) (K : PySem.W.Frag) (mg : Str → Option Value) (base : Heap) (C : Addr) (nm : Str) (n : Nat) (sp : Sp) : Prop where
  ex : ∃ f, PySem.W.findIn K (.ref C) nm = some (some (.ref f)) ∧ PySem.W.isFn K (.ref f) = true ∧ ∃ fd ps, FnOk P w K mg base CX0 n f fd ps sp ∧ Binds K fd ps []
section
variable {X : Cx} {C : Addr} {n k : Nat} {sp : Sp}
theorem cr_lenK (O : OwnK X.prog X.w X.K X.mg X.base C "__len__" n sp) (hr : Room k X.A) (hk : n + 1 ≤ k) : CallR X (.builtin "len") (rLenU X.K C sp) := by
  obtain ⟨f, h1, h2, h3⟩ := O.ex
  exact cr_lenU (f := f) ⟨h1, h2, h3⟩ (hr.mono hk)
theorem cr_strK (O : OwnK X.prog X.w X.K X.mg X.base C "__str__" n sp) (hr : Room k X.A) (hk : n + 2 ≤ k) : CallR X (.type "str") (rStrU C sp) := by
  obtain ⟨f, h1, h2, h3⟩ := O.ex
  exact cr_strU (f := f) ⟨h1, h2, h3⟩ (hr.mono hk)
theorem op_inK (O : OwnK X.prog X.w X.K X.mg X.base C "__contains__" n sp) (hr : Room k X.A) (hk : n ≤ k) (hu : X.A.units + 65 < cLine) : OpR X (compareOp .In) (rInU X.K C sp) := by
  obtain ⟨f, h1, h2, h3⟩ := O.ex
  exact op_inU (f := f) ⟨h1, h2, h3⟩ (hr.mono hk) hu
theorem op_eqK (O : OwnK X.prog X.w X.K X.mg X.base C "__eq__" n sp) (hr : Room k X.A) (hk : n ≤ k) (hu : X.A.units + 64 < cLine) : OpR X (compareOp .Eq) (rEqU X.K C sp) := by
  obtain ⟨f, h1, h2, h3⟩ := O.ex
  exact op_eqU (f := f) ⟨h1, h2, h3⟩ (hr.mono hk) hu
end
section
variable {K : PySem.W.Frag} {m : Mo} {Γ : G} {C : Addr} {ns : List Str} {xs : List D} {x : D} {pre : List D → Prop} {Sf : List D → D → Prop}
theorem c_lenOS {n : Int} (hp : pre [.obj C ns xs]) (hn : ∀ d, Sf [.obj C ns xs] d → d = .int n) (hb : 0 ≤ n ∧ n < 2 ^ 63) : Ca1 m K (rLenU K C (spS K pre Sf)) [.obj C ns xs] (.int n) := fun vs H I rs Q q => by
  cases rs with
  | cons rv rs =>
    cases rs
    obtain ⟨a, dx, fs, rfl, ha, _⟩ := rv.ins
    exact .inr ⟨a, dx, fs, rfl, ha, m.F, [.obj C ns xs], fun a f => m.fa I f, .cons rv .nil, hp, fun v d H' sd sm rv => ⟨n, (by rw [hn d sd] at rv; exact rv.intE), hb.1, hb.2, q _ _ H' rfl (m.grow I sm) (.int n)⟩⟩
theorem c_strOS {n : Str} (hp : pre [.obj C ns xs]) (hn : ∀ d, Sf [.obj C ns xs] d → d = .str n) : Ca1 m K (rStrU C (spS K pre Sf)) [.obj C ns xs] (.str n) := fun vs H I rs Q q => by
  cases rs with
  | cons rv rs =>
    cases rs
    obtain ⟨a, dx, fs, rfl, ha, _⟩ := rv.ins
    exact .inr ⟨a, dx, fs, rfl, ha, m.F, [.obj C ns xs], fun a f => m.fa I f, .cons rv .nil, hp, fun v d H' sd sm rv => ⟨n, (by rw [hn d sd] at rv; exact rv.strE), q _ _ H' rfl (m.grow I sm) (.str n)⟩⟩
theorem o_inOS {b : Bool} (hp : pre [.obj C ns xs, x]) (hn : ∀ d, Sf [.obj C ns xs, x] d → d = .bl b) : Op1 m K (rInU K C (spS K pre Sf)) x (.obj C ns xs) (.bl b) := fun vx vo H I rx rv Q q => by
  obtain ⟨a, dx, fs, rfl, ha, _⟩ := rv.ins
  exact .inr ⟨a, dx, fs, rfl, ha, m.F, [.obj C ns xs, x], fun a f => m.fa I f, .cons rv (.cons rx .nil), hp, fun v d H' sd sm rv => ⟨b, (by rw [hn d sd] at rv; exact rv.blE), q _ _ H' rfl (m.grow I sm) (.bl b)⟩⟩
theorem o_eqOS {b : Bool} (hx : (∃ ns' xs', x = .obj C ns' xs') ∨ ((∃ ts, x = .tup ts) ∧ PySem.W.notFirst K C (.type "tuple") = true)) (hp : pre [.obj C ns xs, x]) (hn : ∀ d, Sf [.obj C ns xs, x] d → d = .bl b) : Op1 m K (rEqU K C (spS K pre Sf)) (.obj C ns xs) x (.bl b) := fun vo vx H I rv rx Q q => by
  obtain ⟨a, dx, fs, rfl, ha, _⟩ := rv.ins
  refine .inr ⟨a, dx, fs, rfl, ha, ?_, m.F, [.obj C ns xs, x], fun a f => m.fa I f, .cons rv (.cons rx .nil), hp, fun v d H' sd sm rv => ⟨b, (by rw [hn d sd] at rv; exact rv.blE), q _ _ H' rfl (m.grow I sm) (.bl b)⟩⟩
  rcases hx with ⟨ns', xs', e⟩ | ⟨⟨ts, e⟩, hnf⟩
  · subst e
    obtain ⟨a', dx', fs', rfl, ha', _⟩ := rx.ins
    exact .ins ha'
  · subst e
    obtain ⟨a', vs', rfl, hs, _⟩ := rx.tupE
    exact .tup hs hnf
end
end Tx
namespace Tx
open PySem L2
section
variable {K : PySem.W.Frag} {m : Mo} {Γ : G} {te : TE} {d : D}
theorem en_neg {i : Int} (h : Ev1 m K te Γ (.int i)) : Ev1 m K (tUn (rU fun i => .int (-i)) te) Γ (.int (-i)) := fun σ H e Q q =>
  h σ H e _ fun v d' H1 s r1 rv => by
    subst s
    exact ⟨i, rv.intE, q _ _ H1 rfl r1 (.int _)⟩
theorem en_dic : Ev1 m K tDNewK Γ .dic := fun σ H e Q q => fun p hp => q _ _ _ rfl (m.grow e.i (same_new hp)) (.dic (fun f => m.fa e.i f hp) upd_same)
end
theorem maxI_pos : ∀ (ns : List Int) (n : Int), (ns.foldl max n > 0) ↔ (n > 0 ∨ ∃ x ∈ ns, x > 0)
  | [], n => by simp
  | a :: ns, n => by
    rw [List.foldl_cons, maxI_pos ns (max n a)]
    simp only [List.mem_cons, exists_eq_or_imp]
    constructor
    · rintro (h | h)
      · by_cases q : n > 0
        · exact .inl q
        · exact .inr (.inl (by omega))
      · exact .inr (.inr h)
    · rintro (h | h | h)
      · exact .inl (by omega)
      · exact .inl (by omega)
      · exact .inr h
theorem maxN_any {ms : List Nat} (h : ms ≠ []) : ∃ (n : Int) (ns : List Int), ms.map (fun k : Nat => (k : Int)) = n :: ns ∧ decide (ns.foldl max n > 0) = ms.any (· != 0) := by
  cases ms with
  | nil => exact absurd rfl h
  | cons a ms =>
    refine ⟨a, ms.map fun k : Nat => (k : Int), rfl, ?_⟩
    by_cases q : (ms.map fun k : Nat => (k : Int)).foldl max (a : Int) > 0
    · rw [decide_eq_true q]
      rcases (maxI_pos _ _).mp q with h | ⟨x, hx, h⟩
      · have : (a != 0) = true := bne_iff_ne.mpr (by omega)
        rw [List.any_cons, this, Bool.true_or]
      · obtain ⟨k, hk, rfl⟩ := List.mem_map.mp hx
        have : ms.any (· != 0) = true := List.any_eq_true.mpr ⟨k, hk, bne_iff_ne.mpr (by omega)⟩
        rw [List.any_cons, this, Bool.or_true]
    · rw [decide_eq_false q]
      symm
      rw [List.any_eq_false]
      intro x hx z
      have z := bne_iff_ne.mp z
      refine q ((maxI_pos _ _).mpr ?_)
      rcases List.mem_cons.mp hx with e | hx
      · exact .inl (by omega)
      · exact .inr ⟨x, List.mem_map.mpr ⟨x, hx, rfl⟩, by omega⟩
end Tx
namespace Tx
open PySem L2
theorem ok_ofString (s : String) : PyData.strOk (Str.ofString s) = true := by
  unfold PyData.strOk
  rw [Str.ofString_eq_toList]
  rw [Array.all_eq_true']
  intro c hc
  simp only [List.mem_toArray, List.mem_map] at hc
  obtain ⟨ch, _, rfl⟩ := hc
  have := ch.valid
  refine decide_eq_true ?_
  show ch.val.toNat < 0x110000
  rcases this with h | ⟨_, h⟩
  · exact Nat.lt_trans h (by decide)
  · exact h
theorem ok_app {a b : Str} (ha : PyData.strOk a = true) (hb : PyData.strOk b = true) : PyData.strOk (a ++ b) = true := by
  unfold PyData.strOk at *
  rw [Str.cps_append, Array.all_append, ha, hb]
  rfl
theorem ok_empty : PyData.strOk Str.empty = true := by decide +kernel
theorem ok_tx (n : Nat) : PyData.strOk (tx n) = true := ok_ofString _
theorem ok_join {sep : Str} (hs : PyData.strOk sep = true) : ∀ {l : List Str}, (∀ x ∈ l, PyData.strOk x = true) → PyData.strOk (Str.join sep l) = true
  | [], _ => ok_empty
  | [x], h => h x List.mem_cons_self
  | x :: y :: r, h => ok_app (ok_app (h x List.mem_cons_self) hs) (ok_join hs fun z hz => h z (List.mem_cons_of_mem _ hz))
theorem ok_joinT {sep : Str} (hs : PyData.strOk sep = true) {l : List Str} (h : ∀ x ∈ l, PyData.strOk x = true) : PyData.strOk (Txt.join sep l) = true := by
  have e : Txt.join sep l = Str.join sep l := StrLaws.glued_eq_join sep l
  rw [e]
  exact ok_join hs h
end Tx

set_option Elab.async false
set_option linter.all false
set_option maxRecDepth 100000
set_option maxHeartbeats 1000000
set_option autoImplicit false
/-! Tx: != of own instances, by their own == -/
namespace Tx
open PySem PySem.Spec PyProof.Rows L2
section
open PySem.W
variable {prog : Program} {w : World} {A : Around} {E : Value → Shared → Prop} {s : Shared} {K : Frag} {x C L f : Addr} {h₀ : Heap} {m : Str → Option Value} {ox : Obj} {od : Option Obj} {name : Str} {b tb : Value}
theorem check_slot_K {id owner n : String} {rest : List Value} {Q : Unit → Shared → Prop} (hk : builtinKind id = some .slot) (hs : splitId id = some (owner, n)) (ha : argsOk id ⟨.ref x :: rest, []⟩) (X : K.In s.heap) (I : InstAt s.heap x ox C od) (hm : mroIn K C (.type owner) = some true) (hq : Q () s) :
    wpAny (model prog w) A (checkBuiltinCall id ⟨.ref x :: rest, []⟩) Q E s := by
  simp only [checkBuiltinCall, hk, hs]
  refine wpAny_bind ?_
  · unfold isInstance
    refine wpAny_bind (I.type.here ((looks_mroIn X hm).here ?_))
    cases hsig : Manifest.signature? id with
    | none => exact wpAny_pure hq
    | some sig =>
      simp only [argsOk, hsig] at ha
      have h2 : Bind.checkArgs id sig ⟨.ref x :: rest, []⟩ = pure () := ha
      show wpAny _ A (Bind.checkArgs id sig ⟨.ref x :: rest, []⟩) Q E _
      rw [h2]
      exact wpAny_pure hq
theorem ifBoundB_K {M : Model} {id : String} {args : List Value} {Q : Option Value → Shared → Prop} (X : K.In s.heap) (I : InstAt s.heap x ox C od) (hs : findIn K (.ref C) name = some (some (.builtin id))) (hb : ∀ self, bindSpecial (.builtin id) self = pure (.builtin id, [self]))
    (h : wpAny M A (call (.builtin id) (.ref x :: args)) (fun v => Q (some v)) E s) : wpAny M A (callSpecialIfBound? (.ref x) name args) Q E s := by
  simp only [callSpecialIfBound?, bindSpecialIfBound?]
  refine wpAny_holding (wpAny_bind (wpAny_bind (wpAny_bind (I.type.here ((looks_findIn X hs).here ?_)))))
  simp only [hb]
  refine wpAny_bind (wpAny_askSetting (wpAny_ite ?_))
  have fin : wpAny M A (call (.builtin id) ([.ref x] ++ args) >>= fun v => pure (some v)) Q E s := wpAny_bind (wpAny_mono h (fun v s' h' => wpAny_pure h') fun _ _ h' => h')
  split
  · exact wpAny_bind (wpAny_pure (wpAny_pure (by exact fin)))
  · exact wpAny_tryCatch (wpAny_bind (wpAny_pure (wpAny_pure (by exact fin))))
theorem objNe_K (X : K.In s.heap) (I : InstAt s.heap x ox C od) (hu : A.units < cLine) (he : findIn K (.ref C) "__eq__" = some (some (.ref f))) (hf : isFn K (.ref f) = true) {Q : Fin → Shared → Prop}
    (hcall : wpAny (model prog w) A (call (.ref f) [.ref x, b]) (fun v s' => ∃ k, v = .bool k ∧ Q (.done (.ret (.bool (!k)))) s') E s) : wpAny (model prog w) A (Builtin.«object.__ne__» ⟨[.ref x, b], []⟩) Q E s := by
  unfold Builtin.«object.__ne__»
  repeat (first
    | with_reducible refine wpAny_cRoomFor hu ?_
    | (refine wpAny_bind (m := callSpecialIfBound? (.ref x) (Str.ofString "__eq__") [b])
        (ifBound_K X I he hf (wpAny_mono hcall (fun r s' hr => by
          obtain ⟨k, rfl, hq⟩ := hr
          repeat (first | exact hq | exact wpAny_pure hq | exact wpAny_truthy_bool hq | (refine wpAny_bind (m := truthy (.bool _)) (wpAny_truthy_bool ?_)) | wp_step)) fun _ _ e => e)))
    | wp_step)
theorem cmpNe_K {Q : Value → Shared → Prop} (hu : A.units + 1 < cLine) (F : Fr h₀ L s.heap m) (X₀ : K.In h₀) (I : InstAt s.heap x ox C od) (hb : Looks (model prog w) s.heap (typeOf b) tb) (hn : notFirst K C tb = true)
    (hs : findIn K (.ref C) "__ne__" = some (some (.builtin "object.__ne__"))) (hm : mroIn K C (.type "object") = some true) (he : findIn K (.ref C) "__eq__" = some (some (.ref f))) (hf : isFn K (.ref f) = true)
    (h : wpAny (model prog w) A.in1 (call (.ref f) [.ref x, b]) (fun v s' => ∃ k, v = .bool k ∧ Q (.bool (!k)) s') E s) : wpAny (model prog w) A (richCompare .NotEq (.ref x) b) Q E s := by
  have X := X₀.keeps F.keep
  have slot := PySem.F.slot_object_ne
  have both : wpAny (model prog w) A (tryCompare (.ref x) (cmpInfo .NotEq).2.1 b) (fun r s' => ∃ v, r = some v ∧ Q v s') E s := by
    unfold tryCompare
    refine wpAny_bind (ifBoundB_K (name := (cmpInfo .NotEq).2.1) X I hs slot.bind (wpAny_call (codeAny_call_builtin slot.plain PySem.F.cmpEntry_ne (check_slot_K PySem.F.cmpKind_ne PySem.F.cmpSplit_ne (PySem.F.cmpArgs_ne _ _) X I hm (objNe_K (A := A.in1) X I hu he hf (wpAny_mono h (fun v s' hv => ?_) fun _ _ e => e))))))
    obtain ⟨k, rfl, q⟩ := hv
    exact ⟨k, rfl, wpAny_pure ⟨_, rfl, q⟩⟩
  unfold richCompare
  simp only [oneThing_ref]
  refine wpAny_holding (wpAny_bind (wpAny_cRoomFor (Nat.lt_of_succ_lt hu) (wpAny_bind (I.type.here (wpAny_bind (hb.here ?_))))))
  have last : ∀ {s'' : Shared}, s'' = s → wpAny (model prog w) A (tryCompare (.ref x) (cmpInfo .NotEq).2.1 b) (fun r s' => ∃ v, r = some v ∧ Q v s') E s'' := fun e => e ▸ both
  split
  · rename_i q
    have e : subIn K tb (.ref C) = some false := by
      rcases Bool.or_eq_true_iff.mp hn with z | z
      · rw [beq_iff_eq.mp z] at q; simp at q
      · exact beq_iff_eq.mp z
    refine wpAny_bind ((looks_subIn X e).here ?_)
    simp only [Bool.false_eq_true, if_false]
    exact wpAny_bind (wpAny_mono (last rfl) (fun r s' z => by obtain ⟨v, rfl, hq⟩ := z; exact wpAny_pure hq) fun _ _ e => e)
  · refine wpAny_bind (wpAny_pure ?_)
    simp only [Bool.false_eq_true, if_false]
    exact wpAny_bind (wpAny_mono (last rfl) (fun r s' z => by obtain ⟨v, rfl, hq⟩ := z; exact wpAny_pure hq) fun _ _ e => e)
end
section
variable {X : Cx}
/-- o != y, by its own == -/
def rNeO (K : PySem.W.Frag) (C : Addr) (sp : Sp) : R2 := fun x y H Q => ∃ (a dx : Addr) (fs : List (Str × V)), x = .ref a ∧ H a = some (.ins C dx fs) ∧ NotSub K C H y ∧ sp [.ref a, y] H (fun v H' => ∃ b : Bool, v = .bl b ∧ Q (.bl (!b)) H') E0
/-- that the class has no != of its own -/
structure NeC (K : PySem.W.Frag) (C : Addr) : Prop where
  ne : PySem.W.findIn K (.ref C) "__ne__" = some (some (.builtin "object.__ne__"))
  ob : PySem.W.mroIn K C (.type "object") = some true
theorem op_neO {C : Addr} {n k : Nat} {sp : Sp} (O : OwnK X.prog X.w X.K X.mg X.base C "__eq__" n sp) (c : NeC X.K C) (hr : Room k X.A) (hk : n + 1 ≤ k) : OpR X (compareOp .NotEq) (rNeO X.K C sp) := by
  intro pins s σ H x y v u Q I rx ry q0
  obtain ⟨a, dx, fs, rfl, ha, ns, hsp⟩ := q0
  obtain ⟨f, h1, h2, fd, ps, F, hb⟩ := O.ex
  cases rx
  have hr' : Room (n + 1) X.A := hr.mono hk
  obtain ⟨_, J, _⟩ := ins_get I.hok ha
  obtain ⟨od, J, _⟩ := J.look
  obtain ⟨m, hF⟩ := I.fr
  have hl : ∃ tb, PySem.W.Looks (model X.prog X.w) s.heap (typeOf u) tb ∧ PySem.W.notFirst X.K C tb = true := by
    cases ns with
    | ins hb' =>
      cases ry
      obtain ⟨_, J2, _⟩ := ins_get I.hok hb'
      obtain ⟨_, J2, _⟩ := J2.look
      exact ⟨_, J2.type, by simp [PySem.W.notFirst]⟩
    | tup ht hn =>
      cases ry
      obtain ⟨_, _, p, _⟩ := I.tuple ht
      obtain ⟨o, ho, hc, _⟩ := p
      exact ⟨_, hc ▸ (PySem.W.Looks.ld ho).andThen .now, hn⟩
  obtain ⟨tb, hl, hn⟩ := hl
  show wpAny _ X.A (richCompare .NotEq (.ref a) u) (EP X pins σ Q) X.xe s
  refine cmpNe_K (tb := tb) (Nat.lt_of_le_of_lt (Nat.add_le_add_left (by decide : 1 ≤ 64) _) hr'.units) hF I.ok.mod.kin J hl hn c.ne c.ob h1 h2 (wpAny_mono (run_own F hb hr'.in1 rfl I (rr2 a ry) hsp) (fun z s' hv => ?_) fun _ _ z => z)
  obtain ⟨_, H', I', rz, b, e, q⟩ := hv
  subst e
  cases rz
  exact ⟨b, rfl, .bl (!b), H', I', rfl, q⟩
def rNeU (K : PySem.W.Frag) (C : Addr) (sp : Sp) : R2 := fun x y H Q => rNeD K x y H Q ∨ rNeO K C sp x y H Q
theorem op_neK {C : Addr} {n k : Nat} {sp : Sp} (O : OwnK X.prog X.w X.K X.mg X.base C "__eq__" n sp) (c : NeC X.K C) (hr : Room k X.A) (hk : n + 1 ≤ k) (hu : X.A.units + 64 < cLine) : OpR X (compareOp .NotEq) (rNeU X.K C sp) := (op_neD hu).or (op_neO O c hr hk)
end
section
variable {K : PySem.W.Frag} {m : Mo} {C : Addr} {ns : List Str} {xs : List D} {x : D} {pre : List D → Prop} {Sf : List D → D → Prop}
theorem o_neOS {b : Bool} (hx : (∃ ns' xs', x = .obj C ns' xs') ∨ ((∃ ts, x = .tup ts) ∧ PySem.W.notFirst K C (.type "tuple") = true)) (hp : pre [.obj C ns xs, x]) (hn : ∀ d, Sf [.obj C ns xs, x] d → d = .bl b) : Op1 m K (rNeU K C (spS K pre Sf)) (.obj C ns xs) x (.bl (!b)) := fun vo vx H I rv rx Q q => by
  obtain ⟨a, dx, fs, rfl, ha, _⟩ := rv.ins
  refine .inr ⟨a, dx, fs, rfl, ha, ?_, m.F, [.obj C ns xs, x], fun a f => m.fa I f, .cons rv (.cons rx .nil), hp, fun v d H' sd sm rv => ⟨b, (by rw [hn d sd] at rv; exact rv.blE), q _ _ H' rfl (m.grow I sm) (.bl (!b))⟩⟩
  rcases hx with ⟨ns', xs', e⟩ | ⟨⟨ts, e⟩, hnf⟩
  · subst e
    obtain ⟨_, _, _, rfl, ha', _⟩ := rx.ins
    exact .ins ha'
  · subst e
    obtain ⟨_, _, rfl, hs, _⟩ := rx.tupE
    exact .tup hs hnf
theorem o_neUD {sp : Sp} {a b : D} {n : Nat} (hn : n ≤ 60) (ha : pur n a = true) (hb : pur n b = true) : Op1 m K (rNeU K C sp) a b (.bl (!PyData.eqv a.py b.py)) := fun x y H I rx ry Q q => .inl (o_neP hn ha hb x y H I rx ry Q q)
end
end Tx

set_option Elab.async false
set_option linter.all false
set_option maxRecDepth 100000
set_option maxHeartbeats 1000000
set_option autoImplicit false
/-! Tx: slices, lists that are multiplied, places, what is popped and put -/
namespace Tx
open PySem L2
section
variable {K : PySem.W.Frag} {m : Mo} {Γ : G} {ta tb te tv : TE} {ts tw : TS} {d : D} {ds : List D} {l : Addr} {H0 : Hp}
theorem RpAll.dropN {F : Addr → Prop} {H : Hp} : ∀ (n : Nat) {vs : List V} {ds : List D}, RpAll K F H vs ds → RpAll K F H (vs.drop n) (ds.drop n)
  | 0, _, _, h => h
  | n + 1, _, _, .nil => .nil
  | n + 1, _, _, .cons _ t => RpAll.dropN n t
theorem RpAll.takeN {F : Addr → Prop} {H : Hp} : ∀ (n : Nat) {vs : List V} {ds : List D}, RpAll K F H vs ds → RpAll K F H (vs.take n) (ds.take n)
  | 0, _, _, _ => .nil
  | n + 1, _, _, .nil => .nil
  | n + 1, _, _, .cons r t => .cons r (RpAll.takeN n t)
theorem RpAll.eraseN {F : Addr → Prop} {H : Hp} : ∀ (n : Nat) {vs : List V} {ds : List D}, RpAll K F H vs ds → RpAll K F H (vs.eraseIdx n) (ds.eraseIdx n)
  | _, _, _, .nil => .nil
  | 0, _, _, .cons _ t => t
  | n + 1, _, _, .cons r t => .cons r (RpAll.eraseN n t)
theorem RpAll.setN {F : Addr → Prop} {H : Hp} {v : V} {d : D} (rv : Rp K F H v d) : ∀ (n : Nat) {vs : List V} {ds : List D}, RpAll K F H vs ds → RpAll K F H (vs.set n v) (ds.set n d)
  | _, _, _, .nil => .nil
  | 0, _, _, .cons _ t => .cons rv t
  | n + 1, _, _, .cons r t => .cons r (RpAll.setN rv n t)
/-! a slice's parts -/
def EvO (m : Mo) (K : PySem.W.Frag) (to : TO) (Γ : G) (o : Option Int) : Prop := ∀ σ H, ER m K Γ σ H → ∀ Q : Option Int → Hp → Prop, (∀ H', m.R H H' → Q o H') → to σ H Q
theorem eo_none : EvO m K tNoPart Γ none := fun σ H e Q q => q H (m.refl H)
theorem eo_some {i : Int} (h : Ev1 m K te Γ (.int i)) : EvO m K (tPart te) Γ (some i) := fun σ H e Q q => h σ H e _ fun v d' H1 s r1 rv => by
  subst s
  exact ⟨i, rv.intE, q H1 r1⟩
def cutD (ds : List D) (lo hi : Option Int) : List D := (ds.drop (HT.sIx ds.length 0 lo)).take (HT.sIx ds.length ds.length hi - HT.sIx ds.length 0 lo)
theorem cutD_to {n : Nat} (hn : n ≤ ds.length) : cutD ds none (some (n : Int)) = ds.take n := by
  unfold cutD
  rw [HT.sIx_none, HT.sIx_nat, List.drop_zero, Nat.sub_zero, Nat.min_eq_left hn]
theorem cutD_from {n : Nat} (hn : n ≤ ds.length) : cutD ds (some (n : Int)) none = ds.drop n := by
  unfold cutD
  rw [HT.sIx_nat, HT.sIx_none, Nat.min_eq_left hn, List.take_of_length_le (by rw [List.length_drop]; exact Nat.le_refl _)]
theorem en_slT {tl th : TO} {lo hi : Option Int} (h : Ev1 m K te Γ (.tup ds)) (hl : EvO m K tl Γ lo) (hh : EvO m K th Γ hi) : Ev1 m K (tSl (rSlA K) te tl th) Γ (.tup (cutD ds lo hi)) := fun σ H e Q q =>
  h σ H e _ fun v d' H1 s r1 rv => hl σ H1 (e.mv r1) _ fun H2 r2 => hh σ H2 ((e.mv r1).mv r2) _ fun H3 r3 => by
    subst s
    have i1 := m.inv r1 e.i
    have i3 := m.inv r3 (m.inv r2 i1)
    have rv3 : Rp K m.F H3 v (.tup ds) := rv.mv fun a o n x => m.keep r3 (m.inv r2 i1) a o n (m.keep r2 i1 a o n x)
    have rr := m.trans r1 (m.trans r2 r3)
    obtain ⟨a, vs, rfl, hs, ra⟩ := rv3.tupE
    have len := ra.len
    refine ⟨a, vs, rfl, hs, fun hw => ?_, fun hw p hp => ?_⟩
    · rw [len] at hw
      have : cutD ds lo hi = ds := by
        unfold cutD
        rw [hw.1, hw.2, List.drop_zero, Nat.sub_zero, List.take_length]
      exact q _ _ H3 rfl rr (by rw [this]; exact rv3)
    · refine q _ _ _ rfl (m.trans rr (m.grow i3 (same_new hp))) (rp_new i3 hp ?_)
      unfold cutV cutD
      rw [len]
      exact RpAll.takeN _ (RpAll.dropN _ ra)
theorem RpAll.repL {F : Addr → Prop} {H : Hp} {vs : List V} {ds : List D} (r : RpAll K F H vs ds) : ∀ n, RpAll K F H (List.replicate n vs).flatten (List.replicate n ds).flatten
  | 0 => .nil
  | n + 1 => by
    rw [List.replicate_succ, List.replicate_succ, List.flatten_cons, List.flatten_cons]
    exact r.append (RpAll.repL r n)
theorem rep_one (d : D) : ∀ n, (List.replicate n [d]).flatten = List.replicate n d
  | 0 => rfl
  | n + 1 => by rw [List.replicate_succ, List.replicate_succ, List.flatten_cons, rep_one d n]; rfl
/-! a list that is made last: it may be owned -/
def EvL (m : Mo) (K : PySem.W.Frag) (te : TE) (Γ : G) (ds : List D) : Prop := ∀ σ H, ER m K Γ σ H → ∀ Q : VK, (∀ l H1 vs, m.R H H1 → H1 l = none → RpAll K m.F H1 vs ds → Q (.ref l) (upd H1 l (.lst vs))) → te σ H Q
theorem el_lst {ta : TA} (h : EvA1 m K ta Γ ds) (hz : ds.length ≤ 100000) : EvL m K (tLst ta) Γ ds := fun σ H e Q q =>
  h σ H e _ fun vs ds' H1 s r1 rs => by
    subst s
    exact ⟨Nat.le_trans (show vs.length ≤ 100000 by have := rs.len; omega) (by decide), fun l hl => q l H1 vs r1 hl rs⟩
theorem el_list {b : D} (h : Ev1 m K te Γ b) (hd : isSeq b ds) : EvL m K (tCB (rLst K) (tCons te tNil)) Γ ds := fun σ H e Q q =>
  h σ H e _ fun v d H1 s r1 rv => by
    subst s
    obtain ⟨a, vs, rfl, ra, hs⟩ := seq_standsX (m := m) rv hd
    refine ⟨a, vs, rfl, ?_, fun l hl => q l H1 vs r1 hl ra⟩
    rcases hs with hs | hs
    · exact .inl (hs H1 fun _ _ _ e => e)
    · exact .inr (hs H1 fun _ _ _ e => e)
def rMulL (K : PySem.W.Frag) : R2 := fun x y H Q => rMulU K x y H Q ∨ rRep x y H Q
theorem op_mulL {X : Cx} : OpR X (binaryOp .Mult) (rMulL X.K) := op_mulU.or op_rep
theorem el_mul {n : Nat} {d : D} (h : Ev1 m K ta Γ (.lst [d])) (hn : Ev1 m K tb Γ (dN n)) (hz : n ≤ 100000) : EvL m K (tOp (rMulL K) ta tb) Γ (List.replicate n d) := fun σ H e Q q =>
  h σ H e _ fun v d' H1 s r1 rv => hn σ H1 (e.mv r1) _ fun w dw H2 s2 r2 rw' => by
    subst s; subst s2
    have i1 := m.inv r1 e.i
    obtain ⟨a, vs, rfl, ha, ra⟩ := (rv.mv (m.keep r2 i1)).lstE
    obtain rfl := rw'.intE
    have hv : vs.length = 1 := ra.len
    refine .inr ⟨a, n, vs, rfl, rfl, ha, by omega, by omega, Nat.le_trans (show vs.length * (n : Int).toNat ≤ 100000 by rw [hv, Int.toNat_natCast]; omega) (by decide), fun p hp => ?_⟩
    have := q p H2 (List.replicate n vs).flatten (m.trans r1 r2) hp (by have z := RpAll.repL ra n; rw [rep_one] at z; exact z)
    rw [Int.toNat_natCast]
    exact this
/-- x = such a list; rest -/
theorem sq_ownL {i : Nat} {O : Out} (h : EvL m K te Γ ds) (k : ∀ l H0, SGo m K l H0 tw (Γ.set i (some (.adr l))) ds { nx := fun _ _ => False, rt := O.rt }) : SG m K (tSeq (tAsg te (gName i)) tw) Γ O := fun σ H e E M =>
  h σ H e _ fun l H1 vs r1 hl rs => by
    have e1 := e.mv r1
    have rN : m.R H1 (upd H1 l (.lst vs)) := m.grow e1.i (same_new hl)
    have eX : ER (m.ext l) K Γ σ (upd H1 l (.lst vs)) := e1.ext hl rN (by rw [upd_same]; exact fun z => nomatch z)
    have rs' : RpAll K (m.ext l).F (upd H1 l (.lst vs)) vs ds := Rp.goAll (fun a o n q => ⟨fun z => z.elim n fun z => (by rw [z, hl] at q; cases q), same_new hl a o q⟩) rs
    exact k l H1 hl e1.i _ _ vs rN (eX.set i (.adr l)) upd_same rs' E ⟨fun _ _ _ _ _ o => o.elim, fun d v H' o r rv => M.rt d v H' o (m.trans r1 r) rv⟩
/-! data of tuples alone leans on no list -/
def ttree : Nat → D → Bool
  | _, .non => true
  | _, .bl _ => true
  | _, .int _ => true
  | _, .str _ => true
  | n + 1, .tup xs => xs.all (ttree n)
  | _, _ => false
theorem Rp.off {F : Addr → Prop} {H : Hp} {vs0 : List V} (hl : H l = some (.lst vs0)) : ∀ (n : Nat) {d : D} {v : V}, ttree n d = true → Rp K F H v d → Rp K (fun a => F a ∨ a = l) H v d
  | n, .non, _, _, .non => .non
  | n, .bl _, _, _, .bl b => .bl b
  | n, .int _, _, _, .int i => .int i
  | n, .str _, _, _, .str s => .str s
  | n + 1, .tup xs, _, ht, .tup nf h t => by
    refine .tup (fun z => z.elim nf fun z => ?_) h ?_
    · subst z
      rcases h with h | ⟨o, h⟩ <;> (rw [hl] at h; cases h)
    · have ht' : ∀ x ∈ xs, ttree n x = true := List.all_eq_true.mp ht
      have go : ∀ {ys : List D} {ws : List V}, (∀ x ∈ ys, ttree n x = true) → RpAll K F H ws ys → RpAll K (fun a => F a ∨ a = l) H ws ys := fun {ys} => by
        induction ys with
        | nil => intro ws _ r; cases r; exact .nil
        | cons y ys ih =>
          intro ws hy r
          cases r with
          | cons r1 r2 => exact .cons (Rp.off hl n (hy y List.mem_cons_self) r1) (ih (fun x hx => hy x (List.mem_cons_of_mem _ hx)) r2)
      exact go ht' t
  | n + 1, .tup xs, _, ht, .ktup h t => by
    refine .ktup h ?_
    have ht' : ∀ x ∈ xs, ttree n x = true := List.all_eq_true.mp ht
    have go : ∀ {ys : List D} {ws : List V}, (∀ x ∈ ys, ttree n x = true) → RpAll K F H ws ys → RpAll K (fun a => F a ∨ a = l) H ws ys := fun {ys} => by
      induction ys with
      | nil => intro ws _ r; cases r; exact .nil
      | cons y ys ih =>
        intro ws hy r
        cases r with
        | cons r1 r2 => exact .cons (Rp.off hl n (hy y List.mem_cons_self) r1) (ih (fun x hx => hy x (List.mem_cons_of_mem _ hx)) r2)
    exact go ht' t
  | 0, .lst _, _, ht, _ => by cases ht
  | 0, .tup _, _, ht, _ => by cases ht
  | 0, .obj _ _ _, _, ht, _ => by cases ht
  | 0, .adr _, _, ht, _ => by cases ht
  | 0, .dic, _, ht, _ => by cases ht
  | 0, .frl _, _, ht, _ => by cases ht
  | 0, .ftp _, _, ht, _ => by cases ht
  | 0, .dct _ _ _, _, ht, _ => by cases ht
  | _ + 1, .dct _ _ _, _, ht, _ => by cases ht
  | _ + 1, .lst _, _, ht, _ => by cases ht
  | _ + 1, .obj _ _ _, _, ht, _ => by cases ht
  | _ + 1, .adr _, _, ht, _ => by cases ht
  | _ + 1, .dic, _, ht, _ => by cases ht
  | _ + 1, .frl _, _, ht, _ => by cases ht
  | _ + 1, .ftp _, _, ht, _ => by cases ht
/-- x[k] = e, the list one's own; e may read the list -/
theorem so_setD {i k : Nat} {ti : TE} {O : OutO} {n : Nat} (hi : Γ[i]? = some (some (.adr l))) (h : Ev1 m K te (Γ.set i (some (.lst ds))) d) (ht : ttree n d = true) (hk : Ev1 (m.ext l) K ti Γ (dN k)) (hlt : k < ds.length) (kk : O.nx Γ (ds.set k d)) : SGo m K l H0 (tAsg te (gSub (tVar i) ti rSetL)) Γ ds O := fun h0 i0 σ H vs r e hl ra E M =>
  h σ H (er_dis h0 i0 e hi hl ra) _ fun v d' H1 s r1 rv => by
    subst s
    have e1 : ER (m.ext l) K Γ σ H1 := e.mv (m := m.ext l) r1
    have hl1 : H1 l = some (.lst vs) := m.keep r1 e.i.1 l _ (nFl h0 i0) hl
    have ra1 : RpAll K (m.ext l).F H1 vs ds := ra.mv ((m.ext l).keep r1 e.i)
    have rv1 : Rp K (m.ext l).F H1 v d' := Rp.off hl1 n ht rv
    obtain ⟨w, h1, h2⟩ := e1.at_ i _ hi
    obtain rfl := h2.adrE
    refine ⟨_, h1, hk σ H1 e1 _ fun z dz H2 s2 r2 rz => ?_⟩
    subst s2
    obtain rfl := rz.intE
    have e2 := e1.mv r2
    have hl2 : H2 l = some (.lst vs) := m.keep r2 e1.i.1 l _ (nFl h0 i0) hl1
    have ra2 : RpAll K (m.ext l).F H2 vs ds := ra1.mv ((m.ext l).keep r2 e1.i)
    have rv2 : Rp K (m.ext l).F H2 v d' := rv1.mv ((m.ext l).keep r2 e1.i)
    refine ⟨l, vs, k, k, rfl, rfl, hl2, Evl.ixN_nat (by rw [ra.len]; exact hlt), ?_⟩
    have mv : ∀ a o, ¬ (m.ext l).F a → H2 a = some o → (upd H2 l (.lst (vs.set k v))) a = some o := fun a o n q => by rw [upd_ne (fun z => n (.inr z))]; exact q
    have rr : m.R H0 (upd H2 l (.lst (vs.set k v))) := m.chg i0 (m.trans r (m.trans r1 r2)) h0
    refine M.nx Γ _ σ _ (vs.set k v) kk rr (fun a o n q => mv a o n ((m.ext l).keep r2 e1.i a o n ((m.ext l).keep r1 e.i a o n q))) ⟨⟨m.inv rr i0, by rw [upd_same]; exact fun z => nomatch z⟩, e2.len, fun j d h => let ⟨v, h1, h2⟩ := e2.at_ j d h; ⟨v, h1, h2.go fun a o n q => ⟨n, mv a o n q⟩⟩⟩ upd_same ((ra2.setN rv2 k).mv mv)
end
end Tx

set_option Elab.async false
set_option linter.all false
set_option maxRecDepth 100000
set_option maxHeartbeats 1000000
set_option autoImplicit false
/-! Tx: sorted({e for x in xs if c}), e a number -/
namespace Tx
open PySem L2
/-- what such a set comprehension asks: each number that comes is put into the set at Dl -/
def tSetI (w : World) (wi : TI) (g : TG) (tt : TT) (te : TE) (vs : List Nat) : TE := fun σ H Q => wi σ H fun J H1 => ∀ Dl, H1 Dl = none →
  ∃ W : Nat → Nat → Hp → Prop, (∃ m0, W 0 m0 (upd H1 Dl (SetO w Dl (fun _ => false) 0))) ∧ ∀ i m0 H2, W i m0 H2 → (J.stop i H2 ∧ Q (.ref Dl) H2) ∨ (J.go i H2 ∧
    ∃ Nx : Hp → Prop, (∀ H3, Nx H3 → ∃ m1, m1 < m0 ∧ W (i + 1) m1 H3) ∧ ∀ x H3, J.yld i H2 x H3 → g x (wipe σ vs) H3 fun σ2 H4 => wipe σ2 vs = wipe σ vs ∧ tt σ2 H4 fun b H5 =>
      if b = true then te σ2 H5 fun y H6 => ∃ (c : Int) (S : Int → Bool) (n : Nat), y = .int c ∧ H6 Dl = some (SetO w Dl S n) ∧ n + 1 < scanBound ∧ Nx (upd H6 Dl (SetO w Dl (fun j => S j || decide (j = c)) (if S c = true then n else n + 1))) else Nx H5)
section
variable {K : PySem.W.Frag} {m : Mo} {Γ : G} {te : TE} {tt : TT} {w : World}
theorem en_sortSet {α : Type} {wi : TI} {g : TG} {vs : List Nat} {xs : List α} {js : List Nat} (enc : α → D) (t : α → Bool) (f : α → Int) (hc : ∀ x ∈ xs, ∀ y ∈ xs, enc x = enc y → x = y) (hj : ∀ j ∈ js, j ∈ vs) (hi : ItD1 m K wi Γ (xs.map enc)) (hu : xs.length < 60)
    (hs : ∀ m', Mo.Le m m' → ∀ x, x ∈ xs → ∃ Γ2, TgD m' K g (wipeG Γ vs) (enc x) js Γ2 ∧ EvT1 m' K tt Γ2 (t x) ∧ (t x = true → Ev1 m' K te Γ2 (.int (f x)))) :
    EvN m K (tCB (rSortedSet w) (tCons (tSetI w wi g tt te vs) tNil)) Γ (fun d => ∃ ns : List Int, d = .lst (ns.map D.int) ∧ ns.Pairwise (· < ·) ∧ ∀ k, k ∈ ns ↔ k ∈ (xs.filter t).map f) := fun σ H e Q q => by
  refine (show tSetI w wi g tt te vs σ H (fun x H2 => rSortedSet w [x] H2 Q) from ?_)
  refine hi σ H e _ fun J zs H1 hz r1 wk => fun Dl hD => ?_
  subst hz
  have e1 := e.mv r1
  have nF : ¬ m.F Dl := fun f => m.fa e1.i f hD
  have rN : m.R H1 (upd H1 Dl (SetO w Dl (fun _ => false) 0)) := m.grow e1.i (same_new hD)
  have wkA : ∀ H', m.R H1 H' → (m.ext Dl).I H' → WkD (m.ext Dl) K J H' (xs.map enc) := fun H' r i => wk (m.ext Dl) (m.le_ext Dl) H' i r fun a f n => f.elim (fun f => absurd f n) fun z => z ▸ hD
  refine ⟨fun i k H' => k = xs.length - i ∧ i ≤ xs.length ∧ m.R H1 H' ∧ ∃ S n, H' Dl = some (SetO w Dl S n) ∧ n ≤ i ∧ ∀ j, S j = true ↔ j ∈ ((xs.take i).filter t).map f, ⟨_, rfl, Nat.zero_le _, rN, _, 0, upd_same, Nat.le_refl 0, fun j => by simp⟩, ?_⟩
  rintro i k H' ⟨rfl, hle, r, S, n, hS, hn, hm⟩
  have eX : ER (m.ext Dl) K Γ σ H' := e1.ext hD r (by rw [hS]; exact fun z => nomatch z)
  have iX := eX.i
  have wkX := wkA H' r iX
  have hlen : (xs.map enc).length = xs.length := List.length_map _
  by_cases hlt : i < xs.length
  · refine .inr ⟨wkX.go i H' (m.refl _) (by rw [hlen]; exact hlt), fun H3 => m.R H1 H3 ∧ ∃ S n, H3 Dl = some (SetO w Dl S n) ∧ n ≤ i + 1 ∧ ∀ j, S j = true ↔ j ∈ ((xs.take (i + 1)).filter t).map f, fun H3 z => ⟨xs.length - (i + 1), by omega, rfl, hlt, z⟩, fun x H2 y => ?_⟩
    obtain ⟨r2, d, hd, rx⟩ := wkX.yld i H' x H2 (m.refl _) (by rw [hlen]; exact hlt) y
    rw [List.getElem?_map, List.getElem?_eq_getElem hlt] at hd
    injection hd with hd
    subst hd
    have hxm : xs[i] ∈ xs := List.getElem_mem hlt
    obtain ⟨Γ2, tg, tst, el⟩ := hs (m.ext Dl) (m.le_ext Dl) xs[i] hxm
    have tk : xs.take (i + 1) = xs.take i ++ [xs[i]] := take_one (List.getElem?_eq_getElem hlt)
    have kD : ∀ {Hb : Hp}, m.R H' Hb → Hb Dl = some (SetO w Dl S n) := fun rr => m.keep rr iX.1 Dl _ nF hS
    refine tg x (wipe σ vs) H2 ((eX.mv r2).wipe vs) rx _ fun σ3 H3 e3 r3 w3 => ⟨by rw [w3 vs hj, wipe_wipe], ?_⟩
    refine tst σ3 H3 e3 _ fun b H4 tb r4 => ?_
    subst tb
    have rr := m.trans r2 (m.trans r3 r4)
    cases hb : t xs[i] with
    | false =>
      refine ⟨m.trans r rr, S, n, kD rr, by omega, fun j => ?_⟩
      rw [hm j, tk, List.filter_append, List.filter_cons, hb]
      simp
    | true =>
      refine el hb σ3 H4 (e3.mv r4) _ fun v dv H5 sv r5 rv => ?_
      subst sv
      have rr5 := m.trans rr r5
      refine ⟨f xs[i], S, n, rv.intE, kD rr5, by unfold scanBound; omega, m.chg e1.i (m.trans r rr5) hD, _, _, upd_same, by split <;> omega, fun j => ?_⟩
      rw [Bool.or_eq_true, hm j, decide_eq_true_iff, tk, List.filter_append, List.filter_cons, hb, if_pos rfl, List.map_append, List.mem_append]
      simp
  · have e0 : i = xs.length := by omega
    subst e0
    have iN : m.I H' := m.inv r e1.i
    refine .inl ⟨by have := wkX.stop H' (m.refl _); rw [hlen] at this; exact this, ?_⟩
    refine ⟨Dl, S, n, rfl, hS, by omega, fun ns p hp1 hp2 _ hp3 => ?_⟩
    refine q _ (.lst (ns.map D.int)) _ ⟨ns, rfl, hp1, fun k => ?_⟩ (m.trans r1 (m.trans r (m.grow iN (same_new hp3)))) (.lst (fun z => m.fa iN z hp3) upd_same ?_)
    · rw [hp2, hm, List.take_length]
    · induction ns with
      | nil => exact .nil
      | cons a ns ih => exact (show RpAll K m.F _ ((a :: ns).map V.int) ((a :: ns).map D.int) from by
          have : ∀ l : List Int, RpAll K m.F (upd H' p (.lst ((a :: ns).map V.int))) (l.map V.int) (l.map D.int) := fun l => by
            induction l with
            | nil => exact .nil
            | cons b l ih2 => exact .cons (.int _) ih2
          exact this (a :: ns))
end
end Tx

set_option Elab.async false
set_option linter.all false
set_option maxRecDepth 100000
set_option maxHeartbeats 2000000
/-! Tx: a set comprehension of numbers, as a value: one turn, all turns, the whole -/
namespace TxS
open PySem PySem.Spec PyProof.Rows L2 PpSet Tx
theorem addI_ok {X : Cx} {pins : List (Addr × Obj)} {σ : L2.St} {H : Hp} {s : Shared} {E : Value → Shared → Prop} {D : Addr} {S : Int → Bool} {n : Nat} {k : Int} {tk : Tok} {Q : Value → Shared → Prop} (I : Inv X pins σ H s) (hD : H D = some (SetO X.w D S n)) (room : n + 1 < scanBound)
    (h : ∀ s', Inv X pins σ (upd H D (SetO X.w D (fun j => S j || decide (j = k)) (if S k = true then n else n + 1))) s' → Q .none s') : wpAny (model X.prog X.w) X.A (call (.builtin "set.add") [.ref D, .int k tk]) Q E s := by
  refine setR_add (setO_get I hD) room fun _ keeps made => ?_
  have ⟨o, _, _, _, stands, _⟩ := made
  exact h _ (I.write (e := D) (t' := s.toks + 1) (by rw [hD]; trivial) (.inl rfl) (fun b u ne at_ => (keeps.2 b ne).trans at_) ⟨o, stands⟩ (setO_new made))
section
variable {X : Cx} {σ : L2.St} {elt tg iter : Expr} {ifs : List Expr} {sc : Scope} {own : List (PySem.Str × Nat)} {pos pos2 : Pos} {wi : TI} {g : TG} {tt : TT} {te : TE}
/-- what is empty at first -/
abbrev emptySet (w : World) : Obj := { cls := .type "set", dict := none, data := .set #[] 0 (.fresh 0 0 (!w.params.followText "set-order")) }
/-- what holds ahead of each turn, in the block B of the comprehension -/
def Here (B : Cx) (σ : L2.St) (vs : List Nat) (seen : Nat → Heap → Prop) (fp : List Addr) (W : Nat → Nat → Hp → Prop) (k : Nat) (t : Shared) : Prop := ∃ i H, Inv B [] (wipe σ vs) H t ∧ seen i t.heap ∧ (∀ b ∈ fp, H b = none) ∧ W i k H
/-- behind a turn, whatever it did with the set -/
theorem turn_next {B : Cx} {P : Program} {w : World} {F : PySem.W.Frag} {vs : List Nat} {J : It} {itA : Addr} {fp : List Addr} {seen : Nat → Heap → Prop} (T : Turn P w F tg J fp itA seen) {W : Nat → Nat → Hp → Prop} {Nx : Hp → Prop} {k i : Nat} {τ : L2.St} {t t' : Shared} {H : Hp} (at_ : seen (i + 1) t.heap)
    (next : ∀ H, Nx H → ∃ j, j < k ∧ W (i + 1) j H) (same : wipe τ vs = wipe σ vs) (I : Inv B ([] ++ pinsAt fp t.heap) τ H t') (nx : Nx H) : ∃ j, j < k ∧ Here B σ vs seen fp W j t' := by
  obtain ⟨j, lt, w'⟩ := next H nx
  have stay : ∀ b ∈ fp, ∀ o, t.heap.get? b = some o → t'.heap.get? b = some o ∧ H b = none := fun b hb o e => by
    have p := I.pin (b, o) (List.mem_append_right _ (List.mem_append_right _ (mem_pinsAt hb e))); exact ⟨p.1, p.2.1⟩
  have len : (wipe σ vs).length = τ.length := by rw [← same, wipe_length]
  refine ⟨j, lt, i + 1, H, (I.unpinned (pins := [])).weak len (fun a v e => (wipe_some (same ▸ e)).1), T.keep _ _ _ at_ fun b hb o e => (stay b hb o e).1, fun b hb => ?_, w'⟩
  obtain ⟨o, e, _⟩ := T.obj _ _ at_ b hb; exact (stay b hb o e).2
/-- the comprehension itself: what is asked of its parts holds in whatever block it opens -/
theorem setI_core {pins : List (Addr × Obj)} {s : Shared} {H : Hp} {Q : VK} {use : Option (Value → Sem Unit)} {Qf : Value → Shared → Prop} (hc : X.calm = true) (hN : X.N.Nodup) (I : Inv X pins σ H s) (hi : PI X tg iter wi) (ok : BlkOk X.N X.env.scope sc own)
    (hg : ∀ s H C cl fp, PG (X.blk s H sc (compEnvC sc cl C X.env) fp) tg g) (ht : ∀ s H C cl fp, PTs (X.blk s H sc (compEnvC sc cl C X.env) fp) ifs tt) (he : ∀ s H C cl fp, PE (X.blk s H sc (compEnvC sc cl C X.env) fp) elt te)
    (hs : ∀ x, foldedSetIterable iter X.env x = pure x) (h : tSetI X.w wi g tt te (own.map (·.2)) σ H Q)
    (out : ∀ D C t m H', Inv X pins σ H' t → Q (.ref D) H' → t.heap.Ns C m → FpOk X pins H' C → compPost (model X.prog X.w) X.A X.xe use Qf (.ref D) C (.ok .next) t) :
    wpAny (model X.prog X.w) X.A (comprehension (.SetComp elt [⟨tg, iter, ifs, 0⟩] sc pos) sc X.env pos2 (newSet (.type "set")) false (eval iter X.env) use) Qf X.xe s := by
  refine wpAny_comprehension_free (use := use) rfl hs (closure_ok fun y hy e => (ok.free y hy e).elim (fun k => I.ok.has _ (.inl k)) fun k => I.ok.has _ (.inr k)) ok.kind (fun y hy e => by rw [ok.uniq y hy, e]) (thn (hi.run pins s σ H _ I h) fun _ _ came => thn came fun _ t came2 => ?_)
  obtain ⟨itA, fp, seen, J, H2, rfl, I2, T, at0, away, asks⟩ := came2
  refine newSet_ok (newEnv_comp ?_)
  generalize eD : t.heap.objs.size = D
  obtain ⟨W, ⟨k0, w0⟩, turns⟩ := asks D (I2.hok.fresh (Nat.le_of_eq eD))
  generalize e3 : ({ t with heap := t.heap.push (emptySet X.w) } : Shared) = s3
  have p3 : s3.heap = t.heap.push (emptySet X.w) := by rw [← e3]
  have z3 : s3.heap.objs.size = t.heap.objs.size + 1 := by rw [p3, Heap.size_push]
  generalize eH : upd H2 D (SetO X.w D (fun _ => false) 0) = H3 at w0
  have I3 : Inv X pins σ H3 s3 := by
    rw [← e3, ← eH]; refine I2.laid (t' := t.toks) (fun _ _ e => Heap.get?_push_of_some _ e) (Nat.le_of_eq eD) ?_; rw [← eD]; exact setO_new (setR_fresh X.w)
  have own3 : ∀ b ∈ fp, FpOk X pins H3 b ∧ b < s3.heap.objs.size := fun b hb => by
    obtain ⟨_, e, _⟩ := T.obj _ _ at0 b hb
    have lt : b < t.heap.objs.size := Heap.lt_size e
    refine ⟨⟨?_, (away b hb).2⟩, by rw [z3]; exact Nat.lt_succ_of_lt lt⟩; rw [← eH, upd_ne (by rw [← eD]; exact Nat.ne_of_lt lt)]; exact (away b hb).1
  have at3 : seen 0 s3.heap := T.keep _ _ _ at0 fun _ _ _ e => by rw [p3]; exact Heap.get?_push_of_some _ e
  have I4 := block_start I3 ok hN own3
  let cl := cellsFrom (s3.heap.objs.size + 1) sc.names (cloFrom X.env.cells sc.names [])
  have gT := hg s3 H3 s3.heap.objs.size cl fp; have gI := ht s3 H3 s3.heap.objs.size cl fp; have gE := he s3 H3 s3.heap.objs.size cl fp
  show codeAny _ _ (.compStart (.SetComp elt [⟨tg, iter, ifs, 0⟩] sc pos) 0 (.ref itA) (.ref D) (compEnvC sc cl s3.heap.objs.size X.env)) (compPost (model X.prog X.w) X.A X.xe use Qf (.ref D) s3.heap.objs.size) { s3 with heap := pushCells (s3.heap.push { cls := .type "dict", data := .dict #[] }) sc.names }
  generalize eB : compEnvC sc cl s3.heap.objs.size X.env = ce at gT gI gE ⊢
  have I4 : Inv (X.blk s3 H3 sc ce fp) [] (wipe σ (own.map (·.2))) H3 { s3 with heap := pushCells (s3.heap.push { cls := .type "dict", data := .dict #[] }) sc.names } := by rw [← eB]; exact I4
  have loc : ce.locals = s3.heap.objs.size := by rw [← eB]; rfl
  generalize e4 : ({ s3 with heap := pushCells (s3.heap.push { cls := .type "dict", data := .dict #[] }) sc.names } : Shared) = s4 at I4 ⊢
  have at4 : seen 0 s4.heap := T.keep _ _ _ at3 fun _ _ _ e => by rw [← e4]; exact pushCells_keeps _ _ _ _ (Heap.get?_push_of_some _ e)
  have mine : ∀ {σ' : L2.St} {H' : Hp} {t : Shared}, Inv (X.blk s3 H3 sc ce fp) [] σ' H' t → (∀ b ∈ fp, H' b = none) → ∀ b ∈ fp, FpOk (X.blk s3 H3 sc ce fp) [] H' b := fun I' none_ b hb => ⟨none_ b hb, (I'.ok.exf b hb).1, I'.ok.exfs b hb, .inl hb, fun x c e => (I'.ok.exf b hb).2 x c e, fun p hp => by
    have hp : p ∈ ([] : List (Addr × Obj)) ++ [] := hp
    simp at hp⟩
  have all : codeAny (model X.prog X.w) X.A (.compLoop (.SetComp elt [⟨tg, iter, ifs, 0⟩] sc pos) 0 (.ref itA) (.ref D) ce) (compPost (model X.prog X.w) X.A X.xe use Qf (.ref D) s3.heap.objs.size) s4 := by
    refine compLoopS_any (Here (X.blk s3 H3 sc ce fp) σ (own.map (·.2)) seen fp W) ?_ k0 ⟨0, H3, I4, at4, fun b hb => (own3 b hb).1.1, w0⟩
    rintro k s5 ⟨i, H5, I5, at5, no5, w5⟩
    rcases turns i k H5 w5 with ⟨ends, fin⟩ | ⟨goes, Nx, next, one⟩
    · refine thnF (T.done (X.blk s3 H3 sc ce fp) rfl rfl rfl hc i [] s5 _ H5 (fun _ _ => False) I5 (mine I5 no5) at5 ends) fun r s6 ⟨hr, I6⟩ => ?_
      subst hr
      have back : Inv X pins σ H5 s6 := I3.call' (ch := fp) I6.os I6.base I6.hok I6.bare fun b hb => let q := (own3 b hb).1.2; ⟨q.2.2.1, q.1, q.2.2.2.1, q.2.2.2.2⟩
      have free : H5 s3.heap.objs.size = none := loc ▸ (show H5 ce.locals = none from I6.free)
      obtain ⟨m, ns, _⟩ := I6.loc
      exact out D s3.heap.objs.size s6 m H5 back fin (loc ▸ (show s6.heap.Ns ce.locals m from ns)) (I3.fpOk (Nat.le_refl _) free)
    · refine thnF (T.item (X.blk s3 H3 sc ce fp) rfl rfl rfl hc i [] s5 _ H5 (fun _ _ => False) I5 (mine I5 no5) at5 goes) fun r s6 ⟨u, hr, came6⟩ => ?_
      subst hr
      refine thnF came6 fun _ s7 ⟨x, H7, I7, r7, y7, at7, no7⟩ => thnF (gT.run _ s7 _ H7 x u _ (I7.pinned (mine I7 no7) (T.obj _ _ at7)) r7 (one x H7 y7)) fun _ s8 ⟨σ8, H8, I8, same, q8⟩ => thnF (gI.run _ s8 σ8 H8 _ I8 q8) fun b s9 ⟨H9, I9, q9⟩ => ?_
      cases b with
      | false => simp only [Bool.false_eq_true, if_false] at q9 ⊢; exact turn_next T at7 next same I9 q9
      | true =>
        simp only [if_true] at q9 ⊢
        refine thnF (gE.run _ s9 σ8 H9 _ I9 q9) fun z s10 ⟨_, H10, I10, rz, c, S0, n0, ey, at10, few, nx⟩ => ?_
        subst ey
        obtain ⟨tk, rfl⟩ := (show ∃ tk, z = Value.int c tk from rz)
        exact addI_ok (X := X.blk s3 H3 sc ce fp) I10 at10 few fun _ I11 => turn_next T at7 next same I11 nx
  exact codeAny_compStart_set all (T.self X.A 0 _ _ _ at4 all)
/-- as a value -/
theorem pe_setI (hc : X.calm = true) (hN : X.N.Nodup) (hi : PI X tg iter wi) (ok : BlkOk X.N X.env.scope sc own)
    (hg : ∀ s H C cl fp, PG (X.blk s H sc (compEnvC sc cl C X.env) fp) tg g) (ht : ∀ s H C cl fp, PTs (X.blk s H sc (compEnvC sc cl C X.env) fp) ifs tt) (he : ∀ s H C cl fp, PE (X.blk s H sc (compEnvC sc cl C X.env) fp) elt te)
    (hs : ∀ x, foldedSetIterable iter X.env x = pure x := by intro _; rfl) : PE X (.SetComp elt [⟨tg, iter, ifs, 0⟩] sc pos) (tSetI X.w wi g tt te (own.map (·.2))) :=
  ⟨fun pins s σ H Q I h => by
    rw [eval_SetComp]
    exact setI_core hc hN I hi ok hg ht he hs h fun D C t m H' I' q ns f => ⟨m, ns, fun h'' sb => ⟨.ref D, H', I'.turned (t' := t.toks) (fun b o ne e => (sb.2 b ne).trans e) f.1 f.2.1 f.2.2.2.1 f.2.2.2.2.1 f.2.2.2.2.2, rfl, q⟩⟩⟩
end
end TxS

set_option Elab.async false
set_option linter.all false
set_option maxRecDepth 100000
set_option maxHeartbeats 1000000
set_option autoImplicit false
/-! Tx: sorted(set(t)), t a tuple of numbers -/
namespace Tx
open PySem PySem.Spec PyProof.Rows L2 L2
def rSetIT (K : PySem.W.Frag) (w : World) : List V → Hp → VK → Prop := fun vs H Q => ∃ (a : Addr) (ns : List Int), vs = [V.ref a] ∧ SqT K H a (ns.map V.int) ∧ ns.length < 60 ∧ ∀ (l : Addr) (c : Nat), c ≤ ns.length → H l = none → Q (.ref l) (upd H l (SetO w l (fun j => decide (j ∈ ns)) c))
theorem cr_setIT {X : Cx} (hc : X.calm = true) : CallR X (.type "set") (rSetIT X.K X.w) := by
  intro pins s σ H vs us Q I r q0
  obtain ⟨a, ns, rfl, ha, h60, q⟩ := q0
  rw [Vals.ref1 r]
  obtain ⟨its, rv, p, _⟩ := I.tuple ha
  refine call_set_tupI ns (I.ok.hd hc) p (intsAre_of rv) (by unfold scanBound; omega) fun h' tk c R hcn hk => ?_
  exact ⟨.ref _, _, I.laid (t' := tk) hk (Nat.le_refl _) (setO_new R), rfl, q _ c hcn (I.hok.fresh (Nat.le_refl _))⟩
section
variable {K : PySem.W.Frag} {m : Mo} {Γ : G} {te : TE} {w : World}
theorem en_sortSetT {ns : List Int} (h : Ev1 m K te Γ (.tup (ns.map D.int))) (hu : ns.length < 60) : EvN m K (tCB (rSortedSet w) (tCons (tCB (rSetIT K w) (tCons te tNil)) tNil)) Γ (fun d => ∃ ms : List Int, d = .lst (ms.map D.int) ∧ ms.Pairwise (· < ·) ∧ ∀ k, k ∈ ms ↔ k ∈ ns) := fun σ H e Q q =>
  h σ H e _ fun v d H1 s r1 rv => by
    subst s
    obtain ⟨a, vs, rfl, ha, ra⟩ := rv.tupE
    have i1 := m.inv r1 e.i
    rw [ra.ints] at ha
    refine ⟨a, ns, rfl, ha, hu, fun l c hcn hl => ⟨l, _, c, rfl, upd_same, by omega, fun ms p hp1 hp2 _ hp3 => ?_⟩⟩
    have r2 : m.R H1 (upd H1 l (SetO w l (fun j => decide (j ∈ ns)) c)) := m.grow i1 (same_new hl)
    have i2 := m.inv r2 i1
    have all : ∀ (F : Addr → Prop) (Hx : Hp) (l : List Int), RpAll K F Hx (l.map V.int) (l.map D.int) := fun F Hx l => by
      induction l with
      | nil => exact .nil
      | cons b l ih => exact .cons (.int _) ih
    exact q _ (.lst (ms.map D.int)) _ ⟨ms, rfl, hp1, fun k => by rw [hp2]; exact decide_eq_true_iff⟩ (m.trans r1 (m.trans r2 (m.grow i2 (same_new hp3)))) (.lst (fun z => m.fa i2 z hp3) upd_same (all _ _ ms))
end
end Tx

set_option Elab.async false
set_option linter.all false
set_option maxRecDepth 100000
set_option maxHeartbeats 1000000
set_option autoImplicit false
/-! Tx: zip of two tuples -/
namespace Tx
open PySem L2 RZ
/-- how a tuple stands, and stays -/
theorem tup_stands {K : PySem.W.Frag} {m : Mo} {H1 : Hp} {v : V} {ds : List D} (i1 : m.I H1) (r : Rp K m.F H1 v (.tup ds)) : ∃ a vs, v = .ref a ∧ RpAll K m.F H1 vs ds ∧ ∀ H, m.R H1 H → SqT K H a vs := by
  cases r with
  | tup n h t => exact ⟨_, _, rfl, t, fun H r => .inl (rd_up h fun o q => m.keep r i1 _ o n q)⟩
  | ktup h t => exact ⟨_, _, rfl, t, fun H r => .inr h⟩
section
variable {K : PySem.W.Frag} {m : Mo} {Γ : G} {ta : TA} {as bs : List D}
def zipD (as bs : List D) : List D := (as.zip bs).map fun p => .tup [p.1, p.2]
theorem zipD_len : (zipD as bs).length = min as.length bs.length := by unfold zipD; rw [List.length_map, List.length_zip]
theorem zipD_at {i : Nat} {a b : D} (ha : as[i]? = some a) (hb : bs[i]? = some b) : (zipD as bs)[i]? = some (.tup [a, b]) := by
  unfold zipD
  rw [List.getElem?_map]
  have h1 := (List.getElem?_eq_some_iff.mp ha)
  have h2 := (List.getElem?_eq_some_iff.mp hb)
  obtain ⟨l1, e1⟩ := h1
  obtain ⟨l2, e2⟩ := h2
  rw [List.getElem?_eq_getElem (by rw [List.length_zip]; omega), List.getElem_zip, e1, e2]
  rfl
theorem it_zipT (h : EvA1 m K ta Γ [.tup as, .tup bs]) : ItD1 m K (iZipA K ta) Γ (zipD as bs) := fun σ H e Q q =>
  h σ H e _ fun vs es H1 s r1 rs => by
    subst s
    have i1 := m.inv r1 e.i
    cases rs with
    | cons ra rs =>
      cases rs with
      | cons rb rs =>
        cases rs
        obtain ⟨a, vs1, rfl, rA, hA⟩ := tup_stands i1 ra
        obtain ⟨b, vs2, rfl, rB, hB⟩ := tup_stands i1 rb
        have lA := rA.len
        have lB := rB.len
        refine ⟨a, b, vs1, vs2, rfl, .inr ⟨hA H1 (m.refl _), hB H1 (m.refl _), q _ _ H1 rfl r1 fun m' le H2 i2 r c => ?_⟩⟩
        have up : ∀ H, m'.R H2 H → m.R H1 H := fun H q => m.trans r (by have := q; rw [le.R] at this; exact this)
        refine ⟨fun i H q hi => ?_, fun H q => ?_, fun i H x H' q hi y => ?_⟩
        · rw [zipD_len] at hi
          exact ⟨vs1, vs2, vs1[i]'(by omega), vs2[i]'(by omega), hA H (up H q), hB H (up H q), List.getElem?_eq_getElem _, List.getElem?_eq_getElem _⟩
        · refine ⟨vs1, vs2, hA H (up H q), hB H (up H q), ?_⟩
          rw [zipD_len]
          omega
        · rw [zipD_len] at hi
          obtain ⟨T, x1, x2, rfl, hT, rfl, hx1, hx2⟩ := y
          have iH : m'.I H := m'.inv q i2
          obtain ⟨d1, hd1, rd1⟩ := rA.at (hx1 vs1 (hA H (up H q)))
          obtain ⟨d2, hd2, rd2⟩ := rB.at (hx2 vs2 (hB H (up H q)))
          exact ⟨m'.grow iH (same_new hT), _, zipD_at hd1 hd2, rp_new iH hT (.cons (rd1.go (carry i1 (up H q) c)) (.cons (rd2.go (carry i1 (up H q) c)) .nil))⟩
end
end Tx

set_option Elab.async false
set_option linter.all false
set_option maxRecDepth 100000
set_option maxHeartbeats 2000000
set_option autoImplicit false
/-! Tx: sum of lists that start with a list -/
namespace Tx
open PySem PySem.Spec PyProof.Rows
theorem args_sumS (a b : Value) : argsOk "sum" ⟨[a, b], []⟩ := by unfold argsOk; kernel_rfl
theorem ne_lt {a b N : Nat} (h : a < N) (k : N ≤ b) : a ≠ b := by omega
theorem ne_lt' {a b : Nat} (h : a < b) : b ≠ a := by omega
section
variable {prog : Program} {w : World} {A : Around} {E : Value → Shared → Prop}
theorem sum_loopL {R : Result → Shared → Prop} {I ax S : Addr} {items : Array Value} {N : Nat} (L : List (List Value)) (hn : items.size = L.length) (hI : N ≤ I) (hS : N ≤ S) (hIS : I ≠ S) (hax : ax < N)
    (W : Walks prog w A.in1 I [I, ax] [I] items.size (fun i v => items[i]? = some v) (fun i h => h.IsListIter I ax i ∧ h.IsList ax items)) :
    ∀ (k i : Nat) (s : Shared) (T : Addr) (c nT : Nat) (acc : List Value), items.size - i = k → i ≤ items.size → (s.heap.IsListIter I ax i ∧ s.heap.IsList ax items) →
      s.heap.get? S = some { cls := .type "list", dict := none, data := .seq #[.ref T] c, slots := #[] } → s.heap.get? T = some { cls := .type "list", data := .seq acc.toArray nT } → T ≠ S → T ≠ I →
      (∀ (j : Nat) (v : Value), items[j]? = some v → ∃ (l : Addr) (zs : List Value) (m : Nat), v = Value.ref l ∧ l < N ∧ L[j]? = some zs ∧ s.heap.get? l = some { cls := .type "list", data := .seq zs.toArray m }) →
      acc.length + ((L.drop i).flatten).length ≤ sizeLine →
      (∀ h' tk T' nT', (∀ b o, b < N → s.heap.get? b = some o → h'.get? b = some o) → h'.get? T' = some { cls := .type "list", data := .seq (acc ++ (L.drop i).flatten).toArray nT' } → ((N ≤ T ∨ i < items.size) → N ≤ T') → R (.ok (.ret (.ref T'))) { s with heap := h', toks := tk }) →
      codeAny (model prog w) A (.builtin "sum.loop" ⟨[.ref I, .ref S, rawInt 2, rawInt 0], []⟩) R s := by
  intro k
  induction k with
  | zero =>
    intro i s T c nT acc hk hi hst hSt hT hTS hTI hL hz hR
    have hin : i = items.size := by omega
    subst hin
    refine codeAny_builtin F.entry_sum_loop ?_
    rw [Around.under_plainId F.plain_sum_loop _]
    show wpAny _ A.in1 (seqItems? (.ref S) >>= _) _ _ s
    refine wpAny_bind (wpAny_seqItems hSt rfl ?_)
    show wpAny _ A.in1 (tryCatch (pyNext (.ref I)) _ >>= _) _ _ s
    refine wpAny_bind (wpAny_tryCatch (W.done s _ _ hst fun h' tk hk' => ?_))
    have e : (L.drop items.size).flatten = [] := by rw [hn, List.drop_length]; rfl
    refine wpAny_pure (hR h' tk T nT (fun b o hb e => hk' b o (by simp only [List.mem_singleton]; exact ne_lt hb hI) e) ?_ fun z => z.elim id fun z => absurd z (by omega))
    rw [e, List.append_nil]
    exact hk' T _ (by simp only [List.mem_singleton]; exact hTI) hT
  | succ k ih =>
    intro i s T c nT acc hk hi hst hSt hT hTS hTI hL hz hR
    have hlt : i < items.size := by omega
    refine codeAny_builtin F.entry_sum_loop ?_
    rw [Around.under_plainId F.plain_sum_loop _]
    show wpAny _ A.in1 (seqItems? (.ref S) >>= _) _ _ s
    refine wpAny_bind (wpAny_seqItems hSt rfl ?_)
    show wpAny _ A.in1 (tryCatch (pyNext (.ref I)) _ >>= _) _ _ s
    refine wpAny_bind (wpAny_tryCatch (W.item i s _ _ hlt hst fun v h' tk hP hst' hk' => ?_))
    obtain ⟨l, zs, m, rfl, hlN, hLi, hl⟩ := hL i v hP
    have kp : ∀ b o, b ≠ I → s.heap.get? b = some o → h'.get? b = some o := fun b o hb e => hk' b o (by simp only [List.mem_singleton]; exact hb) e
    have hS' := kp S _ (Ne.symm hIS) hSt
    have hT' := kp T _ hTI hT
    have hl' := kp l _ (ne_lt hlN hI) hl
    have dr : L.drop i = zs :: L.drop (i + 1) := by
      obtain ⟨h1, h2⟩ := List.getElem?_eq_some_iff.mp hLi
      rw [← h2, List.drop_eq_getElem_cons h1]
    rw [dr, List.flatten_cons, List.length_append] at hz
    have hST : S < h'.objs.size := Heap.lt_size hS'
    have hTT : T < h'.objs.size := Heap.lt_size hT'
    have hIT : I < h'.objs.size := by
      obtain ⟨o, ho, _⟩ := hst'.1
      exact Heap.lt_size ho
    show wpAny _ A.in1 ((holding [Value.ref l] (binaryOp .Add (.ref T) (.ref l))).attempt >>= _) _ _ _
    refine wpAny_bind (wpAny_attempt (wpAny_holding (PySem.P.add_list hT' hl' ?_ (by rw [List.size_toArray, List.size_toArray]; omega))))
    have hS2 : (h'.push { cls := .type "list", data := .seq (acc.toArray ++ zs.toArray) }).get? S = some { cls := .type "list", dict := none, data := .seq #[.ref T] c, slots := #[] } := Heap.get?_push_of_some _ hS'
    show wpAny _ A.in1 (updateSeq S (fun _ => #[.ref h'.objs.size]) >>= _) _ _ _
    refine wpAny_bind ?_
    refine wpAny_updateSeq hS2 rfl ?_
    have hS3 := Heap.get?_update_self (Obj.mapSeq fun _ => #[Value.ref h'.objs.size]) hS2 rfl
    refine wpAny_bind (wpAny_letGo ?_)
    refine wpAny_bind ?_
    have up : ∀ b o, b ≠ S → h'.get? b = some o → (((h'.push { cls := .type "list", data := .seq (acc.toArray ++ zs.toArray) }).update S (Obj.mapSeq fun _ => #[Value.ref h'.objs.size])).update S (Obj.mapSeq fun _ => #[Value.ref h'.objs.size])).get? b = some o := fun b o hb e =>
      (Heap.get?_update_other _ _ (Ne.symm hb)).trans ((Heap.get?_update_other _ _ (Ne.symm hb)).trans (Heap.get?_push_of_some _ e))
    refine wpAny_updateSeq hS3 rfl (wpAny_pure ⟨plainId_quiet F.plain_sum_loop _, ih (i + 1) _ h'.objs.size _ 0 (acc ++ zs) (by omega) hlt (W.frame _ _ _ hst' fun b hb o e => ?_) (Heap.get?_update_self _ hS3 rfl) ?_ (ne_lt' hST) (ne_lt' hIT) (fun j v hv => ?_) (by rw [List.length_append]; omega) fun h'' tk'' T'' n'' hk'' hT'' hN'' => ?_⟩)
    · refine up b o ?_ e
      simp only [List.mem_cons, List.not_mem_nil, or_false] at hb
      rcases hb with rfl | rfl
      · exact hIS
      · exact ne_lt hax hS
    · refine (Heap.get?_update_other _ _ (Ne.symm (ne_lt' hST))).trans ((Heap.get?_update_other _ _ (Ne.symm (ne_lt' hST))).trans ?_)
      have := Heap.get?_push_size h' (o := { cls := .type "list", data := .seq (acc.toArray ++ zs.toArray) }) rfl
      rw [this, List.append_toArray] <;> rfl
    · obtain ⟨l2, zs2, m2, e1, e2, e3, e4⟩ := hL j v hv
      exact ⟨l2, zs2, m2, e1, e2, e3, up l2 _ (ne_lt e2 hS) (kp l2 _ (ne_lt e2 hI) e4)⟩
    · refine hR h'' tk'' T'' n'' (fun b o hb e => hk'' b o hb (up b o (ne_lt hb hS) (kp b o (ne_lt hb hI) e))) ?_ fun _ => ?_
      · rw [dr, List.flatten_cons, ← List.append_assoc]
        exact hT''
      · exact hN'' (.inl (Nat.le_of_lt (Nat.lt_of_le_of_lt hI hIT)))
theorem call_sumL {s : Shared} {a b : Addr} {items : Array Value} {na nb : Nat} {Q : Value → Shared → Prop} (hh : A.handled = none) (L : List (List Value)) (hn : items.size = L.length) (hne : 0 < items.size)
    (ha : s.heap.get? a = some { cls := .type "list", data := .seq items na }) (hb : s.heap.get? b = some { cls := .type "list", data := .seq #[] nb })
    (hL : ∀ (j : Nat) (v : Value), items[j]? = some v → ∃ (l : Addr) (zs : List Value) (m : Nat), v = Value.ref l ∧ L[j]? = some zs ∧ s.heap.get? l = some { cls := .type "list", data := .seq zs.toArray m })
    (hz : L.flatten.length ≤ sizeLine)
    (h : ∀ h' tk T n, (∀ b o, s.heap.get? b = some o → h'.get? b = some o) → h'.get? T = some { cls := .type "list", data := .seq L.flatten.toArray n } → s.heap.objs.size ≤ T → Q (.ref T) { s with heap := h', toks := tk }) :
    wpAny (model prog w) A (call (.builtin "sum") [.ref a, .ref b]) Q E s := by
  refine call_function_tree F.kind_sum F.plain_sum F.entry_sum (args_sumS _ _) ?_
  unfold Builtin.«sum»
  simp only [List.length_cons, List.length_nil]
  rw [if_neg (by decide)]
  refine wpAny_bind (wpAny_of_eq (show Builtin.Builtins.bindParams "sum" ["start"] 0 ⟨[Value.ref b], []⟩ = pure [some (.ref b)] from rfl) ?_)
  have hlA : s.heap.IsList a items := ⟨_, ha, rfl, na, rfl⟩
  refine wpAny_bind (wpAny_pyIter_list hlA ?_)
  refine wpAny_bind (wpAny_pure ?_)
  have hb2 := Heap.get?_push_of_some { cls := .type "list_iterator", data := .fields #[.ref a, .int 0 0] } hb
  have ty : Shared.TypeIs { s with heap := s.heap.push { cls := .type "list_iterator", data := .fields #[.ref a, .int 0 0] } } (.ref b) "list" := ⟨_, hb2, rfl⟩
  simp only [List.forIn_cons, List.forIn_nil]
  refine wpAny_bind (wpAny_bind (wpAny_bind (wpAny_isInstance (T := "list") (b := false) ty F.sub_list_str ?_)))
  simp only [Bool.false_eq_true, if_false]
  refine wpAny_pure (wpAny_bind (wpAny_bind (wpAny_isInstance (T := "list") (b := false) ty F.sub_list_bytes ?_)))
  simp only [Bool.false_eq_true, if_false]
  refine wpAny_pure (wpAny_bind (wpAny_bind (wpAny_isInstance (T := "list") (b := false) ty F.sub_list_bytearray ?_)))
  simp only [Bool.false_eq_true, if_false]
  refine wpAny_pure (wpAny_pure ?_)
  refine wpAny_bind (wpAny_newObj_type ?_)
  have ltA : a < s.heap.objs.size := Heap.lt_size ha
  have ltB : b < s.heap.objs.size := Heap.lt_size hb
  have sz1 : (s.heap.push { cls := .type "list_iterator", data := .fields #[.ref a, .int 0 0] }).objs.size = s.heap.objs.size + 1 := Heap.size_push ..
  have up : ∀ (c : Nat) (o : Obj), s.heap.get? c = some o → ((s.heap.push { cls := .type "list_iterator", data := .fields #[.ref a, .int 0 0] }).push { cls := .type "list", data := .seq #[.ref b] }).get? c = some o := fun c o e => Heap.get?_push_of_some _ (Heap.get?_push_of_some _ e)
  refine wpAny_pure ⟨plainId_quiet F.plain_sum_loop _, sum_loopL (N := s.heap.objs.size) L hn (Nat.le_refl _) (by rw [sz1]; exact Nat.le_succ _) (by rw [sz1]; exact Nat.ne_of_lt (Nat.lt_succ_self _)) ltA
    (Walks.list (A := A.in1) hh _ a (Nat.ne_of_lt ltA) items) items.size 0 _ b 0 nb [] rfl (Nat.zero_le _) ⟨⟨_, Heap.get?_push_of_some _ (Heap.get?_push_size _ rfl), rfl, rfl⟩, ⟨_, up a _ ha, rfl, na, rfl⟩⟩
    (Heap.get?_push_size _ rfl) (up b _ hb) (by rw [sz1]; exact Nat.ne_of_lt (Nat.lt_succ_of_lt ltB)) (Nat.ne_of_lt ltB) (fun j v hv => ?_) (by simpa using hz) fun h' tk T n hk hT hN => ?_⟩
  · obtain ⟨l, zs, m, e1, e2, e3⟩ := hL j v hv
    exact ⟨l, zs, m, e1, Heap.lt_size e3, e2, up l _ e3⟩
  · exact h h' tk T n (fun c o e => hk c o (Heap.lt_size e) (up c o e)) (by simpa using hT) (hN (.inr hne))
end
end Tx

set_option Elab.async false
set_option linter.all false
set_option maxRecDepth 100000
set_option maxHeartbeats 4000000
set_option autoImplicit false
/-! Tx: sum of lists, set(list of numbers), as calls -/
namespace Tx
open PySem PySem.Spec PyProof.Rows L2
theorem pick {α : Type} {P : Nat → α → Prop} {n : Nat} (h : ∀ j, j < n → ∃ y, P j y) : ∃ L : List α, L.length = n ∧ ∀ j y, L[j]? = some y → P j y := by
  induction n with
  | zero => exact ⟨[], rfl, fun j y e => (by simp at e)⟩
  | succ n ih =>
    obtain ⟨L, hl, hL⟩ := ih fun j hj => h j (by omega)
    obtain ⟨y, hy⟩ := h n (by omega)
    refine ⟨L ++ [y], by rw [List.length_append, hl]; rfl, fun j z e => ?_⟩
    by_cases q : j < L.length
    · rw [List.getElem?_append_left q] at e
      exact hL j z e
    · rw [List.getElem?_append_right (by omega)] at e
      have : j - L.length = 0 := by
        cases k : j - L.length with
        | zero => rfl
        | succ k' => rw [k] at e; simp at e
      rw [this] at e
      injection e with e
      subst e
      have : j = n := by omega
      rw [this]
      exact hy
theorem valsFlat : ∀ {zss : List (List V)} {L : List (List Value)}, zss.length = L.length → (∀ (j : Nat) zs ws, zss[j]? = some zs → L[j]? = some ws → Vals zs ws) → Vals zss.flatten L.flatten
  | [], [], _, _ => .nil
  | [], _ :: _, h, _ => by simp at h
  | _ :: _, [], h, _ => by simp at h
  | zs :: zss, ws :: L, h, k => by
    rw [List.flatten_cons, List.flatten_cons]
    exact (k 0 zs ws rfl rfl).append (valsFlat (by simpa using h) fun j a b e1 e2 => k (j + 1) a b (by simpa using e1) (by simpa using e2))
def rSumL : List V → Hp → VK → Prop := fun vs H Q => ∃ (a b : Addr) (xs : List V) (zss : List (List V)), vs = [V.ref a, V.ref b] ∧ H a = some (.lst xs) ∧ H b = some (.lst []) ∧ 0 < xs.length ∧ xs.length = zss.length ∧
  (∀ (j : Nat) x, xs[j]? = some x → ∃ l zs, x = V.ref l ∧ zss[j]? = some zs ∧ H l = some (.lst zs)) ∧ zss.flatten.length ≤ 1000 ∧ ∀ p, H p = none → Q (.ref p) (upd H p (.lst zss.flatten))
theorem cr_sumL {X : Cx} (hc : X.calm = true) : CallR X (.builtin "sum") rSumL := by
  intro pins s σ H vs us Q I r h
  obtain ⟨a, b, xs, zss, rfl, ha, hb, h0, hl, hx, hz, q⟩ := h
  cases r with
  | cons r1 r =>
    cases r with
    | cons r2 r =>
      cases r
      cases r1
      cases r2
      obtain ⟨_, its, n, rv, el, ga⟩ := I.lstM ha
      obtain ⟨_, its2, n2, rv2, el2, gb⟩ := I.lstM hb
      cases rv2
      obtain ⟨L, hL, kL⟩ := pick (P := fun j (ws : List Value) => ∃ zs, zss[j]? = some zs ∧ Vals zs ws ∧ ∃ (l : Addr) (m : Nat), its[j]? = some (Value.ref l) ∧ s.heap.get? l = some { cls := .type "list", data := .seq ws.toArray m }) (n := zss.length) fun j hj => by
        have hj' : j < xs.length := by omega
        obtain ⟨l, zs, e1, e2, e3⟩ := hx j _ (List.getElem?_eq_getElem hj')
        obtain ⟨_, ws, m, rw', _, g⟩ := I.lstM e3
        obtain ⟨u, hu, ru⟩ := rv.get (List.getElem?_eq_getElem hj')
        rw [e1] at ru
        cases ru
        exact ⟨ws, zs, e2, rw', l, m, hu, g⟩
      have hv : Vals zss.flatten L.flatten := valsFlat hL.symm fun j zs ws e1 e2 => by
        obtain ⟨zs', e3, v, _⟩ := kL j ws e2
        rw [e1] at e3
        injection e3 with e3
        rw [e3]
        exact v
      have fl : L.flatten.length ≤ sizeLine := by rw [← hv.length]; exact Nat.le_trans hz (by decide)
      refine call_sumL (I.ok.hd hc) L (by rw [List.size_toArray, ← el, hl, hL]) (by rw [List.size_toArray, ← el]; exact h0) ga gb (fun j v hv' => ?_) fl fun h' tk T m hk hT hN => ?_
      · have hv' : its[j]? = some v := by simpa using hv'
        have hj : j < L.length := by
          have := (List.getElem?_eq_some_iff.mp hv').1
          omega
        obtain ⟨zs, e1, _, l, m, e2, g⟩ := kL j _ (List.getElem?_eq_getElem hj)
        rw [hv'] at e2
        injection e2 with e2
        exact ⟨l, _, m, e2, List.getElem?_eq_getElem hj, g⟩
      · exact ⟨.ref T, upd H T (.lst zss.flatten), I.laid (t' := tk) hk hN ⟨by rw [hv.length]; exact fl, L.flatten, m, hv, hT⟩, rfl, q T (I.hok.fresh hN)⟩
end Tx

set_option Elab.async false
set_option linter.all false
set_option maxRecDepth 100000
set_option maxHeartbeats 4000000
set_option autoImplicit false
/-! Tx: set(list of numbers) -/
namespace Tx
open PySem PySem.Spec PyProof.Rows L2 L2
section
variable {P : Program} {w : World} {A : Around} {E : Value → Shared → Prop} {s : Shared}
abbrev bare (w : World) : Obj := { cls := .type "set", dict := none, data := .set #[] 0 (.fresh 0 0 (!w.params.followText "set-order")) }
theorem call_setL {l : Addr} {items : Array Value} (ns : List Int) {Q : Value → Shared → Prop} (hh : A.handled = none) (hl : s.heap.IsList l items) (hit : IntsAre items.toList ns) (hb : ns.length + 1 < scanBound)
    (h : ∀ (h' : Heap) (tk c : Nat), SetR w h' s.heap.objs.size (fun j => decide (j ∈ ns)) c → c ≤ ns.length → (∀ b o, s.heap.get? b = some o → h'.get? b = some o) → Q (.ref s.heap.objs.size) { s with heap := h', toks := tk }) :
    wpAny (model P w) A (call (.type "set") [.ref l]) Q E s := by
  have hsz : items.size = ns.length := by have q := IntsAre.length hit; rw [Array.length_toList] at q; exact q
  obtain ⟨c, tl, hmro⟩ := F.called_set.mro
  have hmade := F.called_set.made; have hsub := F.called_set.sub
  refine wpAny_call (codeAny_of_tree ?_); show wpAny _ _ (callAny (.type "set") _) _ _ _
  refine wpAny_pure ⟨Code.quiet_builtin _ (by decide +kernel), codeAny_builtin F.entry_type_call ?_⟩; rw [Around.under_plain (weight_type_call_type "set" [.ref l] []) rfl]
  have h1 := F.called_set.notType; have h2 := F.called_set.canCreate; have hct := F.typeCall_set_1 (.ref l)
  repeat (any_goals (first | assumption | wp_step))
  refine codeAny_mono (code_set_led1 (.ref l) (E := E) (Q₁ := fun ob s1 => ob = .ref s.heap.objs.size ∧ s1 = { s with heap := s.heap.push (bare w) }) ⟨rfl, rfl⟩) fun r s1 hr => ?_
  cases r with
  | error e => exact hr
  | ok fl =>
    cases fl with
    | ret ob =>
      obtain ⟨rfl, rfl⟩ := hr
      have hS : (s.heap.push (bare w)).get? s.heap.objs.size = some (bare w) := Heap.get?_push_size _ rfl
      have hT : Shared.TypeIs { s with heap := s.heap.push (bare w) } (.ref s.heap.objs.size) "set" := ⟨_, hS, rfl⟩
      have hli := F.called_set.init.lookup; have hbi := F.called_set.init.bind (.ref s.heap.objs.size)
      repeat (any_goals (first | assumption | wp_step))
      refine codeAny_mono (codeAny_call_builtin (R := wants (fun r s2 => r = .none ∧ ∃ h' tk c, s2 = { s with heap := h', toks := tk } ∧ SetR w h' s.heap.objs.size (fun j => decide (j ∈ ns)) c ∧ c ≤ ns.length ∧ (∀ b o, s.heap.get? b = some o → h'.get? b = some o)) E) F.called_set.init.plain F.entry_set_init (check_set_init_1 hT ?_)) fun r2 s2 hr2 => ?_
      · obtain ⟨ol, hol, hcl, nl, hdl⟩ := hl
        obtain ⟨ocls, odict, odata, oslots⟩ := ol
        simp only at hcl hdl; subst hcl; subst hdl
        have hol' : (s.heap.push (bare w)).get? l = some { cls := .type "list", dict := odict, data := .seq items nl, slots := oslots } := Heap.get?_push_of_some _ hol
        have hsls := F.sub_list_set; have hslf := F.sub_list_frozenset; have hne : (Value.type "list" == Value.type "dict") = false := by decide
        have hl1 : (s.heap.push (bare w)).IsList l items := ⟨_, hol', rfl, nl, rfl⟩
        unfold Builtin.«set.__init__» noKeywords Builtin.Frozenset.updateFrom; generalize hPI : pyIter = PI
        wp_walk
        subst hPI
        refine wpAny_pyIter_list hl1 ?_
        refine wpAny_bind (wpAny_runValue ?_)
        have hlS : l < s.heap.objs.size := Heap.lt_size hol
        have hh3 : A.in1.in1.in1.handled = none := by simp [hh]
        have sz : (s.heap.push (bare w)).objs.size = s.heap.objs.size + 1 := Heap.size_push ..
        have hneI : l ≠ (s.heap.push (bare w)).objs.size := by rw [sz]; exact Nat.ne_of_lt (Nat.lt_succ_of_lt hlS)
        have hSf : s.heap.objs.size ∉ [(s.heap.push (bare w)).objs.size, l] := by
          rw [sz]; simp only [List.mem_cons, List.mem_singleton, List.not_mem_nil, or_false, not_or]; exact ⟨Nat.ne_of_lt (Nat.lt_succ_self _), Nat.ne_of_gt hlS⟩
        have hval : ∀ (i : Nat) (v : Value), items[i]? = some v → ∃ k t, ns[i]? = some k ∧ v = .int k t := fun i v hv => by
          have hi : i < ns.length := by rw [← hsz]; exact (Array.getElem?_eq_some_iff.mp hv).1
          obtain ⟨t, e⟩ := PyProof.Rows.IntsAre.int_at hit i v (by rw [Array.getElem?_toList]; exact hv)
          exact ⟨ns[i], t, List.getElem?_eq_getElem hi, by rw [e, List.getD_eq_getElem?_getD, List.getElem?_eq_getElem hi] <;> rfl⟩
        refine set_update_ints ((Walks.list hh3 _ l hneI items).toS) s.heap.objs.size hSf ns hsz hb hval (items.size - 0) 0 _ (by omega) (Nat.zero_le _) ⟨⟨_, Heap.get?_push_size _ rfl, rfl, rfl⟩, (hl1.push _)⟩ ?hS0 ?hR
        case hS0 => exact ⟨0, Nat.le_refl 0, setR_new_at (Heap.get?_push_of_some _ hS)⟩
        case hR =>
          intro s' c' hm hc' hS'
          obtain ⟨h', g2, d', tk', os'⟩ := s'
          have eg : g2 = s.gens := hm.gens; have ed : d' = s.drawn := hm.drawn; have eo : os' = s.os := hm.os
          subst eg; subst ed; subst eo
          show wpAny _ _ _ _ _ _
          refine wpAny_pure ?_
          show wpAny _ _ (ret Value.none) _ _ _
          rw [hsz] at hc'
          refine wpAny_pure ⟨rfl, h', tk', c', rfl, hS', hc', fun b o e => hm.heap b o ?_ (Heap.get?_push_of_some _ (Heap.get?_push_of_some _ e))⟩
          have hb0 : b < s.heap.objs.size := Heap.lt_size e
          simp only [List.mem_cons, List.mem_singleton, List.not_mem_nil, or_false, not_or]; exact ⟨Nat.ne_of_lt hb0, by rw [sz]; exact Nat.ne_of_lt (Nat.lt_succ_of_lt hb0)⟩
      · cases r2 with
        | error e => exact hr2
        | ok fl2 =>
          cases fl2 with
          | ret r =>
            obtain ⟨rfl, h', tk, c2, rfl, hS', hc', hk'⟩ := hr2
            repeat (any_goals (first | assumption | wp_step))
            exact h _ _ _ hS' hc' hk'
          | _ => exact hr2.elim
    | _ => exact hr.elim
end
def rSetIL (K : PySem.W.Frag) (w : World) : List V → Hp → VK → Prop := fun vs H Q => ∃ (a : Addr) (ns : List Int), vs = [V.ref a] ∧ SqL K H a (ns.map V.int) ∧ ns.length < 60 ∧ ∀ (l : Addr) (c : Nat), c ≤ ns.length → H l = none → Q (.ref l) (upd H l (SetO w l (fun j => decide (j ∈ ns)) c))
theorem cr_setIL {X : Cx} (hc : X.calm = true) : CallR X (.type "set") (rSetIL X.K X.w) := by
  intro pins s σ H vs us Q I r q0
  obtain ⟨a, ns, rfl, ha, h60, q⟩ := q0
  rw [Vals.ref1 r]
  obtain ⟨its, rv, pl, _⟩ := I.list ha
  exact call_setL ns (I.ok.hd hc) pl.isList (by simpa using intsAre_of rv) (by unfold scanBound; omega) fun h' tk c R hcn hk => ⟨.ref _, _, I.laid (t' := tk) hk (Nat.le_refl _) (setO_new R), rfl, q _ c hcn (I.hok.fresh (Nat.le_refl _))⟩
/-- set(of either) -/
def rSetU (K : PySem.W.Frag) (w : World) : List V → Hp → VK → Prop := fun vs H Q => rSetIT K w vs H Q ∨ rSetIL K w vs H Q
theorem cr_setU {X : Cx} (hc : X.calm = true) : CallR X (.type "set") (rSetU X.K X.w) := by
  intro pins s σ H vs us Q I r q0
  rcases q0 with q0 | q0
  · exact cr_setIT hc pins s σ H vs us Q I r q0
  · exact cr_setIL hc pins s σ H vs us Q I r q0
section
variable {K : PySem.W.Frag} {m : Mo} {Γ : G} {te : TE} {w : World}
theorem en_sortSetU {b : D} {ns : List Int} (h : Ev1 m K te Γ b) (hb : b = .tup (ns.map D.int) ∨ b = .lst (ns.map D.int)) (hu : ns.length < 60) : EvN m K (tCB (rSortedSet w) (tCons (tCB (rSetU K w) (tCons te tNil)) tNil)) Γ (fun d => ∃ ms : List Int, d = .lst (ms.map D.int) ∧ ms.Pairwise (· < ·) ∧ ∀ k, k ∈ ms ↔ k ∈ ns) := fun σ H e Q q =>
  h σ H e _ fun v d H1 s r1 rv => by
    subst s
    have i1 := m.inv r1 e.i
    have all : ∀ (F : Addr → Prop) (Hx : Hp) (l : List Int), RpAll K F Hx (l.map V.int) (l.map D.int) := fun F Hx l => by
      induction l with
      | nil => exact .nil
      | cons b l ih => exact .cons (.int _) ih
    have fin : ∀ (l : Addr) (c : Nat), c ≤ ns.length → H1 l = none → (rSortedSet w) [V.ref l] (upd H1 l (SetO w l (fun j => decide (j ∈ ns)) c)) Q := fun l c hcn hl => by
      refine ⟨l, _, c, rfl, upd_same, by omega, fun ms p hp1 hp2 _ hp3 => ?_⟩
      have r2 : m.R H1 (upd H1 l (SetO w l (fun j => decide (j ∈ ns)) c)) := m.grow i1 (same_new hl)
      have i2 := m.inv r2 i1
      exact q _ (.lst (ms.map D.int)) _ ⟨ms, rfl, hp1, fun k => by rw [hp2]; exact decide_eq_true_iff⟩ (m.trans r1 (m.trans r2 (m.grow i2 (same_new hp3)))) (.lst (fun z => m.fa i2 z hp3) upd_same (all _ _ ms))
    rcases hb with hb | hb
    · subst hb
      obtain ⟨a, vs, rfl, ha, ra⟩ := rv.tupE
      rw [ra.ints] at ha
      exact .inl ⟨a, ns, rfl, ha, hu, fin⟩
    · subst hb
      obtain ⟨a, vs, rfl, ha, ra⟩ := rv.lstE
      rw [ra.ints] at ha
      exact .inr ⟨a, ns, rfl, SqL.of ha, hu, fin⟩
/-- sum(lists, []) -/
theorem en_sumL {ta tb : TE} {xs : List (List D)} (ha : Ev1 m K ta Γ (.lst (xs.map D.lst))) (hb : EvL m K tb Γ []) (h0 : 0 < xs.length) (hz : xs.flatten.length ≤ 1000) : Ev1 m K (tCB rSumL (tCons ta (tCons tb tNil))) Γ (.lst xs.flatten) := fun σ H e Q q =>
  ha σ H e _ fun v d H1 s r1 rv => hb σ H1 (e.mv r1) _ fun l H2 vs r2 hl rs => by
    subst s
    cases rs
    have i1 := m.inv r1 e.i
    have i2 := m.inv r2 i1
    have r3 : m.R H2 (upd H2 l (.lst [])) := m.grow i2 (same_new hl)
    have i3 := m.inv r3 i2
    have rv3 : Rp K m.F (upd H2 l (.lst [])) v (.lst (xs.map D.lst)) := (rv.mv (m.keep r2 i1)).mv (m.keep r3 i2)
    obtain ⟨a, ws, rfl, hA, ra⟩ := rv3.lstE
    have lw : ws.length = xs.length := by rw [ra.len, List.length_map]
    obtain ⟨zss, hz1, hz2⟩ := pick (P := fun j (zs : List V) => ∃ (ds : List D) (p : Addr), xs[j]? = some ds ∧ ws[j]? = some (V.ref p) ∧ (upd H2 l (.lst [])) p = some (.lst zs) ∧ RpAll K m.F (upd H2 l (.lst [])) zs ds) (n := xs.length) fun j hj => by
      obtain ⟨x, hx, rx⟩ := ra.get (i := j) (d := .lst xs[j]) (by rw [List.getElem?_map, List.getElem?_eq_getElem hj]; rfl)
      obtain ⟨p, zs, rfl, hp, rz⟩ := rx.lstE
      exact ⟨zs, xs[j], p, List.getElem?_eq_getElem hj, hx, hp, rz⟩
    have rf : RpAll K m.F (upd H2 l (.lst [])) zss.flatten xs.flatten := by
      have go : ∀ {as : List (List V)} {bs : List (List D)}, as.length = bs.length → (∀ (j : Nat) x y, as[j]? = some x → bs[j]? = some y → RpAll K m.F (upd H2 l (.lst [])) x y) → RpAll K m.F (upd H2 l (.lst [])) as.flatten bs.flatten := fun {as} => by
        induction as with
        | nil => intro bs hl _; cases bs with | nil => exact .nil | cons b bs => simp at hl
        | cons x as ih =>
          intro bs hl k
          cases bs with
          | nil => simp at hl
          | cons y bs =>
            rw [List.flatten_cons, List.flatten_cons]
            exact (k 0 x y rfl rfl).append (ih (by simpa using hl) fun j u v e1 e2 => k (j + 1) u v (by simpa using e1) (by simpa using e2))
      refine go hz1 fun j x y e1 e2 => ?_
      obtain ⟨ds, p, e3, _, _, r⟩ := hz2 j x e1
      rw [e2] at e3
      injection e3 with e3
      rw [e3]
      exact r
    refine ⟨a, l, ws, zss, rfl, hA, upd_same, by omega, by omega, fun j x hx => ?_, by rw [rf.len]; exact hz, fun p hp => ?_⟩
    · have hj : j < zss.length := by
        have := (List.getElem?_eq_some_iff.mp hx).1
        omega
      obtain ⟨ds, p, _, e2, e3, _⟩ := hz2 j _ (List.getElem?_eq_getElem hj)
      rw [hx] at e2
      injection e2 with e2
      exact ⟨p, _, e2, List.getElem?_eq_getElem hj, e3⟩
    · exact q _ _ _ rfl (m.trans r1 (m.trans r2 (m.trans r3 (m.grow i3 (same_new hp))))) (rp_newL i3 hp rf)
end
end Tx

set_option Elab.async false
set_option linter.all false
set_option maxRecDepth 100000
set_option maxHeartbeats 2000000
set_option autoImplicit false
/-! Tx: loops over what makes a tuple each time, while one or two lists are one's own -/
namespace Tx
open PySem L2 RZ
section
variable {K : PySem.W.Frag} {m : Mo} {Γ : G} {ta tb te tv : TE} {tt : TT} {ts tw : TS} {d : D} {ds : List D} {l : Addr} {H0 : Hp} {O O' : OutO}
def ItY (m : Mo) (K : PySem.W.Frag) (wi : TI) (Γ : G) (xs : List D) : Prop := ∀ σ H, ER m K Γ σ H → ∀ Q : It → Hp → Prop, (∀ (J : It) H1, m.R H H1 → (∀ H2, m.I H2 → StK m H1 H2 →
  (∀ i, i < xs.length → J.go i H2) ∧ J.stop xs.length H2 ∧ ∀ i x H', i < xs.length → J.yld i H2 x H' → Same H2 H' ∧ ∃ d, xs[i]? = some d ∧ Rp K m.F H' x d) → Q J H1) → wi σ H Q
theorem ItX.y {wi : TI} {xs : List D} (h : ItX m K wi Γ xs) : ItY m K wi Γ xs := fun σ H e Q q => h σ H e Q fun J H1 r wk => q J H1 r fun H2 _ st => by
  obtain ⟨a, b, c⟩ := wk H2 st
  exact ⟨a, b, fun i x H' hi y => by obtain ⟨e, z⟩ := c i x H' hi y; subst e; exact ⟨Same.refl _, z⟩⟩
theorem ity_enum {ta : TA} {b : D} (h : EvA1 m K ta Γ [b]) (hd : isSeq b ds) : ItY m K (iEnumS K ta) Γ (enumD ds) := fun σ H e Q q =>
  h σ H e _ fun vs es H1 s r1 rs => by
    subst s
    cases rs with
    | cons rv rs =>
      cases rs
      have i1 := m.inv r1 e.i
      obtain ⟨a, ws, rfl, ra, hs⟩ := seq_standsX rv hd
      have hl := ra.len
      have fin : ∀ {H2 : Hp} {T : Addr} {w : V} {i : Nat}, m.I H2 → StK m H1 H2 → H2 T = none → ws[i]? = some w → Same H2 (upd H2 T (.tup [.int (i : Nat), w])) ∧ ∃ d, (enumD ds)[i]? = some d ∧ Rp K m.F (upd H2 T (.tup [.int (i : Nat), w])) (.ref T) d := fun {H2 T w i} i2 st hT hw => by
        obtain ⟨d, hd, rd⟩ := ra.at hw
        exact ⟨same_new hT, _, enumD_at hd, rp_new i2 hT (.cons (.int _) (.cons (rd.go fun a o n e => ⟨n, st a o n e⟩) .nil))⟩
      refine ⟨a, rfl, ?_⟩
      rcases hs with hs | hs
      · refine .inl ⟨⟨ws, hs H1 fun _ _ _ e => e⟩, q _ H1 r1 fun H2 i2 st => ⟨fun i hi => ⟨ws, ws[i]'(by rw [enumD_len] at hi; omega), hs H2 st, List.getElem?_eq_getElem _⟩, ⟨ws, hs H2 st, by rw [enumD_len]; omega⟩, fun i x H' hi y => ?_⟩⟩
        obtain ⟨T, w, rfl, hT, rfl, hw⟩ := y
        exact fin i2 st hT (hw ws (hs H2 st))
      · refine .inr ⟨⟨ws, hs H1 fun _ _ _ e => e⟩, q _ H1 r1 fun H2 i2 st => ⟨fun i hi => ⟨ws, ws[i]'(by rw [enumD_len] at hi; omega), hs H2 st, List.getElem?_eq_getElem _⟩, ⟨ws, hs H2 st, by rw [enumD_len]; omega⟩, fun i x H' hi y => ?_⟩⟩
        obtain ⟨T, w, rfl, hT, rfl, hw⟩ := y
        exact fin i2 st hT (hw ws (hs H2 st))
theorem tup_standsX {H1 : Hp} {v : V} (r : Rp K m.F H1 v (.tup ds)) : ∃ a vs, v = .ref a ∧ RpAll K m.F H1 vs ds ∧ ∀ H, StK m H1 H → SqT K H a vs := by
  cases r with
  | tup n h t => exact ⟨_, _, rfl, t, fun H r => .inl (rd_up h fun o q => r _ o n q)⟩
  | ktup h t => exact ⟨_, _, rfl, t, fun H r => .inr h⟩
theorem ity_zip {ta : TA} {as bs : List D} (h : EvA1 m K ta Γ [.tup as, .tup bs]) : ItY m K (iZipA K ta) Γ (zipD as bs) := fun σ H e Q q =>
  h σ H e _ fun vs es H1 s r1 rs => by
    subst s
    cases rs with
    | cons ra rs =>
      cases rs with
      | cons rb rs =>
        cases rs
        obtain ⟨a, vs1, rfl, rA, hA⟩ := tup_standsX ra
        obtain ⟨b, vs2, rfl, rB, hB⟩ := tup_standsX rb
        have lA := rA.len
        have lB := rB.len
        have z0 : StK m H1 H1 := fun _ _ _ e => e
        refine ⟨a, b, vs1, vs2, rfl, .inr ⟨hA H1 z0, hB H1 z0, q _ _ r1 fun H2 i2 st => ⟨fun i hi => ?_, ?_, fun i x H' hi y => ?_⟩⟩⟩
        · rw [zipD_len] at hi
          exact ⟨vs1, vs2, vs1[i]'(by omega), vs2[i]'(by omega), hA H2 st, hB H2 st, List.getElem?_eq_getElem _, List.getElem?_eq_getElem _⟩
        · exact ⟨vs1, vs2, hA H2 st, hB H2 st, by rw [zipD_len]; omega⟩
        · obtain ⟨T, x1, x2, rfl, hT, rfl, hx1, hx2⟩ := y
          obtain ⟨d1, hd1, rd1⟩ := rA.at (hx1 vs1 (hA H2 st))
          obtain ⟨d2, hd2, rd2⟩ := rB.at (hx2 vs2 (hB H2 st))
          exact ⟨same_new hT, _, zipD_at hd1 hd2, rp_new i2 hT (.cons (rd1.go fun a o n e => ⟨n, st a o n e⟩) (.cons (rd2.go fun a o n e => ⟨n, st a o n e⟩) .nil))⟩
/-- for, over either -/
theorem so_forY {wi : TI} {g : TG} {xs : List D} (hi : ItY (m.ext l) K wi Γ xs) (W : Nat → G → List D → Prop) (hw : W 0 Γ ds)
    (hs : ∀ i d Γ' ds', xs[i]? = some d → W i Γ' ds' → ∃ Γ2 js, TgD (m.ext l) K g Γ' d js Γ2 ∧ SGo m K l H0 ts Γ2 ds' { nx := W (i + 1), rt := O.rt }) (hd : ∀ Γ' ds', W xs.length Γ' ds' → O.nx Γ' ds') : SGo m K l H0 (tFor wi g ts) Γ ds O := fun h0 i0 σ H vs r e hl ra E M => by
  refine hi σ H e _ fun J H1 r1 wk => ?_
  have e1 := e.mv r1
  have kp : ∀ {Ha Hb : Hp} {us : List V}, (m.ext l).I Ha → m.R Ha Hb → Ha l = some (.lst us) → Hb l = some (.lst us) := fun ia r h => m.keep r ia.1 l _ (nFl h0 i0) h
  refine ⟨fun i k σ' H' => k = xs.length - i ∧ i ≤ xs.length ∧ m.R H0 H' ∧ StK (m.ext l) H1 H' ∧ ∃ Γ' ds' vs', W i Γ' ds' ∧ ER (m.ext l) K Γ' σ' H' ∧ H' l = some (.lst vs') ∧ RpAll K (m.ext l).F H' vs' ds', ⟨_, rfl, Nat.zero_le _, m.trans r r1, fun _ _ _ e => e, Γ, ds, vs, hw, e1, kp e.i r1 hl, ra.mv ((m.ext l).keep r1 e.i)⟩, ?_⟩
  rintro i k σ' H' ⟨rfl, hle, r', st, Γ', ds', vs', w, e', hl', ra'⟩
  obtain ⟨go, stop, yld⟩ := wk H' e'.i st
  by_cases hlt : i < xs.length
  · refine .inr ⟨go i hlt, fun σ3 H3 => m.R H0 H3 ∧ StK (m.ext l) H1 H3 ∧ ∃ Γ3 ds3 vs3, W (i + 1) Γ3 ds3 ∧ ER (m.ext l) K Γ3 σ3 H3 ∧ H3 l = some (.lst vs3) ∧ RpAll K (m.ext l).F H3 vs3 ds3, fun σ3 H3 q => ⟨xs.length - (i + 1), by omega, rfl, hlt, q⟩, fun x H2 y => ?_⟩
    obtain ⟨sm, d, hd', rx⟩ := yld i x H2 hlt y
    have r2 : m.R H' H2 := m.grow e'.i.1 sm
    obtain ⟨Γ2, js, tg, body⟩ := hs i d Γ' ds' hd' w
    refine tg x σ' H2 (e'.mv (m := m.ext l) r2) rx _ fun σ3 H3 e3 r3 _ => ?_
    have r23 : m.R H' H3 := m.trans r2 r3
    have ra3 : RpAll K (m.ext l).F H3 vs' ds' := ra'.mv ((m.ext l).keep r23 e'.i)
    have st3 : StK (m.ext l) H1 H3 := fun a o n q => (m.ext l).keep r23 e'.i a o n (st a o n q)
    refine body h0 i0 σ3 H3 vs' (m.trans r' r23) e3 (kp e'.i r23 hl') ra3 _ ⟨fun Γ4 ds4 σ4 H4 vs4 o r4 st4 e4 hl4 ra4 => ⟨r4, st3.trans st4, Γ4, ds4, vs4, o, e4, hl4, ra4⟩, fun d v H4 o r4 rv => M.rt d v H4 o r4 rv⟩
  · have e0 : i = xs.length := by omega
    subst e0
    exact .inl ⟨stop, M.nx Γ' ds' σ' H' vs' (hd Γ' ds' w) r' (fun a o n q => st a o n ((m.ext l).keep r1 e.i a o n q)) e' hl' ra'⟩
/-! ### a list that is put into: what is put in may be made in any way -/
theorem so_setG {i k : Nat} {ti : TE} (hi : Γ[i]? = some (some (.adr l))) (h : ∀ σ H vs, H0 l = none → m.I H0 → ER (m.ext l) K Γ σ H → H l = some (.lst vs) → RpAll K (m.ext l).F H vs ds → ∀ Q : VK, (∀ v H1, m.R H H1 → Rp K (m.ext l).F H1 v d → Q v H1) → te σ H Q) (hk : Ev1 (m.ext l) K ti Γ (dN k)) (hlt : k < ds.length) (kk : O.nx Γ (ds.set k d)) : SGo m K l H0 (tAsg te (gSub (tVar i) ti rSetL)) Γ ds O := fun h0 i0 σ H vs r e hl ra E M =>
  h σ H vs h0 i0 e hl ra _ fun v H1 r1 rv1 => by
    have e1 : ER (m.ext l) K Γ σ H1 := e.mv (m := m.ext l) r1
    have hl1 : H1 l = some (.lst vs) := m.keep r1 e.i.1 l _ (nFl h0 i0) hl
    have ra1 : RpAll K (m.ext l).F H1 vs ds := ra.mv ((m.ext l).keep r1 e.i)
    obtain ⟨w, h1, h2⟩ := e1.at_ i _ hi
    obtain rfl := h2.adrE
    refine ⟨_, h1, hk σ H1 e1 _ fun z dz H2 s2 r2 rz => ?_⟩
    subst s2
    obtain rfl := rz.intE
    have e2 := e1.mv r2
    have hl2 : H2 l = some (.lst vs) := m.keep r2 e1.i.1 l _ (nFl h0 i0) hl1
    have ra2 : RpAll K (m.ext l).F H2 vs ds := ra1.mv ((m.ext l).keep r2 e1.i)
    have rv2 : Rp K (m.ext l).F H2 v d := rv1.mv ((m.ext l).keep r2 e1.i)
    refine ⟨l, vs, k, k, rfl, rfl, hl2, Evl.ixN_nat (by rw [ra.len]; exact hlt), ?_⟩
    have mv : ∀ a o, ¬ (m.ext l).F a → H2 a = some o → (upd H2 l (.lst (vs.set k v))) a = some o := fun a o n q => by rw [upd_ne (fun z => n (.inr z))]; exact q
    have rr : m.R H0 (upd H2 l (.lst (vs.set k v))) := m.chg i0 (m.trans r (m.trans r1 r2)) h0
    refine M.nx Γ _ σ _ (vs.set k v) kk rr (fun a o n q => mv a o n ((m.ext l).keep r2 e1.i a o n ((m.ext l).keep r1 e.i a o n q))) ⟨⟨m.inv rr i0, by rw [upd_same]; exact fun z => nomatch z⟩, e2.len, fun j d h => let ⟨v, h1, h2⟩ := e2.at_ j d h; ⟨v, h1, h2.go fun a o n q => ⟨n, mv a o n q⟩⟩⟩ upd_same ((ra2.setN rv2 k).mv mv)
/-- x[k] = e, e does not read the list -/
theorem so_setX {i k : Nat} {ti : TE} (hi : Γ[i]? = some (some (.adr l))) (h : Ev1 (m.ext l) K te Γ d) (hk : Ev1 (m.ext l) K ti Γ (dN k)) (hlt : k < ds.length) (kk : O.nx Γ (ds.set k d)) : SGo m K l H0 (tAsg te (gSub (tVar i) ti rSetL)) Γ ds O :=
  so_setG hi (fun σ H vs h0 i0 e hl ra Q q => h σ H e _ fun v d' H1 s r1 rv => by subst s; exact q v H1 r1 rv) hk hlt kk
/-- a list that is made new -/
def EvF (m : Mo) (K : PySem.W.Frag) (te : TE) (Γ : G) (ds : List D) : Prop := ∀ σ H, ER m K Γ σ H → ∀ Q : VK, (∀ p H1 vs, m.R H H1 → H p = none → H1 p = some (.lst vs) → RpAll K m.F H1 vs ds → Q (.ref p) H1) → te σ H Q
/-- x[k] = [..], of numbers and tuples of them; it may read the list -/
theorem so_setF {i k n : Nat} {ti : TE} {es : List D} (hi : Γ[i]? = some (some (.adr l))) (h : EvF m K te (Γ.set i (some (.lst ds))) es) (ht : ∀ x ∈ es, ttree n x = true) (hk : Ev1 (m.ext l) K ti Γ (dN k)) (hlt : k < ds.length) (kk : O.nx Γ (ds.set k (.lst es))) : SGo m K l H0 (tAsg te (gSub (tVar i) ti rSetL)) Γ ds O :=
  so_setG hi (fun σ H vs h0 i0 e hl ra Q q => h σ H (er_dis h0 i0 e hi hl ra) _ fun p H1 us r1 hp hp1 rs => by
    have hl1 : H1 l = some (.lst vs) := m.keep r1 e.i.1 l _ (nFl h0 i0) hl
    refine q _ H1 r1 (.lst (fun z => z.elim (fun f => m.fa e.i.1 f hp) fun z => by rw [z, hl] at hp; cases hp) hp1 ?_)
    have go : ∀ {ys : List D} {ws : List V}, (∀ x ∈ ys, ttree n x = true) → RpAll K m.F H1 ws ys → RpAll K (m.ext l).F H1 ws ys := fun {ys} => by
      induction ys with
      | nil => intro ws _ r; cases r; exact .nil
      | cons y ys ih =>
        intro ws hy r
        cases r with
        | cons r1 r2 => exact .cons (Rp.off hl1 n (hy y List.mem_cons_self) r1) (ih (fun x hx => hy x (List.mem_cons_of_mem _ hx)) r2)
    exact go ht rs) hk hlt kk
end
end Tx

set_option Elab.async false
set_option linter.all false
set_option maxRecDepth 100000
set_option maxHeartbeats 2000000
set_option autoImplicit false
/-! Tx: comprehensions as new lists; two lists of one's own -/
namespace Tx
open PySem L2
section
variable {K : PySem.W.Frag} {m : Mo} {Γ : G} {te : TE} {tt : TT}
theorem ef_lcN {wi : TI} {g : TG} {vs : List Nat} {U : List D → Prop} {T : D → Bool → Prop} {V' : D → D → Prop} {js : List Nat} (hj : ∀ j ∈ js, j ∈ vs) (hi : ItD m K wi Γ U) (hu : ∀ xs, U xs → xs.length ≤ 100000)
    (hs : ∀ m', Mo.Le m m' → ∀ xs d, U xs → d ∈ xs → ∃ Γ2, TgD m' K g (wipeG Γ vs) d js Γ2 ∧ EvT m' K tt Γ2 (T d) ∧ (T d true → EvN m' K te Γ2 (V' d))) : ∀ σ H, ER m K Γ σ H → ∀ Q : VK, (∀ p H1 us xs ys, U xs → LcR T V' xs ys → m.R H H1 → H p = none → H1 p = some (.lst us) → RpAll K m.F H1 us ys → Q (.ref p) H1) → (tLc wi g tt te vs) σ H Q := fun σ H e Q q => by
  refine hi σ H e _ fun J xs H1 ht r1 wk => fun Dl hD => ?_
  have e1 := e.mv r1
  have rN : m.R H1 (upd H1 Dl (.lst [])) := m.grow e1.i (same_new hD)
  have nF : ¬ m.F Dl := fun f => m.fa e1.i f hD
  have wkA : ∀ H', m.R H1 H' → (m.ext Dl).I H' → WkD (m.ext Dl) K J H' xs := fun H' r i => wk (m.ext Dl) (m.le_ext Dl) H' i r fun a f n => f.elim (fun f => absurd f n) fun z => z ▸ hD
  -- the word: what the new list holds
  refine ⟨fun i k H' => k = xs.length - i ∧ i ≤ xs.length ∧ m.R H1 H' ∧ ∃ acc ys, H' Dl = some (.lst acc) ∧ RpAll K (m.ext Dl).F H' acc ys ∧ LcR T V' (xs.take i) ys, ⟨_, rfl, Nat.zero_le _, rN, [], [], upd_same, .nil, by simpa using LcR.nil⟩, ?_⟩
  rintro i k H' ⟨rfl, hle, r, acc, ys, hacc, ra, lr⟩
  have eX : ER (m.ext Dl) K Γ σ H' := e1.ext hD r (by rw [hacc]; exact fun z => nomatch z)
  have iX := eX.i
  have wkX := wkA H' r iX
  by_cases hlt : i < xs.length
  · refine .inr ⟨wkX.go i H' (m.refl _) hlt, fun H3 => m.R H1 H3 ∧ ∃ acc ys, H3 Dl = some (.lst acc) ∧ RpAll K (m.ext Dl).F H3 acc ys ∧ LcR T V' (xs.take (i + 1)) ys, fun H3 q => ⟨xs.length - (i + 1), by omega, rfl, hlt, q⟩, fun x H2 y => ?_⟩
    obtain ⟨r2, d, hd', rx⟩ := wkX.yld i H' x H2 (m.refl _) hlt y
    obtain ⟨Γ2, tg, tst, el⟩ := hs (m.ext Dl) (m.le_ext Dl) xs d ht (List.mem_of_getElem? hd')
    have hlen : acc.length < sizeLine := Nat.lt_of_lt_of_le (show acc.length < 100001 by
      have := lr.len; have h2 := ra.len; have h3 := hu xs ht; rw [List.length_take] at this; omega) (by decide)
    have tk : xs.take (i + 1) = xs.take i ++ [d] := by rw [List.take_add_one, hd']; rfl
    have kD : ∀ {Ha Hb : Hp}, (m.ext Dl).I Ha → m.R Ha Hb → Ha Dl = some (.lst acc) → Hb Dl = some (.lst acc) := fun ia r h => m.keep r ia.1 Dl _ nF h
    refine tg x (wipe σ vs) H2 ((eX.mv r2).wipe vs) rx _ fun σ3 H3 e3 r3 w3 => ⟨by rw [w3 vs hj, wipe_wipe], ?_⟩
    have i2 := (m.ext Dl).inv r2 iX
    refine tst σ3 H3 e3 _ fun b H4 tb' r4 => ?_
    have i3 := e3.i
    have i4 := (m.ext Dl).inv r4 i3
    have rr := m.trans r2 (m.trans r3 r4)
    cases b with
    | false =>
      exact ⟨m.trans r rr, acc, ys, kD iX rr hacc, ra.mv ((m.ext Dl).keep rr iX), by rw [tk]; simpa using lr.append (.no tb' .nil)⟩
    | true =>
      refine el tb' σ3 H4 (e3.mv r4) _ fun w dw H5 sv r5 rw' => ?_
      have i5 := (m.ext Dl).inv r5 i4
      have rr5 := m.trans rr r5
      refine ⟨acc, kD iX rr5 hacc, hlen, m.chg e1.i (m.trans r rr5) hD, acc ++ [w], ys ++ [dw], upd_same, ?_, by rw [tk]; exact lr.append (.yes tb' sv .nil)⟩
      have k5 : ∀ a o, ¬ (m.ext Dl).F a → H5 a = some o → (upd H5 Dl (.lst (acc ++ [w]))) a = some o := fun a o n x => by rw [upd_ne (fun z => n (.inr z))]; exact x
      exact (((ra.mv ((m.ext Dl).keep rr5 iX)).append (.cons rw' .nil)).mv k5)
  · have e0 : i = xs.length := by omega
    subst e0
    exact .inl ⟨wkX.stop H' (m.refl _), q Dl H' acc xs ys ht (by simpa using lr) (m.trans r1 r) (Classical.byContradiction fun z => m.had e.i r1 z hD) hacc (ra.weak fun a f => .inl f)⟩
theorem ef_lcM {α : Type} {wi : TI} {g : TG} {vs : List Nat} {xs : List α} {js : List Nat} (enc : α → D) (t : α → Bool) (f : α → D) (hc : ∀ x ∈ xs, ∀ y ∈ xs, enc x = enc y → x = y) (hj : ∀ j ∈ js, j ∈ vs) (hi : ItD1 m K wi Γ (xs.map enc)) (hu : xs.length ≤ 100000)
    (hs : ∀ m', Mo.Le m m' → ∀ x, x ∈ xs → ∃ Γ2, TgD m' K g (wipeG Γ vs) (enc x) js Γ2 ∧ EvT1 m' K tt Γ2 (t x) ∧ (t x = true → Ev1 m' K te Γ2 (f x))) : EvF m K (tLc wi g tt te vs) Γ ((xs.filter t).map f) := fun σ H e Q q =>
  ef_lcN (U := fun x => x = xs.map enc) (T := fun d b => ∃ x ∈ xs, d = enc x ∧ b = t x) (V' := fun d y => ∃ x ∈ xs, d = enc x ∧ y = f x) hj hi (fun x e => by rw [e, List.length_map]; exact hu) (fun m' l x d e hd => by
    subst e
    obtain ⟨x, hx, rfl⟩ := List.mem_map.mp hd
    obtain ⟨Γ2, h1, h2, h3⟩ := hs m' l x hx
    exact ⟨Γ2, h1, h2.mono fun b e => ⟨x, hx, rfl, e⟩, fun ⟨y, hy, e1, e2⟩ => (h3 (by rw [hc x hx y hy e1]; exact e2.symm)).mono fun d e => ⟨x, hx, rfl, e⟩⟩) σ H e Q fun p H1 us zs ys hz lr r hp hp1 rs => by
      subst hz
      have e3 := lr.fnM (t := t) (f := f) (fun x hx b ⟨y, hy, e1, e2⟩ => by rw [hc x hx y hy e1]; exact e2) fun x hx d _ ⟨y, hy, e1, e2⟩ => by rw [hc x hx y hy e1]; exact e2
      rw [e3] at rs
      exact q p H1 us r hp hp1 rs
end
section
variable {K : PySem.W.Frag} {m : Mo} {Γ : G} {ta tb te tv : TE} {tt : TT} {ts tw : TS} {d : D} {as bs : List D} {l k : Addr} {H0 : Hp}
structure OutP where
  nx : G → List D → List D → Prop
  rt : D → Prop
variable {O O' : OutP}
abbrev Mo.ext2 (m : Mo) (l k : Addr) : Mo := (m.ext l).ext k
structure MeetsP (m : Mo) (K : PySem.W.Frag) (l k : Addr) (H0 H : Hp) (O : OutP) (E : Ends) : Prop where
  nx : ∀ Γ' as' bs' σ' H' us' vs', O.nx Γ' as' bs' → m.R H0 H' → StK (m.ext2 l k) H H' → ER (m.ext2 l k) K Γ' σ' H' → H' l = some (.lst us') → H' k = some (.lst vs') → RpAll K (m.ext2 l k).F H' us' as' → RpAll K (m.ext2 l k).F H' vs' bs' → E.nx σ' H'
  rt : ∀ d v H', O.rt d → m.R H0 H' → Rp K m.F H' v d → E.rt v H'
theorem MeetsP.mv {H H1 : Hp} {E : Ends} (M : MeetsP m K l k H0 H O E) (s : StK (m.ext2 l k) H H1) : MeetsP m K l k H0 H1 O E := ⟨fun Γ' as' bs' σ' H' us' vs' o r st => M.nx Γ' as' bs' σ' H' us' vs' o r (s.trans st), M.rt⟩
/-- a statement, while the lists at l and k are one's own; H0: the heap ahead of both -/
def SGp (m : Mo) (K : PySem.W.Frag) (l k : Addr) (H0 : Hp) (ts : TS) (Γ : G) (as bs : List D) (O : OutP) : Prop :=
  H0 l = none → H0 k = none → l ≠ k → m.I H0 → ∀ σ H us vs, m.R H0 H → ER (m.ext2 l k) K Γ σ H → H l = some (.lst us) → H k = some (.lst vs) → RpAll K (m.ext2 l k).F H us as → RpAll K (m.ext2 l k).F H vs bs → ∀ E : Ends, MeetsP m K l k H0 H O E → ts E σ H
theorem er_disp {i : Nat} {σ : L2.St} {H : Hp} {us : List V} (h0 : H0 l = none) (i0 : m.I H0) (hlk : l ≠ k) (e : ER (m.ext2 l k) K Γ σ H) (hi : Γ[i]? = some (some (.adr l))) (hl : H l = some (.lst us)) (ra : RpAll K (m.ext2 l k).F H us as) : ER (m.ext k) K (Γ.set i (some (.lst as))) σ H := by
  refine ⟨⟨e.i.1.1, e.i.2⟩, by rw [List.length_set, e.len], fun j d h => ?_⟩
  have wk : ∀ a, (m.ext k).F a → (m.ext2 l k).F a := fun a f => f.elim (fun f => .inl (.inl f)) .inr
  by_cases z : i = j
  · subst z
    have hlt : i < Γ.length := (List.getElem?_eq_some_iff.mp hi).1
    rw [List.getElem?_set_self hlt] at h
    injection h with h
    injection h with h
    subst h
    obtain ⟨v, h1, h2⟩ := e.at_ i _ hi
    obtain rfl := h2.adrE
    exact ⟨_, h1, .lst (fun f => f.elim (nFl h0 i0) hlk) hl (ra.weak wk)⟩
  · rw [List.getElem?_set_ne z] at h
    obtain ⟨v, h1, h2⟩ := e.at_ j d h
    exact ⟨v, h1, h2.weak wk⟩
theorem sp_dis {i j : Nat} {O : Out} (hi : Γ[i]? = some (some (.adr l))) (hj : Γ[j]? = some (some (.adr k))) (hij : i ≠ j) (h : SG m K ts ((Γ.set i (some (.lst as))).set j (some (.lst bs))) { nx := fun _ => False, rt := O.rt }) : SGp m K l k H0 ts Γ as bs { nx := fun _ _ _ => False, rt := O.rt } := fun h0 k0 hlk i0 σ H us vs r e hl hk ra rb E M => by
  have e1 := er_disp h0 i0 hlk e hi hl ra
  have e2 : ER m K ((Γ.set i (some (.lst as))).set j (some (.lst bs))) σ H := er_dis k0 i0 e1 (by rw [List.getElem?_set_ne hij]; exact hj) hk (rb.weak fun a f => f.elim (fun f => .inl (.inl f)) .inr)
  exact h σ H e2 E ⟨fun _ _ _ o => o.elim, fun d v H' o r' rv => M.rt d v H' o (m.trans r r') rv, fun _ _ _ o => o.elim, fun _ _ _ o => o.elim⟩
theorem sp_seq (N : G → List D → List D → Prop) (h1 : SGp m K l k H0 ts Γ as bs { O with nx := N }) (h2 : ∀ Γ' as' bs', N Γ' as' bs' → SGp m K l k H0 tw Γ' as' bs' O) : SGp m K l k H0 (tSeq ts tw) Γ as bs O := fun h0 k0 hlk i0 σ H us vs r e hl hk ra rb E M =>
  h1 h0 k0 hlk i0 σ H us vs r e hl hk ra rb _ ⟨fun Γ' as' bs' σ' H' us' vs' o r' st e' hl' hk' ra' rb' => h2 Γ' as' bs' o h0 k0 hlk i0 σ' H' us' vs' r' e' hl' hk' ra' rb' E (M.mv st), M.rt⟩
theorem sp_forG {wi : TI} {g : TG} {xs : List D} (hi : ∀ σ H us, H0 l = none → l ≠ k → m.I H0 → ER (m.ext2 l k) K Γ σ H → H l = some (.lst us) → RpAll K (m.ext2 l k).F H us as → ∀ Q : It → Hp → Prop, (∀ (J : It) H1, m.R H H1 → (∀ H2, (m.ext2 l k).I H2 → StK (m.ext2 l k) H1 H2 → (∀ i, i < xs.length → J.go i H2) ∧ J.stop xs.length H2 ∧ ∀ i x H', i < xs.length → J.yld i H2 x H' → Same H2 H' ∧ ∃ d, xs[i]? = some d ∧ Rp K (m.ext2 l k).F H' x d) → Q J H1) → wi σ H Q) (W : Nat → G → List D → List D → Prop) (hw : W 0 Γ as bs)
    (hs : ∀ i d Γ' as' bs', xs[i]? = some d → W i Γ' as' bs' → ∃ Γ2 js, TgD (m.ext2 l k) K g Γ' d js Γ2 ∧ SGp m K l k H0 ts Γ2 as' bs' { nx := W (i + 1), rt := O.rt }) (hd : ∀ Γ' as' bs', W xs.length Γ' as' bs' → O.nx Γ' as' bs') : SGp m K l k H0 (tFor wi g ts) Γ as bs O := fun h0 k0 hlk i0 σ H us vs r e hl hk ra rb E M => by
  refine hi σ H us h0 hlk i0 e hl ra _ fun J H1 r1 wk => ?_
  have e1 := e.mv r1
  have kl : ∀ {Ha Hb : Hp} {us : List V}, (m.ext2 l k).I Ha → m.R Ha Hb → Ha l = some (.lst us) → Hb l = some (.lst us) := fun ia r h => m.keep r ia.1.1 l _ (nFl h0 i0) h
  have kk : ∀ {Ha Hb : Hp} {us : List V}, (m.ext2 l k).I Ha → m.R Ha Hb → Ha k = some (.lst us) → Hb k = some (.lst us) := fun ia r h => m.keep r ia.1.1 k _ (nFl k0 i0) h
  refine ⟨fun i n σ' H' => n = xs.length - i ∧ i ≤ xs.length ∧ m.R H0 H' ∧ StK (m.ext2 l k) H1 H' ∧ ∃ Γ' as' bs' us' vs', W i Γ' as' bs' ∧ ER (m.ext2 l k) K Γ' σ' H' ∧ H' l = some (.lst us') ∧ H' k = some (.lst vs') ∧ RpAll K (m.ext2 l k).F H' us' as' ∧ RpAll K (m.ext2 l k).F H' vs' bs', ⟨_, rfl, Nat.zero_le _, m.trans r r1, fun _ _ _ e => e, Γ, as, bs, us, vs, hw, e1, kl e.i r1 hl, kk e.i r1 hk, ra.mv ((m.ext2 l k).keep r1 e.i), rb.mv ((m.ext2 l k).keep r1 e.i)⟩, ?_⟩
  rintro i n σ' H' ⟨rfl, hle, r', st, Γ', as', bs', us', vs', w, e', hl', hk', ra', rb'⟩
  obtain ⟨go, stop, yld⟩ := wk H' e'.i st
  by_cases hlt : i < xs.length
  · refine .inr ⟨go i hlt, fun σ3 H3 => m.R H0 H3 ∧ StK (m.ext2 l k) H1 H3 ∧ ∃ Γ3 as3 bs3 us3 vs3, W (i + 1) Γ3 as3 bs3 ∧ ER (m.ext2 l k) K Γ3 σ3 H3 ∧ H3 l = some (.lst us3) ∧ H3 k = some (.lst vs3) ∧ RpAll K (m.ext2 l k).F H3 us3 as3 ∧ RpAll K (m.ext2 l k).F H3 vs3 bs3, fun σ3 H3 q => ⟨xs.length - (i + 1), by omega, rfl, hlt, q⟩, fun x H2 y => ?_⟩
    obtain ⟨sm, d, hd', rx⟩ := yld i x H2 hlt y
    have r2 : m.R H' H2 := m.grow e'.i.1.1 sm
    obtain ⟨Γ2, js, tg, body⟩ := hs i d Γ' as' bs' hd' w
    refine tg x σ' H2 (e'.mv (m := m.ext2 l k) r2) rx _ fun σ3 H3 e3 r3 _ => ?_
    have r23 : m.R H' H3 := m.trans r2 r3
    have up := (m.ext2 l k).keep r23 e'.i
    have st3 : StK (m.ext2 l k) H1 H3 := fun a o n q => up a o n (st a o n q)
    refine body h0 k0 hlk i0 σ3 H3 us' vs' (m.trans r' r23) e3 (kl e'.i r23 hl') (kk e'.i r23 hk') (ra'.mv up) (rb'.mv up) _ ⟨fun Γ4 as4 bs4 σ4 H4 us4 vs4 o r4 st4 e4 hl4 hk4 ra4 rb4 => ⟨r4, st3.trans st4, Γ4, as4, bs4, us4, vs4, o, e4, hl4, hk4, ra4, rb4⟩, fun d v H4 o r4 rv => M.rt d v H4 o r4 rv⟩
  · have e0 : i = xs.length := by omega
    subst e0
    exact .inl ⟨stop, M.nx Γ' as' bs' σ' H' us' vs' (hd Γ' as' bs' w) r' (fun a o n q => st a o n ((m.ext2 l k).keep r1 e.i a o n q)) e' hl' hk' ra' rb'⟩
theorem sp_for {wi : TI} {g : TG} {xs : List D} (hi : ItY (m.ext2 l k) K wi Γ xs) (W : Nat → G → List D → List D → Prop) (hw : W 0 Γ as bs)
    (hs : ∀ i d Γ' as' bs', xs[i]? = some d → W i Γ' as' bs' → ∃ Γ2 js, TgD (m.ext2 l k) K g Γ' d js Γ2 ∧ SGp m K l k H0 ts Γ2 as' bs' { nx := W (i + 1), rt := O.rt }) (hd : ∀ Γ' as' bs', W xs.length Γ' as' bs' → O.nx Γ' as' bs') : SGp m K l k H0 (tFor wi g ts) Γ as bs O := sp_forG (fun σ H us _ _ _ e _ _ Q q => hi σ H e Q q) W hw hs hd
/-- for x in range(e): e may read the one -/
theorem sp_forR {ta : TA} {g : TG} {n i : Nat} (hi : Γ[i]? = some (some (.adr l))) (h : EvA1 (m.ext k) K ta (Γ.set i (some (.lst as))) [dN n]) (hn : n ≤ 100000) (W : Nat → G → List D → List D → Prop) (hw : W 0 Γ as bs)
    (hs : ∀ i d Γ' as' bs', ((List.range n).map dN)[i]? = some d → W i Γ' as' bs' → ∃ Γ2 js, TgD (m.ext2 l k) K g Γ' d js Γ2 ∧ SGp m K l k H0 ts Γ2 as' bs' { nx := W (i + 1), rt := O.rt }) (hd : ∀ Γ' as' bs', W n Γ' as' bs' → O.nx Γ' as' bs') : SGp m K l k H0 (tFor (iRng1 ta) g ts) Γ as bs O :=
  sp_forG (xs := (List.range n).map dN) (fun σ H us h0 hlk i0 e hl ra Q q => h σ H (er_disp h0 i0 hlk e hi hl ra) _ fun vs ds H1 s r1 rs => by
    subst s
    cases rs with
    | cons r rs =>
      cases rs
      refine ⟨n, by rw [r.intE], by omega, by omega, q _ H1 r1 fun H2 i2 st => ⟨fun i hi => ?_, ?_, fun i x H' hi y => ?_⟩⟩
      · rw [List.length_map, List.length_range] at hi
        show i < (n : Int).toNat
        omega
      · rw [List.length_map, List.length_range]
        show (n : Int).toNat ≤ n
        omega
      · rw [List.length_map, List.length_range] at hi
        obtain ⟨e, ex⟩ := y
        subst e; subst ex
        exact ⟨Same.refl _, dN i, by rw [List.getElem?_map, List.getElem?_range hi]; rfl, by rw [Int.zero_add]; exact .int _⟩) W hw hs fun Γ' as' bs' w => hd Γ' as' bs' (by rw [List.length_map, List.length_range] at w; exact w)
/-- what changes at one of both: all else stays -/
theorem sp_keep {Γ : G} {σ : L2.St} {H : Hp} {p : Addr} {o : HO} (hp : p = l ∨ p = k) (rr : m.R H0 (upd H p o)) (i0 : m.I H0) (e : ER (m.ext2 l k) K Γ σ H) : (∀ a u, ¬ (m.ext2 l k).F a → H a = some u → (upd H p o) a = some u) ∧ ER (m.ext2 l k) K Γ σ (upd H p o) := by
  have mv : ∀ a u, ¬ (m.ext2 l k).F a → H a = some u → (upd H p o) a = some u := fun a u n q => by
    rw [upd_ne (fun z => n (by rw [z]; exact hp.elim (fun z => .inl (.inr z)) .inr))]
    exact q
  have nz : ∀ a, H a ≠ none → (upd H p o) a ≠ none := fun a n => by
    by_cases z : a = p
    · rw [z, upd_same]; exact fun z => nomatch z
    · rw [upd_ne z]; exact n
  exact ⟨mv, ⟨⟨m.inv rr i0, nz l e.i.1.2⟩, nz k e.i.2⟩, e.len, fun j d h => let ⟨v, h1, h2⟩ := e.at_ j d h; ⟨v, h1, h2.go fun a o n q => ⟨n, mv a o n q⟩⟩⟩
/-- x[n] = e, for the one and for the other -/
theorem sp_setL {i n : Nat} {ti : TE} (hi : Γ[i]? = some (some (.adr l))) (h : Ev1 (m.ext2 l k) K te Γ d) (hx : Ev1 (m.ext2 l k) K ti Γ (dN n)) (hlt : n < as.length) (kk : O.nx Γ (as.set n d) bs) : SGp m K l k H0 (tAsg te (gSub (tVar i) ti rSetL)) Γ as bs O := fun h0 k0 hlk i0 σ H us vs r e hl hk ra rb E M =>
  h σ H e _ fun v d' H1 s r1 rv => by
    subst s
    have e1 : ER (m.ext2 l k) K Γ σ H1 := e.mv (m := m.ext2 l k) r1
    obtain ⟨w, h1, h2⟩ := e1.at_ i _ hi
    obtain rfl := h2.adrE
    refine ⟨_, h1, hx σ H1 e1 _ fun z dz H2 s2 r2 rz => ?_⟩
    subst s2
    obtain rfl := rz.intE
    have r12 : m.R H H2 := m.trans r1 r2
    have e2 := e1.mv r2
    have up := (m.ext2 l k).keep r12 e.i
    have hl2 : H2 l = some (.lst us) := m.keep r12 e.i.1.1 l _ (nFl h0 i0) hl
    have hk2 : H2 k = some (.lst vs) := m.keep r12 e.i.1.1 k _ (nFl k0 i0) hk
    have rr : m.R H0 (upd H2 l (.lst (us.set n v))) := m.chg i0 (m.trans r r12) h0
    obtain ⟨mv, e3⟩ := sp_keep (o := .lst (us.set n v)) (.inl rfl) rr i0 e2
    exact ⟨l, us, n, n, rfl, rfl, hl2, Evl.ixN_nat (by rw [ra.len]; exact hlt), M.nx Γ _ _ σ _ (us.set n v) vs kk rr (fun a o n q => mv a o n (up a o n q)) e3 upd_same ((upd_ne (Ne.symm hlk)).trans hk2) (((ra.mv up).setN (rv.mv ((m.ext2 l k).keep r2 e1.i)) n).mv mv) ((rb.mv up).mv mv)⟩
theorem sp_setK {i n : Nat} {ti : TE} (hi : Γ[i]? = some (some (.adr k))) (h : Ev1 (m.ext2 l k) K te Γ d) (hx : Ev1 (m.ext2 l k) K ti Γ (dN n)) (hlt : n < bs.length) (kk : O.nx Γ as (bs.set n d)) : SGp m K l k H0 (tAsg te (gSub (tVar i) ti rSetL)) Γ as bs O := fun h0 k0 hlk i0 σ H us vs r e hl hk ra rb E M =>
  h σ H e _ fun v d' H1 s r1 rv => by
    subst s
    have e1 : ER (m.ext2 l k) K Γ σ H1 := e.mv (m := m.ext2 l k) r1
    obtain ⟨w, h1, h2⟩ := e1.at_ i _ hi
    obtain rfl := h2.adrE
    refine ⟨_, h1, hx σ H1 e1 _ fun z dz H2 s2 r2 rz => ?_⟩
    subst s2
    obtain rfl := rz.intE
    have r12 : m.R H H2 := m.trans r1 r2
    have e2 := e1.mv r2
    have up := (m.ext2 l k).keep r12 e.i
    have hl2 : H2 l = some (.lst us) := m.keep r12 e.i.1.1 l _ (nFl h0 i0) hl
    have hk2 : H2 k = some (.lst vs) := m.keep r12 e.i.1.1 k _ (nFl k0 i0) hk
    have rr : m.R H0 (upd H2 k (.lst (vs.set n v))) := m.chg i0 (m.trans r r12) k0
    obtain ⟨mv, e3⟩ := sp_keep (o := .lst (vs.set n v)) (.inr rfl) rr i0 e2
    exact ⟨k, vs, n, n, rfl, rfl, hk2, Evl.ixN_nat (by rw [rb.len]; exact hlt), M.nx Γ _ _ σ _ us (vs.set n v) kk rr (fun a o n q => mv a o n (up a o n q)) e3 ((upd_ne hlk).trans hl2) upd_same ((ra.mv up).mv mv) (((rb.mv up).setN (rv.mv ((m.ext2 l k).keep r2 e1.i)) n).mv mv)⟩
/-- found.append(left.pop(e)): e may read left -/
theorem sp_pop {i j : Nat} {S : D → Prop} (hi : Γ[i]? = some (some (.adr l))) (hj : Γ[j]? = some (some (.adr k))) (h : EvN (m.ext k) K te (Γ.set i (some (.lst as))) S) (hS : ∀ d, S d → ∃ n : Nat, d = dN n ∧ n < as.length) (hz : as.length ≤ 1000) (hz2 : bs.length ≤ 1000)
    (kk : ∀ n d, as[n]? = some d → O.nx Γ (as.eraseIdx n) (bs ++ [d])) : SGp m K l k H0 (tDrop (tBM K "list" rAppend (tVar j) (tCons (tBM K "list" rPopAt (tVar i) (tCons te tNil)) tNil))) Γ as bs O := fun h0 k0 hlk i0 σ H us vs r e hl hk ra rb E M => by
  obtain ⟨w, h1, h2⟩ := e.at_ j _ hj
  obtain rfl := h2.adrE
  obtain ⟨w, g1, g2⟩ := e.at_ i _ hi
  obtain rfl := g2.adrE
  refine ⟨_, h1, .inl ⟨rfl, vs, SqL.of hk⟩, ?_⟩
  refine ⟨_, g1, .inl ⟨rfl, us, SqL.of hl⟩, ?_⟩
  refine h σ H (er_disp h0 i0 hlk e hi hl ra) _ fun v d' H1 s r1 rv => ?_
  obtain ⟨n, rfl, hn⟩ := hS d' s
  obtain rfl := rv.intE
  have e1 : ER (m.ext2 l k) K Γ σ H1 := e.mv (m := m.ext2 l k) r1
  have up := (m.ext2 l k).keep r1 e.i
  have hl1 : H1 l = some (.lst us) := m.keep r1 e.i.1.1 l _ (nFl h0 i0) hl
  have hk1 : H1 k = some (.lst vs) := m.keep r1 e.i.1.1 k _ (nFl k0 i0) hk
  have lu := ra.len
  have lv := rb.len
  have hnu : n < us.length := by omega
  obtain ⟨d, hd, rd⟩ := (ra.mv up).at (List.getElem?_eq_getElem hnu)
  have rr : m.R H0 (upd H1 l (.lst (us.eraseIdx n))) := m.chg i0 (m.trans r r1) h0
  obtain ⟨mv, e2⟩ := sp_keep (o := .lst (us.eraseIdx n)) (.inl rfl) rr i0 e1
  refine ⟨l, us, (n : Int), n, us[n], rfl, rfl, hl1, by omega, by omega, ?_, List.getElem?_eq_getElem hnu, ?_⟩
  · unfold seqIndex?
    simp
    omega
  have hk2 : (upd H1 l (.lst (us.eraseIdx n))) k = some (.lst vs) := (upd_ne (Ne.symm hlk)).trans hk1
  have rr2 : m.R H0 (upd (upd H1 l (.lst (us.eraseIdx n))) k (.lst (vs ++ [us[n]]))) := m.chg i0 rr k0
  obtain ⟨mv2, e3⟩ := sp_keep (o := .lst (vs ++ [us[n]])) (.inr rfl) rr2 i0 e2
  refine ⟨k, vs, us[n], rfl, rfl, hk2, Nat.lt_of_lt_of_le (show vs.length < 1001 by omega) (by decide), ?_⟩
  exact M.nx Γ _ _ σ _ (us.eraseIdx n) (vs ++ [us[n]]) (kk n d hd) rr2 (fun a o x q => mv2 a o x (mv a o x (up a o x q))) e3 ((upd_ne hlk).trans upd_same) upd_same ((((ra.mv up).eraseN n).mv mv).mv mv2) (((((rb.mv up).append (.cons rd .nil)).mv mv)).mv mv2)
end
end Tx

set_option Elab.async false
set_option linter.all false
set_option maxRecDepth 100000
set_option maxHeartbeats 2000000
set_option autoImplicit false
/-! Tx: where a second list begins; places in lists -/
namespace Tx
open PySem L2
section
variable {K : PySem.W.Frag} {m : Mo} {Γ : G} {ta tb te tv : TE} {tt : TT} {ts tw : TS} {d : D} {as bs : List D} {l k : Addr} {H0 : Hp}
/-- x = a new list; rest -/
theorem so_own2 {j : Nat} {R : D → Prop} (h : EvL (m.ext l) K te Γ bs) (kk : ∀ k, SGp m K l k H0 tw (Γ.set j (some (.adr k))) as bs { nx := fun _ _ _ => False, rt := R }) : SGo m K l H0 (tSeq (tAsg te (gName j)) tw) Γ as { nx := fun _ _ => False, rt := R } := fun h0 i0 σ H us r e hl ra E M =>
  h σ H e _ fun k H1 vs r1 hk rs => by
    have e1 := e.mv r1
    have hl1 : H1 l = some (.lst us) := m.keep r1 e.i.1 l _ (nFl h0 i0) hl
    have ra1 := ra.mv ((m.ext l).keep r1 e.i)
    have hlk : l ≠ k := fun z => by rw [z, hk] at hl1; cases hl1
    have k0 : H0 k = none := Classical.byContradiction fun z => m.had i0 (m.trans r r1) z hk
    have rN : m.R H1 (upd H1 k (.lst vs)) := m.grow e1.i.1 (same_new hk)
    have eX : ER (m.ext2 l k) K Γ σ (upd H1 k (.lst vs)) := e1.ext hk rN (by rw [upd_same]; exact fun z => nomatch z)
    have up : ∀ {vs' : List V} {ds : List D}, RpAll K (m.ext l).F H1 vs' ds → RpAll K (m.ext2 l k).F (upd H1 k (.lst vs)) vs' ds := fun rs => Rp.goAll (fun a o n q => ⟨fun z => z.elim n fun z => (by rw [z, hk] at q; cases q), same_new hk a o q⟩) rs
    exact kk k h0 k0 hlk i0 _ _ us vs (m.trans r (m.trans r1 rN)) (eX.set j (.adr k)) ((upd_ne hlk).trans hl1) upd_same (up ra1) (up rs) E ⟨fun _ _ _ _ _ _ _ o => o.elim, fun d v H' o r rv => M.rt d v H' o r rv⟩
/-- x, y = a new list, []; rest (the pair itself is not made) -/
theorem sq_two {i j : Nat} {O : Out} (h : EvL m K te Γ as) (kk : ∀ l k H0, SGp m K l k H0 tw ((Γ.set i (some (.adr l))).set j (some (.adr k))) as [] { nx := fun _ _ _ => False, rt := O.rt }) : SG m K (tSeq (tPar i j (tCons te (tCons (tLst tNil) tNil))) tw) Γ O := fun σ H e E M =>
  h σ H e _ fun l H1 us r1 hl rs => by
    have e1 := e.mv r1
    have rN : m.R H1 (upd H1 l (.lst us)) := m.grow e1.i (same_new hl)
    have eX : ER (m.ext l) K Γ σ (upd H1 l (.lst us)) := e1.ext hl rN (by rw [upd_same]; exact fun z => nomatch z)
    have rs' : RpAll K (m.ext l).F (upd H1 l (.lst us)) us as := Rp.goAll (fun a o n q => ⟨fun z => z.elim n fun z => (by rw [z, hl] at q; cases q), same_new hl a o q⟩) rs
    refine ⟨by decide, fun k hk => ?_⟩
    have hlk : l ≠ k := fun z => by rw [← z, upd_same] at hk; cases hk
    have k1 : H1 k = none := by rw [upd_ne (Ne.symm hlk)] at hk; exact hk
    have rK : m.R (upd H1 l (.lst us)) (upd (upd H1 l (.lst us)) k (.lst [])) := m.grow eX.i.1 (same_new hk)
    have eK : ER (m.ext2 l k) K Γ σ (upd (upd H1 l (.lst us)) k (.lst [])) := eX.ext hk rK (by rw [upd_same]; exact fun z => nomatch z)
    have rs2 : RpAll K (m.ext2 l k).F (upd (upd H1 l (.lst us)) k (.lst [])) us as := Rp.goAll (fun a o n q => ⟨fun z => z.elim n fun z => (by rw [z, hk] at q; cases q), same_new hk a o q⟩) rs'
    exact ⟨_, _, rfl, kk l k H1 hl k1 hlk e1.i _ _ us [] (m.trans rN rK) ((eK.set i (.adr l)).set j (.adr k)) ((upd_ne hlk).trans upd_same) upd_same rs2 .nil E ⟨fun _ _ _ _ _ _ _ o => o.elim, fun d v H' o r rv => M.rt d v H' o (m.trans r1 r) rv⟩⟩
/-- x, y = e, f; rest -/
theorem sq_par {i j : Nat} {O : Out} {T : List D → Prop} {tc : TA} (h : EvA m K tc Γ T) (k : ∀ ds, T ds → ∃ d e, ds = [d, e] ∧ SG m K tw ((Γ.set i (some d)).set j (some e)) O) : SG m K (tSeq (tPar i j tc) tw) Γ O := fun σ H e E M =>
  h σ H e _ fun vs ds H1 s r1 rs => by
    obtain ⟨a, b, rfl, q⟩ := k ds s
    cases rs with
    | cons r2 rs =>
      cases rs with
      | cons r3 rs =>
        cases rs
        exact ⟨_, _, rfl, q _ H1 (((e.mv r1).set i r2).set j r3) E (M.mv r1)⟩
/-- list(range(n)) -/
theorem en_rangeL {n : Nat} (h : Ev1 m K ta Γ (dN n)) (hn : n ≤ 1000) : Ev1 m K (tLstRg (tRg1 ta)) Γ (lstN (List.range n)) := fun σ H e Q q =>
  h σ H e _ fun v d H1 s r1 rv => by
    subst s
    have i1 := m.inv r1 e.i
    refine ⟨n, rv.intE, RgOk.of_le (by omega) (by omega) (by omega) (by omega), fun p hp => q _ _ _ rfl (m.trans r1 (m.grow i1 (same_new hp))) (rp_newL i1 hp ?_)⟩
    have : rgV 0 (n : Int) = (List.range n).map fun i : Nat => V.int (i : Int) := by
      unfold rgV
      have e : ((n : Int) - 0).toNat = n := by omega
      rw [e]
      exact List.map_congr_left fun i _ => by rw [Int.zero_add]
    rw [this]
    exact RpAll.map (f := fun i : Nat => V.int (i : Int)) (g := dN) (fun x => .int _) _
theorem ne_idx {t : Nat} : ∀ {ns : List Nat} {j : Nat} (h : j < ns.length), j < ns.idxOf t → ns[j] ≠ t
  | a :: ns, 0, _, h => fun z => by
    rw [List.getElem_cons_zero] at z
    subst z
    simp at h
  | a :: ns, j + 1, hl, h => by
    rw [List.getElem_cons_succ]
    rw [List.idxOf_cons] at h
    cases q : a == t with
    | true => rw [q] at h; simp at h
    | false => rw [q] at h; exact ne_idx _ (by simpa using h)
/-- xs.index(x) -/
theorem en_index {ns : List Nat} {t : Nat} (ha : Ev1 m K ta Γ (lstN ns)) (hb : Ev1 m K tb Γ (dN t)) (ht : t ∈ ns) : Ev1 m K (tBM K "list" (rIndex K) ta (tCons tb tNil)) Γ (dN (ns.idxOf t)) := fun σ H e Q q =>
  ha σ H e _ fun v d H1 s r1 rv => by
    subst s
    obtain ⟨a, vs, rfl, hA, rs⟩ := rv.lstE
    refine ⟨.inl ⟨rfl, vs, SqL.of hA⟩, hb σ H1 (e.mv r1) _ fun y dy H2 s r2 ry => ?_⟩
    subst s
    obtain rfl := ry.intE
    have i1 := m.inv r1 e.i
    rw [show ns.map dN = (ns.map fun k : Nat => (k : Int)).map D.int from dN_ints ns] at rs
    have ev := rs.ints
    have hA2 : H2 a = some (.lst vs) := by
      cases rv with
      | lst n h t => exact m.keep r2 i1 a _ n hA
    have hlt := List.idxOf_lt_length_iff.mpr ht
    have at_ : ∀ j : Nat, vs[j]? = (ns[j]?).map fun k : Nat => V.int (k : Int) := fun j => by rw [ev, List.getElem?_map, List.getElem?_map, Option.map_map]; rfl
    refine ⟨a, vs, .int (t : Int), ns.idxOf t, .int (t : Int), rfl, rfl, SqL.of hA2, rfl, ?_, ?_, ?_, fun j z hj hz => ?_, q _ _ H2 rfl (m.trans r1 r2) (.int _)⟩
    · rw [ev, List.all_eq_true]
      intro x hx
      obtain ⟨y, _, rfl⟩ := List.mem_map.mp hx
      rfl
    · rw [at_, List.getElem?_eq_getElem hlt, List.getElem_idxOf hlt]; rfl
    · simp [eqV]
    · rw [at_, List.getElem?_eq_getElem (by omega)] at hz
      injection hz with hz
      subst hz
      have : ns[j] ≠ t := ne_idx _ (by omega)
      simp [eqV]
      omega
end
end Tx
namespace Tx
open PySem L2
section
variable {K : PySem.W.Frag} {m : Mo} {Γ : G} {te : TE} {d : D} {ds : List D} {l : Addr} {H0 : Hp} {O : OutO}
/-- y = e, while a list is one's own, which e does not read -/
theorem so_asg {i : Nat} (h : Ev1 (m.ext l) K te Γ d) (k : O.nx (Γ.set i (some d)) ds) : SGo m K l H0 (tAsg te (gName i)) Γ ds O := fun h0 i0 σ H vs r e hl ra E M =>
  h σ H e _ fun v d' H1 s r1 rv => by
    subst s
    have e1 : ER (m.ext l) K Γ σ H1 := e.mv (m := m.ext l) r1
    exact M.nx _ _ _ H1 vs k (m.trans r r1) (fun a o n q => (m.ext l).keep r1 e.i a o n q) (e1.set i rv) (m.keep r1 e.i.1 l _ (nFl h0 i0) hl) (ra.mv ((m.ext l).keep r1 e.i))
end
end Tx

set_option Elab.async false
set_option linter.all false
set_option maxRecDepth 100000
set_option maxHeartbeats 1000000
set_option autoImplicit false
/-! webs as lists of natural numbers: whom ways lead to -/
namespace WebM
open PySem L2 Tx
abbrev Hd := List (List Nat)
def rowOf (h : Hd) (e : Nat) : List Nat := h.getD e []
inductive Rch (h : Hd) (t : Nat) : Nat → Prop
  | base : Rch h t t
  | step {o e : Nat} : Rch h t o → e < h.length → o ∈ rowOf h e → Rch h t e
noncomputable def rchB (h : Hd) (t x : Nat) : Bool := @decide (Rch h t x) (Classical.propDecidable _)
noncomputable def rl (h : Hd) (t : Nat) : List Nat := (List.range h.length).filter (rchB h t)
theorem rchB_iff {h : Hd} {t x : Nat} : rchB h t x = true ↔ Rch h t x := by unfold rchB; exact @decide_eq_true_iff _ (Classical.propDecidable _)
theorem mem_rl {h : Hd} {t x : Nat} : x ∈ rl h t ↔ x < h.length ∧ Rch h t x := by unfold rl; rw [List.mem_filter, List.mem_range, rchB_iff]
theorem rl_nodup (h : Hd) (t : Nat) : (rl h t).Nodup := List.nodup_range.filter _
theorem rl_lt (h : Hd) (t : Nat) : (rl h t).Pairwise (· < ·) := List.pairwise_lt_range.filter _
theorem rl_len (h : Hd) (t : Nat) : (rl h t).length ≤ h.length := by
  unfold rl
  have := List.length_filter_le (rchB h t) (List.range h.length)
  rw [List.length_range] at this
  exact this
theorem len_le {n : Nat} {R : List Nat} (nd : R.Nodup) (hr : ∀ x ∈ R, x < n) : R.length ≤ n := by
  have p : ((List.range n).filter fun x => decide (x ∈ R)).Perm R := (List.perm_ext_iff_of_nodup (List.nodup_range.filter _) nd).mpr fun x => by
    rw [List.mem_filter, List.mem_range, decide_eq_true_iff]
    exact ⟨fun z => z.2, fun z => ⟨hr x z, z⟩⟩
  rw [← p.length_eq]
  have := List.length_filter_le (fun x => decide (x ∈ R)) (List.range n)
  rw [List.length_range] at this
  exact this
structure InvR (h : Hd) (t : Nat) (R : List Nat) : Prop where
  base : t ∈ R
  nd : R.Nodup
  lt : ∀ x ∈ R, x < h.length
  rch : ∀ x ∈ R, Rch h t x
theorem InvR.len {h : Hd} {t : Nat} {R : List Nat} (i : InvR h t R) : R.length ≤ h.length := len_le i.nd i.lt
theorem InvR.one {h : Hd} {t : Nat} (ht : t < h.length) : InvR h t [t] := ⟨List.mem_singleton.mpr rfl, by simp, fun x hx => by rw [List.mem_singleton.mp hx]; exact ht, fun x hx => by rw [List.mem_singleton.mp hx]; exact .base⟩
/-- nothing more is reached -/
def Closed (h : Hd) (R : List Nat) : Prop := ∀ e, e < h.length → e ∉ R → ∀ o ∈ rowOf h e, o ∉ R
theorem InvR.all {h : Hd} {t : Nat} {R : List Nat} (i : InvR h t R) (c : Closed h R) {x : Nat} (r : Rch h t x) : x ∈ R := by
  induction r with
  | base => exact i.base
  | @step o e _ he ho ih => exact Classical.byContradiction fun n => c e he n o ho ih
theorem cast_lt {l : List Nat} (h : l.Pairwise (· < ·)) : (l.map fun k : Nat => (k : Int)).Pairwise (· ≤ ·) := by
  rw [List.pairwise_map]
  exact h.imp fun {a b} q => by omega
theorem InvR.srt {h : Hd} {t : Nat} {R : List Nat} (i : InvR h t R) (c : Closed h R) : srt (R.map fun k : Nat => (k : Int)) = (rl h t).map fun k : Nat => (k : Int) := by
  have p : (rl h t).Perm R := (List.perm_ext_iff_of_nodup (rl_nodup h t) i.nd).mpr fun x => by
    rw [mem_rl]
    exact ⟨fun z => i.all c z.2, fun z => ⟨i.lt x z, i.rch x z⟩⟩
  exact (srt_of (p.map _) (cast_lt (rl_lt h t))).symm
/-! the program's way: all at once -/
def farB (h : Hd) (R : List Nat) (e : Nat) : Bool := !decide (e ∈ R) && (rowOf h e).any fun o => decide (o ∈ R)
def far (h : Hd) (R : List Nat) : List Nat := (List.range h.length).filter (farB h R)
theorem far_nil {h : Hd} {R : List Nat} (e : far h R = []) : Closed h R := fun x hx hn o ho hR => by
  have : x ∈ far h R := by
    unfold far
    rw [List.mem_filter, List.mem_range]
    refine ⟨hx, ?_⟩
    unfold farB
    rw [Bool.and_eq_true]
    exact ⟨by simp [hn], List.any_eq_true.mpr ⟨o, ho, by simp [hR]⟩⟩
  rw [e] at this
  cases this
theorem InvR.step {h : Hd} {t : Nat} {R : List Nat} (i : InvR h t R) : InvR h t (R ++ far h R) := by
  have hm : ∀ x ∈ far h R, x < h.length ∧ x ∉ R ∧ ∃ o ∈ rowOf h x, o ∈ R := fun x hx => by
    unfold far at hx
    rw [List.mem_filter, List.mem_range] at hx
    obtain ⟨h1, h2⟩ := hx
    unfold farB at h2
    rw [Bool.and_eq_true] at h2
    obtain ⟨o, ho, hR⟩ := List.any_eq_true.mp h2.2
    exact ⟨h1, by simpa using h2.1, o, ho, by simpa using hR⟩
  refine ⟨List.mem_append_left _ i.base, ?_, fun x hx => ?_, fun x hx => ?_⟩
  · rw [List.nodup_append]
    exact ⟨i.nd, List.nodup_range.filter _, fun a ha b hb e => (hm b hb).2.1 (e ▸ ha)⟩
  · rcases List.mem_append.mp hx with hx | hx
    · exact i.lt x hx
    · exact (hm x hx).1
  · rcases List.mem_append.mp hx with hx | hx
    · exact i.rch x hx
    · obtain ⟨h1, _, o, ho, hR⟩ := hm x hx
      exact .step (i.rch o hR) h1 ho
/-! the law's way: one by one -/
def oneB (h : Hd) (F : List Nat) (o : Nat) : Bool := !decide (o ∈ F) && !((rowOf h o).filter fun x => decide (x ∈ F)).isEmpty
def one (h : Hd) (F : List Nat) (o : Nat) : List Nat := if oneB h F o = true then F ++ [o] else F
def inner (h : Hd) (F : List Nat) (k : Nat) : List Nat := (List.range k).foldl (one h) F
def outer (h : Hd) (F : List Nat) : Nat → List Nat
  | 0 => F
  | k + 1 => inner h (outer h F k) h.length
theorem inner_succ (h : Hd) (F : List Nat) (k : Nat) : inner h F (k + 1) = one h (inner h F k) k := by unfold inner; rw [List.range_succ, List.foldl_append]; rfl
theorem filter_ne {l : List Nat} {F : List Nat} : (!(l.filter fun x => decide (x ∈ F)).isEmpty) = true ↔ ∃ o ∈ l, o ∈ F := by
  constructor
  · intro h
    cases e : l.filter fun x => decide (x ∈ F) with
    | nil => rw [e] at h; cases h
    | cons a r =>
      have : a ∈ l.filter fun x => decide (x ∈ F) := by rw [e]; exact List.mem_cons_self
      rw [List.mem_filter] at this
      exact ⟨a, this.1, by simpa using this.2⟩
  · rintro ⟨o, ho, hF⟩
    have : o ∈ l.filter fun x => decide (x ∈ F) := List.mem_filter.mpr ⟨ho, by simp [hF]⟩
    cases e : l.filter fun x => decide (x ∈ F) with
    | nil => rw [e] at this; cases this
    | cons a r => rfl
theorem InvR.one' {h : Hd} {t o : Nat} {F : List Nat} (i : InvR h t F) (ho : o < h.length) : InvR h t (WebM.one h F o) := by
  unfold WebM.one
  split
  · rename_i e
    unfold oneB at e
    rw [Bool.and_eq_true, filter_ne] at e
    have hn : o ∉ F := by simpa using e.1
    obtain ⟨p, hp, hF⟩ := e.2
    refine ⟨List.mem_append_left _ i.base, ?_, fun x hx => ?_, fun x hx => ?_⟩
    · rw [List.nodup_append]
      exact ⟨i.nd, by simp, fun a ha b hb e => hn (by rw [List.mem_singleton.mp hb] at e; exact e ▸ ha)⟩
    · rcases List.mem_append.mp hx with hx | hx
      · exact i.lt x hx
      · rw [List.mem_singleton.mp hx]; exact ho
    · rcases List.mem_append.mp hx with hx | hx
      · exact i.rch x hx
      · rw [List.mem_singleton.mp hx]; exact .step (i.rch p hF) ho hp
  · exact i
theorem InvR.inner {h : Hd} {t : Nat} {F : List Nat} (i : InvR h t F) : ∀ k, k ≤ h.length → InvR h t (WebM.inner h F k)
  | 0, _ => i
  | k + 1, hk => by rw [inner_succ]; exact (InvR.inner i k (by omega)).one' (by omega)
theorem InvR.outer {h : Hd} {t : Nat} {F : List Nat} (i : InvR h t F) : ∀ k, InvR h t (WebM.outer h F k)
  | 0 => i
  | k + 1 => (InvR.outer i k).inner h.length (Nat.le_refl _)
/-- a turn adds nothing only if nothing more is reached -/
theorem inner_same {h : Hd} {F : List Nat} : ∀ k, F.length ≤ (inner h F k).length ∧ ((inner h F k).length = F.length → inner h F k = F ∧ ∀ o, o < k → o ∉ F → ∀ x ∈ rowOf h o, x ∉ F)
  | 0 => ⟨Nat.le_refl _, fun _ => ⟨rfl, fun o ho => absurd ho (by omega)⟩⟩
  | k + 1 => by
    obtain ⟨h1, h2⟩ := inner_same (h := h) (F := F) k
    rw [inner_succ]
    unfold one
    split
    · rename_i e
      refine ⟨by rw [List.length_append]; omega, fun z => ?_⟩
      rw [List.length_append, List.length_singleton] at z
      omega
    · rename_i e
      refine ⟨h1, fun z => ⟨(h2 z).1, fun o ho hn x hx hF => ?_⟩⟩
      by_cases hk : o = k
      · subst hk
        refine e ?_
        unfold oneB
        rw [(h2 z).1, Bool.and_eq_true, filter_ne]
        exact ⟨by simp [hn], x, hx, hF⟩
      · exact (h2 z).2 o (by omega) hn x hx hF
theorem closed_stays {h : Hd} {F : List Nat} (c : Closed h F) : ∀ k, k ≤ h.length → inner h F k = F
  | 0, _ => rfl
  | k + 1, hk => by
    rw [inner_succ, closed_stays c k (by omega)]
    unfold one
    rw [if_neg]
    intro e
    unfold oneB at e
    rw [Bool.and_eq_true, filter_ne] at e
    obtain ⟨x, hx, hF⟩ := e.2
    exact c k (by omega) (by simpa using e.1) x hx hF
theorem outer_grows {h : Hd} {F : List Nat} : ∀ k, Closed h (outer h F k) ∨ F.length + k ≤ (outer h F k).length
  | 0 => .inr (Nat.le_refl _)
  | k + 1 => by
    show Closed h (inner h (outer h F k) h.length) ∨ _ ≤ (inner h (outer h F k) h.length).length
    rcases outer_grows (h := h) (F := F) k with c | g
    · left; rw [closed_stays c _ (Nat.le_refl _)]; exact c
    · obtain ⟨h1, h2⟩ := inner_same (h := h) (F := outer h F k) h.length
      by_cases e : (inner h (outer h F k) h.length).length = (outer h F k).length
      · left
        rw [(h2 e).1]
        exact (h2 e).2
      · right; omega
theorem outer_closed {h : Hd} {t : Nat} (ht : t < h.length) : Closed h (outer h [t] h.length) := by
  rcases outer_grows (h := h) (F := [t]) h.length with c | g
  · exact c
  · have := ((InvR.one ht).outer h.length).len
    rw [List.length_singleton] at g
    omega
/-! which lists are webs -/
structure Ok (h : Hd) : Prop where
  n1 : 1 ≤ h.length
  n5 : h.length ≤ 5
  up : ∀ t, t < h.length → (rowOf h t).Pairwise (· < ·)
  lt : ∀ t, t < h.length → ∀ o ∈ rowOf h t, o < h.length ∧ o ≠ t
theorem Ok.rowlen {h : Hd} (k : Ok h) {t : Nat} (ht : t < h.length) : (rowOf h t).length ≤ 5 :=
  Nat.le_trans (len_le ((k.up t ht).imp fun {a b} q => Nat.ne_of_lt q) fun x hx => (k.lt t ht x hx).1) k.n5
theorem row_at {h : Hd} {t : Nat} (ht : t < h.length) : h[t]? = some (rowOf h t) := by
  unfold rowOf
  rw [List.getD_eq_getElem?_getD, List.getElem?_eq_getElem ht]
  rfl
noncomputable def rootsOf (h : Hd) : List Nat := (List.range h.length).filter fun t => decide ((rl h t).length = h.length)
end WebM

set_option Elab.async false
set_option linter.all false
set_option maxRecDepth 100000
set_option maxHeartbeats 1000000
set_option autoImplicit false
/-! enumerate over zip of two tuples: the zip's tuple is still held by the enumerate's when the next one is asked for. -/
namespace TxEZ
open PySem RZ
section
variable {prog : Program} {w : World} {A : Around} {E : Value → Shared → Prop} {s : Shared}
/-- a zip object, by its first two fields -/
abbrev ZF (h : Heap) (z TI TO : Addr) (v : Value) (f : Bool) : Prop := h.get? z = some { cls := .type "zip", dict := none, data := .fields #[v, .bool f, .bool false, .ref TI, .ref TO], slots := #[] }
/-- is the handed tuple free? Either yes, and nothing changes, or no, and only the second field may change -/
theorem free_or {z TI TO : Addr} {v : Value} {f : Bool} {Q : Bool → Shared → Prop} (hz : ZF s.heap z TI TO v f) (hv : v = .none ∨ ∃ T : Addr, v = rawInt T) (yes : Q true s) (no : ∀ h' (T : Addr), ZF h' z TI TO (rawInt T) true → Heap.SameBut z s.heap h' → Q false { s with heap := h' }) : wpAny (model prog w) A (Builtin.SmallTypes.ownedTupleIsFree (.ref z)) Q E s := by
  rcases hv with rfl | ⟨T, rfl⟩
  · unfold Builtin.SmallTypes.ownedTupleIsFree; exact wpAny_bind (wpAny_field hz rfl (x := .none) rfl (wpAny_pure yes))
  · cases hT : s.heap.get? T with
    | some oT => exact wpAny_tupleHeld_zip hz hT fun h' a b => no h' T a b
    | none =>
      unfold Builtin.SmallTypes.ownedTupleIsFree; refine wpAny_bind (wpAny_field hz rfl (x := rawInt T) rfl ?_)
      show wpAny (model prog w) A (loadIfAlive ((T : Int).toNat) >>= fun o => _) Q E s; rw [Int.toNat_natCast]
      refine wpAny_bind (show wpAny (model prog w) A (loadIfAlive T) _ E s from ?_)
      have alive : ∀ {R : Option Obj → Shared → Prop}, R none s → wpAny (model prog w) A (loadIfAlive T) R E s := fun {R} h => by
        have h' : R (s.heap.get? T) s := by rw [hT]; exact h
        exact fun _ _ _ => h'
      refine alive ?_; simp only [Option.isNone_none, if_true]; exact wpAny_pure yes
/-- one item -/
theorem zip_item {z TI TO i1 i2 l1 l2 : Addr} {k1 k2 : Nat} {xs ys : Array Value} {x y a b v : Value} {f : Bool} {Q : Value → Shared → Prop} (D : ZipApart z TI TO i1 i2 l1 l2) (hz : ZF s.heap z TI TO v f) (hv : v = .none ∨ ∃ T : Addr, v = rawInt T) (hTI : IsPair s.heap TI (.ref i1) (.ref i2)) (hTO : IsPair s.heap TO a b)
    (h1 : s.heap.IsTupleIter i1 l1 k1) (h2 : s.heap.IsTupleIter i2 l2 k2) (hl1 : s.heap.IsTuple l1 xs) (hl2 : s.heap.IsTuple l2 ys) (hx : xs[k1]? = some x) (hy : ys[k2]? = some y)
    (hQ : ∀ h' (T : Addr) g c d, ZF h' z TI TO (rawInt T) g → IsPair h' TO c d → h'.IsTupleIter i1 l1 (k1 + 1) → h'.IsTupleIter i2 l2 (k2 + 1) → IsPair h' s.heap.objs.size x y → h'.objs.size = s.heap.objs.size + 1 → (∀ c o, c ≠ z → c ≠ TO → c ≠ i1 → c ≠ i2 → s.heap.get? c = some o → h'.get? c = some o) → Q (.ref s.heap.objs.size) { s with heap := h' }) :
    wpAny (model prog w) A (Builtin.«zip.__next__» ⟨[.ref z], []⟩) (fun fin s' => ∃ v, fin = .done (.ret v) ∧ Q v s') E s := by
  refine (show wpAny _ _ (field (.ref z) 2 >>= _) _ _ _ from wpAny_bind (wpAny_field hz rfl (x := .bool false) rfl ?_))
  refine (show wpAny _ _ (field (.ref z) 3 >>= _) _ _ _ from wpAny_bind (wpAny_field hz rfl (x := .ref TI) rfl (wpAny_bind (wpAny_seqItems hTI rfl ?_))))
  refine (show wpAny _ _ (Builtin.SmallTypes.ownedTupleIsFree (.ref z) >>= _) _ _ _ from wpAny_bind (free_or hz hv ?_ fun h₁ T z1 s1 => ?_))
  · simp only [if_true]; refine wpAny_bind (wpAny_rule (wpAny_bind (wpAny_field hz rfl (x := .ref TO) rfl (wpAny_bind (wpAny_setField_rec hz (by simp) fun h₁ z1 s1 => ?_)))))
    have z1 : ZF h₁ z TI TO .ellipsis f := z1
    refine wpAny_bind ?_; simp only [List.zipIdx_cons, List.zipIdx_nil, List.forIn_cons, List.forIn_nil]; refine wpAny_bind (wpAny_bind (wpAny_onRaise ?_))
    refine (show wpAny _ _ (Builtin.SmallTypes.nextOf (.ref i1) >>= _) _ _ _ from wpAny_bind (nextOf_tuple_item (h1.extBut s1.extBut D.i1z) (hl1.extBut s1.extBut D.l1z) hx fun h₂ g1 s2 => wpAny_pure ?_))
    have p2 : IsPair h₂ TO a b := s2.extBut _ _ D.TOi1 (s1.extBut _ _ D.TOz hTO)
    refine wpAny_bind (wpAny_seqItems p2 rfl (wpAny_bind (wpAny_updateSeq_pair p2 fun h₃ p3 s3 => ?_)))
    have p3 : IsPair h₃ TO x b := p3
    refine wpAny_bind (wpAny_letGo (wpAny_pure ?_)); refine wpAny_bind (wpAny_bind (wpAny_onRaise ?_))
    refine (show wpAny _ _ (Builtin.SmallTypes.nextOf (.ref i2) >>= _) _ _ _ from wpAny_bind (nextOf_tuple_item (((h2.extBut s1.extBut D.i2z).extBut s2.extBut D.i12.symm).extBut s3.extBut D.TOi2.symm) (((hl2.extBut s1.extBut D.l2z).extBut s2.extBut D.l2i1).extBut s3.extBut D.l2TO) hy fun h₄ g2 s4 => wpAny_pure ?_))
    have p4 : IsPair h₄ TO x b := s4.extBut _ _ D.TOi2 p3
    refine wpAny_bind (wpAny_seqItems p4 rfl (wpAny_bind (wpAny_updateSeq_pair p4 fun h₅ p5 s5 => ?_)))
    have p5 : IsPair h₅ TO x y := p5
    refine wpAny_bind (wpAny_letGo (wpAny_pure (wpAny_pure ?_)))
    refine wpAny_bind (wpAny_seqItems p5 rfl (wpAny_bind (wpAny_newTuple ?_)))
    have sz : h₅.objs.size = s.heap.objs.size := by rw [s5.1, s4.1, s3.1, s2.1, s1.1]
    have z5 : ZF h₅ z TI TO .ellipsis f := s5.extBut _ _ D.TOz.symm (s4.extBut _ _ D.i2z.symm (s3.extBut _ _ D.TOz.symm (s2.extBut _ _ D.i1z.symm z1)))
    have k5 : ∀ c o, c ≠ z → c ≠ TO → c ≠ i1 → c ≠ i2 → s.heap.get? c = some o → h₅.get? c = some o := fun c o c1 c2 c3 c4 e => s5.extBut _ _ c2 (s4.extBut _ _ c4 (s3.extBut _ _ c2 (s2.extBut _ _ c3 (s1.extBut _ _ c1 e))))
    have g15 : h₅.IsTupleIter i1 l1 (k1 + 1) := ((g1.extBut s3.extBut D.TOi1.symm).extBut s4.extBut D.i12).extBut s5.extBut D.TOi1.symm
    have g25 : h₅.IsTupleIter i2 l2 (k2 + 1) := g2.extBut s5.extBut D.TOi2.symm
    have zl : z < h₅.objs.size := Heap.lt_size z5
    refine (show wpAny _ _ (Builtin.SmallTypes.ownedTupleHandOut (.ref z) (.ref h₅.objs.size) >>= _) _ _ _ from wpAny_bind ?_)
    unfold Builtin.SmallTypes.ownedTupleHandOut
    have z6 : ZF (h₅.push { cls := .type "tuple", data := .seq #[x, y] }) z TI TO .ellipsis f := Heap.get?_push_of_some _ z5
    refine wpAny_bind (wpAny_setField_rec z6 (by simp) fun h₇ z7 s7 => ?_)
    have z7 : ZF h₇ z TI TO (rawInt h₅.objs.size) f := z7
    refine wpAny_setField_rec z7 (by simp) fun h₈ z8 s8 => wpAny_pure ⟨_, rfl, ?_⟩
    have z8 : ZF h₈ z TI TO (rawInt h₅.objs.size) false := z8
    have up : ∀ c o, c ≠ z → h₅.get? c = some o → h₈.get? c = some o := fun c o c1 e => s8.extBut _ _ c1 (s7.extBut _ _ c1 (Heap.get?_push_of_some _ e))
    have t8 : IsPair h₈ h₅.objs.size x y := s8.extBut _ _ (Nat.ne_of_gt zl) (s7.extBut _ _ (Nat.ne_of_gt zl) (Heap.get?_push_size _ rfl))
    have n8 : h₈.objs.size = h₅.objs.size + 1 := by rw [s8.1, s7.1, Heap.size_push]
    show Q (.ref h₅.objs.size) _
    rw [sz] at t8 n8 ⊢
    exact hQ h₈ _ _ _ _ z8 (up _ _ D.TOz p5) (g15.at fun o e => up _ o D.i1z e) (g25.at fun o e => up _ o D.i2z e) t8 n8 fun c o c1 c2 c3 c4 e => up c o c1 (k5 c o c1 c2 c3 c4 e)
  · simp only [Bool.false_eq_true, if_false]; refine wpAny_bind ?_; rw [← Array.forIn_toList]; simp only [List.forIn_cons, List.forIn_nil]; refine wpAny_bind (wpAny_bind (wpAny_holding ?_))
    refine (show wpAny _ _ (Builtin.SmallTypes.nextOf (.ref i1) >>= _) _ _ _ from wpAny_bind (nextOf_tuple_item (s := { s with heap := h₁ }) (h1.extBut s1.extBut D.i1z) (hl1.extBut s1.extBut D.l1z) hx fun h₂ g1 s2 => wpAny_pure (wpAny_pure ?_)))
    refine wpAny_bind (wpAny_bind (wpAny_holding ?_))
    refine (show wpAny _ _ (Builtin.SmallTypes.nextOf (.ref i2) >>= _) _ _ _ from wpAny_bind (nextOf_tuple_item (s := { s with heap := h₂ }) ((h2.extBut s1.extBut D.i2z).extBut s2.extBut D.i12.symm) ((hl2.extBut s1.extBut D.l2z).extBut s2.extBut D.l2i1) hy fun h₃ g2 s3 => wpAny_pure (wpAny_pure (wpAny_pure ?_))))
    refine (show wpAny _ _ (newTuple [x, y] >>= _) _ _ _ from wpAny_bind (wpAny_newTuple ?_))
    have sz : h₃.objs.size = s.heap.objs.size := by rw [s3.1, s2.1, s1.1]
    have z3 : ZF h₃ z TI TO (rawInt T) true := s3.extBut _ _ D.i2z.symm (s2.extBut _ _ D.i1z.symm z1)
    have k3 : ∀ c o, c ≠ z → c ≠ i1 → c ≠ i2 → s.heap.get? c = some o → h₃.get? c = some o := fun c o c1 c2 c3 e => s3.extBut _ _ c3 (s2.extBut _ _ c2 (s1.extBut _ _ c1 e))
    have g13 : h₃.IsTupleIter i1 l1 (k1 + 1) := g1.extBut s3.extBut D.i12
    have t4 : IsPair (h₃.push { cls := .type "tuple", data := .seq #[x, y] }) h₃.objs.size x y := Heap.get?_push_size _ rfl
    have n4 : (h₃.push { cls := .type "tuple", data := .seq #[x, y] }).objs.size = h₃.objs.size + 1 := Heap.size_push ..
    refine wpAny_pure ⟨_, rfl, (show Q (.ref h₃.objs.size) _ from ?_)⟩
    rw [sz] at t4 n4 ⊢
    exact hQ _ _ _ _ _ (Heap.get?_push_of_some _ z3) (Heap.get?_push_of_some _ (k3 _ _ D.TOz D.TOi1 D.TOi2 hTO)) (g13.at fun o e => Heap.get?_push_of_some _ e) (g2.at fun o e => Heap.get?_push_of_some _ e) t4 n4 fun c o c1 c2 c3 c4 e => Heap.get?_push_of_some _ (k3 c o c1 c3 c4 e)
/-- no more items -/
theorem zip_end {z TI TO i1 i2 l1 l2 : Addr} {k1 k2 : Nat} {xs ys : Array Value} {a b v : Value} {f : Bool} {Q : Fin → Shared → Prop} (hh : A.handled = none) (D : ZipApart z TI TO i1 i2 l1 l2) (hz : ZF s.heap z TI TO v f) (hv : v = .none ∨ ∃ T : Addr, v = rawInt T) (hTI : IsPair s.heap TI (.ref i1) (.ref i2)) (hTO : IsPair s.heap TO a b)
    (h1 : s.heap.IsTupleIter i1 l1 k1) (h2 : s.heap.IsTupleIter i2 l2 k2) (hl1 : s.heap.IsTuple l1 xs) (hl2 : s.heap.IsTuple l2 ys) (hend : xs[k1]? = none ∨ ys[k2]? = none)
    (hE : ∀ h' e, (∀ c o, c ≠ z → c ≠ TO → c ≠ i1 → c ≠ i2 → s.heap.get? c = some o → h'.get? c = some o) → (∃ o, h'.get? e = some o ∧ o.cls = .type "StopIteration") → E (.ref e) { s with heap := h' }) : wpAny (model prog w) A (Builtin.«zip.__next__» ⟨[.ref z], []⟩) Q E s := by
  refine (show wpAny _ _ (field (.ref z) 2 >>= _) _ _ _ from wpAny_bind (wpAny_field hz rfl (x := .bool false) rfl ?_))
  refine (show wpAny _ _ (field (.ref z) 3 >>= _) _ _ _ from wpAny_bind (wpAny_field hz rfl (x := .ref TI) rfl (wpAny_bind (wpAny_seqItems hTI rfl ?_))))
  refine (show wpAny _ _ (Builtin.SmallTypes.ownedTupleIsFree (.ref z) >>= _) _ _ _ from wpAny_bind (free_or hz hv ?_ fun h₁ T z1 s1 => ?_))
  · simp only [if_true]; refine wpAny_bind (wpAny_rule (wpAny_bind (wpAny_field hz rfl (x := .ref TO) rfl (wpAny_bind (wpAny_setField_rec hz (by simp) fun h₁ z1 s1 => ?_)))))
    have z1 : ZF h₁ z TI TO .ellipsis f := z1
    refine wpAny_bind ?_; simp only [List.zipIdx_cons, List.zipIdx_nil, List.forIn_cons, List.forIn_nil]; refine wpAny_bind (wpAny_bind (wpAny_onRaise ?_))
    refine (show wpAny _ _ (Builtin.SmallTypes.nextOf (.ref i1) >>= _) _ _ _ from ?_)
    cases hx : xs[k1]? with
    | none =>
      refine wpAny_bind (nextOf_tuple_end hh (h1.extBut s1.extBut D.i1z) (hl1.extBut s1.extBut D.l1z) hx fun h₂ e s2 ⟨oe, hoe, hce⟩ => ?_)
      have z2 : ZF h₂ z TI TO .ellipsis f := s2 _ _ D.i1z.symm z1
      have ez : e ≠ z := fun q => by subst q; rw [z2] at hoe; cases hoe; simp at hce
      exact wpAny_setField_rec z2 (by simp) fun h₃ _ s3 => hE h₃ e (fun c o c1 _ c3 _ q => s3.extBut _ _ c1 (s2 _ _ c3 (s1.extBut _ _ c1 q))) ⟨oe, s3.extBut _ _ ez hoe, hce⟩
    | some x =>
      have hy : ys[k2]? = none := hend.elim (fun h => by rw [hx] at h; cases h) id
      refine wpAny_bind (nextOf_tuple_item (h1.extBut s1.extBut D.i1z) (hl1.extBut s1.extBut D.l1z) hx fun h₂ g1 s2 => wpAny_pure ?_)
      have p2 : IsPair h₂ TO a b := s2.extBut _ _ D.TOi1 (s1.extBut _ _ D.TOz hTO)
      refine wpAny_bind (wpAny_seqItems p2 rfl (wpAny_bind (wpAny_updateSeq_pair p2 fun h₃ p3 s3 => ?_)))
      refine wpAny_bind (wpAny_letGo (wpAny_pure ?_)); refine wpAny_bind (wpAny_bind (wpAny_onRaise ?_))
      refine (show wpAny _ _ (Builtin.SmallTypes.nextOf (.ref i2) >>= _) _ _ _ from wpAny_bind (nextOf_tuple_end hh (((h2.extBut s1.extBut D.i2z).extBut s2.extBut D.i12.symm).extBut s3.extBut D.TOi2.symm) (((hl2.extBut s1.extBut D.l2z).extBut s2.extBut D.l2i1).extBut s3.extBut D.l2TO) hy fun h₄ e s4 ⟨oe, hoe, hce⟩ => ?_))
      have z4 : ZF h₄ z TI TO .ellipsis f := s4 _ _ D.i2z.symm (s3.extBut _ _ D.TOz.symm (s2.extBut _ _ D.i1z.symm z1))
      have ez : e ≠ z := fun q => by subst q; rw [z4] at hoe; cases hoe; simp at hce
      exact wpAny_setField_rec z4 (by simp) fun h₅ _ s5 => hE h₅ e (fun c o c1 c2 c3 c4 q => s5.extBut _ _ c1 (s4 _ _ c4 (s3.extBut _ _ c2 (s2.extBut _ _ c3 (s1.extBut _ _ c1 q))))) ⟨oe, s5.extBut _ _ ez hoe, hce⟩
  · simp only [Bool.false_eq_true, if_false]; refine wpAny_bind ?_; rw [← Array.forIn_toList]; simp only [List.forIn_cons, List.forIn_nil]; refine wpAny_bind (wpAny_bind (wpAny_holding ?_))
    refine (show wpAny _ _ (Builtin.SmallTypes.nextOf (.ref i1) >>= _) _ _ _ from ?_)
    cases hx : xs[k1]? with
    | none => exact wpAny_bind (nextOf_tuple_end (s := { s with heap := h₁ }) hh (h1.extBut s1.extBut D.i1z) (hl1.extBut s1.extBut D.l1z) hx fun h₂ e s2 ho => hE h₂ e (fun c o c1 _ c3 _ q => s2 _ _ c3 (s1.extBut _ _ c1 q)) ho)
    | some x =>
      have hy : ys[k2]? = none := hend.elim (fun h => by rw [hx] at h; cases h) id
      refine wpAny_bind (nextOf_tuple_item (s := { s with heap := h₁ }) (h1.extBut s1.extBut D.i1z) (hl1.extBut s1.extBut D.l1z) hx fun h₂ g1 s2 => wpAny_pure (wpAny_pure ?_))
      refine wpAny_bind (wpAny_bind (wpAny_holding ?_))
      exact (show wpAny _ _ (Builtin.SmallTypes.nextOf (.ref i2) >>= _) _ _ _ from wpAny_bind (nextOf_tuple_end (s := { s with heap := h₂ }) hh ((h2.extBut s1.extBut D.i2z).extBut s2.extBut D.i12.symm) ((hl2.extBut s1.extBut D.l2z).extBut s2.extBut D.l2i1) hy fun h₃ e s3 ho => hE h₃ e (fun c o c1 _ c3 c4 q => s3 _ _ c4 (s2.extBut _ _ c3 (s1.extBut _ _ c1 q))) ho))
/-- the zip asked by its enumerate -/
theorem next_zip {z : Addr} {Q : Value → Shared → Prop} (hT : s.TypeIs (.ref z) "zip") (h : wpAny (model prog w) A.in1 (Builtin.«zip.__next__» ⟨[.ref z], []⟩) (fun fin s' => ∃ v, fin = .done (.ret v) ∧ Q v s') E s) : wpAny (model prog w) A (Builtin.SmallTypes.nextOf (.ref z)) Q E s := by
  unfold Builtin.SmallTypes.nextOf
  exact wpAny_bind (wpAny_callSpecial?_slot (name := Str.ofString "__next__") hT F.slot_zip_next (wpAny_call_entry F.slot_zip_next hT F.entry_zip_next (wpAny_mono h (fun fin s' ⟨v, e, q⟩ => ⟨v, e, wpAny_pure q⟩) fun _ _ q => q) (F.args_zip_next_1 _)))
/-- how a zip of two tuples stands before item k -/
def ZSt (h : Heap) (z TI TO i1 i2 a b : Addr) (k : Nat) : Prop := ∃ v f c d, ZF h z TI TO v f ∧ (v = .none ∨ ∃ T : Addr, v = rawInt T) ∧ IsPair h TI (.ref i1) (.ref i2) ∧ IsPair h TO c d ∧ h.IsTupleIter i1 a k ∧ h.IsTupleIter i2 b k
theorem ZSt.keep {h h' : Heap} {z TI TO i1 i2 a b : Addr} {k : Nat} (S : ZSt h z TI TO i1 i2 a b k) (m : ∀ c ∈ [z, TI, TO, i1, i2], ∀ o, h.get? c = some o → h'.get? c = some o) : ZSt h' z TI TO i1 i2 a b k := by
  obtain ⟨v, f, c, d, h1, h2, h3, h4, h5, h6⟩ := S
  exact ⟨v, f, c, d, m z (by simp) _ h1, h2, m TI (by simp) _ h3, m TO (by simp) _ h4, h5.at fun o q => m i1 (by simp) o q, h6.at fun o q => m i2 (by simp) o q⟩
theorem zst_item {z TI TO i1 i2 l1 l2 : Addr} {k : Nat} {xs ys : Array Value} {x y : Value} {Q : Value → Shared → Prop} (D : ZipApart z TI TO i1 i2 l1 l2) (S : ZSt s.heap z TI TO i1 i2 l1 l2 k) (hl1 : s.heap.IsTuple l1 xs) (hl2 : s.heap.IsTuple l2 ys) (hx : xs[k]? = some x) (hy : ys[k]? = some y)
    (hQ : ∀ h', ZSt h' z TI TO i1 i2 l1 l2 (k + 1) → IsPair h' s.heap.objs.size x y → h'.objs.size = s.heap.objs.size + 1 → (∀ c o, c ≠ z → c ≠ TO → c ≠ i1 → c ≠ i2 → s.heap.get? c = some o → h'.get? c = some o) → Q (.ref s.heap.objs.size) { s with heap := h' }) : wpAny (model prog w) A (Builtin.SmallTypes.nextOf (.ref z)) Q E s := by
  obtain ⟨v, f, c, d, h1, h2, h3, h4, h5, h6⟩ := S
  refine next_zip ⟨_, h1, rfl⟩ (zip_item D h1 h2 h3 h4 h5 h6 hl1 hl2 hx hy fun h' T g c' d' a1 a2 a3 a4 a5 a6 a7 => hQ h' ⟨_, g, c', d', a1, .inr ⟨T, rfl⟩, a7 _ _ D.TIz D.TITO D.TIi1 D.TIi2 h3, a2, a3, a4⟩ a5 a6 a7)
theorem zst_end {z TI TO i1 i2 l1 l2 : Addr} {k : Nat} {xs ys : Array Value} {Q : Value → Shared → Prop} (hh : A.handled = none) (D : ZipApart z TI TO i1 i2 l1 l2) (S : ZSt s.heap z TI TO i1 i2 l1 l2 k) (hl1 : s.heap.IsTuple l1 xs) (hl2 : s.heap.IsTuple l2 ys) (hend : xs[k]? = none ∨ ys[k]? = none)
    (hE : ∀ h' e, (∀ c o, c ≠ z → c ≠ TO → c ≠ i1 → c ≠ i2 → s.heap.get? c = some o → h'.get? c = some o) → (∃ o, h'.get? e = some o ∧ o.cls = .type "StopIteration") → E (.ref e) { s with heap := h' }) : wpAny (model prog w) A (Builtin.SmallTypes.nextOf (.ref z)) Q E s := by
  obtain ⟨v, f, c, d, h1, h2, h3, h4, h5, h6⟩ := S
  unfold Builtin.SmallTypes.nextOf
  exact wpAny_bind (wpAny_callSpecial?_slot (name := Str.ofString "__next__") (⟨_, h1, rfl⟩ : s.TypeIs (.ref z) "zip") F.slot_zip_next (wpAny_call_entry F.slot_zip_next ⟨_, h1, rfl⟩ F.entry_zip_next (zip_end hh D h1 h2 h3 h4 h5 h6 hl1 hl2 hend hE) (F.args_zip_next_1 _)))
/-- enumerate's next, over a zip -/
theorem enum_item {e z TI TO i1 i2 l1 l2 : Addr} {k : Nat} {xs ys : Array Value} {x y old : Value} {Q : Value → Shared → Prop} (D : ZipApart z TI TO i1 i2 l1 l2) (he : IsEnum s.heap e z (k : Int) old) (S : ZSt s.heap z TI TO i1 i2 l1 l2 k) (ne : ∀ c ∈ [z, TI, TO, i1, i2], c ≠ e) (hl1 : s.heap.IsTuple l1 xs) (hl2 : s.heap.IsTuple l2 ys) (hx : xs[k]? = some x) (hy : ys[k]? = some y)
    (hQ : ∀ h' tk, IsEnumOut h' e z ((k : Int) + 1) (.ref s.heap.objs.size) (s.heap.objs.size + 1) → ZSt h' z TI TO i1 i2 l1 l2 (k + 1) → IsPair h' s.heap.objs.size x y → IsPair h' (s.heap.objs.size + 1) (.int k tk) (.ref s.heap.objs.size) → h'.objs.size = s.heap.objs.size + 2 →
      (∀ c o, c ≠ e → c ≠ z → c ≠ TO → c ≠ i1 → c ≠ i2 → s.heap.get? c = some o → h'.get? c = some o) → Q (.ref (s.heap.objs.size + 1)) { s with heap := h', toks := tk + 1 }) : wpAny (model prog w) A (Builtin.«enumerate.__next__» ⟨[.ref e], []⟩) (fun fin s' => ∃ v, fin = .done (.ret v) ∧ Q v s') E s := by
  obtain ⟨hp, gl, d, tk, os⟩ := s
  have ez : e ≠ z := fun q => ne z (by simp) q.symm
  refine (show wpAny _ _ (field (.ref e) 2 >>= _) _ _ _ from wpAny_bind (wpAny_field he rfl (x := .ref z) rfl (wpAny_bind (zst_item D S hl1 hl2 hx hy fun h₁ S1 p1 n1 k1 => ?_))))
  have n1 : h₁.objs.size = hp.objs.size + 1 := n1
  have p1 : IsPair h₁ hp.objs.size x y := p1
  have e1 : IsEnum h₁ e z (k : Int) old := k1 e _ ez (fun q => ne TO (by simp) q.symm) (fun q => ne i1 (by simp) q.symm) (fun q => ne i2 (by simp) q.symm) he
  refine (show wpAny _ _ (field (.ref e) 3 >>= _) _ _ ⟨h₁, gl, d, tk, os⟩ from wpAny_bind (wpAny_field e1 rfl (x := rawInt k) rfl ?_))
  refine (show wpAny _ _ (field (.ref e) 4 >>= _) _ _ ⟨h₁, gl, d, tk, os⟩ from wpAny_bind (wpAny_field e1 rfl (x := .none) rfl ?_))
  refine (show wpAny _ _ (mkInt k >>= _) _ _ ⟨h₁, gl, d, tk, os⟩ from wpAny_bind (wpAny_mkInt ?_))
  refine (show wpAny _ _ (setField (.ref e) 3 (rawInt ((k : Int) + 1)) >>= _) _ _ ⟨h₁, gl, d, tk + 1, os⟩ from wpAny_bind (wpAny_setField_rec e1 (by simp) fun h₂ e2 s2 => ?_))
  have e2 : IsEnum h₂ e z ((k : Int) + 1) old := e2
  have s2 : Heap.SameBut e h₁ h₂ := s2
  refine (show wpAny _ _ (setField (.ref e) 4 .none >>= _) _ _ ⟨h₂, gl, d, tk + 1, os⟩ from wpAny_bind (wpAny_setField_rec e2 (by simp) fun h₃ e3 s3 => ?_))
  have e3 : IsEnum h₃ e z ((k : Int) + 1) old := e3
  have s3 : Heap.SameBut e h₂ h₃ := s3
  refine (show wpAny _ _ (newTuple [.int k tk, .ref hp.objs.size] >>= _) _ _ ⟨h₃, gl, d, tk + 1, os⟩ from wpAny_bind (wpAny_newTuple ?_))
  have e4 : IsEnum (h₃.push { cls := .type "tuple", data := .seq #[.int k tk, .ref hp.objs.size] }) e z ((k : Int) + 1) old := Heap.get?_push_of_some _ e3
  have sz : h₃.objs.size = hp.objs.size + 1 := by rw [s3.1, s2.1, n1]
  have up3 : ∀ c o, c ≠ e → h₁.get? c = some o → (h₃.push { cls := .type "tuple", data := .seq #[.int k tk, .ref hp.objs.size] }).get? c = some o := fun c o c1 q => Heap.get?_push_of_some _ (s3.extBut c o c1 (s2.extBut c o c1 q))
  have t4 : IsPair (h₃.push { cls := .type "tuple", data := .seq #[.int k tk, .ref hp.objs.size] }) (hp.objs.size + 1) (.int k tk) (.ref hp.objs.size) := by rw [← sz]; exact Heap.get?_push_size _ rfl
  have n4 : (h₃.push { cls := .type "tuple", data := .seq #[.int k tk, .ref hp.objs.size] }).objs.size = hp.objs.size + 2 := by rw [Heap.size_push, sz]
  generalize h₃.push { cls := .type "tuple", data := .seq #[.int k tk, .ref hp.objs.size] } = h₄ at e4 up3 t4 n4
  have el : e < hp.objs.size := Heap.lt_size he
  refine (show wpAny _ _ (Builtin.SmallTypes.ownedTupleIsFree (.ref e) >>= _) _ _ ⟨h₄, gl, d, tk + 1, os⟩ from ?_)
  rw [sz]
  refine wpAny_bind ?_
  · unfold Builtin.SmallTypes.ownedTupleIsFree
    refine wpAny_bind (wpAny_field e4 rfl (x := .none) rfl (wpAny_pure ?_)); simp only [if_true]; refine wpAny_bind (wpAny_rule (wpAny_bind (wpAny_field e4 rfl (x := old) rfl (wpAny_bind (wpAny_setField_rec e4 (by simp) fun h₅ e5 s5 => ?_)))))
    have e5 : IsEnum h₅ e z ((k : Int) + 1) (.ref hp.objs.size) := e5
    have s5 : Heap.SameBut e h₄ h₅ := s5
    refine (show wpAny _ _ (Builtin.SmallTypes.ownedTupleHandOut (.ref e) (.ref (hp.objs.size + 1)) >>= _) _ _ ⟨h₅, gl, d, tk + 1, os⟩ from wpAny_bind ?_)
    · unfold Builtin.SmallTypes.ownedTupleHandOut
      refine wpAny_bind (wpAny_setField_rec e5 (by simp) fun h₆ e6 s6 => ?_)
      have e6 : IsEnumOut h₆ e z ((k : Int) + 1) (.ref hp.objs.size) (hp.objs.size + 1) := e6
      have s6 : Heap.SameBut e h₅ h₆ := s6
      refine wpAny_setField_rec e6 (by simp) fun h₇ e7 s7 => wpAny_bind (wpAny_letGo (wpAny_pure ⟨_, rfl, ?_⟩))
      have e7 : IsEnumOut h₇ e z ((k : Int) + 1) (.ref hp.objs.size) (hp.objs.size + 1) := e7
      have s7 : Heap.SameBut e h₆ h₇ := s7
      have up : ∀ c o, c ≠ e → h₄.get? c = some o → h₇.get? c = some o := fun c o c1 q => s7.extBut c o c1 (s6.extBut c o c1 (s5.extBut c o c1 q))
      exact hQ h₇ tk e7 (S1.keep fun c hc o q => up c o (ne c hc) (up3 c o (ne c hc) q)) (up _ _ (Nat.ne_of_gt el) (up3 _ _ (Nat.ne_of_gt el) p1)) (up (hp.objs.size + 1) _ (Nat.ne_of_gt (Nat.lt_succ_of_lt el)) t4) (by rw [s7.1, s6.1, s5.1, n4]) fun c o c1 c2 c3 c4 c5 q => up c o c1 (up3 c o c1 (k1 c o c2 c3 c4 c5 q))
theorem pyNext_item {e z TI TO i1 i2 l1 l2 : Addr} {k : Nat} {xs ys : Array Value} {x y old : Value} {Q : Option Value → Shared → Prop} (D : ZipApart z TI TO i1 i2 l1 l2) (he : IsEnum s.heap e z (k : Int) old) (S : ZSt s.heap z TI TO i1 i2 l1 l2 k) (ne : ∀ c ∈ [z, TI, TO, i1, i2], c ≠ e) (hl1 : s.heap.IsTuple l1 xs) (hl2 : s.heap.IsTuple l2 ys) (hx : xs[k]? = some x) (hy : ys[k]? = some y)
    (hQ : ∀ h' tk, IsEnumOut h' e z ((k : Int) + 1) (.ref s.heap.objs.size) (s.heap.objs.size + 1) → ZSt h' z TI TO i1 i2 l1 l2 (k + 1) → IsPair h' s.heap.objs.size x y → IsPair h' (s.heap.objs.size + 1) (.int k tk) (.ref s.heap.objs.size) → h'.objs.size = s.heap.objs.size + 2 →
      (∀ c o, c ≠ e → c ≠ z → c ≠ TO → c ≠ i1 → c ≠ i2 → s.heap.get? c = some o → h'.get? c = some o) → Q (some (.ref (s.heap.objs.size + 1))) { s with heap := h', toks := tk + 1 }) : wpAny (model prog w) A (pyNext (.ref e)) Q E s := by
  have hT : s.TypeIs (.ref e) "enumerate" := ⟨_, he, rfl⟩
  unfold pyNext
  exact wpAny_bind (wpAny_attempt (wpAny_callSpecial?_slot (name := Str.ofString "__next__") hT F.slot_enumerate_next (wpAny_call_entry F.slot_enumerate_next hT F.entry_enumerate_next (enum_item D he S ne hl1 hl2 hx hy fun h' tk a b c d n k' => wpAny_pure (hQ h' tk a b c d n k')) (F.args_enumerate_next_1 _))))
theorem pyNext_end {e z TI TO i1 i2 l1 l2 : Addr} {k : Nat} {xs ys : Array Value} {old : Value} {Q : Option Value → Shared → Prop} (hh : A.handled = none) (D : ZipApart z TI TO i1 i2 l1 l2) (he : IsEnum s.heap e z (k : Int) old) (S : ZSt s.heap z TI TO i1 i2 l1 l2 k) (hl1 : s.heap.IsTuple l1 xs) (hl2 : s.heap.IsTuple l2 ys) (hend : xs[k]? = none ∨ ys[k]? = none)
    (hQ : ∀ h', (∀ c o, c ≠ z → c ≠ TO → c ≠ i1 → c ≠ i2 → s.heap.get? c = some o → h'.get? c = some o) → Q none { s with heap := h' }) : wpAny (model prog w) A (pyNext (.ref e)) Q E s := by
  have hT : s.TypeIs (.ref e) "enumerate" := ⟨_, he, rfl⟩
  unfold pyNext
  refine wpAny_bind (wpAny_attempt (wpAny_callSpecial?_slot (name := Str.ofString "__next__") hT F.slot_enumerate_next (wpAny_call_entry F.slot_enumerate_next hT F.entry_enumerate_next ?_ (F.args_enumerate_next_1 _))))
  refine (show wpAny _ _ (field (.ref e) 2 >>= _) _ _ _ from wpAny_bind (wpAny_field he rfl (x := .ref z) rfl (wpAny_bind (zst_end hh D S hl1 hl2 hend fun h' x keep ⟨o, ho, hc⟩ => ?_))))
  exact wpAny_bind (wpAny_isInstance (T := "StopIteration") (b := true) ⟨o, ho, hc⟩ isSubtype_stop (wpAny_pure (hQ _ keep)))
end
theorem new_over_zip (z TI TO : Addr) (v : Value) (f : Bool) :
    Meets (Builtin.«enumerate.__new__» ⟨[.type "enumerate", .ref z], []⟩) (fun _ R s => ZF s.heap z TI TO v f ∧ R (.ok (.ret (.ref s.heap.objs.size))) { s with heap := s.heap.push { cls := .type "enumerate", data := .fields #[.none, .bool false, .ref z, rawInt 0, .none, .none] } }) :=
  .of_wp fun prog w A R s h => by
    obtain ⟨hp, g, d, tk, os⟩ := s; obtain ⟨hz, h⟩ := h
    have hsub := sub_enumerate
    have self_ : ∀ {A' : Around} {E' : Value → Shared → Prop} {Q : Value → Shared → Prop} {g d tk os}, Q (.ref z) ⟨hp, g, d, tk, os⟩ → wpAny (model prog w) A' (pyIter (.ref z)) Q E' ⟨hp, g, d, tk, os⟩ := fun {A' E' Q g d tk os} q => by
      have hT : Shared.TypeIs ⟨hp, g, d, tk, os⟩ (.ref z) "zip" := ⟨_, hz, rfl⟩
      refine wpAny_pyIter_slot hT F.slot_zip_iter (wpAny_call_entry F.slot_zip_iter hT F.entry_zip_iter ?_ (F.args_zip_iter_1 _))
      exact (show wpAny _ _ (ret (.ref z)) _ _ _ from wpAny_pure ⟨_, rfl, "zip", _, hT, F.slot_zip_next.lookup, q⟩)
    wp_walk using AutoSeq1.wpAny_loadPart' hz
    refine wpAny_stack_any fun st => wpAny_pure ?_
    split
    · rename_i c _ _ _ _ _
      cases (c == Value.type "enumerate")
      · wp_walk using AutoSeq1.wpAny_loadPart' hz, self_
        exact ⟨_, rfl, h⟩
      · wp_walk using AutoSeq1.wpAny_loadPart' hz, self_
        exact ⟨_, rfl, h⟩
    · wp_walk using AutoSeq1.wpAny_loadPart' hz, self_
      exact ⟨_, rfl, h⟩
section
variable {prog : Program} {w : World} {A : Around} {E : Value → Shared → Prop} {s : Shared}
theorem call_over_zip {z TI TO : Addr} {v : Value} {f : Bool} {Q : Value → Shared → Prop} (hz : ZF s.heap z TI TO v f)
    (h : ∀ h', IsEnum h' s.heap.objs.size z 0 .none → h'.objs.size = s.heap.objs.size + 1 → (∀ c o, s.heap.get? c = some o → h'.get? c = some o) → Q (.ref s.heap.objs.size) { s with heap := h' }) : wpAny (model prog w) A (call (.type "enumerate") [.ref z]) Q E s := by
  refine callType_new F.called_enumerate (by decide) (F.typeCall_enumerate_1 _) (F.newCall_enumerate_1 _) (fun obj => F.args_object_init_2 obj _) F.entry_enumerate_new (new_over_zip z TI TO v f) ⟨hz, ?_⟩
  have he : IsEnum (s.heap.push { cls := .type "enumerate", data := .fields #[.none, .bool false, .ref z, rawInt 0, .none, .none] }) s.heap.objs.size z 0 .none := Heap.get?_push_size _ rfl
  exact ⟨⟨_, he, rfl⟩, h _ he (Heap.size_push ..) fun c o q => Heap.get?_push_of_some _ q⟩
end
end TxEZ
namespace Tx
open PySem PySem.Spec PyProof.Rows L2 TxEZ
/-- two tuples side by side, each pair in a new pair with its number -/
def IteZ (K : PySem.W.Frag) (a b : Addr) : It :=
  ⟨fun i H => ∃ (xs ys : List V) (x y : V), SqT K H a xs ∧ SqT K H b ys ∧ xs[i]? = some x ∧ ys[i]? = some y,
    fun i H v H' => ∃ T U x y, v = .ref U ∧ H T = none ∧ H U = none ∧ T ≠ U ∧ H' = upd (upd H T (.tup [x, y])) U (.tup [.int (i : Nat), .ref T]) ∧ (∀ xs, SqT K H a xs → xs[i]? = some x) ∧ ∀ ys, SqT K H b ys → ys[i]? = some y,
    fun i H => ∃ xs ys : List V, SqT K H a xs ∧ SqT K H b ys ∧ (xs.length ≤ i ∨ ys.length ≤ i)⟩
theorem turn_enumZ {P : Program} {w : World} {K : PySem.W.Frag} {elts : List Expr} {kk : Nat} {tpos : Pos} {a b e z TI TO i1 i2 : Addr} (D : ZipApart z TI TO i1 i2 a b) (ne : ∀ c ∈ [z, TI, TO, i1, i2], c ≠ e) :
    Turn P w K (.Tuple elts kk tpos) (IteZ K a b) [e, z, TI, TO, i1, i2] e (fun i h => (∃ old, IsEnum h e z ((i : Nat) : Int) old) ∧ ZSt h z TI TO i1 i2 a b i) where
  mem := by simp
  obj := fun i h st c hc => by
    obtain ⟨⟨old, he⟩, v, f, c', d', hz, _, hTI, hTO, ⟨o1, e1, _, d1⟩, ⟨o2, e2, _, d2⟩⟩ := st
    have e' : c = e ∨ c = z ∨ c = TI ∨ c = TO ∨ c = i1 ∨ c = i2 := by simpa using hc
    rcases e' with q | q | q | q | q | q
    · rw [q]; exact ⟨_, he, fun v q => nomatch q⟩
    · rw [q]; exact ⟨_, hz, fun v q => nomatch q⟩
    · rw [q]; exact ⟨_, hTI, fun v q => nomatch q⟩
    · rw [q]; exact ⟨_, hTO, fun v q => nomatch q⟩
    · rw [q]; exact ⟨o1, e1, fun v q => by rw [d1] at q; cases q⟩
    · rw [q]; exact ⟨o2, e2, fun v q => by rw [d2] at q; cases q⟩
  keep := fun i h h' st k => let ⟨⟨old, he⟩, S⟩ := st; ⟨⟨old, k e (by simp) _ he⟩, S.keep fun c hc o q => k c (List.mem_cons_of_mem _ hc) o q⟩
  item := by
    intro X hP hw hK hc i pins s σ H E I hf st hg
    subst hP hw hK
    obtain ⟨⟨old, he⟩, S⟩ := st
    obtain ⟨xs, ys, x, y, hqx, hqy, hx, hy⟩ := hg
    obtain ⟨its, rv, p, _⟩ := I.tuple hqx
    obtain ⟨its2, rv2, p2, _⟩ := I.tuple hqy
    obtain ⟨u, hu, ru⟩ := rv.get hx
    obtain ⟨u2, hu2, ru2⟩ := rv2.get hy
    have el : e < s.heap.objs.size := Heap.lt_size he
    refine pyNext_item D he S ne (show s.heap.IsTuple a its.toArray from p) (show s.heap.IsTuple b its2.toArray from p2) (x := u) (y := u2) (by simpa using hu) (by simpa using hu2) fun h' tk eo S' t1 t2 sz kp => ⟨_, rfl, wpAny_letOwnedTupleGo_enum (s := { s with heap := h', toks := tk + 1 }) eo fun h'' he' sb => ?_⟩
    have up : ∀ c o, c ≠ e → h'.get? c = some o → h''.get? c = some o := fun c o c1 q => (sb.2 c c1).trans q
    have T1 : h''.get? s.heap.objs.size = some { cls := .type "tuple", data := .seq #[u, u2] } := up _ _ (Nat.ne_of_gt el) t1
    have T2 : h''.get? (s.heap.objs.size + 1) = some { cls := .type "tuple", data := .seq #[.int i tk, .ref s.heap.objs.size] } := up _ _ (Nat.ne_of_gt (Nat.lt_succ_of_lt el)) t2
    have lt6 : ∀ c ∈ [e, z, TI, TO, i1, i2], c < s.heap.objs.size := fun c hcm => by
      obtain ⟨v, f, c', d', hz, _, hTI, hTO, ⟨o1, e1, _⟩, ⟨o2, e2, _⟩⟩ := S
      have e' : c = e ∨ c = z ∨ c = TI ∨ c = TO ∨ c = i1 ∨ c = i2 := by simpa using hcm
      rcases e' with q | q | q | q | q | q
      · rw [q]; exact el
      · rw [q]; exact Heap.lt_size hz
      · rw [q]; exact Heap.lt_size hTI
      · rw [q]; exact Heap.lt_size hTO
      · rw [q]; exact Heap.lt_size e1
      · rw [q]; exact Heap.lt_size e2
    have I0 : Inv X pins σ (upd H s.heap.objs.size (.tup [x, y])) { s with heap := s.heap.push { cls := .type "tuple", data := .seq #[u, u2] } } :=
      I.laid (t' := s.toks) (fun b o e => Heap.get?_push_of_some _ e) (Nat.le_refl _) ⟨by show 2 ≤ sizeLine; decide, [u, u2], .cons ru (.cons ru2 .nil), ⟨_, Heap.get?_push_size _ rfl, rfl, _, rfl⟩⟩
    have hf0 : ∀ c ∈ [e, z, TI, TO, i1, i2], FpOk X pins (upd H s.heap.objs.size (.tup [x, y])) c := fun c hcm => ⟨by rw [upd_ne (Nat.ne_of_lt (lt6 c hcm))]; exact (hf c hcm).1, (hf c hcm).2⟩
    have psz : (s.heap.push { cls := .type "tuple", data := .seq #[u, u2] }).objs.size = s.heap.objs.size + 1 := Heap.size_push ..
    have I1 : Inv X pins σ (upd (upd H s.heap.objs.size (.tup [x, y])) (s.heap.objs.size + 1) (.tup [.int (i : Nat), .ref s.heap.objs.size])) { s with heap := h'', toks := tk + 1 } :=
      I0.turnedNew (t' := tk + 1) (ch := [e, z, TI, TO, i1, i2]) (fun c o hcm q => by
        by_cases cz : c = s.heap.objs.size
        · subst cz; rw [Heap.get?_push_size _ rfl] at q; cases q; exact T1
        · have q' : s.heap.get? c = some o := by rwa [Heap.get?_push_ne _ _ _ cz] at q
          exact up c o (fun z' => hcm (by simp [z'])) (kp c o (fun z' => hcm (by simp [z'])) (fun z' => hcm (by simp [z'])) (fun z' => hcm (by simp [z'])) (fun z' => hcm (by simp [z'])) (fun z' => hcm (by simp [z'])) q')) hf0 (by rw [psz]; exact Nat.le_refl _)
        ⟨by show 2 ≤ sizeLine; decide, [.int i tk, .ref s.heap.objs.size], .cons ⟨_, rfl⟩ (.cons rfl .nil), ⟨_, T2, rfl, _, rfl⟩⟩
    refine ⟨.ref (s.heap.objs.size + 1), _, I1, rfl, ⟨s.heap.objs.size, s.heap.objs.size + 1, x, y, rfl, I.hok.fresh (Nat.le_refl _), I.hok.fresh (Nat.le_succ _), Nat.ne_of_lt (Nat.lt_succ_self _), rfl, fun l hl => by rw [I.tuple_inj hl hqx]; exact hx, fun l hl => by rw [I.tuple_inj hl hqy]; exact hy⟩, ⟨⟨.ref s.heap.objs.size, ?_⟩, S'.keep fun c hcm o q => up c o (ne c hcm) q⟩, fun c hcm => ?_⟩
    · have e1 : ((i + 1 : Nat) : Int) = (i : Int) + 1 := by omega
      rw [e1]; exact he'
    · rw [upd_ne (Nat.ne_of_lt (Nat.lt_succ_of_lt (lt6 c hcm))), upd_ne (Nat.ne_of_lt (lt6 c hcm))]; exact (hf c hcm).1
  done := by
    intro X hP hw hK hc i pins s σ H E I hf st hg
    subst hP hw hK
    obtain ⟨⟨old, he⟩, S⟩ := st
    obtain ⟨xs, ys, hqx, hqy, hend⟩ := hg
    obtain ⟨its, rv, p, _⟩ := I.tuple hqx
    obtain ⟨its2, rv2, p2, _⟩ := I.tuple hqy
    have l1 := rv.length
    have l2 := rv2.length
    have he' : its.toArray[i]? = none ∨ its2.toArray[i]? = none := hend.elim (fun q => .inl (by simp; omega)) fun q => .inr (by simp; omega)
    exact pyNext_end (I.ok.hd hc) D he S (show s.heap.IsTuple a its.toArray from p) (show s.heap.IsTuple b its2.toArray from p2) he' fun h' kp => ⟨rfl, I.turnedL (t' := s.toks) (ch := [e, z, TI, TO, i1, i2]) (fun c o hcm q => kp c o (fun z' => hcm (by simp [z'])) (fun z' => hcm (by simp [z'])) (fun z' => hcm (by simp [z'])) (fun z' => hcm (by simp [z'])) q) hf⟩
  self := fun A i s Q E st h => let ⟨⟨_, he⟩, _⟩ := st; wpAny_pyIter_enum he h
section
variable {X : Cx}
/-- for i, x in enumerate(zip(a, b)): two tuples -/
def iEnumZ (K : PySem.W.Frag) (ta : TA) : TI := fun σ H R => ta σ H fun vs H1 => ∃ a b xs ys, vs = [.ref a, .ref b] ∧ SqT K H1 a xs ∧ SqT K H1 b ys ∧ R (IteZ K a b) H1
theorem pi_enumZ {e e2 : Expr} {ta : TA} {p p2 q pos tpos : Pos} {elts : List Expr} {kk : Nat} (hg : Gl X "enumerate") (hm : X.mg "enumerate" = none) (hg2 : Gl X "zip") (hm2 : X.mg "zip" = none) (ha : PA X [e, e2] ta)
    (hs : starEach [e, e2] X.env = (false, eval e X.env) :: starEach [e2] X.env := by rfl) (hpl : (backTo q (starEach [e2] X.env)).any (·.1) = false := by rfl)
    (hs0 : starEach [.Call (.Name "zip" p2) [e, e2] [] q] X.env = (false, eval (.Call (.Name "zip" p2) [e, e2] [] q) X.env) :: starEach [] X.env := by rfl) :
    L2.PI X (.Tuple elts kk tpos) (.Call (.Name "enumerate" p) [.Call (.Name "zip" p2) [e, e2] [] q] [] pos) (iEnumZ X.K ta) := by
  refine ⟨fun pins s σ H R I h => ?_⟩
  refine Call_ (ld_blt I hg hm boot_enumerate ?_)
  refine PyProof.Rows.callWith_type1 (PyProof.Rows.args_cons ?_ hs0) rfl rfl
  refine Call_ (ld_blt I hg2 hm2 PyProof.Rows.boot_zip (PyProof.Rows.callWith_type1 (thn (ha.run q pins s σ H _ I h) fun us s1 ⟨vs, H1, I1, r1, a, b, xs, ys, ex, hqx, hqy, qR⟩ => ?_) hs hpl))
  subst ex
  cases r1 with
  | cons r rr => cases rr with
    | cons r' rr =>
      cases rr
      cases r
      cases r'
      obtain ⟨its, rv, p1, _⟩ := I1.tuple hqx
      obtain ⟨its2, rv2, p2', _⟩ := I1.tuple hqy
      obtain ⟨o1, ho1, _⟩ := id p1
      obtain ⟨o2, ho2, _⟩ := id p2'
      refine RZ.call_zipT (show s1.heap.IsTuple a its.toArray from p1) (show s1.heap.IsTuple b its2.toArray from p2') fun h' hz hTI hTO h1 h2 hsz hk => PyProof.Rows.args_nil ?_
      have hz : ZF h' (s1.heap.objs.size + 4) (s1.heap.objs.size + 2) (s1.heap.objs.size + 3) .none false := hz
      refine call_over_zip (s := { s1 with heap := h' }) hz fun h2' he hsz2 hk2 => wpAny_pyIter_enum he ?_
      have eN : ({ s1 with heap := h' } : Shared).heap.objs.size = s1.heap.objs.size + 5 := hsz
      have I2 : Inv X pins σ H1 { s1 with heap := h2' } := I1.kept (t' := s1.toks) fun c o q => hk2 c o (hk c o q)
      have S0 : ZSt h2' (s1.heap.objs.size + 4) (s1.heap.objs.size + 2) (s1.heap.objs.size + 3) s1.heap.objs.size (s1.heap.objs.size + 1) a b 0 := ZSt.keep (h := h') ⟨_, _, _, _, hz, .inl rfl, hTI, hTO, h1, h2⟩ fun c _ o q => hk2 c o q
      rw [eN] at he
      rw [eN]
      refine ⟨s1.heap.objs.size + 5, [s1.heap.objs.size + 5, s1.heap.objs.size + 4, s1.heap.objs.size + 2, s1.heap.objs.size + 3, s1.heap.objs.size, s1.heap.objs.size + 1], _, _, H1, rfl, I2, turn_enumZ (PySem.W.ktu_apart s1.heap.objs.size a b (Heap.lt_size ho1) (Heap.lt_size ho2)) (fun c hc => ?_), ⟨⟨_, he⟩, S0⟩, fun c hcm => ?_, qR⟩
      · have e' : c = s1.heap.objs.size + 4 ∨ c = s1.heap.objs.size + 2 ∨ c = s1.heap.objs.size + 3 ∨ c = s1.heap.objs.size ∨ c = s1.heap.objs.size + 1 := by simpa using hc
        rcases e' with q | q | q | q | q
        · rw [q]; show (s1.heap.objs.size + 4 : Nat) ≠ s1.heap.objs.size + 5; omega
        · rw [q]; show (s1.heap.objs.size + 2 : Nat) ≠ s1.heap.objs.size + 5; omega
        · rw [q]; show (s1.heap.objs.size + 3 : Nat) ≠ s1.heap.objs.size + 5; omega
        · rw [q]; show (s1.heap.objs.size : Nat) ≠ s1.heap.objs.size + 5; omega
        · rw [q]; show (s1.heap.objs.size + 1 : Nat) ≠ s1.heap.objs.size + 5; omega
      · have hle : s1.heap.objs.size ≤ c := by
          have e' : c = s1.heap.objs.size + 5 ∨ c = s1.heap.objs.size + 4 ∨ c = s1.heap.objs.size + 2 ∨ c = s1.heap.objs.size + 3 ∨ c = s1.heap.objs.size ∨ c = s1.heap.objs.size + 1 := by simpa using hcm
          rcases e' with q | q | q | q | q | q
          · rw [q]; exact Nat.le_add_right _ _
          · rw [q]; exact Nat.le_add_right _ _
          · rw [q]; exact Nat.le_add_right _ _
          · rw [q]; exact Nat.le_add_right _ _
          · rw [q]; exact Nat.le_refl _
          · rw [q]; exact Nat.le_add_right _ _
        exact I1.fpOk hle (I1.hok.fresh hle)
end
end Tx

set_option Elab.async false
set_option linter.all false
set_option maxRecDepth 100000
set_option maxHeartbeats 1000000
set_option autoImplicit false
/-! Tx: enumerate over zip of two tuples; bits of numbers; a field of what is being made -/
namespace Tx
open PySem L2 RZ
section
variable {K : PySem.W.Frag} {m : Mo} {Γ : G} {te : TE} {d : D}
theorem it_enumZ {ta : TA} {as bs : List D} (h : EvA1 m K ta Γ [.tup as, .tup bs]) : ItD1 m K (iEnumZ K ta) Γ (enumD (zipD as bs)) := fun σ H e Q q =>
  h σ H e _ fun vs es H1 s r1 rs => by
    subst s
    cases rs with
    | cons ra rs =>
      cases rs with
      | cons rb rs =>
        cases rs
        have i1 := m.inv r1 e.i
        obtain ⟨a, vs1, rfl, rA, hA⟩ := tup_stands i1 ra
        obtain ⟨b, vs2, rfl, rB, hB⟩ := tup_stands i1 rb
        have lA := rA.len
        have lB := rB.len
        refine ⟨a, b, vs1, vs2, rfl, hA H1 (m.refl _), hB H1 (m.refl _), q _ _ H1 rfl r1 fun m' le H2 i2 r c => ?_⟩
        have up : ∀ H, m'.R H2 H → m.R H1 H := fun H q => m.trans r (by have := q; rw [le.R] at this; exact this)
        refine ⟨fun i H q hi => ?_, fun H q => ?_, fun i H x H' q hi y => ?_⟩
        · rw [enumD_len, zipD_len] at hi
          exact ⟨vs1, vs2, vs1[i]'(by omega), vs2[i]'(by omega), hA H (up H q), hB H (up H q), List.getElem?_eq_getElem _, List.getElem?_eq_getElem _⟩
        · exact ⟨vs1, vs2, hA H (up H q), hB H (up H q), by rw [enumD_len, zipD_len]; omega⟩
        · obtain ⟨T, U, x1, x2, rfl, hT, hU, ne, rfl, hx1, hx2⟩ := y
          obtain ⟨d1, hd1, rd1⟩ := rA.at (hx1 vs1 (hA H (up H q)))
          obtain ⟨d2, hd2, rd2⟩ := rB.at (hx2 vs2 (hB H (up H q)))
          have iH : m'.I H := m'.inv q i2
          have rT : m'.R H (upd H T (.tup [x1, x2])) := m'.grow iH (same_new hT)
          have iT := m'.inv rT iH
          have hU' : (upd H T (.tup [x1, x2])) U = none := by rw [upd_ne (Ne.symm ne)]; exact hU
          have rp := rp_new iH hT (.cons (rd1.go (carry i1 (up H q) c)) (.cons (rd2.go (carry i1 (up H q) c)) .nil))
          exact ⟨m'.trans rT (m'.grow iT (same_new hU')), _, enumD_at (zipD_at hd1 hd2), rp_new iT hU' (.cons (.int _) (.cons rp .nil))⟩
theorem tg_inZ {i j k : Nat} {a b c : D} : TgD m K (gTup K 2 (gCons (gName i) (gCons (gTup K 2 (gCons (gName j) (gCons (gName k) gNil))) gNil))) Γ (.tup [a, .tup [b, c]]) [i, j, k] (((Γ.set i (some a)).set j (some b)).set k (some c)) := fun x σ H e r Q q => by
  obtain ⟨p, vs, ev, hs, ra⟩ := r.tupE
  cases ra with
  | cons r1 ra =>
    cases ra with
    | cons r2 ra =>
      cases ra
      obtain ⟨p2, vs2, ev2, hs2, ra2⟩ := r2.tupE
      cases ra2 with
      | cons r3 ra2 =>
        cases ra2 with
        | cons r4 ra2 =>
          cases ra2
          refine ⟨p, _, ev, hs, rfl, _, _, rfl, _, _, rfl, p2, _, ev2, hs2, rfl, _, _, rfl, _, _, rfl, rfl, rfl, ?_⟩
          refine q _ H (((e.set i r1).set j r3).set k r4) (m.refl H) fun vs h => ?_
          rw [wipe_set (h k (by simp)), wipe_set (h j (by simp)), wipe_set (h i (by simp))]
/-- a field of what is being made, read by its own __init__ -/
theorem en_fldSelf {F : Addr → Prop} {x C dx : Addr} {ns : List Str} {fvs : List V} {ds : List D} {f : Str} (hf : (ns.zip ds).lookup f = some d) (h0 : Ev1 (instMo F K x C dx ns fvs ds) K te Γ (.adr x)) (cl : Cls K C) (na : NoAttr K C f) : Ev1 (instMo F K x C dx ns fvs ds) K (tFld K te f) Γ d := fun σ H e Q q =>
  h0 σ H e _ fun v d' H1 s r1 rv => by
    subst s
    obtain rfl := rv.adrE
    have i1 := (instMo F K x C dx ns fvs ds).inv r1 e.i
    obtain ⟨_, hx, ra⟩ := i1
    obtain ⟨v, hv, rv⟩ := lookup_zip ra hf
    exact ⟨x, C, dx, _, v, rfl, hx, cl, na, hv, q v _ H1 rfl r1 rv⟩
/-- a statement that doesn't touch the list that is one's own -/
theorem so_lift1 {ts : TS} {l : Addr} {H0 : Hp} {ds : List D} {N : G → Prop} {O : OutO} (h : SG (m.ext l) K ts Γ { nx := N, rt := fun _ => False }) (k : ∀ Γ', N Γ' → O.nx Γ' ds) : SGo m K l H0 ts Γ ds O := fun h0 i0 σ H vs r e hl ra E M =>
  h σ H e E ⟨fun Γ' σ' H' o r' e' => M.nx Γ' ds σ' H' vs (k Γ' o) (m.trans r r') (fun a o n q => (m.ext l).keep r' e.i a o n q) e' (m.keep r' e.i.1 l _ (nFl h0 i0) hl) (ra.mv ((m.ext l).keep r' e.i)), fun _ _ _ o => o.elim, fun _ _ _ o => o.elim, fun _ _ _ o => o.elim⟩
/-! ### bits -/
theorem bOr_nat (a b : Nat) : Builtin.bitOr (a : Int) (b : Int) = ((a ||| b : Nat) : Int) := by
  unfold Builtin.bitOr Builtin.bitAnd Builtin.bitNot
  have e1 : decide (0 ≤ -(a : Int) - 1) = false := by simp; omega
  have e2 : decide (0 ≤ -(b : Int) - 1) = false := by simp; omega
  have e3 : (-(-(a : Int) - 1) - 1).toNat = a := by omega
  have e4 : (-(-(b : Int) - 1) - 1).toNat = b := by omega
  simp only [e1, e2, e3, e4]
  omega
theorem bAnd_nat (a b : Nat) : Builtin.bitAnd (a : Int) (b : Int) = ((a &&& b : Nat) : Int) := by
  unfold Builtin.bitAnd
  have e1 : decide (0 ≤ (a : Int)) = true := by simp
  have e2 : decide (0 ≤ (b : Int)) = true := by simp
  simp only [e1, e2, Int.toNat_natCast]
theorem bAnd_all (b : Nat) : Builtin.bitAnd (-1) (b : Int) = (b : Int) := by
  unfold Builtin.bitAnd Builtin.bitNot
  have e2 : decide (0 ≤ (b : Int)) = true := by simp
  simp only [e2]
  show (b : Int) - ((b &&& 0 : Nat) : Int) = b
  rw [Nat.and_zero]; omega
theorem o_or {a b : Nat} : Op1 m K (rI0 fun i j => .int (Builtin.bitOr i j)) (dN a) (dN b) (dN (a ||| b)) := by
  have h := o_int (m := m) (K := K) (g := Builtin.bitOr) (i := a) (j := b)
  rw [bOr_nat] at h
  exact h
theorem o_and {a b : Nat} : Op1 m K (rI0 fun i j => .int (Builtin.bitAnd i j)) (dN a) (dN b) (dN (a &&& b)) := by
  have h := o_int (m := m) (K := K) (g := Builtin.bitAnd) (i := a) (j := b)
  rw [bAnd_nat] at h
  exact h
theorem o_shl1 {j : Nat} (h : j ≤ 1000) : Op1 m K (rI CPow fun i j => .int (i * 2 ^ j.toNat)) (.int 1) (dN j) (dN (2 ^ j)) := by
  have q := o_intC (m := m) (K := K) (C := CPow) (g := fun i j => i * 2 ^ j.toNat) (i := 1) (j := (j : Int)) ⟨by omega, by omega, by decide⟩
  have e : (1 : Int) * 2 ^ ((j : Int)).toNat = ((2 ^ j : Nat) : Int) := by rw [Int.toNat_natCast, Int.one_mul]; simp
  rw [e] at q
  exact q
theorem o_shr {a j : Nat} : Op1 m K (rI (fun _ j => 0 ≤ j) fun i j => .int (i / 2 ^ j.toNat)) (dN a) (dN j) (dN (a / 2 ^ j)) := by
  have q := o_intC (m := m) (K := K) (C := fun _ j => 0 ≤ j) (g := fun i j => i / 2 ^ j.toNat) (i := (a : Int)) (j := (j : Int)) (by show (0 : Int) ≤ (j : Int); omega)
  have e : (a : Int) / 2 ^ ((j : Int)).toNat = ((a / 2 ^ j : Nat) : Int) := by rw [Int.toNat_natCast]; simp
  rw [e] at q
  exact q
theorem et_truthI {i : Int} (h : Ev1 m K te Γ (.int i)) : EvT1 m K (fun σ H Q => te σ H fun x H' => ∃ k, TruV K x H' k ∧ Q k H') Γ (i != 0) := fun σ H e Q q =>
  h σ H e _ fun v d' H1 s r1 rv => by
    subst s
    exact ⟨i != 0, by rw [rv.intE]; rfl, q _ H1 rfl r1⟩
/-- a number's bit as a test -/
theorem et_bit {t1 t2 : TE} {a j : Nat} (h1 : Ev1 m K t1 Γ (dN a)) (h2 : Ev1 m K t2 Γ (dN j)) : EvT1 m K (fun σ H Q => tOp (rI0 fun i j => .int (Builtin.bitAnd i j)) (tOp (rI (fun _ j => 0 ≤ j) fun i j => .int (i / 2 ^ j.toNat)) t1 t2) (tC (.int 1)) σ H fun x H' => ∃ k, TruV K x H' k ∧ Q k H') Γ (a.testBit j) := by
  have h := et_truthI (en_op1 (en_op1 h1 h2 o_shr) (en_int (m := m) (K := K) (Γ := Γ) 1) (o_and (b := 1)))
  have e : (((a / 2 ^ j &&& 1 : Nat) : Int) != 0) = a.testBit j := by
    rw [Nat.testBit, Nat.shiftRight_eq_div_pow, Nat.and_comm]
    cases q : (1 &&& a / 2 ^ j : Nat) with
    | zero => rfl
    | succ n => rw [bne_iff_ne.mpr (by omega), bne_iff_ne.mpr (by omega)]
  rw [e] at h
  exact h
end
end Tx

set_option Elab.async false
set_option linter.all false
set_option maxRecDepth 100000
set_option maxHeartbeats 1000000
set_option autoImplicit false
/-! webs: whom each thread knows, as bits (Warshall), and the roots -/
namespace WebM
open PySem L2 Tx
def m0 (h : Hd) (e : Nat) : Nat := (rowOf h e).foldl (fun m o => m ||| 2 ^ o) (2 ^ e)
theorem bit_pow (e j : Nat) : (2 ^ e).testBit j = decide (e = j) := Nat.testBit_two_pow
theorem fold_bit (l : List Nat) : ∀ (a j : Nat), (l.foldl (fun m o => m ||| 2 ^ o) a).testBit j = true ↔ a.testBit j = true ∨ j ∈ l := by
  induction l with
  | nil => intro a j; simp
  | cons o l ih =>
    intro a j
    rw [List.foldl_cons, ih, Nat.testBit_or, bit_pow, Bool.or_eq_true, decide_eq_true_iff, List.mem_cons, or_assoc]
    constructor
    · rintro (h | h | h)
      · exact .inl h
      · exact .inr (.inl h.symm)
      · exact .inr (.inr h)
    · rintro (h | h | h)
      · exact .inl h
      · exact .inr (.inl h.symm)
      · exact .inr (.inr h)
theorem m0_bit {h : Hd} {e j : Nat} : (m0 h e).testBit j = true ↔ j = e ∨ j ∈ rowOf h e := by
  unfold m0
  rw [fold_bit, bit_pow, decide_eq_true_iff]
  exact ⟨fun z => z.imp Eq.symm id, fun z => z.imp Eq.symm id⟩
def war (M : List Nat) (b : Nat) : List Nat := M.map fun m => if m.testBit b then m ||| M.getD b 0 else m
def wars (h : Hd) : Nat → List Nat
  | 0 => (List.range h.length).map (m0 h)
  | b + 1 => war (wars h b) b
theorem wars_len (h : Hd) : ∀ b, (wars h b).length = h.length
  | 0 => by unfold wars; rw [List.length_map, List.length_range]
  | b + 1 => by unfold wars war; rw [List.length_map]; exact wars_len h b
def wb (h : Hd) (b i j : Nat) : Bool := ((wars h b).getD i 0).testBit j
theorem wb_zero {h : Hd} {i j : Nat} (hi : i < h.length) : wb h 0 i j = true ↔ j = i ∨ j ∈ rowOf h i := by
  unfold wb wars
  rw [List.getD_eq_getElem?_getD, List.getElem?_map, List.getElem?_range hi]
  exact m0_bit
theorem wb_succ {h : Hd} {b i j : Nat} (hi : i < h.length) : wb h (b + 1) i j = (wb h b i j || (wb h b i b && wb h b b j)) := by
  have hl := wars_len h b
  unfold wb
  show ((war (wars h b) b).getD i 0).testBit j = _
  unfold war
  rw [List.getD_eq_getElem?_getD, List.getElem?_map, List.getElem?_eq_getElem (by rw [hl]; exact hi)]
  have e : (wars h b).getD i 0 = (wars h b)[i]'(by rw [hl]; exact hi) := by rw [List.getD_eq_getElem?_getD, List.getElem?_eq_getElem (by rw [hl]; exact hi)]; rfl
  rw [e]
  show (if ((wars h b)[i]'_).testBit b = true then _ else _ : Nat).testBit j = _
  by_cases q : ((wars h b)[i]'(by rw [hl]; exact hi)).testBit b = true
  · rw [if_pos q, Nat.testBit_or, q, Bool.true_and]
  · rw [if_neg q]
    have q' : ((wars h b)[i]'(by rw [hl]; exact hi)).testBit b = false := by simpa using q
    rw [q', Bool.false_and, Bool.or_false]
theorem Rch.trans {h : Hd} {j b i : Nat} (h2 : Rch h j b) (h1 : Rch h b i) : Rch h j i := by
  induction h1 with
  | base => exact h2
  | step _ he ho ih => exact .step ih he ho
theorem wb_sound {h : Hd} : ∀ (b : Nat), b ≤ h.length → ∀ i j, i < h.length → wb h b i j = true → Rch h j i
  | 0, _, i, j, hi, e => by
    rcases (wb_zero hi).mp e with e | e
    · rw [e]; exact .base
    · exact .step .base hi e
  | b + 1, hb, i, j, hi, e => by
    rw [wb_succ hi, Bool.or_eq_true, Bool.and_eq_true] at e
    rcases e with e | ⟨e1, e2⟩
    · exact wb_sound b (by omega) i j hi e
    · have h1 := wb_sound b (by omega) i b hi e1
      have h2 := wb_sound b (by omega) b j (by omega) e2
      exact Rch.trans h2 h1
theorem wb_mono {h : Hd} {b i j : Nat} (hi : i < h.length) (e : wb h b i j = true) : wb h (b + 1) i j = true := by
  rw [wb_succ hi, e, Bool.true_or]
theorem wb_from {h : Hd} {i j : Nat} (hi : i < h.length) (e : wb h 0 i j = true) : ∀ b, wb h b i j = true
  | 0 => e
  | b + 1 => wb_mono hi (wb_from hi e b)
theorem wb_closed {h : Hd} : ∀ (b : Nat), b ≤ h.length → ∀ c i j, c < b → i < h.length → wb h b i c = true → wb h b c j = true → wb h b i j = true
  | 0, _, c, _, _, hc, _, _, _ => absurd hc (by omega)
  | b + 1, hb, c, i, j, hc, hi, e1, e2 => by
    have ih := wb_closed (h := h) b (by omega)
    have hcl : c < h.length := by omega
    rw [wb_succ hi, Bool.or_eq_true, Bool.and_eq_true] at e1
    rw [wb_succ hcl, Bool.or_eq_true, Bool.and_eq_true] at e2
    rw [wb_succ hi, Bool.or_eq_true, Bool.and_eq_true]
    by_cases q : c = b
    · subst q
      refine .inr ⟨e1.elim id fun z => z.1, e2.elim id fun z => z.2⟩
    · have hc' : c < b := by omega
      rcases e1 with e1 | ⟨e1, e3⟩
      · rcases e2 with e2 | ⟨e2, e4⟩
        · exact .inl (ih c i j hc' hi e1 e2)
        · exact .inr ⟨ih c i b hc' hi e1 e2, e4⟩
      · rcases e2 with e2 | ⟨e2, e4⟩
        · exact .inr ⟨e1, ih c b j hc' (by omega) e3 e2⟩
        · exact .inr ⟨e1, e4⟩
abbrev kn (h : Hd) : List Nat := wars h h.length
theorem kn_bit {h : Hd} (row : ∀ e, e < h.length → ∀ o ∈ rowOf h e, o < h.length) {i j : Nat} (hi : i < h.length) : wb h h.length i j = true ↔ Rch h j i := by
  refine ⟨wb_sound _ (Nat.le_refl _) i j hi, fun r => ?_⟩
  induction r with
  | base => exact wb_from hi ((wb_zero hi).mpr (.inl rfl)) _
  | @step o e _ he ho ih =>
    have ho' := row e he o ho
    exact wb_closed _ (Nat.le_refl _) o e j ho' he (wb_from he ((wb_zero he).mpr (.inr ho)) _) (ih ho')
/-- what all have -/
def andI (l : List Nat) : Int := l.foldl (fun (s : Int) (m : Nat) => Builtin.bitAnd s m) (-1)
def andN : List Nat → Nat
  | [] => 0
  | a :: l => l.foldl (· &&& ·) a
theorem and_bit (l : List Nat) : ∀ (a j : Nat), (l.foldl (· &&& ·) a).testBit j = true ↔ a.testBit j = true ∧ ∀ m ∈ l, m.testBit j = true := by
  induction l with
  | nil => intro a j; simp
  | cons x l ih =>
    intro a j
    rw [List.foldl_cons, ih, Nat.testBit_and, Bool.and_eq_true, List.forall_mem_cons, and_assoc]
theorem andN_bit {l : List Nat} (hl : l ≠ []) {j : Nat} : (andN l).testBit j = true ↔ ∀ m ∈ l, m.testBit j = true := by
  cases l with
  | nil => exact absurd rfl hl
  | cons a l => unfold andN; rw [and_bit, List.forall_mem_cons]
theorem andI_eq {l : List Nat} (hl : l ≠ []) : andI l = ((andN l : Nat) : Int) := by
  cases l with
  | nil => exact absurd rfl hl
  | cons a l =>
    unfold andI
    rw [List.foldl_cons, bAnd_all]
    show _ = ((l.foldl (· &&& ·) a : Nat) : Int)
    clear hl
    induction l generalizing a with
    | nil => rfl
    | cons b l ih => rw [List.foldl_cons, List.foldl_cons, bAnd_nat]; exact ih (a &&& b)
theorem rootsOf_bits {h : Hd} (row : ∀ e, e < h.length → ∀ o ∈ rowOf h e, o < h.length) (h1 : 1 ≤ h.length) {t : Nat} (ht : t < h.length) : (andN (kn h)).testBit t = decide ((rl h t).length = h.length) := by
  have hl := wars_len h h.length
  have hne : kn h ≠ [] := fun e => by have e' : (wars h h.length).length = 0 := by rw [show wars h h.length = [] from e]; rfl
                                      omega
  rw [Bool.eq_iff_iff, andN_bit hne, decide_eq_true_iff]
  have key : (∀ m ∈ kn h, m.testBit t = true) ↔ ∀ i, i < h.length → Rch h t i := by
    constructor
    · intro q i hi
      refine (kn_bit row hi).mp (q _ ?_)
      rw [List.getD_eq_getElem?_getD, List.getElem?_eq_getElem (by rw [hl]; exact hi)]
      exact List.getElem_mem _
    · intro q m hm
      obtain ⟨i, hi, rfl⟩ := List.getElem_of_mem hm
      have hi' : i < h.length := by rw [← hl]; exact hi
      have := (kn_bit row hi').mpr (q i hi')
      unfold wb at this
      rw [List.getD_eq_getElem?_getD, List.getElem?_eq_getElem hi] at this
      exact this
  rw [key]
  constructor
  · intro q
    unfold rl
    rw [List.filter_eq_self.mpr fun x hx => rchB_iff.mpr (q x (List.mem_range.mp hx)), List.length_range]
  · intro q i hi
    unfold rl at q
    have q' : ((List.range h.length).filter (rchB h t)).length = (List.range h.length).length := by rw [q, List.length_range]
    exact rchB_iff.mp (List.length_filter_eq_length_iff.mp q' i (List.mem_range.mpr hi))
end WebM

set_option Elab.async false
set_option linter.all false
set_option maxRecDepth 100000
set_option maxHeartbeats 4000000
set_option autoImplicit false
namespace K03
open PySem L2 Tx WebM
def top (i : Nat) : Stmt := PySem.Challenge.pw_poolmaps_k03_whole_made_webs_and_roots.main.body.getD i (.Pass ⟨0, 0, 0, 0⟩)
abbrev s_wall : Stmt := top 0
def st_InvalidNumber (i : Nat) : Stmt := (C8.clsBody (top 7)).getD i (.Pass ⟨0, 0, 0, 0⟩)
abbrev s_InvalidNumber___init : Stmt := st_InvalidNumber 0
abbrev s_is_number : Stmt := top 9
abbrev s_are_numbers : Stmt := top 10
abbrev s_is_climbing : Stmt := top 11
abbrev s_are_ascending : Stmt := top 12
abbrev s_check_number : Stmt := top 13
abbrev s_are_others : Stmt := top 17
abbrev s_is_hearing : Stmt := top 18
abbrev s_is_marking : Stmt := top 19
abbrev s_knowing_masks : Stmt := top 20
abbrev s_roots_of : Stmt := top 21
abbrev s_pairs_in : Stmt := top 22
abbrev s_hearing_text : Stmt := top 23
abbrev s_marks_text : Stmt := top 24
def st_Web (i : Nat) : Stmt := (C8.clsBody (top 25)).getD i (.Pass ⟨0, 0, 0, 0⟩)
abbrev s_Web___init : Stmt := st_Web 0
abbrev s_Web_heard : Stmt := st_Web 1
abbrev s_Web_marks : Stmt := st_Web 2
abbrev s_Web_size : Stmt := st_Web 3
abbrev s_Web_signals : Stmt := st_Web 4
abbrev s_Web_roots : Stmt := st_Web 5
abbrev s_Web_is_marked : Stmt := st_Web 6
abbrev s_Web_signal : Stmt := st_Web 7
abbrev s_Web_hears : Stmt := st_Web 8
abbrev s_Web_reached : Stmt := st_Web 9
abbrev s_Web_with_hearing : Stmt := st_Web 10
abbrev s_Web_without_hearing : Stmt := st_Web 11
abbrev s_Web_with_mark : Stmt := st_Web 12
abbrev s_Web_unmarked : Stmt := st_Web 13
abbrev s_Web_joined : Stmt := st_Web 14
abbrev s_Web_shared : Stmt := st_Web 15
abbrev s_Web_then : Stmt := st_Web 16
abbrev s_Web_is_within : Stmt := st_Web 17
abbrev s_Web_renumbered : Stmt := st_Web 18
abbrev s_Web___contains : Stmt := st_Web 19
abbrev s_Web___len : Stmt := st_Web 20
abbrev s_Web___eq : Stmt := st_Web 21
abbrev s_Web___str : Stmt := st_Web 22
abbrev s_check_web : Stmt := top 26
abbrev s_web_of : Stmt := top 27
abbrev s_silent_web : Stmt := top 28
abbrev s_full_web : Stmt := top 29
abbrev s_star_web : Stmt := top 30
abbrev s_chain_web : Stmt := top 31
abbrev s_is_parting : Stmt := top 32
abbrev s_parting_web : Stmt := top 33
abbrev s_web_key : Stmt := top 36
abbrev s_is_web_tuple : Stmt := top 37
abbrev s_places_of : Stmt := top 38
def st_Pool (i : Nat) : Stmt := (C8.clsBody (top 39)).getD i (.Pass ⟨0, 0, 0, 0⟩)
abbrev s_Pool___init : Stmt := st_Pool 0
abbrev s_Pool_webs : Stmt := st_Pool 1
abbrev s_Pool_size : Stmt := st_Pool 2
abbrev s_Pool_is_marked : Stmt := st_Pool 3
abbrev s_Pool_is_rooted : Stmt := st_Pool 4
abbrev s_Pool_index_of : Stmt := st_Pool 5
abbrev s_Pool_place_of : Stmt := st_Pool 6
abbrev s_Pool_picked : Stmt := st_Pool 7
abbrev s_Pool_with_web : Stmt := st_Pool 8
abbrev s_Pool_without_web : Stmt := st_Pool 9
abbrev s_Pool_unmarked : Stmt := st_Pool 10
abbrev s_Pool_renumbered : Stmt := st_Pool 11
abbrev s_Pool_merged : Stmt := st_Pool 12
abbrev s_Pool_is_within : Stmt := st_Pool 13
abbrev s_Pool___getitem : Stmt := st_Pool 14
abbrev s_Pool___contains : Stmt := st_Pool 15
abbrev s_Pool___iter : Stmt := st_Pool 16
abbrev s_Pool___len : Stmt := st_Pool 17
abbrev s_Pool___eq : Stmt := st_Pool 18
abbrev s_Pool___str : Stmt := st_Pool 19
abbrev s_check_pool : Stmt := top 40
abbrev s_is_word : Stmt := top 43
abbrev s_check_word : Stmt := top 44
abbrev s_knowing_at_first : Stmt := top 45
abbrev s_known_together : Stmt := top 46
abbrev s_knowing_after : Stmt := top 47
abbrev s_knowing_behind : Stmt := top 48
abbrev s_known_to_all : Stmt := top 49
abbrev s_known : Stmt := top 50
abbrev s_known_by_everyone : Stmt := top 51
abbrev s_law_pouch : Stmt := top 53
abbrev s_law_coin : Stmt := top 54
abbrev s_law_any : Stmt := top 55
abbrev s_law_shuffled : Stmt := top 56
abbrev s_law_heard : Stmt := top 57
abbrev s_law_marks : Stmt := top 58
abbrev s_law_plain_web : Stmt := top 59
abbrev s_law_plain_pool : Stmt := top 60
abbrev s_law_pool_of : Stmt := top 61
abbrev s_law_led : Stmt := top 62
abbrev s_law_root_list : Stmt := top 63
abbrev s_law_blocks : Stmt := top 64
abbrev s_law_parting_right : Stmt := top 65
abbrev s_law_makers_right : Stmt := top 66
abbrev s_law_word : Stmt := top 67
abbrev s_law_known_right : Stmt := top 68
abbrev s_law : Stmt := top 69
structure Txt (K : PySem.W.Frag) (mg : Str → Option Value) (C : Addr) : Prop where
  isinstance : mg "isinstance" = none
  int : mg "int" = none
  bool : mg "bool" = none
  tuple : mg "tuple" = none
  list : mg "list" = none
  str : mg "str" = none
  all : mg "all" = none
  any : mg "any" = none
  len : mg "len" = none
  range : mg "range" = none
  enumerate : mg "enumerate" = none
  set : mg "set" = none
  zip : mg "zip" = none
  sorted : mg "sorted" = none
  sum : mg "sum" = none
  max : mg "max" = none
  min : mg "min" = none
  abs : mg "abs" = none
  k_MAX_THREADS : ∃ u, mg "MAX_THREADS" = some u ∧ RelV (.int 5) u
  k_MAX_MARK : ∃ u, mg "MAX_MARK" = some u ∧ RelV (.int 9999) u
  g_Web : mg "Web" = some (.ref C)
section
variable {P : Program} {w : World} {K : PySem.W.Frag} {mg : Str → Option Value} {base : Heap} {C : Addr}
theorem sc_is_number : FnScope ["value", "low", "high"] ["value", "low", "high"] (defScope s_is_number) := ⟨rfl, rfl, rfl, by decide +kernel, rfl, by decide +kernel, by decide +kernel⟩
def isNum : D → Int → Int → Bool
  | .int i, lo, hi => decide (lo ≤ i) && decide (i ≤ hi)
  | _, _, _ => false
def pre_is_number (ds : List D) : Prop := ∃ v lo hi, ds = [v, .int lo, .int hi] ∧ okD v = true
def f_is_number : List D → D
  | [v, .int lo, .int hi] => .bl (isNum v lo hi)
  | _ => .non
theorem ok_is_number {f : Addr} {fd : FuncData} (Fu : Fun K "is_number" "is_number" s_is_number f fd) (T : Txt K mg C) : FnOk P w K mg base CX0 1 f fd ["value", "low", "high"] (spF K pre_is_number f_is_number) := by
  refine fn_pure Fu sc_is_number (fun ds h => by obtain ⟨v, lo, hi, rfl, _⟩ := h; rfl) fun cdv A outer s H E hr => ⟨_, (pss_one (ps_ret (pe_and (pe_callB (r := rIsi K) call_isi (by rfl) T.isinstance (by decide +kernel) (pa_cons (pv 0) (pa_cons (pe_bltn (v := .ty "int") rfl T.int (by decide +kernel) rfl) pa_nil))) (pe_and (pe_not (pe_callB (r := rIsi K) call_isi (by rfl) T.isinstance (by decide +kernel) (pa_cons (pv 0) (pa_cons (pe_bltn (v := .ty "bool") rfl T.bool (by decide +kernel) rfl) pa_nil)))) (pe_one (pe_chain op_le op_le (pv 1) (pv 0) (pv 2))))))), fun F ds hp => ?_⟩
  obtain ⟨v, lo, hi, rfl, hv⟩ := hp
  refine sg_ret (d := .bl (isNum v lo hi)) ?_ rfl
  refine Ev1.is (en_and (en_isInt (en_var 0 rfl) hv) fun h1 => en_and (en_not (en_isBool (en_var 0 rfl) hv)) fun h2 => (?_ : Ev1 _ _ _ _ (.bl (isNum v lo hi)))) ?_
  · cases v <;> first | (simp [isIntD] at h1; done) | (simp [isBoolD] at h2; done) | skip
    exact Ev1.is (en_chain (en_var 1 rfl) (en_var 0 rfl) (fun _ => en_var 2 rfl) o_bl fun _ => o_bl) rfl
  · cases v <;> simp [isIntD, isBoolD, isNum]

theorem sc_are_numbers : FnScope ["value", "low", "high", "part"] ["value", "low", "high"] (defScope s_are_numbers) := ⟨rfl, rfl, rfl, by decide +kernel, rfl, by decide +kernel, by decide +kernel⟩
def areNum : D → Int → Int → Bool
  | .tup xs, lo, hi => xs.all fun x => isNum x lo hi
  | _, _, _ => false
def okT : D → Prop
  | .tup xs => xs.length ≤ 1000 ∧ ∀ x ∈ xs, okD x = true
  | d => okD d = true
theorem okT.ok {d : D} (h : okT d) : okD d = true := by cases d <;> first | exact h | rfl
def pre_are_numbers (ds : List D) : Prop := ∃ v lo hi, ds = [v, .int lo, .int hi] ∧ okT v
def f_are_numbers : List D → D
  | [v, .int lo, .int hi] => .bl (areNum v lo hi)
  | _ => .non
theorem ok_are_numbers {f : Addr} {fd : FuncData} (Fu : Fun K "are_numbers" "are_numbers" s_are_numbers f fd) (T : Txt K mg C) :
    FnOk P w K mg base CX0 2 f fd ["value", "low", "high"] (spF K pre_are_numbers f_are_numbers) := by
  refine fn_pure Fu sc_are_numbers (fun ds h => by obtain ⟨v, lo, hi, rfl, _⟩ := h; rfl) fun cdv A outer s H E hr => ⟨_, (pss_one (ps_ret (pe_and (pe_callB (r := rIsi K) call_isi (by rfl) T.isinstance (by decide +kernel) (pa_cons (pv 0) (pa_cons (pe_bltn (v := .ty "tuple") rfl T.tuple (by decide +kernel) rfl) pa_nil))) (pe_one (pe_callB (r := rAll K) (cr_all rfl) (by rfl) T.all (by decide +kernel) (pa_cons (pe_lc (own := [("part", 3)]) rfl sc_are_numbers.nd (show PI _ _ _ (iSeq K _) from pi_seq (pv 0)) (blkOk_by (by kernel_rfl)) (fun _ _ _ _ _ => (pg_name (i := 3) sc_are_numbers.nd rfl (by first | exact Or.inl rfl | exact Or.inr rfl))) (fun _ _ _ _ _ => pts_nil) (fun _ _ _ _ _ => (pe_and (pe_callB (r := rIsi K) call_isi (by rfl) T.isinstance (by decide +kernel) (pa_cons (pv 3) (pa_cons (pe_bltn (v := .ty "int") rfl T.int (by decide +kernel) rfl) pa_nil))) (pe_and (pe_not (pe_callB (r := rIsi K) call_isi (by rfl) T.isinstance (by decide +kernel) (pa_cons (pv 3) (pa_cons (pe_bltn (v := .ty "bool") rfl T.bool (by decide +kernel) rfl) pa_nil)))) (pe_one (pe_chain op_le op_le (pv 1) (pv 3) (pv 2))))))) pa_nil)))))), fun F ds hp => ?_⟩
  obtain ⟨v, lo, hi, rfl, hv⟩ := hp
  refine sg_ret (d := .bl (areNum v lo hi)) ?_ rfl
  refine Ev1.is (en_and (k := areNum v lo hi) (en_isTup (en_var 0 rfl) hv.ok) fun h1 => ?_) ?_
  · cases v <;> first | (simp [isTupD] at h1; done) | skip
    rename_i xs
    refine en_allM (fun x => x) (fun x => isNum x lo hi) (fun x _ y _ e => e) (js := [3]) (by simp) (it_seq (en_var 0 rfl) (.inl (by rw [List.map_id']))) (Nat.le_trans hv.1 (by decide)) fun m' l x hx => ⟨_, tg_name 3, ?_⟩
    have hx := hv.2 x hx
    refine Ev1.is (en_and (en_isInt (en_var 3 rfl) hx) fun h1 => en_and (en_not (en_isBool (en_var 3 rfl) hx)) fun h2 => (?_ : Ev1 _ _ _ _ (.bl (isNum x lo hi)))) ?_
    · cases x <;> first | (simp [isIntD] at h1; done) | (simp [isBoolD] at h2; done) | skip
      exact Ev1.is (en_chain (en_var 1 rfl) (en_var 3 rfl) (fun _ => en_var 2 rfl) o_bl fun _ => o_bl) rfl
    · cases x <;> simp [isIntD, isBoolD, isNum]
  · cases v <;> simp [isTupD, areNum]
theorem okT_N (l : List Nat) (h : l.length ≤ 1000) : okT (tupN l) := ⟨by rw [List.length_map]; exact h, fun x hx => by obtain ⟨k, _, rfl⟩ := List.mem_map.mp hx; rfl⟩
theorem areNum_N {l : List Nat} {hi : Int} (h : ∀ x ∈ l, (x : Int) ≤ hi) : areNum (tupN l) 0 hi = true := by
  show (l.map dN).all (fun x => isNum x 0 hi) = true
  rw [List.all_map, List.all_eq_true]
  intro x hx
  show (decide (0 ≤ (x : Int)) && decide ((x : Int) ≤ hi)) = true
  simp [h x hx]
theorem sc_is_climbing : FnScope ["parts", "at"] ["parts"] (defScope s_is_climbing) := ⟨rfl, rfl, rfl, by decide +kernel, rfl, by decide +kernel, by decide +kernel⟩
def climb (ns : List Int) : Bool := (List.range (ns.length - 1)).all fun i => decide (ns.getD i 0 < ns.getD (i + 1) 0)
def pre_is_climbing (ds : List D) : Prop := ∃ ns : List Int, ds = [.tup (ns.map D.int)] ∧ ns.length ≤ 1000
def S_is_climbing (ds : List D) (d : D) : Prop := ∀ ns : List Int, ds = [.tup (ns.map D.int)] → d = .bl (climb ns)
theorem ints_inj : ∀ {a b : List Int}, a.map D.int = b.map D.int → a = b
  | [], [], _ => rfl
  | [], _ :: _, h => by simp at h
  | _ :: _, [], h => by simp at h
  | x :: a, y :: b, h => by
    rw [List.map_cons, List.map_cons] at h
    injection h with h1 h2
    injection h1 with h1
    rw [h1, ints_inj h2]
theorem at_ints {ns : List Int} {i : Nat} (h : i < ns.length) : (ns.map D.int)[i]? = some (.int (ns.getD i 0)) := by
  rw [List.getElem?_map, List.getD_eq_getElem?_getD, List.getElem?_eq_getElem h]; rfl
theorem ok_is_climbing {f : Addr} {fd : FuncData} (Fu : Fun K "is_climbing" "is_climbing" s_is_climbing f fd) (T : Txt K mg C) : FnOk P w K mg base CX0 1 f fd ["parts"] (spS K pre_is_climbing S_is_climbing) := by
  refine fn_pure Fu sc_is_climbing (fun ds h => by obtain ⟨ns, rfl, _⟩ := h; rfl) fun cdv A outer s H E hr => ⟨_, (pss_one (ps_ret (pe_callB (r := rAll K) (cr_all rfl) (by rfl) T.all (by decide +kernel) (pa_cons (pe_lc (own := [("at", 1)]) rfl sc_is_climbing.nd (pi_range2 rfl T.range (pa_cons pe_int (pa_cons (pe_callB (r := rLenS K) cr_len (by rfl) T.len (by decide +kernel) (pa_cons (pv 0) pa_nil)) pa_nil))) (blkOk_by (by kernel_rfl)) (fun _ _ _ _ _ => (pg_name (i := 1) sc_is_climbing.nd rfl (by first | exact Or.inl rfl | exact Or.inr rfl))) (fun _ _ _ _ _ => pts_nil) (fun _ _ _ _ _ => (pe_cmpR op_lt (pe_ix (r := rIx K) ix_seq (pv 0) (pe_op op_sub (pv 1) pe_int) (fun _ _ => rfl)) (pe_ix (r := rIx K) ix_seq (pv 0) (pv 1) (fun _ _ => rfl)) (nomark _)))) pa_nil)))), fun F ds hp => ?_⟩
  obtain ⟨ns, rfl, hl⟩ := hp
  refine sg_ret (d := .bl (climb ns)) ?_ (fun ns' e => by injection e with e _; injection e with e; rw [ints_inj e])
  have e1 : ((((ns.map D.int).length : Nat) : Int) - 1).toNat = ns.length - 1 := by rw [List.length_map]; omega
  refine en_allM (fun i : Nat => D.int (1 + (i : Int))) (fun i => decide (ns.getD i 0 < ns.getD (i + 1) 0)) (fun x _ y _ e => by injection e with e; omega) (js := [1]) (by simp) ?_ (by rw [List.length_range]; omega) fun m' l i hi => ⟨_, tg_name 1, ?_⟩
  · have h := it_rng2 (m := pureMo F) (K := K) (Γ := startG ["parts", "at"] [D.tup (ns.map D.int)]) (lo := 1) (n := (((ns.map D.int).length : Nat) : Int)) (ea_cons (en_int 1) (ea_cons (en_cb1 (ea_cons (en_var 0 rfl) ea_nil) (c_len (.inl rfl))) ea_nil)) (by rw [List.length_map]; omega)
    rw [e1] at h
    exact h
  · rw [List.mem_range] at hi
    refine en_op1 (a := .int (ns.getD i 0)) (b := .int (ns.getD (i + 1) 0)) (en_op1 (en_var 0 rfl) (en_op1 (en_var 1 rfl) (en_int 1) o_int) (o_ix (.inl rfl) ?_)) (en_op1 (en_var 0 rfl) (en_var 1 rfl) (o_ix (.inl rfl) ?_)) o_bl
    · have e : (1 + (i : Int) - 1) = ((i : Nat) : Int) := by omega
      rw [e]
      exact atI_of (at_ints (by omega))
    · have e : (1 + (i : Int)) = ((i + 1 : Nat) : Int) := by omega
      rw [e]
      exact atI_of (at_ints (by omega))
theorem climb_up {l : List Nat} (h : l.Pairwise (· < ·)) : climb (l.map fun k : Nat => (k : Int)) = true := by
  unfold climb
  rw [List.all_eq_true]
  intro i hi
  rw [List.mem_range, List.length_map] at hi
  have h1 : i < l.length := by omega
  have h2 : i + 1 < l.length := by omega
  have q := List.pairwise_iff_getElem.mp h i (i + 1) h1 h2 (by omega)
  rw [List.getD_eq_getElem?_getD, List.getD_eq_getElem?_getD, List.getElem?_map, List.getElem?_map, List.getElem?_eq_getElem h1, List.getElem?_eq_getElem h2]
  simpa using q
theorem sc_are_ascending : FnScope ["value", "low", "high"] ["value", "low", "high"] (defScope s_are_ascending) := ⟨rfl, rfl, rfl, by decide +kernel, rfl, by decide +kernel, by decide +kernel⟩
/-- what the program asks of it here: lists of threads in order -/
def pre_are_ascending (ds : List D) : Prop := ∃ (l : List Nat) (hi : Int), ds = [tupN l, .int 0, .int hi] ∧ l.length ≤ 1000 ∧ l.Pairwise (· < ·) ∧ ∀ x ∈ l, (x : Int) ≤ hi
theorem ok_are_ascending {f : Addr} {fd : FuncData} (Fu : Fun K "are_ascending" "are_ascending" s_are_ascending f fd) (T : Txt K mg C) (c_are_numbers : C8.Cal P w K mg base 2 "are_numbers" (spF K pre_are_numbers f_are_numbers) []) (c_is_climbing : C8.Cal P w K mg base 1 "is_climbing" (spS K pre_is_climbing S_is_climbing) []) :
    FnOk P w K mg base CX0 3 f fd ["value", "low", "high"] (spF K pre_are_ascending fun _ => .bl true) := by
  refine fn_pure Fu sc_are_ascending (fun ds h => by obtain ⟨l, hi, rfl, _⟩ := h; rfl) fun cdv A outer s H E hr => ⟨_, (pss_one (ps_ret (pe_and (C8.pe_c c_are_numbers hr (by decide) rfl (pa_cons (pv 0) (pa_cons (pv 1) (pa_cons (pv 2) pa_nil)))) (pe_one (C8.pe_c c_is_climbing hr (by decide) rfl (pa_cons (pv 0) pa_nil)))))), fun F ds hp => ?_⟩
  obtain ⟨l, hi, rfl, hl, hu, hh⟩ := hp
  refine sg_ret (d := .bl true) ?_ rfl
  refine Ev1.is (en_and (p := true) (k := true) ?_ fun _ => ?_) rfl
  · exact Ev1.is (en_callF (ds := [tupN l, .int 0, .int hi]) (ea_cons (en_var 0 rfl) (ea_cons (en_var 1 rfl) (ea_cons (en_var 2 rfl) ea_nil))) ⟨_, _, _, rfl, okT_N l hl⟩) (by show D.bl (areNum (tupN l) 0 hi) = _; rw [areNum_N hh])
  · exact en_call (ds := [tupN l]) (ea_cons (en_var 0 rfl) ea_nil) ⟨l.map fun k : Nat => (k : Int), by rw [← dN_ints], by rw [List.length_map]; exact hl⟩ fun d hd => by rw [hd _ (by rw [← dN_ints]), climb_up hu]
theorem sc_are_others : FnScope ["value", "thread", "last", "front", "other"] ["value", "thread", "last"] (defScope s_are_others) := ⟨rfl, rfl, rfl, by decide +kernel, rfl, by decide +kernel, by decide +kernel⟩
def fr (l : List Nat) (i : Nat) : Int := if i = 0 then -1 else (l.getD (i - 1) 0 : Nat)
theorem fr_succ {l : List Nat} {i k : Nat} (h : l[i]? = some k) : fr l (i + 1) = (k : Int) := by
  unfold fr
  rw [if_neg (by omega), Nat.add_sub_cancel, List.getD_eq_getElem?_getD, h]
  rfl
theorem fr_lt {l : List Nat} (hu : l.Pairwise (· < ·)) {i k : Nat} (h : l[i]? = some k) : fr l i < (k : Int) := by
  unfold fr
  split
  · omega
  · obtain ⟨h2, rfl⟩ := List.getElem?_eq_some_iff.mp h
    have h1 : i - 1 < l.length := by omega
    have q := List.pairwise_iff_getElem.mp hu (i - 1) i h1 h2 (by omega)
    rw [List.getD_eq_getElem?_getD, List.getElem?_eq_getElem h1]
    show ((l[i - 1] : Nat) : Int) < _
    omega
/-- what the program asks of it here: lists of threads in order -/
def pre_are_others (ds : List D) : Prop := ∃ (l : List Nat) (t : Nat) (hi : Int), ds = [tupN l, dN t, .int hi] ∧ l.length ≤ 1000 ∧ l.Pairwise (· < ·) ∧ ∀ x ∈ l, (x : Int) ≤ hi ∧ x ≠ t
theorem ok_are_others {f : Addr} {fd : FuncData} (Fu : Fun K "are_others" "are_others" s_are_others f fd) (T : Txt K mg C) :
    FnOk P w K mg base CX0 3 f fd ["value", "thread", "last"] (spF K pre_are_others fun _ => .bl true) := by
  refine fn_pure Fu sc_are_others (fun ds h => by obtain ⟨l, t, hi, rfl, _⟩ := h; rfl) fun cdv A outer s H E hr => ⟨_, (pss_cons (ps_if (pt_not (pt_val (pe_callB (r := rIsi K) call_isi (by rfl) T.isinstance (by decide +kernel) (pa_cons (pv 0) (pa_cons (pe_bltn (v := .ty "tuple") rfl T.tuple (by decide +kernel) rfl) pa_nil))))) (pss_one (ps_ret pe_bl)) pss_nil) (pss_cons (ps_set (i := 3) sc_are_others.nd rfl (by first | exact Or.inl rfl | exact Or.inr rfl) (pe_un un_neg pe_int)) (pss_cons (ps_for PassesOwn.never rfl (show PI _ _ _ (iSeq K _) from pi_seq (pv 0)) (pg_name (i := 4) sc_are_others.nd rfl (by first | exact Or.inl rfl | exact Or.inr rfl)) (pss_cons (ps_if (PW.pt (pw_or (pt_not (pt_val (pe_callB (r := rIsi K) call_isi (by rfl) T.isinstance (by decide +kernel) (pa_cons (pv 4) (pa_cons (pe_bltn (v := .ty "int") rfl T.int (by decide +kernel) rfl) pa_nil))))) (pw_or (pt_val (pe_callB (r := rIsi K) call_isi (by rfl) T.isinstance (by decide +kernel) (pa_cons (pv 4) (pa_cons (pe_bltn (v := .ty "bool") rfl T.bool (by decide +kernel) rfl) pa_nil)))) (pw_or (pt_not (pt_chain op_lt op_le (pv 3) (pv 4) (pv 2))) (pw_or1 (pt_cmpR (r := rEqD K) (op_eqD hr.units) (pv 4) (pv 1) (nomark _))))))) (pss_one (ps_ret pe_bl)) pss_nil) (pss_one (ps_set (i := 3) sc_are_others.nd rfl (by first | exact Or.inl rfl | exact Or.inr rfl) (pv 4))))) (pss_one (ps_ret pe_bl))))), fun F ds hp => ?_⟩
  obtain ⟨l, t, hi, rfl, hl, hu, hh⟩ := hp
  refine sg_seqIf (b := false) (EvT1.is (et_not (et_B (en_isTup (d := tupN l) (en_var 0 rfl) rfl))) rfl) (fun e => nomatch e) fun _ => ?_
  refine sq_asg (d := .int (-1)) (en_neg (en_int 1)) ?_
  refine sg_seq (fun Γ' => ∃ x3 x4, Γ' = [some (tupN l), some (dN t), some (.int hi), x3, x4]) (sg_for (js := [4]) (T := fun x => x = l.map dN) (it_seq (en_var 0 rfl) (.inl rfl)) (fun _ i Γ' => ∃ x4, Γ' = [some (tupN l), some (dN t), some (.int hi), some (.int (fr l i)), x4]) (fun _ _ => ⟨none, rfl⟩) ?_ fun _ Γ' _ ⟨x4, h⟩ => ⟨_, _, h⟩) ?_
  · rintro _ i d Γ' rfl hd ⟨x4, rfl⟩
    rw [List.getElem?_map] at hd
    cases hk : l[i]? with
    | none => rw [hk] at hd; cases hd
    | some k =>
      rw [hk] at hd
      injection hd with hd
      subst hd
      obtain ⟨h1, h2⟩ := hh k (List.mem_of_getElem? hk)
      refine ⟨_, tg_name 4, ?_⟩
      refine sg_seqIf (b := false) (EvT1.is (et_or (et_not (et_B (en_isInt (d := dN k) (en_var 4 rfl) rfl))) fun _ => et_or (et_B (en_isBool (d := dN k) (en_var 4 rfl) rfl)) fun _ => et_or (et_not (et_test (en_chain (en_var 3 rfl) (en_var 4 rfl) (fun _ => en_var 2 rfl) o_bl fun _ => o_bl))) fun _ => et_test (en_op1 (en_var 4 rfl) (en_var 1 rfl) o_eqI)) ?_) (fun e => nomatch e) fun _ => ?_
      · have e1 : decide (fr l i < (k : Int)) = true := decide_eq_true (fr_lt hu hk)
        have e2 : decide ((k : Int) ≤ hi) = true := decide_eq_true h1
        have e3 : decide ((k : Int) = (t : Int)) = false := decide_eq_false (by omega)
        rw [e1, e2, e3]
        rfl
      · exact sg_asg (d := dN k) (en_var 4 rfl) ⟨_, by rw [fr_succ hk]; rfl⟩
  · rintro Γ' ⟨x3, x4, rfl⟩
    exact sg_ret (d := .bl true) (en_bl true) rfl
theorem sc_is_hearing : FnScope ["value", "last", "thread", "others"] ["value"] (defScope s_is_hearing) := ⟨rfl, rfl, rfl, by decide +kernel, rfl, by decide +kernel, by decide +kernel⟩
abbrev hdD (h : Hd) : D := .tup (h.map tupN)
def pre_is_hearing (ds : List D) : Prop := ∃ h : Hd, ds = [hdD h] ∧ WebM.Ok h
theorem ok_is_hearing {f : Addr} {fd : FuncData} (Fu : Fun K "is_hearing" "is_hearing" s_is_hearing f fd) (T : Txt K mg C) (c_are_others : C8.Cal P w K mg base 3 "are_others" (spF K pre_are_others fun _ => .bl true) []) :
    FnOk P w K mg base CX0 4 f fd ["value"] (spF K pre_is_hearing fun _ => .bl true) := by
  refine fn_pure Fu sc_is_hearing (fun ds h => by obtain ⟨h, rfl, _⟩ := h; rfl) fun cdv A outer s H E hr => ⟨_, (pss_cons (ps_if (PW.pt (pw_or (pt_not (pt_val (pe_callB (r := rIsi K) call_isi (by rfl) T.isinstance (by decide +kernel) (pa_cons (pv 0) (pa_cons (pe_bltn (v := .ty "tuple") rfl T.tuple (by decide +kernel) rfl) pa_nil))))) (pw_or1 (pt_not (pt_chain op_le op_le pe_int (pe_callB (r := rLenS K) cr_len (by rfl) T.len (by decide +kernel) (pa_cons (pv 0) pa_nil)) (C8.pe_gc rfl T.k_MAX_THREADS)))))) (pss_one (ps_ret pe_bl)) pss_nil) (pss_cons (ps_set (i := 1) sc_is_hearing.nd rfl (by first | exact Or.inl rfl | exact Or.inr rfl) (pe_op op_sub (pe_callB (r := rLenS K) cr_len (by rfl) T.len (by decide +kernel) (pa_cons (pv 0) pa_nil)) pe_int)) (pss_one (ps_ret (pe_callB (r := rAll K) (cr_all rfl) (by rfl) T.all (by decide +kernel) (pa_cons (pe_lc (own := [("thread", 2), ("others", 3)]) rfl sc_is_hearing.nd (show PI _ _ _ (iEnumS K _) from pi_enumS rfl T.enumerate (pa_cons (pv 0) pa_nil)) (blkOk_by (by kernel_rfl)) (fun _ _ _ _ _ => (show PG _ _ (gTup K 2 (gCons (gName 2) (gCons (gName 3) gNil))) from pg_tup rfl (pgs_cons (pg_name (i := 2) sc_is_hearing.nd rfl (by first | exact Or.inl rfl | exact Or.inr rfl)) (pgs_cons (pg_name (i := 3) sc_is_hearing.nd rfl (by first | exact Or.inl rfl | exact Or.inr rfl)) pgs_nil)))) (fun _ _ _ _ _ => pts_nil) (fun _ _ _ _ _ => (C8.pe_c c_are_others hr (by decide) rfl (pa_cons (pv 3) (pa_cons (pv 2) (pa_cons (pv 1) pa_nil)))))) pa_nil)))))), fun F ds hp => ?_⟩
  obtain ⟨h, rfl, ok⟩ := hp
  have hlen : ((h.map tupN).length : Int) = (h.length : Int) := by rw [List.length_map]
  refine sg_seqIf (b := false) ?_ (fun e => nomatch e) fun _ => ?_
  · refine EvT1.is (et_or (et_not (et_B (en_isTup (en_var 0 rfl) rfl))) fun _ => et_not (et_test (en_chain (en_int 1) (en_cb1 (ea_cons (en_var 0 rfl) ea_nil) (c_len (.inl rfl))) (fun _ => en_int 5) o_bl fun _ => o_bl))) ?_
    have h1 := ok.n1
    have h5 := ok.n5
    rw [hlen]
    have e1 : decide ((1 : Int) ≤ (h.length : Int)) = true := decide_eq_true (by omega)
    have e2 : decide ((h.length : Int) ≤ 5) = true := decide_eq_true (by omega)
    rw [e1, e2]
    rfl
  · refine sq_asg (d := .int ((h.length : Int) - 1)) (Ev1.is (en_op1 (en_cb1 (ea_cons (en_var 0 rfl) ea_nil) (c_len (.inl rfl))) (en_int 1) o_int) (by rw [hlen])) ?_
    refine sg_ret (d := .bl true) ?_ rfl
    refine Ev1.is (en_allM (xs := List.range h.length) (fun i => D.tup [dN i, tupN (rowOf h i)]) (fun _ => true) (fun x _ y _ e => pairN_inj (g := fun i => tupN (rowOf h i)) e) (js := [2, 3]) (by simp) ?_ (by rw [List.length_range]; have := ok.n5; omega) fun m' l i hi => ⟨_, tg_pair, ?_⟩) (by rw [List.all_eq_true.mpr (fun _ _ => rfl)])
    · have q := it_enum (m := pureMo F) (K := K) (Γ := (startG ["value", "last", "thread", "others"] [hdD h]).set 1 (some (.int ((h.length : Int) - 1)))) (ea_cons (en_var 0 rfl) ea_nil) (.inl rfl)
      rw [enumD_map] at q
      exact q
    · rw [List.mem_range] at hi
      exact Ev1.is (en_callF (ds := [tupN (rowOf h i), dN i, .int ((h.length : Int) - 1)]) (ea_cons (en_var 3 rfl) (ea_cons (en_var 2 rfl) (ea_cons (en_var 1 rfl) ea_nil))) ⟨rowOf h i, _, _, rfl, by have := ok.rowlen hi; omega, ok.up i hi, fun x hx => by have := ok.lt i hi x hx; exact ⟨by omega, this.2⟩⟩) rfl
theorem sc_is_marking : FnScope ["value", "size"] ["value", "size"] (defScope s_is_marking) := ⟨rfl, rfl, rfl, by decide +kernel, rfl, by decide +kernel, by decide +kernel⟩
def mkOk (ms : List Nat) (n : Nat) : Prop := ms.length = n ∧ n ≤ 5 ∧ 1 ≤ n ∧ ∀ x ∈ ms, x ≤ 9999
def pre_is_marking (ds : List D) : Prop := ∃ n : Nat, ds = [.non, .int n] ∨ ∃ ms, ds = [tupN ms, .int n] ∧ mkOk ms n
theorem ok_is_marking {f : Addr} {fd : FuncData} (Fu : Fun K "is_marking" "is_marking" s_is_marking f fd) (T : Txt K mg C) (c_are_numbers : C8.Cal P w K mg base 2 "are_numbers" (spF K pre_are_numbers f_are_numbers) []) :
    FnOk P w K mg base CX0 3 f fd ["value", "size"] (spF K pre_is_marking fun _ => .bl true) := by
  refine fn_pure Fu sc_is_marking (fun ds h => by obtain ⟨n, rfl | ⟨ms, rfl, _⟩⟩ := h <;> rfl) fun cdv A outer s H E hr => ⟨_, (pss_one (ps_ret (pe_or (pe_cmp (pc_isN (pv 0)) rfl) (pe_one (pe_and (C8.pe_c c_are_numbers hr (by decide) rfl (pa_cons (pv 0) (pa_cons pe_int (pa_cons (C8.pe_gc rfl T.k_MAX_MARK) pa_nil)))) (pe_one (pe_cmpR (r := rEqD K) (op_eqD hr.units) (pe_callB (r := rLenS K) cr_len (by rfl) T.len (by decide +kernel) (pa_cons (pv 0) pa_nil)) (pv 1) (nomark _)))))))), fun F ds hp => ?_⟩
  obtain ⟨n, rfl | ⟨ms, rfl, hm⟩⟩ := hp
  · exact sg_ret (d := .bl true) (Ev1.is (en_or (p := isNonD .non) (k := true) (en_isN (en_var 0 rfl)) fun e => nomatch e) rfl) rfl
  · refine sg_ret (d := .bl true) (Ev1.is (en_or (p := isNonD (tupN ms)) (k := true) (en_isN (en_var 0 rfl)) fun _ => ?_) rfl) rfl
    refine Ev1.is (en_and (p := true) (k := true) ?_ fun _ => ?_) rfl
    · exact Ev1.is (en_callF (ds := [tupN ms, .int 0, .int 9999]) (ea_cons (en_var 0 rfl) (ea_cons (en_int 0) (ea_cons (en_int 9999) ea_nil))) ⟨_, _, _, rfl, okT_N ms (by have := hm.1; have := hm.2.1; omega)⟩) (by show D.bl (areNum (tupN ms) 0 9999) = _; rw [areNum_N (fun x hx => by have := hm.2.2.2 x hx; omega)])
    · exact Ev1.is (en_op1 (en_cb1 (ea_cons (en_var 0 rfl) ea_nil) (c_len (.inl rfl))) (en_var 1 rfl) o_eqI) (by rw [List.length_map, hm.1, decide_eq_true rfl])
def pre_threads_reached (ds : List D) : Prop := ∃ (h : Hd) (t : Nat), ds = [hdD h, dN t] ∧ WebM.Ok h ∧ t < h.length
noncomputable def f_threads_reached : List D → D → Prop := fun ds d => ∀ (h : Hd) (t : Nat), ds = [hdD h, dN t] → d = tupN (rl h t)
theorem hdD_inj {a b : Hd} (h : hdD a = hdD b) : a = b := by
  injection h with h
  induction a generalizing b with
  | nil => cases b with | nil => rfl | cons _ _ => simp at h
  | cons x a ih => cases b with
    | nil => simp at h
    | cons y b => rw [List.map_cons, List.map_cons] at h; injection h with h1 h2; rw [tupN_inj h1, ih h2]
theorem it_enumH {m : Mo} {Γ : G} {ta : TA} {h : Hd} (q : EvA1 m K ta Γ [hdD h]) : ItD1 m K (iEnumS K ta) Γ ((List.range h.length).map fun i => .tup [dN i, tupN (rowOf h i)]) := by
  have q := it_enum (m := m) (K := K) (Γ := Γ) q (.inl rfl)
  rw [enumD_map] at q
  exact q
theorem sc_knowing_masks : FnScope ["heard", "masks", "thread", "others", "mask", "other", "between", "_"] ["heard"] (defScope s_knowing_masks) := ⟨rfl, rfl, rfl, by decide +kernel, rfl, by decide +kernel, by decide +kernel⟩
def pre_roots_of (ds : List D) : Prop := ∃ (h : Hd), ds = [hdD h] ∧ WebM.Ok h
def S_knowing_masks : List D → D → Prop := fun ds d => ∀ (h : Hd), ds = [hdD h] → d = lstN (kn h)
theorem enumH_at {h : Hd} {i : Nat} {d : D} (e : ((List.range h.length).map fun i => D.tup [dN i, tupN (rowOf h i)])[i]? = some d) : i < h.length ∧ d = .tup [dN i, tupN (rowOf h i)] := by
  have hi := (List.getElem?_eq_some_iff.mp e).1
  rw [List.length_map, List.length_range] at hi
  rw [List.getElem?_map, List.getElem?_range hi] at e
  injection e with e
  exact ⟨hi, e.symm⟩
theorem ity_enumH {m : Mo} {Γ : G} {ta : TA} {h : Hd} (q : EvA1 m K ta Γ [hdD h]) : ItY m K (iEnumS K ta) Γ ((List.range h.length).map fun i => .tup [dN i, tupN (rowOf h i)]) := by
  have q := ity_enum (m := m) (K := K) (Γ := Γ) q (.inl rfl)
  rw [enumD_map] at q
  exact q
def mTo (h : Hd) (i k : Nat) : Nat := ((rowOf h i).take k).foldl (fun m o => m ||| 2 ^ o) (2 ^ i)
theorem mTo_succ {h : Hd} {i k o : Nat} (e : (rowOf h i)[k]? = some o) : mTo h i (k + 1) = mTo h i k ||| 2 ^ o := by
  unfold mTo
  rw [List.take_add_one, e, List.foldl_append]
  rfl
theorem mTo_all {h : Hd} {i : Nat} : mTo h i (rowOf h i).length = m0 h i := by unfold mTo m0; rw [List.take_length]
theorem ok_knowing_masks {f : Addr} {fd : FuncData} (Fu : Fun K "knowing_masks" "knowing_masks" s_knowing_masks f fd) (T : Txt K mg C) : FnOk P w K mg base CX0 1 f fd ["heard"] (spS K pre_roots_of S_knowing_masks) := by
  refine fn_pure Fu sc_knowing_masks (fun ds h => by obtain ⟨h, rfl, _⟩ := h; rfl) fun cdv A outer s H E hr => ⟨_, (pss_cons (ps_set (i := 1) sc_knowing_masks.nd rfl (by first | exact Or.inl rfl | exact Or.inr rfl) (pe_lst pa_nil)) (pss_cons (ps_for PassesOwn.never rfl (show PI _ _ _ (iEnumS K _) from pi_enumS rfl T.enumerate (pa_cons (pv 0) pa_nil)) (show PG _ _ (gTup K 2 (gCons (gName 2) (gCons (gName 3) gNil))) from pg_tup rfl (pgs_cons (pg_name (i := 2) sc_knowing_masks.nd rfl (by first | exact Or.inl rfl | exact Or.inr rfl)) (pgs_cons (pg_name (i := 3) sc_knowing_masks.nd rfl (by first | exact Or.inl rfl | exact Or.inr rfl)) pgs_nil))) (pss_cons (ps_set (i := 4) sc_knowing_masks.nd rfl (by first | exact Or.inl rfl | exact Or.inr rfl) (pe_op op_shl pe_int (pv 2))) (pss_cons (ps_for PassesOwn.never rfl (show PI _ _ _ (iSeq K _) from pi_seq (pv 3)) (pg_name (i := 5) sc_knowing_masks.nd rfl (by first | exact Or.inl rfl | exact Or.inr rfl)) (pss_one (ps_set (i := 4) sc_knowing_masks.nd rfl (by first | exact Or.inl rfl | exact Or.inr rfl) (pe_op op_or (pv 4) (pe_op op_shl pe_int (pv 5)))))) (pss_one (ps_expr (pe_bm PySem.F.plainAttrs_list PySem.F.slot_list_append PySem.F.type_list_append mt_append (pv 1) (pa_cons (pv 4) pa_nil))))))) (pss_cons (ps_for PassesOwn.never rfl (show PI _ _ _ (iEnumS K _) from pi_enumS rfl T.enumerate (pa_cons (pv 0) pa_nil)) (show PG _ _ (gTup K 2 (gCons (gName 6) (gCons (gName 7) gNil))) from pg_tup rfl (pgs_cons (pg_name (i := 6) sc_knowing_masks.nd rfl (by first | exact Or.inl rfl | exact Or.inr rfl)) (pgs_cons (pg_name (i := 7) sc_knowing_masks.nd rfl (by first | exact Or.inl rfl | exact Or.inr rfl)) pgs_nil))) (pss_one (ps_set (i := 1) sc_knowing_masks.nd rfl (by first | exact Or.inl rfl | exact Or.inr rfl) (pe_lc (own := [("mask", 4)]) rfl sc_knowing_masks.nd (show PI _ _ _ (iSeq K _) from pi_seq (pv 1)) (blkOk_by (by kernel_rfl)) (fun _ _ _ _ _ => (pg_name (i := 4) sc_knowing_masks.nd rfl (by first | exact Or.inl rfl | exact Or.inr rfl))) (fun _ _ _ _ _ => pts_nil) (fun _ _ _ _ _ => (pe_ifExp (show PT _ _ (tTruK K _) from pt_truth (pe_op op_and (pe_op op_shr (pv 4) (pv 6)) pe_int) (by intro _; rfl)) (pe_op op_or (pv 4) (pe_ix (r := rIx K) ix_seq (pv 1) (pv 6) (fun _ _ => rfl))) (pv 4))))))) (pss_one (ps_ret (pv 1)))))), fun F ds hp => ?_⟩
  obtain ⟨h, rfl, ok⟩ := hp
  have h5 := ok.n5
  refine sq_newL (i := 1) (ds := []) ea_nil (Nat.zero_le _) (by show 1 < 8; decide) fun l H0 => ?_
  refine so_seq (fun Γ' ds' => ds' = ((List.range h.length).map (m0 h)).map dN ∧ ∃ x2 x3 x4 x5, Γ' = [some (hdD h), some (.adr l), x2, x3, x4, x5, none, none]) (so_forY (ity_enumH (ea_cons (en_var 0 rfl) ea_nil)) (fun i Γ' ds' => ds' = ((List.range i).map (m0 h)).map dN ∧ ∃ x2 x3 x4 x5, Γ' = [some (hdD h), some (.adr l), x2, x3, x4, x5, none, none]) ⟨rfl, none, none, none, none, rfl⟩ ?_ ?_) ?_
  · rintro i d Γ' ds' hd ⟨rfl, x2, x3, x4, x5, rfl⟩
    obtain ⟨hi, rfl⟩ := enumH_at hd
    refine ⟨_, _, tg_pair, ?_⟩
    refine so_seq (fun Γ' ds' => ds' = ((List.range i).map (m0 h)).map dN ∧ Γ' = [some (hdD h), some (.adr l), some (dN i), some (tupN (rowOf h i)), some (dN (2 ^ i)), x5, none, none]) (so_asg (d := dN (2 ^ i)) (en_op1 (en_int 1) (en_var 2 rfl) (o_shl1 (by omega))) ⟨rfl, rfl⟩) ?_
    rintro Γ' ds' ⟨rfl, rfl⟩
    refine so_seq (fun Γ' ds' => ds' = ((List.range i).map (m0 h)).map dN ∧ ∃ x5, Γ' = [some (hdD h), some (.adr l), some (dN i), some (tupN (rowOf h i)), some (dN (m0 h i)), x5, none, none]) (so_lift1 (N := fun Γ' => ∃ x5, Γ' = [some (hdD h), some (.adr l), some (dN i), some (tupN (rowOf h i)), some (dN (m0 h i)), x5, none, none]) (sg_for (js := [5]) (T := fun x => x = (rowOf h i).map dN) (it_seq (en_var 3 rfl) (.inl rfl)) (fun _ k Γ' => ∃ x5, Γ' = [some (hdD h), some (.adr l), some (dN i), some (tupN (rowOf h i)), some (dN (mTo h i k)), x5, none, none]) (fun _ _ => ⟨x5, rfl⟩) ?_ ?_) fun Γ' h => ⟨rfl, h⟩) ?_
    · rintro _ k d Γ' rfl hd ⟨x5, rfl⟩
      rw [List.getElem?_map] at hd
      cases ho : (rowOf h i)[k]? with
      | none => rw [ho] at hd; cases hd
      | some o =>
        rw [ho] at hd
        injection hd with hd
        subst hd
        have := (ok.lt i hi o (List.mem_of_getElem? ho)).1
        refine ⟨_, tg_name 5, sg_asg (d := dN (mTo h i k ||| 2 ^ o)) (en_op1 (en_var 4 rfl) (en_op1 (en_int 1) (en_var 5 rfl) (o_shl1 (by omega))) o_or) ⟨_, by rw [mTo_succ ho]; rfl⟩⟩
    · rintro _ Γ' rfl ⟨x5, e⟩
      rw [List.length_map, mTo_all] at e
      exact ⟨x5, e⟩
    · rintro Γ' ds' ⟨rfl, x5, rfl⟩
      refine so_app (i := 1) rfl (en_var 4 rfl) (by rw [List.length_map, List.length_map, List.length_range]; omega) ⟨?_, _, _, _, _, rfl⟩
      rw [List.range_succ, List.map_append, List.map_append]
      rfl
  · rintro Γ' ds' ⟨e, r⟩
    rw [List.length_map, List.length_range] at e
    exact ⟨e, r⟩
  rintro Γ' ds' ⟨rfl, x2, x3, x4, x5, rfl⟩
  refine so_dis (i := 1) rfl ?_
  refine sg_seq (fun Γ' => ∃ x2 x3 x4 x5 x6 x7, Γ' = [some (hdD h), some (lstN (kn h)), x2, x3, x4, x5, x6, x7]) (sg_for (js := [6, 7]) (T := fun x => x = (List.range h.length).map fun i => .tup [dN i, tupN (rowOf h i)]) (it_enumH (ea_cons (en_var 0 rfl) ea_nil)) (fun _ b Γ' => ∃ x2 x3 x4 x5 x6 x7, Γ' = [some (hdD h), some (lstN (wars h b)), x2, x3, x4, x5, x6, x7]) (fun _ _ => ⟨x2, x3, x4, x5, none, none, rfl⟩) ?_ ?_) ?_
  · rintro _ b d Γ' rfl hd ⟨x2, x3, x4, x5, x6, x7, rfl⟩
    obtain ⟨hb, rfl⟩ := enumH_at hd
    have hl := wars_len h b
    refine ⟨_, tg_pair, sg_asg (d := lstN (wars h (b + 1))) ?_ ⟨_, _, _, _, _, _, rfl⟩⟩
    refine Ev1.is (en_lcMA dN (fun mk => dN (if mk.testBit b then mk ||| (wars h b).getD b 0 else mk)) (fun x _ y _ e => dN_inj e) (js := [4]) (by simp) (it_seq (en_var 1 rfl) (.inr (.inl rfl))) (by omega) fun m' l mk hk => ⟨_, tg_name 4, ?_⟩) (by show _ = D.lst ((war (wars h b) b).map dN); unfold war; rw [List.map_map]; rfl)
    refine en_if1 (k := mk.testBit b) (et_bit (en_var 4 rfl) (en_var 6 rfl)) (fun e => ?_) (fun e => ?_)
    · rw [if_pos e]
      refine en_op1 (en_var 4 rfl) (en_op1 (en_var 1 rfl) (en_var 6 rfl) (o_ix (d := dN ((wars h b).getD b 0)) (.inr (.inl rfl)) (atI_of ?_))) o_or
      rw [List.getElem?_map, List.getD_eq_getElem?_getD, List.getElem?_eq_getElem (by omega)]
      rfl
    · rw [e]
      exact en_var 4 rfl
  · rintro _ Γ' rfl ⟨x2, x3, x4, x5, x6, x7, e⟩
    rw [List.length_map, List.length_range] at e
    exact ⟨_, _, _, _, _, _, e⟩
  · rintro Γ' ⟨x2, x3, x4, x5, x6, x7, rfl⟩
    exact sg_ret (d := lstN (kn h)) (en_var 1 rfl) fun h' e => by injection e with e1; rw [hdD_inj e1]
theorem sc_roots_of : FnScope ["heard", "shared", "mask", "thread", "_"] ["heard"] (defScope s_roots_of) := ⟨rfl, rfl, rfl, by decide +kernel, rfl, by decide +kernel, by decide +kernel⟩
noncomputable def S_roots_of : List D → D → Prop := fun ds d => ∀ (h : Hd), ds = [hdD h] → d = tupN (rootsOf h)
theorem andI_take {l : List Nat} {i k : Nat} (e : l[i]? = some k) : andI (l.take (i + 1)) = Builtin.bitAnd (andI (l.take i)) k := by
  unfold andI
  rw [List.take_add_one, e, List.foldl_append]
  rfl
theorem ok_roots_of {f : Addr} {fd : FuncData} (Fu : Fun K "roots_of" "roots_of" s_roots_of f fd) (T : Txt K mg C) (c_knowing_masks : C8.Cal P w K mg base 1 "knowing_masks" (spS K pre_roots_of S_knowing_masks) []) : FnOk P w K mg base CX0 2 f fd ["heard"] (spS K pre_roots_of S_roots_of) := by
  refine fn_pure Fu sc_roots_of (fun ds h => by obtain ⟨h, rfl, _⟩ := h; rfl) fun cdv A outer s H E hr => ⟨_, (pss_cons (ps_set (i := 1) sc_roots_of.nd rfl (by first | exact Or.inl rfl | exact Or.inr rfl) (pe_un un_neg pe_int)) (pss_cons (ps_for PassesOwn.never rfl (show PI _ _ _ (iSeq K _) from pi_seq (C8.pe_c c_knowing_masks hr (by decide) rfl (pa_cons (pv 0) pa_nil))) (pg_name (i := 2) sc_roots_of.nd rfl (by first | exact Or.inl rfl | exact Or.inr rfl)) (pss_one (ps_set (i := 1) sc_roots_of.nd rfl (by first | exact Or.inl rfl | exact Or.inr rfl) (pe_op op_and (pv 1) (pv 2))))) (pss_one (ps_ret (pe_callTy (r := rTup K) cr_tup (by rfl) T.tuple (by decide +kernel) (pa_cons (pe_lc (own := [("thread", 3), ("_", 4)]) rfl sc_roots_of.nd (show PI _ _ _ (iEnumS K _) from pi_enumS rfl T.enumerate (pa_cons (pv 0) pa_nil)) (blkOk_by (by kernel_rfl)) (fun _ _ _ _ _ => (show PG _ _ (gTup K 2 (gCons (gName 3) (gCons (gName 4) gNil))) from pg_tup rfl (pgs_cons (pg_name (i := 3) sc_roots_of.nd rfl (by first | exact Or.inl rfl | exact Or.inr rfl)) (pgs_cons (pg_name (i := 4) sc_roots_of.nd rfl (by first | exact Or.inl rfl | exact Or.inr rfl)) pgs_nil)))) (fun _ _ _ _ _ => (pts_one (show PT _ _ (tTruK K _) from pt_truth (pe_op op_and (pe_op op_shr (pv 1) (pv 3)) pe_int) (by intro _; rfl)))) (fun _ _ _ _ _ => (pv 3))) pa_nil)))))), fun F ds hp => ?_⟩
  obtain ⟨h, rfl, ok⟩ := hp
  have h5 := ok.n5
  have h1 := ok.n1
  have row : ∀ e, e < h.length → ∀ o ∈ rowOf h e, o < h.length := fun e he o ho => (ok.lt e he o ho).1
  have hkl : (kn h).length = h.length := wars_len h h.length
  have hne : kn h ≠ [] := fun z => by
    have z' : (kn h).length = 0 := by rw [z]; rfl
    omega
  refine sq_asg (d := .int (-1)) (en_neg (en_int 1)) ?_
  refine sg_seq (fun Γ' => ∃ x2, Γ' = [some (hdD h), some (dN (andN (kn h))), x2, none, none]) (sg_for (js := [2]) (T := fun x => x = (kn h).map dN) (it_seq (d := lstN (kn h)) (en_call (ds := [hdD h]) (ea_cons (en_var 0 rfl) ea_nil) ⟨h, rfl, ok⟩ fun d hd => hd h rfl) (.inr (.inl rfl))) (fun _ i Γ' => ∃ x2, Γ' = [some (hdD h), some (.int (andI ((kn h).take i))), x2, none, none]) (fun _ _ => ⟨none, rfl⟩) ?_ ?_) ?_
  · rintro _ i d Γ' rfl hd ⟨x2, rfl⟩
    rw [List.getElem?_map] at hd
    cases ho : (kn h)[i]? with
    | none => rw [ho] at hd; cases hd
    | some o =>
      rw [ho] at hd
      injection hd with hd
      subst hd
      exact ⟨_, tg_name 2, sg_asg (d := .int (Builtin.bitAnd (andI ((kn h).take i)) o)) (en_op1 (en_var 1 rfl) (en_var 2 rfl) o_int) ⟨_, by rw [andI_take ho]; rfl⟩⟩
  · rintro _ Γ' rfl ⟨x2, e⟩
    rw [List.length_map, List.take_length, andI_eq hne] at e
    exact ⟨x2, e⟩
  rintro Γ' ⟨x2, rfl⟩
  refine sg_ret (d := tupN (rootsOf h)) (en_cb1 (ea_cons ?_ ea_nil) (c_tuple (.inr (.inl rfl)))) (fun h' e => by injection e with e1; rw [hdD_inj e1])
  refine en_lcM (fun i => D.tup [dN i, tupN (rowOf h i)]) (fun t => decide ((rl h t).length = h.length)) dN (fun x _ y _ e => pairN_inj (g := fun i => tupN (rowOf h i)) e) (js := [3, 4]) (by simp) (it_enumH (ea_cons (en_var 0 rfl) ea_nil)) (by rw [List.length_range]; omega) fun m' l t ht => ⟨_, tg_pair, ?_, fun _ => en_var 3 rfl⟩
  rw [List.mem_range] at ht
  exact EvT1.is (et_bit (en_var 1 rfl) (en_var 3 rfl)) (rootsOf_bits row h1 ht)
def prs (h : Hd) : List (Nat × Nat) := (List.range h.length).flatMap fun t => (rowOf h t).map fun o => (t, o)
theorem sc_hearing_text : FnScope ["pairs", "thread", "other"] ["pairs"] (defScope s_hearing_text) := ⟨rfl, rfl, rfl, by decide +kernel, rfl, by decide +kernel, by decide +kernel⟩
abbrev prD (p : Nat × Nat) : D := .tup [dN p.1, dN p.2]
def prTx (p : Nat × Nat) : Str := Str.empty ++ tx p.1 ++ " hears " ++ tx p.2
def hearTx (P : List (Nat × Nat)) : Str := if P.isEmpty then "nobody hears" else Txt.join ", " (P.map prTx)
def PrOk (P : List (Nat × Nat)) : Prop := P.length ≤ 25 ∧ ∀ p ∈ P, p.1 < 10 ∧ p.2 < 10
theorem prTx_le {p : Nat × Nat} (h : p.1 < 10 ∧ p.2 < 10) : (prTx p).length ≤ 10 := by
  unfold prTx
  rw [Str.length_append, Str.length_append, Str.length_append]
  have h1 := tx_le (n := p.1) (k := 1) (by decide) (by simpa using h.1)
  have h2 := tx_le (n := p.2) (k := 1) (by decide) (by simpa using h.2)
  have h3 : Str.empty.length = 0 := rfl
  have h4 : Str.length (" hears " : Str) = 7 := by decide
  omega
theorem hearTx_le {P : List (Nat × Nat)} (h : PrOk P) : (hearTx P).length ≤ 1000 := by
  unfold hearTx
  split
  · decide
  · refine Nat.le_trans (join_le (c := 10) fun x hx => ?_) ?_
    · obtain ⟨p, hp, rfl⟩ := List.mem_map.mp hx
      exact prTx_le (h.2 p hp)
    · rw [List.length_map]
      have h3 : Str.length (", " : Str) = 2 := by decide
      have := h.1
      rw [h3]
      omega
theorem prD_inj {p q : Nat × Nat} (e : prD p = prD q) : p = q := by
  injection e with e
  injection e with e1 e2
  injection e2 with e2 _
  exact Prod.ext (dN_inj e1) (dN_inj e2)
theorem prsD_inj : ∀ {P Q : List (Nat × Nat)}, P.map prD = Q.map prD → P = Q
  | [], [], _ => rfl
  | [], _ :: _, h => by simp at h
  | _ :: _, [], h => by simp at h
  | x :: P, y :: Q, h => by
    rw [List.map_cons, List.map_cons] at h
    injection h with h1 h2
    rw [prD_inj h1, prsD_inj h2]
def pre_hearing_text (ds : List D) : Prop := ∃ P, ds = [.lst (P.map prD)] ∧ PrOk P
def S_hearing_text : List D → D → Prop := fun ds d => ∀ P, ds = [.lst (P.map prD)] → d = .str (hearTx P)
theorem ok_hearing_text {f : Addr} {fd : FuncData} (Fu : Fun K "hearing_text" "hearing_text" s_hearing_text f fd) (T : Txt K mg C) : FnOk P w K mg base CX0 1 f fd ["pairs"] (spS K pre_hearing_text S_hearing_text) := by
  refine fn_pure Fu sc_hearing_text (fun ds h => by obtain ⟨h, rfl, _⟩ := h; rfl) fun cdv A outer s H E hr => ⟨_, (pss_cons (ps_if (pt_not (show PT _ _ (tTruK K _) from pt_truth (pv 0) (by intro _; rfl))) (pss_one (ps_ret pe_str)) pss_nil) (pss_one (ps_ret (pe_join pe_str (pe_lc (own := [("thread", 1), ("other", 2)]) rfl sc_hearing_text.nd (show PI _ _ _ (iSeq K _) from pi_seq (pv 0)) (blkOk_by (by kernel_rfl)) (fun _ _ _ _ _ => (show PG _ _ (gTup K 2 (gCons (gName 1) (gCons (gName 2) gNil))) from pg_tup rfl (pgs_cons (pg_name (i := 1) sc_hearing_text.nd rfl (by first | exact Or.inl rfl | exact Or.inr rfl)) (pgs_cons (pg_name (i := 2) sc_hearing_text.nd rfl (by first | exact Or.inl rfl | exact Or.inr rfl)) pgs_nil)))) (fun _ _ _ _ _ => pts_nil) (fun _ _ _ _ _ => (pe_joined (PJ.cons (pe_fmt (pv 1)) (PJ.cons pe_str (PJ.cons (pe_fmt (pv 2)) PJ.nil)))))))))), fun F ds hp => ?_⟩
  obtain ⟨P, rfl, ok⟩ := hp
  have hS : S_hearing_text [.lst (P.map prD)] (.str (hearTx P)) := fun P' e => by injection e with e1; injection e1 with e1; rw [prsD_inj e1]
  refine sg_seqIf (b := !(!(P.map prD).isEmpty)) (et_not (et_truth (en_var 0 rfl) (.inr (.inl rfl)))) (fun e => ?_) (fun e => ?_)
  · refine sg_ret (d := .str "nobody hears") (en_str _) ?_
    have : P = [] := by cases P with | nil => rfl | cons a P => simp at e
    subst this
    exact hS
  · refine sg_ret (d := .str (hearTx P)) ?_ hS
    have hne : P.isEmpty = false := by cases P with | nil => simp at e | cons a P => rfl
    refine Ev1.is (en_join (sep := ", ") (ys := P.map prTx) (en_str _) (en_lcMA prD (fun p => .str (prTx p)) (fun x _ y _ e => prD_inj e) (js := [1, 2]) (by simp) (it_seq (en_var 0 rfl) (.inr (.inl rfl))) (by have := ok.1; omega) fun m' l p hp => ⟨_, tg_pair, ?_⟩) (.inr (.inl (by rw [List.map_map]; rfl))) ?_) (by unfold hearTx; rw [hne]; rfl)
    · have h1 := (ok.2 p hp).1
      have h2 := (ok.2 p hp).2
      have hl := prTx_le (ok.2 p hp)
      unfold prTx at hl
      rw [Str.length_append, Str.length_append] at hl
      refine en_js (.cons (en_fmtN (en_var 1 rfl) (by omega)) ?_ (.cons (en_str _) ?_ (.cons (en_fmtN (en_var 2 rfl) (by omega)) ?_ .nil)))
      · omega
      · rw [Str.length_append]; omega
      · rw [Str.length_append, Str.length_append]; omega
    · have := sum_le (l := P.map prTx) (c := 10) fun x hx => by
        obtain ⟨p, hp, rfl⟩ := List.mem_map.mp hx
        exact prTx_le (ok.2 p hp)
      have h3 : Str.length (", " : Str) = 2 := by decide
      have := ok.1
      rw [h3]
      rw [List.length_map] at *
      omega
theorem sc_marks_text : FnScope ["marks", "told", "mark"] ["marks"] (defScope s_marks_text) := ⟨rfl, rfl, rfl, by decide +kernel, rfl, by decide +kernel, by decide +kernel⟩
def marksTx (ms : List Nat) : Str := if ms.any (· != 0) then Str.empty ++ "; marks " ++ Txt.join " " (ms.map tx) else ""
theorem marksTx_le {ms : List Nat} {n : Nat} (h : mkOk ms n) : (Txt.join " " (ms.map tx)).length ≤ 100 ∧ ((ms.map tx).map (·.length)).sum ≤ 20 ∧ (marksTx ms).length ≤ 1000 := by
  have hx : ∀ x ∈ ms.map tx, x.length ≤ 4 := fun x hx => by
    obtain ⟨k, hk, rfl⟩ := List.mem_map.mp hx
    exact tx_le (k := 4) (by decide) (by have := h.2.2.2 k hk; omega)
  have h1 := join_le (sep := " ") hx
  have h2 := sum_le hx
  have h3 : Str.length (" " : Str) = 1 := by decide
  rw [List.length_map, h3] at h1
  rw [List.length_map] at h2
  have h4 := h.1
  have h5 := h.2.1
  refine ⟨by omega, by omega, ?_⟩
  unfold marksTx
  split
  · rw [Str.length_append, Str.length_append]
    have h6 : Str.empty.length = 0 := rfl
    have h7 : Str.length ("; marks " : Str) = 8 := by decide
    omega
  · decide
def pre_marks_text (ds : List D) : Prop := ∃ ms n, ds = [tupN ms] ∧ mkOk ms n
def S_marks_text : List D → D → Prop := fun ds d => ∀ ms, ds = [tupN ms] → d = .str (marksTx ms)
theorem ok_marks_text {f : Addr} {fd : FuncData} (Fu : Fun K "marks_text" "marks_text" s_marks_text f fd) (T : Txt K mg C) : FnOk P w K mg base CX0 1 f fd ["marks"] (spS K pre_marks_text S_marks_text) := by
  refine fn_pure Fu sc_marks_text (fun ds h => by obtain ⟨h, n, rfl, _⟩ := h; rfl) fun cdv A outer s H E hr => ⟨_, (pss_cons (ps_if (pt_not (pt_val (pe_callB (r := rAnyS K) (cr_anyS rfl) (by rfl) T.any (by decide +kernel) (pa_cons (pv 0) pa_nil)))) (pss_one (ps_ret pe_str)) pss_nil) (pss_cons (ps_set (i := 1) sc_marks_text.nd rfl (by first | exact Or.inl rfl | exact Or.inr rfl) (pe_join pe_str (pe_lc (own := [("mark", 2)]) rfl sc_marks_text.nd (show PI _ _ _ (iSeq K _) from pi_seq (pv 0)) (blkOk_by (by kernel_rfl)) (fun _ _ _ _ _ => (pg_name (i := 2) sc_marks_text.nd rfl (by first | exact Or.inl rfl | exact Or.inr rfl))) (fun _ _ _ _ _ => pts_nil) (fun _ _ _ _ _ => (pe_callTy cr_strI (by rfl) T.str (by decide +kernel) (pa_cons (pv 2) pa_nil)))))) (pss_one (ps_ret (pe_joined (PJ.cons pe_str (PJ.cons (pe_fmt (pv 1)) PJ.nil))))))), fun F ds hp => ?_⟩
  obtain ⟨ms, n, rfl, ok⟩ := hp
  have hS : S_marks_text [tupN ms] (.str (marksTx ms)) := fun P' e => by injection e with e1; rw [tupN_inj e1]
  obtain ⟨b1, b2, b3⟩ := marksTx_le ok
  have ha : ((ms.map fun k : Nat => (k : Int)).any (· != 0)) = ms.any (· != 0) := by
    rw [List.any_map]
    congr 1
    funext x
    show ((x : Int) != 0) = (x != 0)
    by_cases q : x = 0
    · subst q; rfl
    · have : (x : Int) ≠ 0 := by omega
      rw [bne_iff_ne.mpr this, bne_iff_ne.mpr q]
  refine sg_seqIf (b := !(ms.any (· != 0))) (et_not (et_B (Ev1.is (en_cb1 (ea_cons (en_var 0 (by show some (some (D.tup _)) = _; rw [dN_ints])) ea_nil) c_anyI) (by rw [ha])))) (fun e => ?_) (fun e => ?_)
  · refine sg_ret (d := .str "") (en_str _) ?_
    have e : ms.any (· != 0) = false := by simpa using e
    have : marksTx ms = "" := by unfold marksTx; rw [e]; rfl
    rw [← this]
    exact hS
  · have e : ms.any (· != 0) = true := by simpa using e
    have h3 : Str.length (" " : Str) = 1 := by decide
    have h4 := ok.1
    have h5 := ok.2.1
    refine sq_asg (d := .str (Txt.join " " (ms.map tx))) (en_join (sep := " ") (en_str _) (en_lcMA dN (fun k => .str (tx k)) (fun x _ y _ e => dN_inj e) (js := [2]) (by simp) (it_seq (en_var 0 rfl) (.inl rfl)) (by omega) fun m' l k hk => ⟨_, tg_name 2, en_cb1 (ea_cons (en_var 2 rfl) ea_nil) (c_strN (by have := ok.2.2.2 k hk; omega))⟩) (.inr (.inl (by rw [List.map_map]; rfl))) (by rw [List.length_map, h3]; omega)) ?_
    have hl : marksTx ms = Str.empty ++ "; marks " ++ Txt.join " " (ms.map tx) := by unfold marksTx; rw [e]; rfl
    refine sg_ret (d := .str (marksTx ms)) ?_ hS
    rw [hl] at b3
    rw [Str.length_append] at b3
    refine Ev1.is (en_js (.cons (en_str _) ?_ (.cons (en_fmtS (en_var 1 rfl) (by omega)) ?_ .nil))) (by rw [hl])
    · omega
    · rw [Str.length_append]; omega
/-! ### the class -/
def own (h : Hd) (t : Nat) : List Nat := (List.range h.length).filter fun x => decide (x = t) || decide (x ∈ rowOf h t)
theorem own_srt {h : Hd} (ok : WebM.Ok h) {t : Nat} (ht : t < h.length) {l : List Nat} (hl : l.Perm (t :: rowOf h t)) : srt (l.map fun k : Nat => (k : Int)) = (own h t).map fun k : Nat => (k : Int) := by
  have nd : (t :: rowOf h t).Nodup := List.nodup_cons.mpr ⟨fun z => (ok.lt t ht t z).2 rfl, (ok.up t ht).imp fun {a b} q => Nat.ne_of_lt q⟩
  have p : (own h t).Perm l := ((List.perm_ext_iff_of_nodup (List.nodup_range.filter _) nd).mpr fun x => by
    rw [List.mem_filter, List.mem_range, List.mem_cons, Bool.or_eq_true, decide_eq_true_iff, decide_eq_true_iff]
    refine ⟨fun z => z.2, fun z => ⟨?_, z⟩⟩
    rcases z with z | z
    · omega
    · exact (ok.lt t ht x z).1).trans hl.symm
  exact (srt_of (p.map _) (cast_lt (List.pairwise_lt_range.filter _))).symm
theorem prs_ok {h : Hd} (ok : WebM.Ok h) : PrOk (prs h) := by
  have h5 := ok.n5
  constructor
  · have go : ∀ l : List Nat, (∀ t ∈ l, t < h.length) → (l.flatMap fun t => (rowOf h t).map fun o => (t, o)).length ≤ l.length * 5 := fun l => by
      induction l with
      | nil => intro _; simp
      | cons a l ih =>
        intro hl
        have h1 := ih fun t ht => hl t (List.mem_cons_of_mem _ ht)
        have h2 := ok.rowlen (hl a List.mem_cons_self)
        rw [List.flatMap_cons, List.length_append, List.length_map, List.length_cons]
        omega
    have := go (List.range h.length) fun t ht => List.mem_range.mp ht
    rw [List.length_range] at this
    unfold prs
    omega
  · intro p hp
    unfold prs at hp
    rw [List.mem_flatMap] at hp
    obtain ⟨t, ht, hp⟩ := hp
    obtain ⟨o, ho, rfl⟩ := List.mem_map.mp hp
    rw [List.mem_range] at ht
    have := (ok.lt t ht o ho).1
    exact ⟨by show t < 10; omega, by show o < 10; omega⟩
def sgL (h : Hd) (ms : List Nat) : List D := (List.range h.length).map fun t => .tup [tupN (own h t), dN (ms.getD t 0)]
abbrev webNs : List Str := ["_heard", "_marks", "_signals", "_roots"]
noncomputable abbrev webXs (h : Hd) (ms : List Nat) : List D := [hdD h, tupN ms, .tup (sgL h ms), tupN (rootsOf h)]
structure WebC (K : PySem.W.Frag) (C : Addr) : Prop where
  cl : Cls K C
  heard : NoAttr K C "_heard"
  marks : NoAttr K C "_marks"
  signals : NoAttr K C "_signals"
  roots : NoAttr K C "_roots"
theorem sc_Web___init : FnScope ["self", "heard", "marks", "thread", "others", "mark"] ["self", "heard", "marks"] (defScope s_Web___init) := ⟨rfl, rfl, rfl, by decide +kernel, rfl, by decide +kernel, by decide +kernel⟩
def zeros (h : Hd) : List Nat := List.replicate h.length 0
theorem zeros_ok {h : Hd} (ok : WebM.Ok h) : mkOk (zeros h) h.length := ⟨List.length_replicate, ok.n5, ok.n1, fun x hx => by rw [(List.mem_replicate.mp hx).2]; decide⟩
def pre_Web (ds : List D) : Prop := ∃ h, WebM.Ok h ∧ (ds = [hdD h, .non] ∨ ∃ ms, ds = [hdD h, tupN ms] ∧ mkOk ms h.length)
def S_Web (ds xs : List D) : Prop := ∀ h, (ds = [hdD h, .non] → xs = webXs h (zeros h)) ∧ ∀ ms, ds = [hdD h, tupN ms] → xs = webXs h ms
theorem hdL {h : Hd} : ((h.map tupN).length : Int) = (h.length : Int) := by rw [List.length_map]
def subR : D → List D
  | .tup [_, .tup r] => r
  | _ => []
def prF (d o : D) : D := match d with
  | .tup [t, _] => .tup [t, o]
  | _ => .non
theorem prs_flat (h : Hd) : ((((List.range h.length).map fun i => D.tup [dN i, tupN (rowOf h i)]).filter fun _ => true).flatMap fun d => ((subR d).filter fun _ => true).map (prF d)) = (prs h).map prD := by
  rw [List.filter_eq_self.mpr (fun _ _ => rfl)]
  unfold prs
  rw [List.flatMap_map, List.map_flatMap]
  congr 1
  funext t
  show (((rowOf h t).map dN).filter fun _ => true).map (fun o => D.tup [dN t, o]) = _
  rw [List.filter_eq_self.mpr (fun _ _ => rfl), List.map_map, List.map_map]
  rfl
theorem sc_pairs_in : FnScope ["heard", "other", "thread", "others"] ["heard"] (defScope s_pairs_in) := ⟨rfl, rfl, rfl, by decide +kernel, rfl, by decide +kernel, by decide +kernel⟩
def S_pairs_in : List D → D → Prop := fun ds d => ∀ (h : Hd), ds = [hdD h] → d = .lst ((prs h).map prD)
theorem ok_pairs_in {f : Addr} {fd : FuncData} (Fu : Fun K "pairs_in" "pairs_in" s_pairs_in f fd) (T : Txt K mg C) : FnOk P w K mg base CX0 1 f fd ["heard"] (spS K pre_roots_of S_pairs_in) := by
  refine fn_pure Fu sc_pairs_in (fun ds h => by obtain ⟨h, rfl, _⟩ := h; rfl) fun cdv A outer s H E hr => ⟨_, (pss_one (ps_ret (pe_lc2 (own := [("thread", 2), ("others", 3), ("other", 1)]) (vs1 := [1]) rfl sc_pairs_in.nd (show PI _ _ _ (iEnumS K _) from pi_enumS rfl T.enumerate (pa_cons (pv 0) pa_nil)) (blkOk_by (by kernel_rfl)) (by decide) (fun _ _ _ _ _ => (show PG _ _ (gTup K 2 (gCons (gName 2) (gCons (gName 3) gNil))) from pg_tup rfl (pgs_cons (pg_name (i := 2) sc_pairs_in.nd rfl (by first | exact Or.inl rfl | exact Or.inr rfl)) (pgs_cons (pg_name (i := 3) sc_pairs_in.nd rfl (by first | exact Or.inl rfl | exact Or.inr rfl)) pgs_nil)))) (fun _ _ _ _ _ => pts_nil) (fun _ _ _ _ _ => (show PI _ _ _ (iSeq K _) from pi_seq (pv 3))) (fun _ _ _ _ _ => (pg_name (i := 1) sc_pairs_in.nd rfl (by first | exact Or.inl rfl | exact Or.inr rfl))) (fun _ _ _ _ _ => pts_nil) (fun _ _ _ _ _ => (pe_tup (pa_cons (pv 2) (pa_cons (pv 1) pa_nil))))))), fun F ds hp => ?_⟩
  obtain ⟨h, rfl, ok⟩ := hp
  have h5 := ok.n5
  refine sg_ret (d := .lst ((prs h).map prD)) ?_ (fun h' e => by injection e with e1; rw [hdD_inj e1])
  refine Ev1.is (en_lc2 (xs := (List.range h.length).map fun i => D.tup [dN i, tupN (rowOf h i)]) (js := [2, 3]) (js1 := [1]) (fun _ => true) subR (fun _ _ => true) prF (by simp) (by simp) (by simp) (it_enumH (ea_cons (en_var 0 rfl) ea_nil)) 5 (fun d hd => ?_) (by rw [List.length_map, List.length_range]; omega) fun m' l d hd => ?_) (by rw [prs_flat])
  · obtain ⟨t, ht, rfl⟩ := List.mem_map.mp hd
    rw [List.mem_range] at ht
    show ((rowOf h t).map dN).length ≤ 5
    rw [List.length_map]
    exact ok.rowlen ht
  · obtain ⟨t, ht, rfl⟩ := List.mem_map.mp hd
    exact ⟨_, tg_pair, et_yes, fun _ => ⟨itx_seq (en_var 3 rfl) (.inl rfl), fun d1 hd1 => ⟨_, tg_name 1, et_yes, fun _ => en_tup (ea_cons (en_var 2 rfl) (ea_cons (en_var 1 rfl) ea_nil)) (by simp)⟩⟩⟩
theorem enumZ_is {h : Hd} {ms : List Nat} (e : ms.length = h.length) : enumD (zipD (h.map tupN) (ms.map dN)) = (List.range h.length).map fun i => D.tup [dN i, .tup [tupN (rowOf h i), dN (ms.getD i 0)]] := by
  refine List.ext_getElem? fun i => ?_
  by_cases hi : i < h.length
  · rw [List.getElem?_map, List.getElem?_range hi]
    refine enumD_at (zipD_at ?_ ?_)
    · rw [List.getElem?_map, row_at hi]; rfl
    · rw [List.getElem?_map, List.getD_eq_getElem?_getD, List.getElem?_eq_getElem (by omega)]; rfl
  · rw [List.getElem?_eq_none (by rw [enumD_len, zipD_len, List.length_map, List.length_map]; omega), List.getElem?_eq_none (by rw [List.length_map, List.length_range]; omega)]
theorem ok_Web_init {f : Addr} {fd : FuncData} (Fu : FunD K "__init__" "Web.__init__" (defArgs s_Web___init) (defBody s_Web___init) (defScope s_Web___init) [.non] [] f fd) (T : Txt K mg C) (W : WebC K C)
    (c_is_hearing : C8.Cal P w K mg base 4 "is_hearing" (spF K pre_is_hearing fun _ => .bl true) [])
    (c_is_marking : C8.Cal P w K mg base 3 "is_marking" (spF K pre_is_marking fun _ => .bl true) [])
    (c_roots_of : C8.Cal P w K mg base 2 "roots_of" (spS K pre_roots_of S_roots_of) []) : FnOk P w K mg base CX0 5 f fd ["self", "heard", "marks"] (spIS K C pre_Web webNs S_Web) := by
  refine fn_init Fu sc_Web___init (fun ds h => by obtain ⟨h, _, rfl | ⟨ms, rfl, _⟩⟩ := h <;> rfl) fun cdv A outer s H E hr => ⟨_, (pss_cons (ps_if (PW.pt (pw_or (pt_not (pt_val (C8.pe_c c_is_hearing hr (by decide) rfl (pa_cons (pv 1) pa_nil)))) (pw_or1 (pt_not (pt_val (C8.pe_c c_is_marking hr (by decide) rfl (pa_cons (pv 2) (pa_cons (pe_callB (r := rLenS K) cr_len (by rfl) T.len (by decide +kernel) (pa_cons (pv 1) pa_nil)) pa_nil)))))))) (pss_one ps_never) pss_nil) (pss_cons (ps_fld (pv 0) (pv 1) rfl) (pss_cons (ps_fld (pv 0) (pe_ifExp (pt_cmp (pc_isN (pv 2)) rfl) (pe_op (r := rMulU K) op_mulU (pe_tup (pa_cons pe_int pa_nil)) (pe_callB (r := rLenS K) cr_len (by rfl) T.len (by decide +kernel) (pa_cons (pv 1) pa_nil))) (pv 2)) rfl) (pss_cons (ps_fld (pv 0) (pe_callTy (r := rTup K) cr_tup (by rfl) T.tuple (by decide +kernel) (pa_cons (pe_lc (own := [("thread", 3), ("others", 4), ("mark", 5)]) rfl sc_Web___init.nd (show PI _ _ _ (iEnumZ K _) from pi_enumZ rfl T.enumerate rfl T.zip (pa_cons (pv 1) (pa_cons (show PE _ _ (tFld K _ "_marks") from pe_fld (pv 0) rfl) pa_nil))) (blkOk_by (by kernel_rfl)) (fun _ _ _ _ _ => (show PG _ _ (gTup K 2 (gCons (gName 3) (gCons (gTup K 2 (gCons (gName 4) (gCons (gName 5) gNil))) gNil))) from pg_tup rfl (pgs_cons (pg_name (i := 3) sc_Web___init.nd rfl (by first | exact Or.inl rfl | exact Or.inr rfl)) (pgs_cons (show PG _ _ (gTup K 2 (gCons (gName 4) (gCons (gName 5) gNil))) from pg_tup rfl (pgs_cons (pg_name (i := 4) sc_Web___init.nd rfl (by first | exact Or.inl rfl | exact Or.inr rfl)) (pgs_cons (pg_name (i := 5) sc_Web___init.nd rfl (by first | exact Or.inl rfl | exact Or.inr rfl)) pgs_nil))) pgs_nil)))) (fun _ _ _ _ _ => pts_nil) (fun _ _ _ _ _ => (pe_tup (pa_cons (pe_callTy (r := rTup K) cr_tup (by rfl) T.tuple (by decide +kernel) (pa_cons (pe_callB (r := rSortS K) cr_sortS (by rfl) T.sorted (by decide +kernel) (pa_cons (pe_tup (pa_cons (pv 3) (show PA _ _ (StX.tStar K _ _) from StX.pa_star (pv 4) pa_nil))) pa_nil)) pa_nil)) (pa_cons (pv 5) pa_nil))))) pa_nil)) rfl) (pss_one (ps_fld (pv 0) (C8.pe_c c_roots_of hr (by decide) rfl (pa_cons (pv 1) pa_nil)) rfl)))))), fun F x ds hp hF => ?_⟩
  obtain ⟨h, ok, hds⟩ := hp
  have h5 := ok.n5
  have h1 := ok.n1
  -- the marks it gets, the marks it keeps
  obtain ⟨mk, ms, rfl, mok, hmk, hS⟩ : ∃ (mk : D) (ms : List Nat), ds = [hdD h, mk] ∧ mkOk ms h.length ∧ ((mk = .non ∧ ms = zeros h) ∨ mk = tupN ms) ∧ S_Web ds (webXs h ms) := by
    rcases hds with rfl | ⟨ms, rfl, mok⟩
    · refine ⟨_, _, rfl, zeros_ok ok, .inl ⟨rfl, rfl⟩, fun h' => ⟨fun e => ?_, fun ms' e => ?_⟩⟩
      · injection e with e1 _; rw [hdD_inj e1]
      · injection e with _ e2; injection e2 with e2 _; cases e2
    · refine ⟨_, _, rfl, mok, .inr rfl, fun h' => ⟨fun e => ?_, fun ms' e => ?_⟩⟩
      · injection e with _ e2; injection e2 with e2 _; cases e2
      · injection e with e1 e2; injection e2 with e2 _; rw [hdD_inj e1, tupN_inj e2]
  have pmk : pre_is_marking [mk, .int (h.length : Int)] := by
    rcases hmk with ⟨rfl, _⟩ | rfl
    · exact ⟨_, .inl rfl⟩
    · exact ⟨_, .inr ⟨_, rfl, mok⟩⟩
  refine si_if ?_ ?_
  · refine EvT1.is (et_or (p := false) (k := false) (EvT1.is (et_not (et_B (en_callF (ds := [hdD h]) (ea_cons (en_var 1 rfl) ea_nil) ⟨h, rfl, ok⟩))) rfl) fun _ => ?_) rfl
    exact EvT1.is (et_not (et_B (en_callF (ds := [mk, .int (h.length : Int)]) (ea_cons (en_var 2 rfl) (ea_cons (Ev1.is (en_cb1 (ea_cons (en_var 1 rfl) ea_nil) (c_len (.inl rfl))) (by rw [hdL])) ea_nil)) pmk))) rfl
  refine si_fld hF (fun dx fvs => en_var 1 rfl) rfl W.cl W.heard (by decide) (by decide) ?_
  refine si_fld (d := tupN ms) hF (fun dx fvs => ?_) rfl W.cl W.marks (by decide) (by decide) ?_
  · refine en_if1 (k := isNonD mk) (et_B (en_isN (en_var 2 rfl))) (fun e => ?_) (fun e => ?_)
    · rcases hmk with ⟨rfl, rfl⟩ | rfl
      · refine Ev1.is (en_op1 (en_tup (ea_cons (en_int 0) ea_nil) (by decide)) (Ev1.is (en_cb1 (ea_cons (en_var 1 rfl) ea_nil) (c_len (.inl rfl))) (by rw [hdL])) (o_mulT (by simp) (by omega) (by decide))) ?_
        show _ = D.tup ((zeros h).map dN)
        unfold zeros
        rw [Int.toNat_natCast, List.map_replicate]
        congr 1
        generalize h.length = n
        induction n with
        | zero => rfl
        | succ n ih => rw [List.replicate_succ, List.replicate_succ, List.flatten_cons, ih]; rfl
      · cases e
    · rcases hmk with ⟨rfl, rfl⟩ | rfl
      · cases e
      · exact en_var 2 rfl
  refine si_fld (d := .tup (sgL h ms)) hF (fun dx fvs => ?_) rfl W.cl W.signals (by decide) (by decide) ?_
  · have q := it_enumZ (m := instMo F K x C dx ["_heard", "_marks"] fvs [hdD h, tupN ms]) (K := K) (as := h.map tupN) (bs := ms.map dN) (Γ := startG ["self", "heard", "marks", "thread", "others", "mark"] [.adr x, hdD h, mk]) (ea_cons (en_var 1 rfl) (ea_cons (en_fldSelf (f := "_marks") (te := tVar 0) rfl (en_var 0 rfl) W.cl W.marks) ea_nil))
    rw [enumZ_is mok.1] at q
    refine en_cb1 (ea_cons (en_lcMA (fun i => D.tup [dN i, .tup [tupN (rowOf h i), dN (ms.getD i 0)]]) (fun t => .tup [tupN (own h t), dN (ms.getD t 0)]) (fun x _ y _ e => pairN_inj (g := fun i => .tup [tupN (rowOf h i), dN (ms.getD i 0)]) e) (js := [3, 4, 5]) (by simp) q (by rw [List.length_range]; omega) fun m' l t ht => ⟨_, tg_inZ, ?_⟩) ea_nil) (c_tuple (.inr (.inl rfl)))
    rw [List.mem_range] at ht
    have hr5 := ok.rowlen ht
    refine en_tup (ea_cons ?_ (ea_cons (en_var 5 rfl) ea_nil)) (by simp)
    refine Ev1.is (en_cb1 (ea_cons (en_cb1 (ea_cons (en_tup (ea_cons (en_var 3 rfl) (ea_star (en_var 4 rfl) (.inl rfl) ea_nil)) (by simp only [List.length_cons, List.length_append, List.length_map, List.length_nil]; omega)) ea_nil) (c_sorted (ns := (t :: rowOf h t).map fun k : Nat => (k : Int)) (.inl (by rw [← dN_ints, List.append_nil]; rfl)) (by rw [List.length_map, List.length_cons]; omega))) ea_nil) (c_tuple (.inr (.inl rfl)))) ?_
    rw [own_srt ok ht (List.Perm.refl _), ← dN_ints]
  exact si_seqNext (si_fld (d := tupN (rootsOf h)) hF (fun dx fvs => en_call (ds := [hdD h]) (ea_cons (en_var 1 rfl) ea_nil) ⟨h, rfl, ok⟩ fun d hd => hd h rfl) rfl W.cl W.roots (by decide) (by decide) (si_end ⟨rfl, hS⟩))
/-! ### what a web tells -/
noncomputable abbrev webD (C : Addr) (h : Hd) (ms : List Nat) : D := .obj C webNs (webXs h ms)
theorem webD_inj {h h' : Hd} {ms ms' : List Nat} (e : webD C h ms = webD C h' ms') : h = h' ∧ ms = ms' := by
  injection e with _ _ e
  injection e with e1 e
  injection e with e2 e
  exact ⟨hdD_inj e1, tupN_inj e2⟩
structure WOk (h : Hd) (ms : List Nat) : Prop where
  ok : WebM.Ok h
  mok : mkOk ms h.length
def pre_self (C : Addr) (ds : List D) : Prop := ∃ h ms, ds = [webD C h ms] ∧ WOk h ms
def S_self (C : Addr) (g : Hd → List Nat → D) (ds : List D) (d : D) : Prop := ∀ h ms, ds = [webD C h ms] → d = g h ms
theorem s_self {C : Addr} {g : Hd → List Nat → D} {h : Hd} {ms : List Nat} : S_self C g [webD C h ms] (g h ms) := fun h' ms' e => by injection e with e; obtain ⟨rfl, rfl⟩ := webD_inj e; rfl
theorem sc_Web_heard : FnScope ["self"] ["self"] (defScope s_Web_heard) := ⟨rfl, rfl, rfl, by decide +kernel, rfl, by decide +kernel, by decide +kernel⟩
theorem ok_Web_heard {f : Addr} {fd : FuncData} (Fu : Fun K "heard" "Web.heard" s_Web_heard f fd) (T : Txt K mg C) (W : WebC K C) : FnOk P w K mg base CX0 1 f fd ["self"] (spS K (pre_self C) (S_self C (fun h _ => hdD h))) := by
  refine fn_pure Fu sc_Web_heard (fun ds h => by obtain ⟨h, ms, rfl, _⟩ := h; rfl) fun cdv A outer s H E hr => ⟨_, (pss_one (ps_ret (show PE _ _ (tFld K _ "_heard") from pe_fld (pv 0) rfl))), fun F ds hp => ?_⟩
  obtain ⟨h, ms, rfl, wok⟩ := hp
  exact sg_ret (en_fld (en_var 0 rfl) W.cl W.heard rfl) (s_self (g := (fun h _ => hdD h)))
theorem sc_Web_marks : FnScope ["self"] ["self"] (defScope s_Web_marks) := ⟨rfl, rfl, rfl, by decide +kernel, rfl, by decide +kernel, by decide +kernel⟩
theorem ok_Web_marks {f : Addr} {fd : FuncData} (Fu : Fun K "marks" "Web.marks" s_Web_marks f fd) (T : Txt K mg C) (W : WebC K C) : FnOk P w K mg base CX0 1 f fd ["self"] (spS K (pre_self C) (S_self C (fun _ ms => tupN ms))) := by
  refine fn_pure Fu sc_Web_marks (fun ds h => by obtain ⟨h, ms, rfl, _⟩ := h; rfl) fun cdv A outer s H E hr => ⟨_, (pss_one (ps_ret (show PE _ _ (tFld K _ "_marks") from pe_fld (pv 0) rfl))), fun F ds hp => ?_⟩
  obtain ⟨h, ms, rfl, wok⟩ := hp
  exact sg_ret (en_fld (en_var 0 rfl) W.cl W.marks rfl) (s_self (g := (fun _ ms => tupN ms)))
theorem sc_Web_signals : FnScope ["self"] ["self"] (defScope s_Web_signals) := ⟨rfl, rfl, rfl, by decide +kernel, rfl, by decide +kernel, by decide +kernel⟩
theorem ok_Web_signals {f : Addr} {fd : FuncData} (Fu : Fun K "signals" "Web.signals" s_Web_signals f fd) (T : Txt K mg C) (W : WebC K C) : FnOk P w K mg base CX0 1 f fd ["self"] (spS K (pre_self C) (S_self C (fun h ms => .tup (sgL h ms)))) := by
  refine fn_pure Fu sc_Web_signals (fun ds h => by obtain ⟨h, ms, rfl, _⟩ := h; rfl) fun cdv A outer s H E hr => ⟨_, (pss_one (ps_ret (show PE _ _ (tFld K _ "_signals") from pe_fld (pv 0) rfl))), fun F ds hp => ?_⟩
  obtain ⟨h, ms, rfl, wok⟩ := hp
  exact sg_ret (en_fld (en_var 0 rfl) W.cl W.signals rfl) (s_self (g := (fun h ms => .tup (sgL h ms))))
theorem sc_Web_roots : FnScope ["self"] ["self"] (defScope s_Web_roots) := ⟨rfl, rfl, rfl, by decide +kernel, rfl, by decide +kernel, by decide +kernel⟩
theorem ok_Web_roots {f : Addr} {fd : FuncData} (Fu : Fun K "roots" "Web.roots" s_Web_roots f fd) (T : Txt K mg C) (W : WebC K C) : FnOk P w K mg base CX0 1 f fd ["self"] (spS K (pre_self C) (S_self C (fun h _ => tupN (rootsOf h)))) := by
  refine fn_pure Fu sc_Web_roots (fun ds h => by obtain ⟨h, ms, rfl, _⟩ := h; rfl) fun cdv A outer s H E hr => ⟨_, (pss_one (ps_ret (show PE _ _ (tFld K _ "_roots") from pe_fld (pv 0) rfl))), fun F ds hp => ?_⟩
  obtain ⟨h, ms, rfl, wok⟩ := hp
  exact sg_ret (en_fld (en_var 0 rfl) W.cl W.roots rfl) (s_self (g := (fun h _ => tupN (rootsOf h))))
theorem sc_Web_size : FnScope ["self"] ["self"] (defScope s_Web_size) := ⟨rfl, rfl, rfl, by decide +kernel, rfl, by decide +kernel, by decide +kernel⟩
theorem ok_Web_size {f : Addr} {fd : FuncData} (Fu : Fun K "size" "Web.size" s_Web_size f fd) (T : Txt K mg C) (W : WebC K C) : FnOk P w K mg base CX0 1 f fd ["self"] (spS K (pre_self C) (S_self C fun h _ => dN h.length)) := by
  refine fn_pure Fu sc_Web_size (fun ds h => by obtain ⟨h, ms, rfl, _⟩ := h; rfl) fun cdv A outer s H E hr => ⟨_, (pss_one (ps_ret (pe_callB (r := rLenS K) cr_len (by rfl) T.len (by decide +kernel) (pa_cons (show PE _ _ (tFld K _ "_heard") from pe_fld (pv 0) rfl) pa_nil)))), fun F ds hp => ?_⟩
  obtain ⟨h, ms, rfl, wok⟩ := hp
  exact sg_ret (Ev1.is (en_cb1 (ea_cons (en_fld (en_var 0 rfl) W.cl W.heard rfl) ea_nil) (c_len (.inl rfl))) (by rw [hdL])) (s_self (g := fun h _ => dN h.length))
theorem any_cast (ms : List Nat) : ((ms.map fun k : Nat => (k : Int)).any (· != 0)) = ms.any (· != 0) := by
  rw [List.any_map]
  congr 1
  funext x
  show ((x : Int) != 0) = (x != 0)
  by_cases q : x = 0
  · subst q; rfl
  · have : (x : Int) ≠ 0 := by omega
    rw [bne_iff_ne.mpr this, bne_iff_ne.mpr q]
theorem sc_check_number : FnScope ["value", "low", "high"] ["value", "low", "high"] (defScope s_check_number) := ⟨rfl, rfl, rfl, by decide +kernel, rfl, by decide +kernel, by decide +kernel⟩
def pre_check_number (ds : List D) : Prop := ∃ i lo hi : Int, ds = [.int i, .int lo, .int hi] ∧ lo ≤ i ∧ i ≤ hi
theorem ok_check_number {f : Addr} {fd : FuncData} (Fu : Fun K "check_number" "check_number" s_check_number f fd) (T : Txt K mg C) (c_is_number : C8.Cal P w K mg base 1 "is_number" (spF K pre_is_number f_is_number) []) : FnOk P w K mg base CX0 2 f fd ["value", "low", "high"] (spF K pre_check_number fun _ => .non) := by
  refine fn_pure Fu sc_check_number (fun ds h => by obtain ⟨i, lo, hi, rfl, _⟩ := h; rfl) fun cdv A outer s H E hr => ⟨_, (pss_one (ps_if (pt_not (pt_val (C8.pe_c c_is_number hr (by decide) rfl (pa_cons (pv 0) (pa_cons (pv 1) (pa_cons (pv 2) pa_nil)))))) (pss_one ps_never) pss_nil)), fun F ds hp => ?_⟩
  obtain ⟨i, lo, hi, rfl, h1, h2⟩ := hp
  refine sg_if (b := false) (EvT1.is (et_not (et_B (en_callF (ds := [.int i, .int lo, .int hi]) (ea_cons (en_var 0 rfl) (ea_cons (en_var 1 rfl) (ea_cons (en_var 2 rfl) ea_nil))) ⟨_, _, _, rfl, rfl⟩))) ?_) (fun e => nomatch e) (fun _ => sg_next rfl)
  show (!(decide (lo ≤ i) && decide (i ≤ hi))) = false
  rw [decide_eq_true h1, decide_eq_true h2]
  rfl
def pre_th (C : Addr) (ds : List D) : Prop := ∃ h ms t, ds = [webD C h ms, dN t] ∧ WOk h ms ∧ t < h.length
def S_th (C : Addr) (g : Hd → List Nat → Nat → D) (ds : List D) (d : D) : Prop := ∀ h ms t, ds = [webD C h ms, dN t] → d = g h ms t
theorem s_th {C : Addr} {g : Hd → List Nat → Nat → D} {h : Hd} {ms : List Nat} {t : Nat} : S_th C g [webD C h ms, dN t] (g h ms t) := fun h' ms' t' e => by
  injection e with e e2
  injection e2 with e2 _
  obtain ⟨rfl, rfl⟩ := webD_inj e
  rw [dN_inj e2]
def sgAt (h : Hd) (ms : List Nat) (t : Nat) : D := .tup [tupN (own h t), dN (ms.getD t 0)]
theorem sg_at {h : Hd} {ms : List Nat} {t : Nat} (ht : t < h.length) : (sgL h ms)[t]? = some (sgAt h ms t) := by
  unfold sgL
  rw [List.getElem?_map, List.getElem?_range ht]
  rfl
theorem sc_Web_signal : FnScope ["self", "thread"] ["self", "thread"] (defScope s_Web_signal) := ⟨rfl, rfl, rfl, by decide +kernel, rfl, by decide +kernel, by decide +kernel⟩
theorem ok_Web_signal {f : Addr} {fd : FuncData} (Fu : Fun K "signal" "Web.signal" s_Web_signal f fd) (T : Txt K mg C) (W : WebC K C) (c_check_number : C8.Cal P w K mg base 2 "check_number" (spF K pre_check_number fun _ => .non) []) (p_size : C8.PrM P w K mg base 1 C "size" (spS K (pre_self C) (S_self C fun h _ => dN h.length))) :
    FnOk P w K mg base CX0 3 f fd ["self", "thread"] (spS K (pre_th C) (S_th C sgAt)) := by
  refine fn_pure Fu sc_Web_signal (fun ds h => by obtain ⟨h, ms, t, rfl, _⟩ := h; rfl) fun cdv A outer s H E hr => ⟨_, (pss_cons (ps_expr (C8.pe_c c_check_number hr (by decide) rfl (pa_cons (pv 1) (pa_cons pe_int (pa_cons (pe_op op_sub (C8.pe_prM p_size hr (by decide) (pv 0)) pe_int) pa_nil))))) (pss_one (ps_ret (pe_ix (r := rIx K) ix_seq (show PE _ _ (tFld K _ "_signals") from pe_fld (pv 0) rfl) (pv 1) (fun _ _ => rfl))))), fun F ds hp => ?_⟩
  obtain ⟨h, ms, t, rfl, wok, ht⟩ := hp
  refine sg_seq (fun Γ' => Γ' = startG ["self", "thread"] [webD C h ms, dN t]) (sg_drop (en_callF (ds := [dN t, .int 0, .int ((h.length : Int) - 1)]) (ea_cons (en_var 1 rfl) (ea_cons (en_int 0) (ea_cons (en_op1 (en_propN (S := fun d => d = dN h.length) (en_var 0 rfl) ⟨h, ms, rfl, wok⟩ fun d hd => hd h ms rfl) (en_int 1) o_int) ea_nil))) ⟨_, _, _, rfl, by omega, by omega⟩) rfl) ?_
  rintro Γ' rfl
  exact sg_ret (en_op1 (en_fld (en_var 0 rfl) W.cl W.signals rfl) (en_var 1 rfl) (o_ix (.inl rfl) (atI_of (sg_at ht)))) (s_th (g := sgAt))
theorem sc_Web_hears : FnScope ["self", "thread"] ["self", "thread"] (defScope s_Web_hears) := ⟨rfl, rfl, rfl, by decide +kernel, rfl, by decide +kernel, by decide +kernel⟩
theorem ok_Web_hears {f : Addr} {fd : FuncData} (Fu : Fun K "hears" "Web.hears" s_Web_hears f fd) (T : Txt K mg C) (W : WebC K C) (m_signal : C8.Met P w K mg base 3 C "signal" (spS K (pre_th C) (S_th C sgAt)) []) :
    FnOk P w K mg base CX0 4 f fd ["self", "thread"] (spS K (pre_th C) (S_th C fun h _ t => tupN (own h t))) := by
  refine fn_pure Fu sc_Web_hears (fun ds h => by obtain ⟨h, ms, t, rfl, _⟩ := h; rfl) fun cdv A outer s H E hr => ⟨_, (pss_one (ps_ret (pe_ix (r := rIx K) ix_seq (C8.pe_mt m_signal hr (by decide) (pv 0) (pa_cons (pv 1) pa_nil)) pe_int (fun _ _ => rfl)))), fun F ds hp => ?_⟩
  obtain ⟨h, ms, t, rfl, wok, ht⟩ := hp
  refine sg_ret (en_op1 (b := .int 0) (en_methN (S := fun d => d = sgAt h ms t) (T := fun x => x = [dN t]) (en_var 0 rfl) (by decide) (ea_cons (en_var 1 rfl) ea_nil) (fun ds e => by subst e; exact ⟨h, ms, t, rfl, wok, ht⟩) fun ds d e hd => by subst e; exact hd h ms t rfl) (en_int 0) (o_ix (d := tupN (own h t)) (i := 0) (.inl rfl) (atI_of (i := 0) rfl))) (s_th (g := fun h _ t => tupN (own h t)))
end
end K03

set_option Elab.async false
set_option linter.all false
set_option maxRecDepth 100000
set_option maxHeartbeats 4000000
set_option autoImplicit false
namespace K03
open PySem L2 Tx WebM
section
variable {P : Program} {w : World} {K : PySem.W.Frag} {mg : Str → Option Value} {base : Heap} {C : Addr}
/-! ### in, len, ==, str -/
theorem pur_prs (P : List (Nat × Nat)) : ∀ x ∈ P.map prD, pur 1 x = true := fun x hx => by obtain ⟨p, _, rfl⟩ := List.mem_map.mp hx; rfl
theorem any_prs (P : List (Nat × Nat)) (q : Nat × Nat) : ((D.pys (P.map prD)).any fun z => PyData.eqv z (prD q).py) = decide (q ∈ P) := by
  rw [pys_map, List.map_map, List.any_map]
  induction P with
  | nil => simp
  | cons p P ih =>
    rw [List.any_cons, ih]
    obtain ⟨a, b⟩ := p
    obtain ⟨c, d⟩ := q
    have e : PyData.eqv (prD (a, b)).py (prD (c, d)).py = decide ((c, d) = (a, b)) := by
      simp only [D.py, D.pys, PyData.eqv, PyData.eqvAll, Bool.and_true]
      by_cases h1 : a = c
      · by_cases h2 : b = d
        · subst h1; subst h2; simp
        · have : ((b : Int) == (d : Int)) = false := by simp; omega
          rw [this, Bool.and_false]
          exact (decide_eq_false fun z => h2 (by injection z with z1 z2; exact z2.symm)).symm
      · have : ((a : Int) == (c : Int)) = false := by simp; omega
        rw [this, Bool.false_and]
        exact (decide_eq_false fun z => h1 (by injection z with z1 z2; exact z1.symm)).symm
    show (PyData.eqv (prD (a, b)).py (prD (c, d)).py || _) = _
    rw [e]
    by_cases h : (c, d) = (a, b)
    · rw [decide_eq_true h, h]; simp
    · rw [decide_eq_false h]; simp [h]
/-- x in web -/
def conB (h : Hd) (x : D) : Bool := areNum x 0 5 && (D.pys ((prs h).map prD)).any fun z => PyData.eqv z x.py
def pre_con (C : Addr) (ds : List D) : Prop := ∃ h ms x, ds = [webD C h ms, x] ∧ WOk h ms ∧ okT x ∧ (areNum x 0 5 = true → pur 1 x = true)
def S_con (C : Addr) (ds : List D) (d : D) : Prop := ∀ h ms x, ds = [webD C h ms, x] → d = .bl (conB h x)
theorem sc_Web___contains : FnScope ["self", "x"] ["self", "x"] (defScope s_Web___contains) := ⟨rfl, rfl, rfl, by decide +kernel, rfl, by decide +kernel, by decide +kernel⟩
theorem ok_Web_contains {f : Addr} {fd : FuncData} (Fu : Fun K "__contains__" "Web.__contains__" s_Web___contains f fd) (T : Txt K mg C) (W : WebC K C) (c_are_numbers : C8.Cal P w K mg base 2 "are_numbers" (spF K pre_are_numbers f_are_numbers) []) (c_pairs_in : C8.Cal P w K mg base 1 "pairs_in" (spS K pre_roots_of S_pairs_in) []) :
    FnOk P w K mg base CX0 3 f fd ["self", "x"] (spS K (pre_con C) (S_con C)) := by
  refine fn_pure Fu sc_Web___contains (fun ds h => by obtain ⟨h, ms, t, rfl, _⟩ := h; rfl) fun cdv A outer s H E hr => ⟨_, (pss_one (ps_ret (pe_and (C8.pe_c c_are_numbers hr (by decide) rfl (pa_cons (pv 1) (pa_cons pe_int (pa_cons (C8.pe_gc rfl T.k_MAX_THREADS) pa_nil)))) (pe_one (pe_cmpR (r := rInS K false) (op_inS (hu65 hr)) (pv 1) (C8.pe_c c_pairs_in hr (by decide) rfl (pa_cons (show PE _ _ (tFld K _ "_heard") from pe_fld (pv 0) rfl) pa_nil)) (by rfl)))))), fun F ds hp => ?_⟩
  obtain ⟨h, ms, x, rfl, wok, hx, hq⟩ := hp
  refine sg_ret (d := .bl (conB h x)) (en_and (en_callF (ds := [x, .int 0, .int 5]) (ea_cons (en_var 1 rfl) (ea_cons (en_int 0) (ea_cons (en_int 5) ea_nil))) ⟨_, _, _, rfl, hx⟩) fun e => ?_) (fun h' ms' x' e => ?_)
  · exact en_op1 (en_var 1 rfl) (en_call (S := fun d => d = .lst ((prs h).map prD)) (ds := [hdD h]) (ea_cons (en_fld (en_var 0 rfl) W.cl W.heard rfl) ea_nil) ⟨h, rfl, wok.ok⟩ fun d hd => hd h rfl) (o_inP (neg := false) (n := 1) (by decide) (.inr (.inl rfl)) (hq e) (pur_prs _))
  · injection e with e e2
    injection e2 with e2 _
    obtain ⟨rfl, rfl⟩ := webD_inj e
    rw [e2]
theorem sc_Web___len : FnScope ["self"] ["self"] (defScope s_Web___len) := ⟨rfl, rfl, rfl, by decide +kernel, rfl, by decide +kernel, by decide +kernel⟩
theorem ok_Web_len {f : Addr} {fd : FuncData} (Fu : Fun K "__len__" "Web.__len__" s_Web___len f fd) (T : Txt K mg C) (W : WebC K C) (c_pairs_in : C8.Cal P w K mg base 1 "pairs_in" (spS K pre_roots_of S_pairs_in) []) : FnOk P w K mg base CX0 2 f fd ["self"] (spS K (pre_self C) (S_self C fun h _ => dN (prs h).length)) := by
  refine fn_pure Fu sc_Web___len (fun ds h => by obtain ⟨h, ms, rfl, _⟩ := h; rfl) fun cdv A outer s H E hr => ⟨_, (pss_one (ps_ret (pe_callB (r := rLenS K) cr_len (by rfl) T.len (by decide +kernel) (pa_cons (C8.pe_c c_pairs_in hr (by decide) rfl (pa_cons (show PE _ _ (tFld K _ "_heard") from pe_fld (pv 0) rfl) pa_nil)) pa_nil)))), fun F ds hp => ?_⟩
  obtain ⟨h, ms, rfl, wok⟩ := hp
  exact sg_ret (Ev1.is (en_cb1 (ea_cons (en_call (S := fun d => d = .lst ((prs h).map prD)) (ds := [hdD h]) (ea_cons (en_fld (en_var 0 rfl) W.cl W.heard rfl) ea_nil) ⟨h, rfl, wok.ok⟩ fun d hd => hd h rfl) ea_nil) (c_len (.inr (.inl rfl)))) (by rw [List.length_map])) (s_self (g := fun h _ => dN (prs h).length))
theorem pur_hd (h : Hd) : pur 2 (hdD h) = true := pur_tup fun x hx => by obtain ⟨l, _, rfl⟩ := List.mem_map.mp hx; exact pur_N l
/-- web == other -/
def eqW (h : Hd) (ms : List Nat) (h' : Hd) (ms' : List Nat) : Bool := PyData.eqv (hdD h).py (hdD h').py && PyData.eqv (tupN ms).py (tupN ms').py
def pre_eq (C : Addr) (ds : List D) : Prop := ∃ h ms x, ds = [webD C h ms, x] ∧ WOk h ms ∧ ((∃ h' ms', x = webD C h' ms' ∧ WOk h' ms') ∨ ∃ xs, x = .tup xs)
def S_eq (C : Addr) (ds : List D) (d : D) : Prop := (∀ h ms h' ms', ds = [webD C h ms, webD C h' ms'] → d = .bl (eqW h ms h' ms')) ∧ ∀ h ms xs, ds = [webD C h ms, .tup xs] → d = .bl false
theorem sc_Web___eq : FnScope ["self", "other"] ["self", "other"] (defScope s_Web___eq) := ⟨rfl, rfl, rfl, by decide +kernel, rfl, by decide +kernel, by decide +kernel⟩
theorem ok_Web_eq {f : Addr} {fd : FuncData} (Fu : Fun K "__eq__" "Web.__eq__" s_Web___eq f fd) (T : Txt K mg C) (W : WebC K C) (ic : C8.InsC K C) (nt : PySem.W.kitOne K (.type "tuple") (.ref C) = some false) : FnOk P w K mg base CX0 1 f fd ["self", "other"] (spS K (pre_eq C) (S_eq C)) := by
  refine fn_pure Fu sc_Web___eq (fun ds h => by obtain ⟨h, ms, t, rfl, _⟩ := h; rfl) fun cdv A outer s H E hr => ⟨_, (pss_one (ps_ret (pe_and (pe_callB (r := rIsi K) call_isi (by rfl) T.isinstance (by decide +kernel) (pa_cons (pv 1) (pa_cons (C8.pe_gc (v := .ref C) rfl ⟨_, T.g_Web, rfl⟩) pa_nil))) (pe_and (pe_cmpR (r := rEqD K) (op_eqD hr.units) (show PE _ _ (tFld K _ "_heard") from pe_fld (pv 0) rfl) (show PE _ _ (tFld K _ "_heard") from pe_fld (pv 1) rfl) (nomark _)) (pe_one (pe_cmpR (r := rEqD K) (op_eqD hr.units) (show PE _ _ (tFld K _ "_marks") from pe_fld (pv 0) rfl) (show PE _ _ (tFld K _ "_marks") from pe_fld (pv 1) rfl) (nomark _))))))), fun F ds hp => ?_⟩
  obtain ⟨h, ms, x, rfl, wok, ⟨h', ms', rfl, wok'⟩ | ⟨xs, rfl⟩⟩ := hp
  · refine sg_ret (d := .bl (eqW h ms h' ms')) (Ev1.is (en_and (p := true) (k := eqW h ms h' ms') (en_isiC (en_var 1 rfl) ic) fun _ => en_and ?_ fun _ => ?_) rfl) ⟨fun h1 ms1 h2 ms2 e => ?_, fun h1 ms1 xs e => ?_⟩
    · exact en_op1 (en_fld (en_var 0 rfl) W.cl W.heard rfl) (en_fld (en_var 1 rfl) W.cl W.heard rfl) (o_eqP (n := 2) (by decide) (pur_hd h) (pur_hd h'))
    · exact en_op1 (en_fld (en_var 0 rfl) W.cl W.marks rfl) (en_fld (en_var 1 rfl) W.cl W.marks rfl) (o_eqP (n := 1) (by decide) (pur_N ms) (pur_N ms'))
    · injection e with e e2
      injection e2 with e2 _
      obtain ⟨rfl, rfl⟩ := webD_inj e
      obtain ⟨rfl, rfl⟩ := webD_inj e2
      rfl
    · injection e with e e2
      injection e2 with e2 _
      cases e2
  · refine sg_ret (d := .bl false) (Ev1.is (en_and (p := false) (k := false) (en_isiN (en_var 1 rfl) rfl nt) fun e => nomatch e) rfl) ⟨fun h1 ms1 h2 ms2 e => ?_, fun h1 ms1 xs e => rfl⟩
    injection e with e e2
    injection e2 with e2 _
    cases e2
theorem sc_Web___str : FnScope ["self"] ["self"] (defScope s_Web___str) := ⟨rfl, rfl, rfl, by decide +kernel, rfl, by decide +kernel, by decide +kernel⟩
def webTx (h : Hd) (ms : List Nat) : Str := Str.empty ++ "web of " ++ tx h.length ++ " threads: " ++ hearTx (prs h) ++ marksTx ms
theorem ok_Web_str {f : Addr} {fd : FuncData} (Fu : Fun K "__str__" "Web.__str__" s_Web___str f fd) (T : Txt K mg C) (W : WebC K C) (c_pairs_in : C8.Cal P w K mg base 1 "pairs_in" (spS K pre_roots_of S_pairs_in) []) (c_hearing_text : C8.Cal P w K mg base 1 "hearing_text" (spS K pre_hearing_text S_hearing_text) []) (c_marks_text : C8.Cal P w K mg base 1 "marks_text" (spS K pre_marks_text S_marks_text) []) : FnOk P w K mg base CX0 2 f fd ["self"] (spS K (pre_self C) (S_self C fun h ms => .str (webTx h ms))) := by
  refine fn_pure Fu sc_Web___str (fun ds h => by obtain ⟨h, ms, rfl, _⟩ := h; rfl) fun cdv A outer s H E hr => ⟨_, (pss_one (ps_ret (pe_joined (PJ.cons pe_str (PJ.cons (pe_fmt (pe_callB (r := rLenS K) cr_len (by rfl) T.len (by decide +kernel) (pa_cons (show PE _ _ (tFld K _ "_heard") from pe_fld (pv 0) rfl) pa_nil))) (PJ.cons pe_str (PJ.cons (pe_fmt (C8.pe_c c_hearing_text hr (by decide) rfl (pa_cons (C8.pe_c c_pairs_in hr (by decide) rfl (pa_cons (show PE _ _ (tFld K _ "_heard") from pe_fld (pv 0) rfl) pa_nil)) pa_nil))) (PJ.cons (pe_fmt (C8.pe_c c_marks_text hr (by decide) rfl (pa_cons (show PE _ _ (tFld K _ "_marks") from pe_fld (pv 0) rfl) pa_nil))) PJ.nil)))))))), fun F ds hp => ?_⟩
  obtain ⟨h, ms, rfl, wok⟩ := hp
  have po := prs_ok wok.ok
  have l1 := hearTx_le po
  have l2 := (marksTx_le wok.mok).2.2
  have l3 : (tx h.length).length ≤ 1 := tx_le (by decide) (by have := wok.ok.n5; omega)
  have l4 : Str.empty.length = 0 := rfl
  have l5 : Str.length ("web of " : Str) = 7 := by decide
  have l6 : Str.length (" threads: " : Str) = 10 := by decide
  refine sg_ret (en_js (.cons (en_str _) ?_ (.cons (en_fmtN (n := h.length) (Ev1.is (en_cb1 (ea_cons (en_fld (en_var 0 rfl) W.cl W.heard rfl) ea_nil) (c_len (.inl rfl))) (by rw [hdL])) (by have := wok.ok.n5; omega)) ?_ (.cons (en_str _) ?_
    (.cons (en_fmtS (en_call (S := fun d => d = .str (hearTx (prs h))) (ds := [.lst ((prs h).map prD)]) (ea_cons (en_call (S := fun d => d = .lst ((prs h).map prD)) (ds := [hdD h]) (ea_cons (en_fld (en_var 0 rfl) W.cl W.heard rfl) ea_nil) ⟨h, rfl, wok.ok⟩ fun d hd => hd h rfl) ea_nil) ⟨_, rfl, po⟩ fun d hd => hd _ rfl) (by omega)) ?_ (.cons (en_fmtS (en_call (S := fun d => d = .str (marksTx ms)) (ds := [tupN ms]) (ea_cons (en_fld (en_var 0 rfl) W.cl W.marks rfl) ea_nil) ⟨_, _, rfl, wok.mok⟩ fun d hd => hd _ rfl) (by omega)) ?_ .nil)))))) (s_self (g := fun h ms => .str (webTx h ms)))
  all_goals simp only [Str.length_append]; omega
end
end K03

set_option Elab.async false
set_option linter.all false
set_option maxRecDepth 100000
set_option maxHeartbeats 4000000
set_option autoImplicit false
namespace K03
open PySem L2 Tx WebM
section
variable {P : Program} {w : World} {K : PySem.W.Frag} {mg : Str → Option Value} {base : Heap} {C : Addr}
theorem sc_law_pouch : FnScope ["_law_script", "_law_at", "_law_cell", "_law_great", "_law_start"] ["_law_script", "_law_at"] (defScope s_law_pouch) := ⟨rfl, rfl, rfl, by decide +kernel, rfl, by decide +kernel, by decide +kernel⟩
def pre_pouch (xs : List Int) (i : Int) : Prop := ∃ n : Nat, i = n ∧ n ≤ 100
theorem ok_law_pouch {f : Addr} {fd : FuncData} (Fu : Fun K "_law_pouch" "_law_pouch" s_law_pouch f fd) (T : Txt K mg C) : FnOk P w K mg base CX0 1 f fd ["_law_script", "_law_at"] (spNew K pre_pouch) := by
  refine fn_new Fu sc_law_pouch rfl fun cdv A outer s H E hr => ⟨_, (pss_cons (ps_set (i := 2) sc_law_pouch.nd rfl (by first | exact Or.inl rfl | exact Or.inr rfl) (pe_ifExp (pt_cmpR op_lt (pv 1) (pe_callB (r := rLenS K) cr_len (by rfl) T.len (by decide +kernel) (pa_cons (pv 0) pa_nil)) (nomark _)) (pe_callTy cr_int (by rfl) T.int (by decide +kernel) (pa_cons (pe_ix (r := rIx K) ix_seq (pv 0) (pv 1) (fun _ _ => rfl)) pa_nil)) (pe_op (r := rAddU K) op_addU (pe_op (r := rMulU K) op_mulU pe_int (pv 1)) pe_int))) (pss_cons (ps_set (i := 3) sc_law_pouch.nd rfl (by first | exact Or.inl rfl | exact Or.inr rfl) (pe_op op_mod (pe_callB cr_abs (by rfl) T.abs (by decide +kernel) (pa_cons (pv 2) pa_nil)) (pe_op op_pow pe_int pe_int))) (pss_cons (ps_set (i := 4) sc_law_pouch.nd rfl (by first | exact Or.inl rfl | exact Or.inr rfl) (pe_op (r := rAddU K) op_addU (pe_op (r := rAddU K) op_addU (pe_op (r := rAddU K) op_addU (pe_op (r := rMulU K) op_mulU (pe_op op_mod (pv 3) pe_int) pe_int) (pe_op (r := rMulU K) op_mulU pe_int (pv 1))) (pe_op (r := rMulU K) op_mulU pe_int (pe_callTy cr_int (by rfl) T.int (by decide +kernel) (pa_cons (pe_cmpR op_lt (pv 2) pe_int (nomark _)) pa_nil)))) pe_int)) (pss_one (ps_ret (pe_lst (pa_cons (pe_op op_mod (pe_callB (r := rMaxU K) (cr_maxU rfl hr.units) (by rfl) T.max (by decide +kernel) (pa_cons pe_int (pa_cons (pe_op op_sub (pe_callB cr_abs (by rfl) T.abs (by decide +kernel) (pa_cons (pv 2) pa_nil)) (pe_op op_pow pe_int pe_int)) pa_nil))) (pe_op (r := rMulU K) op_mulU (pe_op op_pow pe_int pe_int) (pe_op op_pow pe_int pe_int))) (pa_cons (pv 4) (pa_cons pe_int pa_nil))))))))), fun F xs i hp => ?_⟩
  obtain ⟨n, rfl, hn⟩ := hp
  refine sq_asgN (S := isI) ?_ ?_
  · refine en_if1 (k := decide ((n : Int) < ((xs.map D.int).length : Int))) (et_test (en_op1 (en_var 1 rfl) (en_cb1 (ea_cons (en_var 0 rfl) ea_nil) (c_len (.inr (.inr rfl)))) o_bl)) (fun e => ?_) (fun e => ?_)
    · have e := of_decide_eq_true e
      have hl : n < (xs.map D.int).length := by omega
      have hx : ∃ x : Int, (xs.map D.int)[n]? = some (.int x) := by
        rw [List.length_map] at hl
        exact ⟨xs[n], by rw [List.getElem?_map, List.getElem?_eq_getElem hl]; rfl⟩
      obtain ⟨x, hx⟩ := hx
      exact en_intN (Ev1.n (en_op1 (en_var 0 rfl) (en_var 1 rfl) (o_ix (.inr (.inr rfl)) (atI_of hx))) ⟨x, rfl⟩) fun _ s => s
    · exact en_addN (en_mulN (A := fun d => d = .int 53) (B := isI) (en_int 53) (Ev1.n (en_var 1 rfl) ⟨_, rfl⟩) fun a b sa ⟨j, sb⟩ => ⟨53, j, sa, sb, .inl (by decide)⟩) (Ev1.n (en_int 29) ⟨_, rfl⟩)
  rintro _ ⟨c, rfl⟩
  refine sq_asgN (S := isI) ((en_modN (Ev1.n (en_cb1 (ea_cons (en_var 2 rfl) ea_nil) c_abs) ⟨_, rfl⟩) (en_op1 (en_int 10) (en_int 57) (o_intC (g := fun i j => i ^ j.toNat) (by unfold CPow; decide))) (by decide)).mono fun d s => s.isI) ?_
  rintro _ ⟨g, rfl⟩
  refine sq_asgN (S := isI) ?_ ?_
  · refine en_addN (en_addN (en_addN (en_mulN (A := inI 0 4611686018427387847) (B := fun d => d = .int 31) (en_modN (Ev1.n (en_var 3 rfl) ⟨_, rfl⟩) (en_int _) (by decide)) (en_int 31) fun a b ⟨x, hx, _⟩ sb => ⟨x, 31, hx, sb, .inr (by decide)⟩) (en_mulN (A := fun d => d = .int 1009) (B := isI) (en_int 1009) (Ev1.n (en_var 1 rfl) ⟨_, rfl⟩) fun a b sa ⟨j, sb⟩ => ⟨1009, j, sa, sb, .inl (by decide)⟩)) (en_mulN (A := fun d => d = .int 23) (B := isI) (en_int 23) ?_ fun a b sa ⟨j, sb⟩ => ⟨23, j, sa, sb, .inl (by decide)⟩)) (Ev1.n (en_int 5) ⟨_, rfl⟩)
    exact Ev1.n (en_cb1 (ea_cons (en_op1 (en_var 2 rfl) (en_int 0) o_bl) ea_nil) c_intB) ⟨_, rfl⟩
  rintro _ ⟨st, rfl⟩
  refine sg_retN (en_lstN (T := fun ds => ∃ a b c : Int, ds = [.int a, .int b, .int c]) (ea_consN (S := isI) ?_ (ea_cons (en_var 4 rfl) (ea_cons (en_int 0) ea_nil)) fun d ds ⟨a, ha⟩ e => ⟨a, st, 0, by rw [ha, e]⟩) fun ds ⟨a, b, c, e⟩ => by rw [e]; simp) fun d ⟨ds, e, a, b, c, e2⟩ => ⟨a, b, c, by rw [e, e2]⟩
  refine (en_modN (n := 10 ^ 60 * 10 ^ 60) (Ev1.n (en_cb1 (ea_cons (en_int 0) (ea_cons (en_op1 (en_cb1 (ea_cons (en_var 2 rfl) ea_nil) c_abs) (en_op1 (en_int 10) (en_int 17) (o_intC (g := fun i j => i ^ j.toNat) (by unfold CPow; decide))) o_int) ea_nil)) c_max2) ⟨_, rfl⟩) (Ev1.is (en_op1 (en_op1 (en_int 10) (en_int 60) (o_intC (g := fun i j => i ^ j.toNat) (by unfold CPow; decide))) (en_op1 (en_int 10) (en_int 60) (o_intC (g := fun i j => i ^ j.toNat) (by unfold CPow; decide))) (o_mulW (by unfold CMulW; decide +kernel))) (by rfl)) (by decide)).mono fun d s => s.isI
theorem sc_law_coin : FnScope ["_law_pouch_here", "_law_total", "_law_one", "_law_two", "_law_found"] ["_law_pouch_here", "_law_total"] (defScope s_law_coin) := ⟨rfl, rfl, rfl, by decide +kernel, rfl, by decide +kernel, by decide +kernel⟩
def pre_coin (ds : List D) : Prop := ∃ n : Int, ds = [.int n] ∧ 0 < n ∧ n < 1000
def S_coin (ds : List D) (d : D) : Prop := ∀ n : Int, ds = [.int n] → inI 0 n d
theorem ok_law_coin {f : Addr} {fd : FuncData} (Fu : Fun K "_law_coin" "_law_coin" s_law_coin f fd) (T : Txt K mg C) : FnOk P w K mg base CX0 1 f fd ["_law_pouch_here", "_law_total"] (spP K pre_coin S_coin) := by
  refine fn_pouch Fu sc_law_coin (fun ds h => by obtain ⟨n, rfl, _⟩ := h; rfl) fun cdv A outer s H E hr => ⟨_, (pss_cons (ps_if (pt_cmpR op_gt (pe_ix (r := rIx K) ix_seq (pv 0) pe_int (fun _ _ => rfl)) pe_int (nomark _)) (pss_cons (ps_set (i := 4) sc_law_coin.nd rfl (by first | exact Or.inl rfl | exact Or.inr rfl) (pe_op op_mod (pe_callTy cr_int (by rfl) T.int (by decide +kernel) (pa_cons (pe_ix (r := rIx K) ix_seq (pv 0) pe_int (fun _ _ => rfl)) pa_nil)) (pv 1))) (pss_cons (ps_asg (pe_op op_fdiv (pe_ix (r := rIx K) ix_seq (pv 0) pe_int (fun _ _ => rfl)) (pv 1)) (pg_sub (pv 0) pe_int set_list)) (pss_one (ps_ret (pv 4))))) pss_nil) (pss_cons (ps_asg (pe_op (r := rAddU K) op_addU (pe_ix (r := rIx K) ix_seq (pv 0) pe_int (fun _ _ => rfl)) pe_int) (pg_sub (pv 0) pe_int set_list)) (pss_cons (ps_set (i := 2) sc_law_coin.nd rfl (by first | exact Or.inl rfl | exact Or.inr rfl) (pe_op op_mod (pe_callTy cr_int (by rfl) T.int (by decide +kernel) (pa_cons (pe_op (r := rAddU K) op_addU (pe_ix (r := rIx K) ix_seq (pv 0) pe_int (fun _ _ => rfl)) (pe_op (r := rMulU K) op_mulU pe_int (pe_ix (r := rIx K) ix_seq (pv 0) pe_int (fun _ _ => rfl)))) pa_nil)) pe_int)) (pss_cons (ps_set (i := 3) sc_law_coin.nd rfl (by first | exact Or.inl rfl | exact Or.inr rfl) (pe_op op_mod (pe_callTy cr_int (by rfl) T.int (by decide +kernel) (pa_cons (pe_op (r := rAddU K) op_addU (pe_op (r := rMulU K) op_mulU (pv 2) (pv 2)) (pe_op (r := rMulU K) op_mulU pe_int (pe_ix (r := rIx K) ix_seq (pv 0) pe_int (fun _ _ => rfl)))) pa_nil)) pe_int)) (pss_one (ps_ret (pe_op op_mod (pe_callTy cr_int (by rfl) T.int (by decide +kernel) (pa_cons (pe_op op_fdiv (pe_callTy cr_int (by rfl) T.int (by decide +kernel) (pa_cons (pe_op (r := rAddU K) op_addU (pe_op (r := rMulU K) op_mulU (pv 3) pe_int) (pv 2)) pa_nil)) pe_int) pa_nil)) (pv 1)))))))), fun p F ds hp => ?_⟩
  obtain ⟨n, rfl, h0, h1⟩ := hp
  have HP := HasP.self p F
  have hS : ∀ d, inI 0 n d → S_coin [.int n] d := fun d h n' e => by injection e with e; injection e with e; rw [← e]; exact h
  have hm : ∀ k : Int, -(2 ^ 64) < k → k < 2 ^ 64 → ∀ a b, a = D.int k → isI b → ∃ i j, a = .int i ∧ b = .int j ∧ CMul i j := fun k k0 k1 a b e ⟨j, hb⟩ => ⟨k, j, e, hb, .inl ⟨k0, k1⟩⟩
  refine sg_seq (fun Γ' => Γ' = startG ["_law_pouch_here", "_law_total", "_law_one", "_law_two", "_law_found"] [.adr p, .int n]) (sg_ifN (T := fun _ => True) (et_testN (en_op (Sb := fun d => d = .int 0) (en_pIx HP (en_var 0 rfl) (by decide)) (en_int 0) fun a b ⟨x, sa⟩ sb => by subst sa; subst sb; exact OpN.mono o_bl fun d e => ⟨_, e, trivial⟩)) (fun _ => ?_) (fun _ => sg_next rfl)) ?_
  · refine sq_asgN (en_modN (en_intN (en_pIx HP (en_var 0 rfl) (by decide)) fun _ s => s) (en_var 1 rfl) h0) fun d hd => ?_
    refine sq_pSet HP (en_fdivN (en_pIx HP (en_var 0 rfl) (by decide)) (en_var 1 rfl) ⟨h0, by omega⟩) (en_var 0 rfl) (by decide) ?_
    exact sg_ret (en_var 4 rfl) (hS d hd)
  · rintro Γ' rfl
    refine sq_pSet HP (en_addN (en_pIx HP (en_var 0 rfl) (by decide)) (Ev1.n (en_int 1) ⟨_, rfl⟩)) (en_var 0 rfl) (by decide) ?_
    refine sq_asgN (en_modN (n := 4611686018427387847) (en_intN (en_addN (en_pIx HP (en_var 0 rfl) (by decide)) (en_mulN (A := fun d => d = .int 7541) (en_int 7541) (en_pIx HP (en_var 0 rfl) (by decide)) (hm _ (by decide) (by decide)))) fun _ s => s) (en_int _) (by decide)) ?_
    rintro _ ⟨a, rfl, ha0, ha1⟩
    refine sq_asgN (en_modN (n := 4611686018427387733) (en_intN (en_addN (en_mulN (A := fun d => d = .int a) (B := fun d => d = .int a) (en_var 2 rfl) (en_var 2 rfl) fun x y ex ey => ⟨a, a, ex, ey, .inl ⟨by omega, by omega⟩⟩) (en_mulN (A := fun d => d = .int 97) (en_int 97) (en_pIx HP (en_var 0 rfl) (by decide)) (hm _ (by decide) (by decide)))) fun _ s => s) (en_int _) (by decide)) ?_
    rintro _ ⟨b, rfl, hb0, hb1⟩
    exact sg_retN (en_modN (en_intN (en_fdivN (en_intN (en_addN (en_mulN (A := fun d => d = .int b) (B := fun d => d = .int 2654435769) (en_var 3 rfl) (en_int _) fun x y ex ey => ⟨b, _, ex, ey, .inl ⟨by omega, by omega⟩⟩) (Ev1.n (en_var 2 rfl) ⟨_, rfl⟩)) fun _ s => s) (en_int 32768) (by unfold CDiv; decide)) fun _ s => s) (en_var 1 rfl) h0) hS
theorem sc_law_any : FnScope ["_law_pouch_here", "_law_items"] ["_law_pouch_here", "_law_items"] (defScope s_law_any) := ⟨rfl, rfl, rfl, by decide +kernel, rfl, by decide +kernel, by decide +kernel⟩
def pre_any (ds : List D) : Prop := ∃ b xs, ds = [b] ∧ isSeq b xs ∧ 0 < xs.length ∧ xs.length < 1000
def S_any (ds : List D) (d : D) : Prop := ∀ b xs, ds = [b] → isSeq b xs → d ∈ xs
theorem isSeq_fun {b : D} {xs ys : List D} (h : isSeq b xs) (h' : isSeq b ys) : xs = ys := by
  rcases h with rfl | rfl | rfl <;> rcases h' with e | e | e <;> injection e
theorem ok_law_any {f : Addr} {fd : FuncData} (Fu : Fun K "_law_any" "_law_any" s_law_any f fd) (T : Txt K mg C) (c__law_coin : C8.Cal P w K mg base 1 "_law_coin" (spP K pre_coin S_coin) []) : FnOk P w K mg base CX0 2 f fd ["_law_pouch_here", "_law_items"] (spP K pre_any S_any) := by
  refine fn_pouch Fu sc_law_any (fun ds h => by obtain ⟨b, xs, rfl, _⟩ := h; rfl) fun cdv A outer s H E hr => ⟨_, (pss_one (ps_ret (pe_ix (r := rIx K) ix_seq (pv 1) (C8.pe_c c__law_coin hr (by decide) rfl (pa_cons (pv 0) (pa_cons (pe_callB (r := rLenS K) cr_len (by rfl) T.len (by decide +kernel) (pa_cons (pv 1) pa_nil)) pa_nil))) (fun _ _ => rfl)))), fun p F ds hp => ?_⟩
  obtain ⟨b, xs, rfl, hb, h0, h1⟩ := hp
  have HP := HasP.self p F
  refine sg_retN (S := fun d => d ∈ xs) (en_op (Sa := fun d => d = b) (Sb := inI 0 xs.length) (en_var 1 rfl) (en_pcall1 HP (ds := [.int xs.length]) (ea_cons (en_var 0 rfl) (ea_cons (en_cb1 (ea_cons (en_var 1 rfl) ea_nil) (c_len hb)) ea_nil)) ⟨_, rfl, by omega, by omega⟩ fun d hd => hd _ rfl) fun x y ex ⟨i, ey, i0, i1⟩ => ?_) (fun d hd b' xs' e hb' => ?_)
  · subst ex; subst ey
    obtain ⟨k, rfl⟩ : ∃ k : Nat, i = k := ⟨i.toNat, by omega⟩
    have hk : k < xs.length := by omega
    exact OpN.mono (o_ix hb (d := xs[k]) (atI_of (List.getElem?_eq_getElem hk))) fun d e => by rw [e]; exact List.getElem_mem hk
  · injection e with e
    subst e
    rw [← isSeq_fun hb hb']
    exact hd
end
end K03

set_option Elab.async false
set_option linter.all false
set_option maxRecDepth 100000
set_option maxHeartbeats 4000000
set_option autoImplicit false
namespace K03
open PySem L2 Tx WebM
section
variable {P : Program} {w : World} {K : PySem.W.Frag} {mg : Str → Option Value} {base : Heap} {C : Addr}
theorem row_iff {h : Hd} {t : Nat} (ht : t < h.length) : rowOf h t = h[t] := by unfold rowOf; rw [List.getD_eq_getElem?_getD, List.getElem?_eq_getElem ht]; rfl
/-- what the rows so far are -/
def Rows (n : Nat) (h : Hd) : Prop := ∀ t r, h[t]? = some r → r.Pairwise (· < ·) ∧ ∀ o ∈ r, o < n ∧ o ≠ t
theorem Rows.snoc {n : Nat} {h : Hd} {r : List Nat} (k : Rows n h) (h1 : r.Pairwise (· < ·)) (h2 : ∀ o ∈ r, o < n ∧ o ≠ h.length) : Rows n (h ++ [r]) := fun t r' e => by
  by_cases ht : t < h.length
  · rw [List.getElem?_append_left ht] at e
    exact k t r' e
  · rw [List.getElem?_append_right (by omega)] at e
    have : t - h.length = 0 := by
      cases z : t - h.length with
      | zero => rfl
      | succ k => rw [z] at e; cases e
    rw [this] at e
    injection e with e
    subst e
    have : t = h.length := by omega
    subst this
    exact ⟨h1, h2⟩
theorem Rows.ok {h : Hd} (k : Rows h.length h) (h1 : 1 ≤ h.length) (h5 : h.length ≤ 5) : WebM.Ok h := ⟨h1, h5, fun t ht => (k t _ (row_at ht)).1, fun t ht => (k t _ (row_at ht)).2⟩
theorem sc_law_heard : FnScope ["_law_pouch_here", "_law_size", "_law_thread", "_law_found", "_law_share", "_law_other"] ["_law_pouch_here", "_law_size"] (defScope s_law_heard) := ⟨rfl, rfl, rfl, by decide +kernel, rfl, by decide +kernel, by decide +kernel⟩
def pre_heard (ds : List D) : Prop := ∃ n : Nat, ds = [dN n] ∧ 1 ≤ n ∧ n ≤ 5
def S_heard (ds : List D) (d : D) : Prop := ∀ n : Nat, ds = [dN n] → ∃ h : Hd, d = hdD h ∧ h.length = n ∧ WebM.Ok h
theorem ok_law_heard {f : Addr} {fd : FuncData} (Fu : Fun K "_law_heard" "_law_heard" s_law_heard f fd) (T : Txt K mg C) (c__law_coin : C8.Cal P w K mg base 1 "_law_coin" (spP K pre_coin S_coin) []) : FnOk P w K mg base CX0 2 f fd ["_law_pouch_here", "_law_size"] (spP K pre_heard S_heard) := by
  refine fn_pouch Fu sc_law_heard (fun ds h => by obtain ⟨n, rfl, _⟩ := h; rfl) fun cdv A outer s H E hr => ⟨_, (pss_cons (ps_asg (pe_tup (pa_cons (pe_lst pa_nil) (pa_cons (pe_op (r := rAddU K) op_addU pe_int (C8.pe_c c__law_coin hr (by decide) rfl (pa_cons (pv 0) (pa_cons pe_int pa_nil)))) pa_nil))) (show PG _ _ (gTup K 2 (gCons (gName 3) (gCons (gName 4) gNil))) from pg_tup rfl (pgs_cons (pg_name (i := 3) sc_law_heard.nd rfl (by first | exact Or.inl rfl | exact Or.inr rfl)) (pgs_cons (pg_name (i := 4) sc_law_heard.nd rfl (by first | exact Or.inl rfl | exact Or.inr rfl)) pgs_nil)))) (pss_cons (ps_for PassesOwn.never rfl (pi_range1 rfl T.range (pa_cons (pv 1) pa_nil)) (pg_name (i := 2) sc_law_heard.nd rfl (by first | exact Or.inl rfl | exact Or.inr rfl)) (pss_one (ps_expr (pe_bm PySem.F.plainAttrs_list PySem.F.slot_list_append PySem.F.type_list_append mt_append (pv 3) (pa_cons (pe_callTy (r := rTup K) cr_tup (by rfl) T.tuple (by decide +kernel) (pa_cons (pe_lc (own := [("_law_other", 5)]) rfl sc_law_heard.nd (pi_range1 rfl T.range (pa_cons (pv 1) pa_nil)) (blkOk_by (by kernel_rfl)) (fun _ _ _ _ _ => (pg_name (i := 5) sc_law_heard.nd rfl (by first | exact Or.inl rfl | exact Or.inr rfl))) (fun _ _ _ _ _ => (pts_one (PW.pt (pw_and (pt_cmpR (r := rNeD K) (op_neD hr.units) (pv 5) (pv 2) (nomark _)) (pw_and1 (pt_cmpR (r := rEqD K) (op_eqD hr.units) (C8.pe_c c__law_coin hr (by decide) rfl (pa_cons (pv 0) (pa_cons (pv 4) pa_nil))) pe_int (nomark _))))))) (fun _ _ _ _ _ => (pv 5))) pa_nil)) pa_nil))))) (pss_one (ps_ret (pe_callTy (r := rTup K) cr_tup (by rfl) T.tuple (by decide +kernel) (pa_cons (pv 3) pa_nil)))))), fun p F ds hp => ?_⟩
  obtain ⟨n, rfl, n1, n5⟩ := hp
  have HP := HasP.self p F
  refine sq_newL2 (S := inI 2 5) (fun l => ?_) fun l H0 sh hsh => ?_
  · exact en_op (Sa := fun d => d = .int 2) (en_int 2) (en_pcall1 (HP.le (Mo.le_ext _ l)) (ds := [.int 3]) (S := inI 0 3) (ea_cons (en_var 0 rfl) (ea_cons (en_int 3) ea_nil)) ⟨_, rfl, by decide, by decide⟩ fun d hd => hd _ rfl) fun a b sa ⟨x, sb, x0, x1⟩ => by
      subst sa; subst sb
      exact OpN.mono o_addI fun d e => ⟨_, e, by omega, by omega⟩
  obtain ⟨c, rfl, c0, c1⟩ := hsh
  refine so_seq (fun Γ' ds' => ∃ (h : Hd) (x2 x5 : Option D), h.length = n ∧ Rows n h ∧ ds' = h.map tupN ∧ Γ' = [some (.adr p), some (dN n), x2, some (.adr l), some (.int c), x5]) (so_for (xs := (List.range n).map dN) (itx_rng (ea_cons (en_var 1 rfl) ea_nil) (by omega)) (fun i Γ' ds' => ∃ (h : Hd) (x2 x5 : Option D), h.length = i ∧ Rows n h ∧ ds' = h.map tupN ∧ Γ' = [some (.adr p), some (dN n), x2, some (.adr l), some (.int c), x5]) ⟨[], none, none, rfl, fun t r e => (by cases e), rfl, rfl⟩ ?_ ?_) ?_
  · rintro i d Γ' ds' hd ⟨h, x2, x5, hl, hR, rfl, rfl⟩
    have hi : i < n := by
      have := (List.getElem?_eq_some_iff.mp hd).1
      rw [List.length_map, List.length_range] at this
      exact this
    rw [List.getElem?_map, List.getElem?_range hi] at hd
    injection hd with hd
    subst hd
    refine ⟨_, _, tg_name 2, ?_⟩
    refine so_appN (i := 3) (S := fun d => ∃ r : List Nat, d = tupN r ∧ r.Pairwise (· < ·) ∧ ∀ o ∈ r, o < n ∧ o ≠ i) rfl ?_ (by rw [List.length_map]; omega) ?_
    · refine en_cb (T := fun ds => ∃ r : List Nat, ds = [lstN r] ∧ r.Pairwise (· < ·) ∧ ∀ o ∈ r, o < n ∧ o ≠ i) ?_ fun ds ⟨r, e, h1, h2⟩ => by
        subst e
        exact CaN.mono (c_tuple (.inr (.inl rfl))) fun d e => ⟨r, e, h1, h2⟩
      refine ea_consN (T := fun x => x = []) (en_lc (U := fun xs => xs = (List.range n).map dN) (T := fun d b => b = true → d ≠ dN i) (V' := fun x y => y = x) (js := [5]) (by simp) (it_rng (ea_cons (en_var 1 rfl) ea_nil) (by omega)) (fun xs e => by rw [e, List.length_map, List.length_range]; omega) fun m' le xs d e hd => ?_) ea_nil fun d ds ⟨xs, ys, e1, e2, e3⟩ e => ?_
      · subst e
        obtain ⟨o, ho, rfl⟩ := List.mem_map.mp hd
        refine ⟨_, tg_name 5, et_andN (p := !decide ((o : Int) = (i : Int))) (et_test (en_op1 (en_var 5 rfl) (en_var 2 rfl) o_neI)) (fun e => ?_) (fun _ z => nomatch z), fun _ => en_var 5 rfl⟩
        refine et_testN (en_op (Sa := inI 0 c) (Sb := fun d => d = .int 0) (en_pcall1 ((HP.le (Mo.le_ext _ l)).le le) (ds := [.int c]) (ea_cons (en_var 0 rfl) (ea_cons (en_var 4 rfl) ea_nil)) ⟨_, rfl, by omega, by omega⟩ fun d hd => hd _ rfl) (en_int 0) fun a b ⟨x, sa, _⟩ sb => ?_)
        subst sa; subst sb
        refine OpN.mono o_eqI fun d e2 => ⟨_, e2, fun _ z => ?_⟩
        rw [dN_inj z] at e
        simp at e
      · subst e1
        obtain ⟨zs, h1, h2, h3⟩ := e2.sub (P := fun o => o ≠ i) fun x _ k z => k rfl (by rw [z])
        refine ⟨zs, by rw [e3, h2, e], List.pairwise_lt_range.sublist h1, fun o ho => ⟨List.mem_range.mp (h1.subset ho), h3 o ho⟩⟩
    · rintro _ ⟨r, rfl, h1, h2⟩
      exact ⟨h ++ [r], _, _, by rw [List.length_append, hl]; rfl, hR.snoc h1 (by rw [hl]; exact h2), by rw [List.map_append]; rfl, rfl⟩
  · rintro Γ' ds' ⟨h, x2, x5, hl, r⟩
    rw [List.length_map, List.length_range] at hl
    exact ⟨h, x2, x5, hl, r⟩
  · rintro Γ' ds' ⟨h, x2, x5, hl, hR, rfl, rfl⟩
    refine so_dis (i := 3) rfl (sg_ret (d := hdD h) (en_cb1 (ea_cons (en_var 3 rfl) ea_nil) (c_tuple (.inr (.inl rfl)))) fun n' e => ?_)
    injection e with e
    obtain rfl := dN_inj e
    subst hl
    exact ⟨h, rfl, rfl, hR.ok n1 n5⟩
theorem sc_law_marks : FnScope ["_law_pouch_here", "_law_size", "_law_thread"] ["_law_pouch_here", "_law_size"] (defScope s_law_marks) := ⟨rfl, rfl, rfl, by decide +kernel, rfl, by decide +kernel, by decide +kernel⟩
def S_marks (ds : List D) (d : D) : Prop := ∀ n : Nat, ds = [dN n] → ∃ ms : List Nat, d = tupN ms ∧ mkOk ms n
theorem rep_flat (n : Nat) : (List.replicate n [D.int 0]).flatten = (List.replicate n 0).map dN := by
  rw [List.map_replicate]
  induction n with
  | zero => rfl
  | succ n ih => rw [List.replicate_succ, List.replicate_succ, List.flatten_cons, ih]; rfl
theorem ok_law_marks {f : Addr} {fd : FuncData} (Fu : Fun K "_law_marks" "_law_marks" s_law_marks f fd) (T : Txt K mg C) (c__law_coin : C8.Cal P w K mg base 1 "_law_coin" (spP K pre_coin S_coin) []) (c__law_any : C8.Cal P w K mg base 2 "_law_any" (spP K pre_any S_any) []) : FnOk P w K mg base CX0 3 f fd ["_law_pouch_here", "_law_size"] (spP K pre_heard S_marks) := by
  refine fn_pouch Fu sc_law_marks (fun ds h => by obtain ⟨n, rfl, _⟩ := h; rfl) fun cdv A outer s H E hr => ⟨_, (pss_cons (ps_if (pt_cmpR op_gt (C8.pe_c c__law_coin hr (by decide) rfl (pa_cons (pv 0) (pa_cons pe_int pa_nil))) pe_int (nomark _)) (pss_one (ps_ret (pe_op (r := rMulU K) op_mulU (pe_tup (pa_cons pe_int pa_nil)) (pv 1)))) pss_nil) (pss_one (ps_ret (pe_callTy (r := rTup K) cr_tup (by rfl) T.tuple (by decide +kernel) (pa_cons (pe_lc (own := [("_law_thread", 2)]) rfl sc_law_marks.nd (pi_range1 rfl T.range (pa_cons (pv 1) pa_nil)) (blkOk_by (by kernel_rfl)) (fun _ _ _ _ _ => (pg_name (i := 2) sc_law_marks.nd rfl (by first | exact Or.inl rfl | exact Or.inr rfl))) (fun _ _ _ _ _ => pts_nil) (fun _ _ _ _ _ => (C8.pe_c c__law_any hr (by decide) rfl (pa_cons (pv 0) (pa_cons (pe_lst (pa_cons pe_int (pa_cons pe_int (pa_cons pe_int (pa_cons pe_int (pa_cons pe_int pa_nil)))))) pa_nil))))) pa_nil))))), fun p F ds hp => ?_⟩
  obtain ⟨n, rfl, n1, n5⟩ := hp
  have HP := HasP.self p F
  have hS : ∀ ms, mkOk ms n → S_marks [dN n] (tupN ms) := fun ms hm n' e => by
    injection e with e
    obtain rfl := dN_inj e
    exact ⟨ms, rfl, hm⟩
  refine sg_seq (fun Γ' => Γ' = startG ["_law_pouch_here", "_law_size", "_law_thread"] [.adr p, dN n]) (sg_ifN (T := fun _ => True) (et_testN (en_op (Sa := inI 0 3) (Sb := fun d => d = .int 0) (en_pcall1 HP (ds := [.int 3]) (ea_cons (en_var 0 rfl) (ea_cons (en_int 3) ea_nil)) ⟨_, rfl, by decide, by decide⟩ fun d hd => hd _ rfl) (en_int 0) fun a b ⟨x, sa, _⟩ sb => by subst sa; subst sb; exact OpN.mono o_bl fun d e => ⟨_, e, trivial⟩)) (fun _ => ?_) (fun _ => sg_next rfl)) ?_
  · refine sg_ret (d := tupN (List.replicate n 0)) (Ev1.is (en_op1 (en_tup (ea_cons (en_int 0) ea_nil) (by decide)) (en_var 1 rfl) (o_mulT (by simp) (by omega) (by decide))) ?_) (hS _ ⟨List.length_replicate, n5, n1, fun x hx => by rw [(List.mem_replicate.mp hx).2]; decide⟩)
    rw [Int.toNat_natCast, rep_flat]
  · rintro Γ' rfl
    refine sg_retN (S := fun d => ∃ ms, d = tupN ms ∧ mkOk ms n) (en_cb (T := fun ds => ∃ ms, ds = [lstN ms] ∧ mkOk ms n) ?_ fun ds ⟨ms, e, hm⟩ => by
      subst e
      exact CaN.mono (c_tuple (.inr (.inl rfl))) fun d e => ⟨ms, e, hm⟩) fun d ⟨ms, e, hm⟩ => e ▸ hS ms hm
    refine ea_consN (T := fun x => x = []) (en_lc (U := fun xs => xs = (List.range n).map dN) (T := fun _ b => b = true) (V' := fun _ y => y ∈ [D.int 0, .int 0, .int 1, .int 7, .int 9999]) (js := [2]) (by simp) (it_rng (ea_cons (en_var 1 rfl) ea_nil) (by omega)) (fun xs e => by rw [e, List.length_map, List.length_range]; omega) fun m' le xs d e hd => ?_) ea_nil fun d ds ⟨xs, ys, e1, e2, e3⟩ e => ?_
    · refine ⟨_, tg_name 2, et_yes, fun _ => ?_⟩
      exact en_pcall1 (HP.le le) (ds := [.lst [D.int 0, .int 0, .int 1, .int 7, .int 9999]]) (ea_cons (en_var 0 rfl) (ea_cons (en_lst (ea_cons (en_int 0) (ea_cons (en_int 0) (ea_cons (en_int 1) (ea_cons (en_int 7) (ea_cons (en_int 9999) ea_nil))))) (by decide)) ea_nil)) ⟨_, _, rfl, .inr (.inl rfl), by decide, by decide⟩ fun d hd => hd _ _ rfl (.inr (.inl rfl))
    · subst e1
      obtain ⟨zs, h1, h2, h3⟩ := e2.nats (P := fun k => k ≤ 9999) fun x _ y hy => by
        simp only [List.mem_cons, List.not_mem_nil, or_false] at hy
        rcases hy with rfl | rfl | rfl | rfl | rfl
        · exact ⟨0, rfl, by decide⟩
        · exact ⟨0, rfl, by decide⟩
        · exact ⟨1, rfl, by decide⟩
        · exact ⟨7, rfl, by decide⟩
        · exact ⟨9999, rfl, by decide⟩
      rw [List.length_map, List.length_range] at h2
      exact ⟨zs, by rw [e3, h1, e], h2, n5, n1, h3⟩
theorem sc_law_plain_web : FnScope ["_law_pouch_here", "_law_size"] ["_law_pouch_here", "_law_size"] (defScope s_law_plain_web) := ⟨rfl, rfl, rfl, by decide +kernel, rfl, by decide +kernel, by decide +kernel⟩
def S_plain (ds : List D) (d : D) : Prop := ∀ n : Nat, ds = [dN n] → ∃ h ms, d = .tup [hdD h, tupN ms] ∧ WOk h ms ∧ h.length = n
theorem ok_law_plain_web {f : Addr} {fd : FuncData} (Fu : Fun K "_law_plain_web" "_law_plain_web" s_law_plain_web f fd) (T : Txt K mg C) (c__law_heard : C8.Cal P w K mg base 2 "_law_heard" (spP K pre_heard S_heard) []) (c__law_marks : C8.Cal P w K mg base 3 "_law_marks" (spP K pre_heard S_marks) []) : FnOk P w K mg base CX0 4 f fd ["_law_pouch_here", "_law_size"] (spP K pre_heard S_plain) := by
  refine fn_pouch Fu sc_law_plain_web (fun ds h => by obtain ⟨n, rfl, _⟩ := h; rfl) fun cdv A outer s H E hr => ⟨_, (pss_one (ps_ret (pe_tup (pa_cons (C8.pe_c c__law_heard hr (by decide) rfl (pa_cons (pv 0) (pa_cons (pv 1) pa_nil))) (pa_cons (C8.pe_c c__law_marks hr (by decide) rfl (pa_cons (pv 0) (pa_cons (pv 1) pa_nil))) pa_nil))))), fun p F ds hp => ?_⟩
  obtain ⟨n, rfl, n1, n5⟩ := hp
  have HP := HasP.self p F
  refine sg_retN (en_tupN (T := fun ds => ∃ h ms, ds = [hdD h, tupN ms] ∧ WOk h ms ∧ h.length = n) (ea_consN (S := fun d => ∃ h : Hd, d = hdD h ∧ h.length = n ∧ WebM.Ok h) (T := fun ds => ∃ ms : List Nat, ds = [tupN ms] ∧ mkOk ms n) (en_pcall1 HP (ds := [dN n]) (ea_cons (en_var 0 rfl) (ea_cons (en_var 1 rfl) ea_nil)) ⟨n, rfl, n1, n5⟩ fun d hd => hd n rfl) (ea_consN (S := fun d => ∃ ms : List Nat, d = tupN ms ∧ mkOk ms n) (T := fun x => x = []) (en_pcall1 HP (ds := [dN n]) (ea_cons (en_var 0 rfl) (ea_cons (en_var 1 rfl) ea_nil)) ⟨n, rfl, n1, n5⟩ fun d hd => hd n rfl) ea_nil fun d ds ⟨ms, e, hm⟩ e2 => ⟨ms, by rw [e, e2], hm⟩) fun d ds ⟨h, e, hl, hk⟩ ⟨ms, e2, hm⟩ => ⟨h, ms, by rw [e, e2], ⟨hk, by rw [hl]; exact hm⟩, hl⟩) fun ds ⟨h, ms, e, _⟩ => by rw [e]; simp) fun d ⟨ds, e, h, ms, e2, hw, hl⟩ n' e3 => ?_
  injection e3 with e3
  obtain rfl := dN_inj e3
  exact ⟨h, ms, by rw [e, e2], hw, hl⟩
def pre_web_of (ds : List D) : Prop := ∃ h ms, ds = [.tup [hdD h, tupN ms]] ∧ WOk h ms
def S_web_of (C : Addr) (ds : List D) (d : D) : Prop := ∀ h ms, ds = [.tup [hdD h, tupN ms]] → d = webD C h ms
theorem s_web {C : Addr} {h : Hd} {ms : List Nat} {d : D} (k : ∃ xs, d = .obj C webNs xs ∧ S_Web [hdD h, tupN ms] xs) : d = webD C h ms := by obtain ⟨xs, e, s⟩ := k; rw [e, (s h).2 ms rfl]
theorem pre_web {h : Hd} {ms : List Nat} (wk : WOk h ms) : pre_Web [hdD h, tupN ms] := ⟨h, wk.ok, .inr ⟨ms, rfl, wk.mok⟩⟩
end
end K03

set_option Elab.async false
set_option linter.all false
set_option maxRecDepth 100000
set_option maxHeartbeats 4000000
set_option autoImplicit false
namespace K03
open PySem L2 Tx WebM
/-! ### webs by what is heard -/
theorem up_eq {A B : List Nat} (hA : A.Pairwise (· < ·)) (hB : B.Pairwise (· < ·)) (h : ∀ x, x ∈ A ↔ x ∈ B) : A = B := by
  have p : A.Perm B := (List.perm_ext_iff_of_nodup (hA.imp fun {a b} q => Nat.ne_of_lt q) (hB.imp fun {a b} q => Nat.ne_of_lt q)).mpr h
  have e1 := srt_of (p.map fun k : Nat => (k : Int)) (cast_lt hA)
  have e2 := srt_of ((List.Perm.refl B).map fun k : Nat => (k : Int)) (cast_lt hB)
  refine mapN_inj ?_
  rw [dN_ints, dN_ints, e1, ← e2]
/-- the web of n threads in which t hears x if f tells so -/
def nrm (n : Nat) (f : Nat → Nat → Bool) : Hd := (List.range n).map fun t => (List.range n).filter fun x => f t x && decide (x ≠ t)
theorem nrm_len {n : Nat} {f : Nat → Nat → Bool} : (nrm n f).length = n := by unfold nrm; rw [List.length_map, List.length_range]
theorem nrm_row {n t : Nat} {f : Nat → Nat → Bool} (ht : t < n) : rowOf (nrm n f) t = (List.range n).filter fun x => f t x && decide (x ≠ t) := by
  unfold rowOf nrm
  rw [List.getD_eq_getElem?_getD, List.getElem?_map, List.getElem?_range ht]
  rfl
theorem mem_nrm {n t x : Nat} {f : Nat → Nat → Bool} (ht : t < n) : x ∈ rowOf (nrm n f) t ↔ x < n ∧ f t x = true ∧ x ≠ t := by
  rw [nrm_row ht, List.mem_filter, List.mem_range, Bool.and_eq_true, decide_eq_true_iff]
theorem nrm_ok {n : Nat} {f : Nat → Nat → Bool} (h1 : 1 ≤ n) (h5 : n ≤ 5) : WebM.Ok (nrm n f) :=
  ⟨by rw [nrm_len]; exact h1, by rw [nrm_len]; exact h5, fun t ht => by rw [nrm_len] at ht; rw [nrm_row ht]; exact List.pairwise_lt_range.filter _, fun t ht x hx => by
    rw [nrm_len] at ht
    obtain ⟨a, _, b⟩ := (mem_nrm ht).mp hx
    exact ⟨by rw [nrm_len]; exact a, b⟩⟩
theorem nrm_congr {n : Nat} {f g : Nat → Nat → Bool} (h : ∀ t x, t < n → x < n → x ≠ t → f t x = g t x) : nrm n f = nrm n g := by
  unfold nrm
  refine List.map_congr_left fun t ht => List.filter_congr fun x hx => ?_
  by_cases q : x = t
  · subst q; simp
  · rw [h t x (List.mem_range.mp ht) (List.mem_range.mp hx) q]
theorem hd_nrm {h : Hd} (ok : WebM.Ok h) : nrm h.length (fun t x => decide (x ∈ rowOf h t)) = h := by
  apply List.ext_getElem
  · exact nrm_len
  · intro t h1 h2
    rw [← row_iff h1, ← row_iff h2]
    rw [nrm_len] at h1
    rw [nrm_row h1]
    refine up_eq (List.pairwise_lt_range.filter _) (ok.up t h2) fun x => ?_
    rw [List.mem_filter, List.mem_range, Bool.and_eq_true, decide_eq_true_iff, decide_eq_true_iff]
    exact ⟨fun z => z.2.1, fun z => ⟨(ok.lt t h2 x z).1, z, (ok.lt t h2 x z).2⟩⟩
theorem nrm_at {n t : Nat} {f : Nat → Nat → Bool} (ht : t < n) : (nrm n f)[t]? = some ((List.range n).filter fun x => f t x && decide (x ≠ t)) := by
  unfold nrm
  rw [List.getElem?_map, List.getElem?_range ht]
  rfl
theorem mem_own {h : Hd} (ok : WebM.Ok h) {t x : Nat} (ht : t < h.length) : x ∈ own h t ↔ x = t ∨ x ∈ rowOf h t := by
  unfold own
  rw [List.mem_filter, List.mem_range, Bool.or_eq_true, decide_eq_true_iff, decide_eq_true_iff]
  refine ⟨fun z => z.2, fun z => ⟨?_, z⟩⟩
  rcases z with z | z
  · omega
  · exact (ok.lt t ht x z).1
theorem own_lt {h : Hd} {t x : Nat} (hx : x ∈ own h t) : x < h.length := List.mem_range.mp (List.mem_filter.mp hx).1
theorem own_len {h : Hd} {t : Nat} : (own h t).length ≤ h.length := by
  have := List.length_filter_le (fun x => decide (x = t) || decide (x ∈ rowOf h t)) (List.range h.length)
  rw [List.length_range] at this
  exact this
/-! ### sorted sets as lists of numbers -/
theorem up_int {ns : List Int} {L : List Nat} (hn : ns.Pairwise (· < ·)) (hL : L.Pairwise (· < ·)) (h : ∀ k : Int, k ∈ ns ↔ ∃ x ∈ L, k = (x : Nat)) : ns = L.map fun k : Nat => (k : Int) := by
  have hL2 : (L.map fun k : Nat => (k : Int)).Pairwise (· < ·) := List.pairwise_map.mpr (hL.imp fun {a b} q => by omega)
  have p : ns.Perm (L.map fun k : Nat => (k : Int)) := (List.perm_ext_iff_of_nodup (hn.imp fun {a b} q => Int.ne_of_lt q) (hL2.imp fun {a b} q => Int.ne_of_lt q)).mpr fun k => by
    rw [h k, List.mem_map]
    exact ⟨fun ⟨x, a, b⟩ => ⟨x, a, b.symm⟩, fun ⟨x, a, b⟩ => ⟨x, a, b.symm⟩⟩
  rw [srt_of p (hn.imp fun {a b} q => Int.le_of_lt q), ← srt_of (List.Perm.refl _) (hL2.imp fun {a b} q => Int.le_of_lt q)]
section
variable {K : PySem.W.Frag} {m : Mo} {Γ : G} {te : TE}
theorem ev_set {L : List Nat} {P : Int → Prop} (h : EvN m K te Γ fun d => ∃ ns : List Int, d = .lst (ns.map D.int) ∧ ns.Pairwise (· < ·) ∧ ∀ k, k ∈ ns ↔ P k) (hL : L.Pairwise (· < ·)) (hp : ∀ k : Int, P k ↔ ∃ x ∈ L, k = (x : Nat)) : Ev1 m K te Γ (lstN L) :=
  h.mono fun d ⟨ns, e, u, k⟩ => by
    rw [e, up_int u hL fun k' => (k k').trans (hp k'), ← dN_ints]
end
section
variable {P : Program} {w : World} {K : PySem.W.Frag} {mg : Str → Option Value} {base : Heap} {C : Addr}
theorem perm_srt {ns : List Nat} {n : Nat} (h : ns.Perm (List.range n)) : srt (ns.map fun k : Nat => (k : Int)) = (List.range n).map fun k : Nat => (k : Int) :=
  (srt_of (h.symm.map _) (cast_lt List.pairwise_lt_range)).symm
def pre_all (ds : List D) : Prop := ∃ (ns : List Nat) (n : Nat), ds = [tupN ns, dN n] ∧ ns.Perm (List.range n) ∧ n ≤ 5
theorem sc_web_of : FnScope ["hearing", "marks", "heard", "thread", "others", "other"] ["hearing", "marks"] (defScope s_web_of) := ⟨rfl, rfl, rfl, by decide +kernel, rfl, by decide +kernel, by decide +kernel⟩
abbrev rwD (p : Bool × List Nat) : D := if p.1 then tupN p.2 else lstN p.2
theorem rwD_inj {p q : Bool × List Nat} (h : rwD p = rwD q) : p.2 = q.2 := by
  obtain ⟨a, l⟩ := p
  obtain ⟨b, r⟩ := q
  cases a <;> cases b
  · have h : lstN l = lstN r := h
    injection h with h
    exact mapN_inj h
  · have h : lstN l = tupN r := h
    cases h
  · have h : tupN l = lstN r := h
    cases h
  · exact tupN_inj h
theorem rwsD_inj : ∀ {a b : List (Bool × List Nat)}, a.map rwD = b.map rwD → a.map (·.2) = b.map (·.2)
  | [], [], _ => rfl
  | [], _ :: _, h => by simp at h
  | _ :: _, [], h => by simp at h
  | x :: a, y :: b, h => by
    rw [List.map_cons, List.map_cons] at h
    injection h with h1 h2
    rw [List.map_cons, List.map_cons, rwD_inj h1, rwsD_inj h2]
def rowN (rs : List (Bool × List Nat)) (t : Nat) : List Nat := (rs.map (·.2)).getD t []
theorem rowN_at {rs : List (Bool × List Nat)} {t : Nat} : rowN rs t = (rs.getD t default).2 := by
  unfold rowN
  rw [List.getD_eq_getElem?_getD, List.getElem?_map, List.getD_eq_getElem?_getD]
  cases rs[t]? <;> rfl
def pre_wo (ds : List D) : Prop := ∃ (rs : List (Bool × List Nat)), ds = [.lst (rs.map rwD), .non] ∧ (1 ≤ rs.length ∧ rs.length ≤ 5) ∧ ∀ p ∈ rs, p.2.length < 60 ∧ ∀ x ∈ p.2, x < rs.length
noncomputable def S_wo (C : Addr) (ds : List D) (d : D) : Prop := ∀ (rs : List (Bool × List Nat)), ds = [.lst (rs.map rwD), .non] → d = webD C (nrm rs.length fun t x => decide (x ∈ rowN rs t)) (List.replicate rs.length 0)
theorem isSeq_rw (p : Bool × List Nat) : isSeq (rwD p) (p.2.map dN) := by
  obtain ⟨a, l⟩ := p
  cases a
  · exact .inr (.inl rfl)
  · exact .inl rfl
theorem ok_web_of {f : Addr} {fd : FuncData} (Fu : Fun K "web_of" "web_of" s_web_of f fd) (T : Txt K mg C) (k_Web2 : C8.Mak P w K mg base 5 "Web" C (spIS K C pre_Web webNs S_Web) []) : FnOk P w K mg base CX0 7 f fd ["hearing", "marks"] (spS K pre_wo (S_wo C)) := by
  refine fn_pure Fu sc_web_of (fun ds h => by obtain ⟨rs, rfl, _⟩ := h; rfl) fun cdv A outer s H E hr => ⟨_, (pss_cons (ps_setLc (i := 2) (own := [("thread", 3), ("others", 4)]) rfl sc_web_of.nd rfl rfl (sw_true rfl rfl rfl (by decide +kernel)) (show PI _ _ _ (iEnumS K _) from pi_enumS rfl T.enumerate (pa_cons (pv 0) pa_nil)) (blkOk_by (by kernel_rfl)) (fun _ _ _ _ _ => (show PG _ _ (gTup K 2 (gCons (gName 3) (gCons (gName 4) gNil))) from pg_tup rfl (pgs_cons (pg_name (i := 3) sc_web_of.nd rfl (by first | exact Or.inl rfl | exact Or.inr rfl)) (pgs_cons (pg_name (i := 4) sc_web_of.nd rfl (by first | exact Or.inl rfl | exact Or.inr rfl)) pgs_nil)))) (fun _ _ _ _ _ => pts_nil) (fun _ _ _ _ _ => (pe_callTy (r := rTup K) cr_tup (by rfl) T.tuple (by decide +kernel) (pa_cons (pe_callB (r := rSortedSet w) (cr_sortedSet rfl) (by rfl) T.sorted (by decide +kernel) (pa_cons (show PE _ _ (tSetI w _ _ _ _ _) from (TxS.pe_setI (own := [("other", 5)]) rfl sc_web_of.nd (show PI _ _ _ (iSeq K _) from pi_seq (pv 4)) (blkOk_by (by kernel_rfl)) (fun _ _ _ _ _ => (pg_name (i := 5) sc_web_of.nd rfl (by first | exact Or.inl rfl | exact Or.inr rfl))) (fun _ _ _ _ _ => (pts_one (pt_cmpR (r := rNeD K) (op_neD hr.units) (pv 5) (pv 3) (nomark _)))) (fun _ _ _ _ _ => (pv 5)))) pa_nil)) pa_nil)))) (pss_one (ps_ret (C8.pe_mk k_Web2 hr (by decide) rfl (pa_cons (pe_callTy (r := rTup K) cr_tup (by rfl) T.tuple (by decide +kernel) (pa_cons (pv 2) pa_nil)) (pa_cons (pv 1) pa_nil)))))), fun F ds hp => ?_⟩
  obtain ⟨rs, rfl, ⟨n1, n5⟩, hrs⟩ := hp
  have ok : WebM.Ok (nrm rs.length fun t x => decide (x ∈ rowN rs t)) := nrm_ok n1 n5
  refine sq_asg (d := .lst ((nrm rs.length fun t x => decide (x ∈ rowN rs t)).map tupN)) ?_ ?_
  · refine Ev1.is (en_lcMA (xs := List.range rs.length) (fun i => D.tup [dN i, rwD (rs.getD i default)]) (fun t => tupN ((List.range rs.length).filter fun x => decide (x ∈ rowN rs t) && decide (x ≠ t))) (fun x _ y _ e => pairN_inj (g := fun i => rwD (rs.getD i default)) e) (js := [3, 4]) (by simp) ?_ (by rw [List.length_range]; omega) fun m' l t ht => ⟨_, tg_pair, ?_⟩) ?_
    · have q := it_enum (m := pureMo F) (K := K) (Γ := startG ["hearing", "marks", "heard", "thread", "others", "other"] [.lst (rs.map rwD), .non]) (ea_cons (en_var 0 rfl) ea_nil) (.inr (.inl rfl))
      rw [enumD_map] at q
      exact q
    · rw [List.mem_range] at ht
      have hm : rs.getD t default ∈ rs := by rw [List.getD_eq_getElem?_getD, List.getElem?_eq_getElem ht]; exact List.getElem_mem ht
      obtain ⟨h60, hlt⟩ := hrs _ hm
      refine en_cb1 (ea_cons (ev_set (L := (List.range rs.length).filter fun x => decide (x ∈ rowN rs t) && decide (x ≠ t)) (en_sortSet (xs := (rs.getD t default).2) dN (fun x => decide (x ≠ t)) (fun x => (x : Int)) (fun x _ y _ e => dN_inj e) (js := [5]) (by simp) (it_seq (en_var 4 rfl) (isSeq_rw _)) h60 fun m'' l' x hx => ⟨_, tg_name 5, ?_, fun _ => en_var 5 rfl⟩) (List.pairwise_lt_range.filter _) fun k => ?_) ea_nil) (c_tuple (.inr (.inl rfl)))
      · refine EvT1.is (et_test (en_op1 (en_var 5 rfl) (en_var 3 rfl) o_neI)) ?_
        by_cases z : x = t
        · subst z; simp
        · have : ¬ ((x : Int) = (t : Int)) := by omega
          simp [z, this]
      · rw [List.mem_map]
        constructor
        · rintro ⟨x, hx, rfl⟩
          obtain ⟨a, b⟩ := List.mem_filter.mp hx
          refine ⟨x, List.mem_filter.mpr ⟨List.mem_range.mpr (hlt x a), ?_⟩, rfl⟩
          rw [b, rowN_at, decide_eq_true a]; rfl
        · rintro ⟨x, hx, rfl⟩
          obtain ⟨a, b⟩ := List.mem_filter.mp hx
          rw [Bool.and_eq_true, decide_eq_true_iff, rowN_at] at b
          exact ⟨x, List.mem_filter.mpr ⟨b.1, b.2⟩, rfl⟩
    · unfold nrm
      rw [List.map_map]
      rfl
  · refine sg_retN (S := fun d => d = webD C (nrm rs.length fun t x => decide (x ∈ rowN rs t)) (List.replicate rs.length 0)) (EvN.mono (en_makeN (ds := [hdD (nrm rs.length fun t x => decide (x ∈ rowN rs t)), .non]) (dds := []) (ea_cons (en_cb1 (ea_cons (en_var 2 rfl) ea_nil) (c_tuple (.inr (.inl rfl)))) (ea_cons (en_var 1 rfl) ea_nil)) (fun _ _ => .nil) ⟨_, ok, .inl rfl⟩) fun d ⟨xs, e, q⟩ => ?_) fun d e rs' e2 => ?_
    · rw [e, (q _).1 rfl]
      unfold webD zeros
      rw [nrm_len]
    · injection e2 with e2 _
      injection e2 with e2
      have e4 := rwsD_inj e2
      have e5 : rs.length = rs'.length := by have := congrArg List.length e4; rwa [List.length_map, List.length_map] at this
      rw [e, e5]
      unfold rowN
      rw [e4]
def pre_cw (C : Addr) (ds : List D) : Prop := ∃ h ms n, ds = [webD C h ms, dN n] ∧ WOk h ms ∧ h.length = n
end
end K03

set_option Elab.async false
set_option linter.all false
set_option maxRecDepth 100000
set_option maxHeartbeats 4000000
set_option autoImplicit false
namespace K03
open PySem L2 Tx WebM
section
variable {P : Program} {w : World} {K : PySem.W.Frag} {mg : Str → Option Value} {base : Heap} {C : Addr}
abbrev spN (K : PySem.W.Frag) (C : Addr) : Sp := spS K (pre_con C) (S_con C)
abbrev spE (K : PySem.W.Frag) (C : Addr) : Sp := spS K (pre_eq C) (S_eq C)
abbrev CSize (P : Program) (w : World) (K : PySem.W.Frag) (mg : Str → Option Value) (base : Heap) (C : Addr) : Prop := C8.PrM P w K mg base 1 C "size" (spS K (pre_self C) (S_self C fun h _ => dN h.length))
abbrev CHears (P : Program) (w : World) (K : PySem.W.Frag) (mg : Str → Option Value) (base : Heap) (C : Addr) : Prop := C8.Met P w K mg base 4 C "hears" (spS K (pre_th C) (S_th C fun h _ t => tupN (own h t))) []
abbrev CCheckWeb (P : Program) (w : World) (K : PySem.W.Frag) (mg : Str → Option Value) (base : Heap) (C : Addr) : Prop := C8.Cal P w K mg base 3 "check_web" (spF K (pre_cw C) fun _ => .non) []
abbrev CCheckNum (P : Program) (w : World) (K : PySem.W.Frag) (mg : Str → Option Value) (base : Heap) : Prop := C8.Cal P w K mg base 2 "check_number" (spF K pre_check_number fun _ => .non) []
abbrev CWebOf (P : Program) (w : World) (K : PySem.W.Frag) (mg : Str → Option Value) (base : Heap) (C : Addr) : Prop := C8.Cal P w K mg base 7 "web_of" (spS K pre_wo (S_wo C)) []
abbrev CWeb2 (P : Program) (w : World) (K : PySem.W.Frag) (mg : Str → Option Value) (base : Heap) (C : Addr) : Prop := C8.Mak P w K mg base 5 "Web" C (spIS K C pre_Web webNs S_Web) []
abbrev CWeb1 (P : Program) (w : World) (K : PySem.W.Frag) (mg : Str → Option Value) (base : Heap) (C : Addr) : Prop := C8.Mak P w K mg base 5 "Web" C (spIS K C pre_Web webNs S_Web) [.non]
def pre_two (C : Addr) (ds : List D) : Prop := ∃ h ms h' ms', ds = [webD C h ms, webD C h' ms'] ∧ WOk h ms ∧ WOk h' ms' ∧ h'.length = h.length
noncomputable def S_two (C : Addr) (g : Hd → Hd → Hd) (ds : List D) (d : D) : Prop := ∀ h ms h' ms', ds = [webD C h ms, webD C h' ms'] → d = webD C (g h h') ms
theorem s_two {C : Addr} {g : Hd → Hd → Hd} {h : Hd} {ms : List Nat} {h' : Hd} {ms' : List Nat} {d : D} (e : d = webD C (g h h') ms) : S_two C g [webD C h ms, webD C h' ms'] d := fun h1 ms1 h2 ms2 q => by
  injection q with q q2
  injection q2 with q2 _
  obtain ⟨rfl, rfl⟩ := webD_inj q
  obtain ⟨rfl, rfl⟩ := webD_inj q2
  exact e
def joinH (h h' : Hd) : Hd := nrm h.length fun t x => decide (x ∈ rowOf h t) || decide (x ∈ rowOf h' t)
def shareH (h h' : Hd) : Hd := nrm h.length fun t x => decide (x ∈ rowOf h t) && decide (x ∈ rowOf h' t)
def thenH (h h' : Hd) : Hd := nrm h.length fun t x => (own h' t).any fun y => decide (x ∈ own h y)
theorem nrm_rs {n : Nat} {g : Nat → Bool × List Nat} : nrm ((List.range n).map g).length (fun t x => decide (x ∈ rowN ((List.range n).map g) t)) = nrm n fun t x => decide (x ∈ (g t).2) := by
  rw [List.length_map, List.length_range]
  refine nrm_congr fun t x ht _ _ => ?_
  unfold rowN
  rw [List.map_map, List.getD_eq_getElem?_getD, List.getElem?_map, List.getElem?_range ht]
  rfl
section
variable {m : Mo} {Γ : G} {te tm : TE} {E : XK}
theorem ev_hears {h : Hd} {ms : List Nat} {t : Nat} (hi : Ev1 m K te Γ (webD C h ms)) (ht : Ev1 m K tm Γ (dN t)) (wk : WOk h ms) (hl : t < h.length) : Ev1 m K (tMeth C "hears" (spS K (pre_th C) (S_th C fun h _ t => tupN (own h t))) [] E te (tCons tm tNil)) Γ (tupN (own h t)) :=
  en_methN (T := fun x => x = [dN t]) hi (by decide) (ea_cons ht ea_nil) (fun ds e => e ▸ ⟨h, ms, t, rfl, wk, hl⟩) fun ds d e hd => by subst e; exact hd h ms t rfl
end
def inH (h h' : Hd) : Bool := (prs h).all fun p => decide (p ∈ prs h')
def S_in (C : Addr) (ds : List D) (d : D) : Prop := ∀ h ms h' ms', ds = [webD C h ms, webD C h' ms'] → d = .bl (inH h h')
theorem mem_prs {h : Hd} {t o : Nat} : (t, o) ∈ prs h ↔ t < h.length ∧ o ∈ rowOf h t := by
  unfold prs
  rw [List.mem_flatMap]
  constructor
  · rintro ⟨t', ht, hp⟩
    obtain ⟨o', ho, e⟩ := List.mem_map.mp hp
    injection e with e1 e2
    subst e1; subst e2
    exact ⟨List.mem_range.mp ht, ho⟩
  · rintro ⟨ht, ho⟩
    exact ⟨t, List.mem_range.mpr ht, List.mem_map.mpr ⟨o, ho, rfl⟩⟩
theorem num2 {a b : Nat} (ha : a ≤ 5) (hb : b ≤ 5) : areNum (prD (a, b)) 0 5 = true := by
  show ((decide ((0:Int) ≤ (a : Int)) && decide ((a : Int) ≤ 5)) && ((decide ((0:Int) ≤ (b : Int)) && decide ((b : Int) ≤ 5)) && true)) = true
  rw [decide_eq_true (by omega), decide_eq_true (by omega), decide_eq_true (by omega), decide_eq_true (by omega)]
  rfl
theorem con_pr {h : Hd} {a b : Nat} (ha : a ≤ 5) (hb : b ≤ 5) : conB h (prD (a, b)) = decide ((a, b) ∈ prs h) := by
  unfold conB
  rw [num2 ha hb, any_prs, Bool.true_and]
def pre_wm (C : Addr) (ds : List D) : Prop := ∃ h ms t k, ds = [webD C h ms, dN t, dN k] ∧ WOk h ms ∧ t < h.length ∧ k ≤ 9999
noncomputable def S_wm (C : Addr) (ds : List D) (d : D) : Prop := ∀ h ms t k, ds = [webD C h ms, dN t, dN k] → d = webD C h (ms.set t k)
theorem mk_set {ms : List Nat} {n t k : Nat} (h : mkOk ms n) (hk : k ≤ 9999) : mkOk (ms.set t k) n := ⟨by rw [List.length_set]; exact h.1, h.2.1, h.2.2.1, fun x hx => by
  rcases List.mem_or_eq_of_mem_set hx with q | q
  · exact h.2.2.2 x q
  · rw [q]; exact hk⟩
theorem cut_set {α : Type} {l : List α} {t : Nat} {k : α} (ht : t < l.length) : l.take t ++ k :: l.drop (t + 1) = l.set t k := by
  rw [List.set_eq_take_append_cons_drop, if_pos ht]
/-! ### one who is heard, more or less -/
def pre_wh (C : Addr) (b : Bool) (ds : List D) : Prop := ∃ h ms t o, ds = [webD C h ms, dN t, dN o] ∧ WOk h ms ∧ t < h.length ∧ o < h.length ∧ o ≠ t ∧ (o ∈ rowOf h t ↔ b = true)
noncomputable def S_wh (C : Addr) (g : Hd → Nat → Nat → Hd) (ds : List D) (d : D) : Prop := ∀ h ms t o, ds = [webD C h ms, dN t, dN o] → d = webD C (g h t o) ms
def addH (h : Hd) (t o : Nat) : Hd := nrm h.length fun t' x => decide (x ∈ rowOf h t') || (decide (t' = t) && decide (x = o))
def remH (h : Hd) (t o : Nat) : Hd := nrm h.length fun t' x => decide (x ∈ rowOf h t') && !(decide (t' = t) && decide (x = o))
theorem s_wh {C : Addr} {g : Hd → Nat → Nat → Hd} {h : Hd} {ms : List Nat} {t o : Nat} {d : D} (e : d = webD C (g h t o) ms) : S_wh C g [webD C h ms, dN t, dN o] d := fun h1 ms1 t1 o1 q => by
  injection q with q q2
  injection q2 with q2 q3
  injection q3 with q3 _
  obtain ⟨rfl, rfl⟩ := webD_inj q
  rw [← dN_inj q2, ← dN_inj q3]
  exact e
theorem set_rows {h : Hd} {t : Nat} {p : Bool × List Nat} (ht : t < h.length) : (h.map tupN).set t (rwD p) = ((List.range h.length).map fun t' => if t' = t then p else (true, rowOf h t')).map rwD := by
  apply List.ext_getElem
  · simp
  · intro i h1 h2
    rw [List.length_set, List.length_map] at h1
    rw [List.getElem_set, List.getElem_map, List.getElem_map, List.getElem_map, List.getElem_range, row_iff h1]
    by_cases q : t = i
    · subst q; simp
    · rw [if_neg q, if_neg (Ne.symm q)]
      rfl
end
end K03

set_option Elab.async false
set_option linter.all false
set_option maxRecDepth 100000
set_option maxHeartbeats 4000000
set_option autoImplicit false
namespace K03
open PySem L2 Tx WebM
/-! ### new numbers -/
section
variable {ns : List Nat} {n : Nat}
theorem pm_len (p : ns.Perm (List.range n)) : ns.length = n := by rw [p.length_eq, List.length_range]
theorem pm_nd (p : ns.Perm (List.range n)) : ns.Nodup := p.nodup_iff.mpr List.nodup_range
theorem pm_mem (p : ns.Perm (List.range n)) {j : Nat} : j ∈ ns ↔ j < n := by rw [p.mem_iff, List.mem_range]
theorem pm_get (p : ns.Perm (List.range n)) {a : Nat} (ha : a < n) : ns[a]? = some (ns.getD a 0) := by
  rw [List.getD_eq_getElem?_getD, List.getElem?_eq_getElem (by rw [pm_len p]; exact ha)]; rfl
theorem pm_s (p : ns.Perm (List.range n)) {a : Nat} (ha : a < n) : ns.getD a 0 < n := (pm_mem p).mp (List.mem_of_getElem? (pm_get p ha))
theorem pm_t (p : ns.Perm (List.range n)) {j : Nat} (hj : j < n) : ns.idxOf j < n := by rw [← pm_len p]; exact List.idxOf_lt_length_iff.mpr ((pm_mem p).mpr hj)
theorem pm_ts (p : ns.Perm (List.range n)) {a : Nat} (ha : a < n) : ns.idxOf (ns.getD a 0) = a := by
  have hl : a < ns.length := by rw [pm_len p]; exact ha
  have : ns.getD a 0 = ns[a] := by rw [List.getD_eq_getElem?_getD, List.getElem?_eq_getElem hl]; rfl
  rw [this]
  exact (pm_nd p).idxOf_getElem a hl
theorem pm_st (p : ns.Perm (List.range n)) {j : Nat} (hj : j < n) : ns.getD (ns.idxOf j) 0 = j := by
  have hl : ns.idxOf j < ns.length := by rw [pm_len p]; exact pm_t p hj
  rw [List.getD_eq_getElem?_getD, List.getElem?_eq_getElem hl]
  exact List.getElem_idxOf hl
end
/-- each v t at its new place -/
def putD (ns : List Nat) (v : Nat → D) (ds0 : List D) (i : Nat) : List D := (List.range i).foldl (fun acc t => acc.set (ns.getD t 0) (v t)) ds0
theorem putD_succ {ns : List Nat} {v : Nat → D} {ds0 : List D} {i : Nat} : putD ns v ds0 (i + 1) = (putD ns v ds0 i).set (ns.getD i 0) (v i) := by
  unfold putD
  rw [List.range_succ, List.foldl_append]
  rfl
theorem putD_len {ns : List Nat} {v : Nat → D} {ds0 : List D} : ∀ i, (putD ns v ds0 i).length = ds0.length
  | 0 => rfl
  | i + 1 => by rw [putD_succ, List.length_set, putD_len i]
theorem putD_at {ns : List Nat} {n : Nat} (p : ns.Perm (List.range n)) {v : Nat → D} {ds0 : List D} (hl : ds0.length = n) {j : Nat} (hj : j < n) : ∀ i, i ≤ n → (putD ns v ds0 i)[j]? = if ns.idxOf j < i then some (v (ns.idxOf j)) else ds0[j]?
  | 0, _ => by rw [if_neg (by omega)]; rfl
  | i + 1, hi => by
    rw [putD_succ]
    have ih := putD_at p (v := v) hl hj i (by omega)
    by_cases q : ns.getD i 0 = j
    · have e : ns.idxOf j = i := by rw [← q]; exact pm_ts p (by omega)
      rw [q, List.getElem?_set_self (by rw [putD_len, hl]; exact hj), e, if_pos (by omega)]
    · have e : ns.idxOf j ≠ i := fun z => q (by rw [← z]; exact pm_st p hj)
      rw [List.getElem?_set_ne q, ih]
      by_cases z : ns.idxOf j < i
      · rw [if_pos z, if_pos (by omega)]
      · rw [if_neg z, if_neg (by omega)]
theorem putD_all {ns : List Nat} {n : Nat} (p : ns.Perm (List.range n)) {v : Nat → D} {ds0 : List D} (hl : ds0.length = n) : putD ns v ds0 n = (List.range n).map fun j => v (ns.idxOf j) := by
  apply List.ext_getElem?
  intro j
  by_cases hj : j < n
  · rw [putD_at p hl hj n (Nat.le_refl n), if_pos (pm_t p hj), List.getElem?_map, List.getElem?_range hj]
    rfl
  · rw [List.getElem?_eq_none (by rw [putD_len, hl]; omega), List.getElem?_eq_none (by rw [List.length_map, List.length_range]; omega)]
def turnR (ns : List Nat) (n : Nat) (r : List Nat) : List Nat := (List.range n).filter fun x => decide (ns.idxOf x ∈ r)
def turnH (ns : List Nat) (h : Hd) : Hd := nrm h.length fun j x => decide (ns.idxOf x ∈ rowOf h (ns.idxOf j))
def turnM (ns ms : List Nat) : List Nat := (List.range ms.length).map fun j => ms.getD (ns.idxOf j) 0
theorem turn_srt {ns r : List Nat} {n : Nat} (p : ns.Perm (List.range n)) (hr : r.Nodup) (hl : ∀ o ∈ r, o < n) : srt ((r.map fun o => ns.getD o 0).map fun k : Nat => (k : Int)) = (turnR ns n r).map fun k : Nat => (k : Int) := by
  have nd : (r.map fun o => ns.getD o 0).Nodup := by
    refine List.pairwise_map.mpr (hr.imp_of_mem fun {a b} ha hb q e => q ?_)
    rw [← pm_ts p (hl a ha), ← pm_ts p (hl b hb), e]
  have q : (turnR ns n r).Perm (r.map fun o => ns.getD o 0) := (List.perm_ext_iff_of_nodup (List.nodup_range.filter _) nd).mpr fun x => by
    rw [List.mem_filter, List.mem_range, decide_eq_true_iff, List.mem_map]
    constructor
    · rintro ⟨hx, z⟩
      exact ⟨_, z, pm_st p hx⟩
    · rintro ⟨o, ho, rfl⟩
      exact ⟨pm_s p (hl o ho), by rw [pm_ts p (hl o ho)]; exact ho⟩
  exact (srt_of (q.map _) (cast_lt (List.pairwise_lt_range.filter _))).symm
theorem turn_rows {ns : List Nat} {h : Hd} (ok : WebM.Ok h) (p : ns.Perm (List.range h.length)) : ((List.range h.length).map fun j => tupN (turnR ns h.length (rowOf h (ns.idxOf j)))) = (turnH ns h).map tupN := by
  unfold turnH nrm
  rw [List.map_map]
  refine List.map_congr_left fun j hj => ?_
  have hj := List.mem_range.mp hj
  show tupN _ = tupN _
  congr 2
  unfold turnR
  refine List.filter_congr fun x hx => ?_
  by_cases q : x = j
  · subst q
    have : ns.idxOf x ∉ rowOf h (ns.idxOf x) := fun z => (ok.lt _ (pm_t p hj) _ z).2 rfl
    simp [this]
  · simp [q]
theorem turn_marks {ns ms : List Nat} {n : Nat} (hm : ms.length = n) : ((List.range n).map fun j => dN (ms.getD (ns.idxOf j) 0)) = (turnM ns ms).map dN := by
  unfold turnM
  rw [List.map_map, hm]
  rfl
theorem turnM_ok {ns ms : List Nat} {n : Nat} (h : mkOk ms n) (p : ns.Perm (List.range n)) : mkOk (turnM ns ms) n := ⟨by unfold turnM; rw [List.length_map, List.length_range]; exact h.1, h.2.1, h.2.2.1, fun x hx => by
  unfold turnM at hx
  obtain ⟨j, hj, rfl⟩ := List.mem_map.mp hx
  have hj := List.mem_range.mp hj
  have := pm_t p (by rw [← h.1]; exact hj)
  rw [List.getD_eq_getElem?_getD, List.getElem?_eq_getElem (by rw [h.1]; exact this)]
  exact h.2.2.2 _ (List.getElem_mem _)⟩
theorem turnH_ok {ns : List Nat} {h : Hd} (ok : WebM.Ok h) : WebM.Ok (turnH ns h) := nrm_ok ok.n1 ok.n5
theorem turn_wok {ns : List Nat} {h : Hd} {ms : List Nat} (wk : WOk h ms) (p : ns.Perm (List.range h.length)) : WOk (turnH ns h) (turnM ns ms) := ⟨turnH_ok wk.ok, by unfold turnH; rw [nrm_len]; exact turnM_ok wk.mok p⟩
section
variable {P : Program} {w : World} {K : PySem.W.Frag} {mg : Str → Option Value} {base : Heap} {C : Addr}
def pre_rn (C : Addr) (ds : List D) : Prop := ∃ h ms ns, ds = [webD C h ms, tupN ns] ∧ WOk h ms ∧ ns.Perm (List.range h.length)
noncomputable def S_rn (C : Addr) (ds : List D) (d : D) : Prop := ∀ h ms ns, ds = [webD C h ms, tupN ns] → d = webD C (turnH ns h) (turnM ns ms)
end
end K03

set_option Elab.async false
set_option linter.all false
set_option maxRecDepth 100000
set_option maxHeartbeats 2000000
set_option autoImplicit false
/-! Tx: dicts whose keys are tuples of numbers and of such tuples -/
namespace Tx
open PySem PySem.Spec PyProof.Rows L2
mutual
def kd : D → NestedKey
  | .int i => .num i
  | .tup xs => .tup (kds xs)
  | _ => .none
def kds : List D → List NestedKey
  | [] => []
  | x :: xs => kd x :: kds xs
end
theorem kds_map : ∀ xs : List D, kds xs = xs.map kd
  | [] => rfl
  | x :: xs => by rw [kds, kds_map xs]; rfl
def kok : Nat → D → Bool
  | _, .int _ => true
  | n + 1, .tup xs => xs.all (kok n)
  | _, _ => false
theorem kok_off : ∀ {n : Nat} {d : D}, kok n d = true → (∃ i, d = .int i) ∨ ∃ m xs, n = m + 1 ∧ d = .tup xs ∧ ∀ x ∈ xs, kok m x = true
  | n, .int i, _ => .inl ⟨i, rfl⟩
  | n + 1, .tup xs, h => .inr ⟨n, xs, rfl, rfl, List.all_eq_true.mp h⟩
  | 0, .tup _, h => by cases h
  | 0, .non, h => by cases h
  | 0, .bl _, h => by cases h
  | 0, .str _, h => by cases h
  | 0, .lst _, h => by cases h
  | 0, .obj _ _ _, h => by cases h
  | 0, .adr _, h => by cases h
  | 0, .dic, h => by cases h
  | 0, .frl _, h => by cases h
  | 0, .ftp _, h => by cases h
  | 0, .dct _ _ _, h => by cases h
  | _ + 1, .non, h => by cases h
  | _ + 1, .bl _, h => by cases h
  | _ + 1, .str _, h => by cases h
  | _ + 1, .lst _, h => by cases h
  | _ + 1, .obj _ _ _, h => by cases h
  | _ + 1, .adr _, h => by cases h
  | _ + 1, .dic, h => by cases h
  | _ + 1, .frl _, h => by cases h
  | _ + 1, .ftp _, h => by cases h
  | _ + 1, .dct _ _ _, h => by cases h
theorem kd_inj : ∀ (n : Nat) {m : Nat} {a b : D}, kok n a = true → kok m b = true → kd a = kd b → a = b := fun n => by
  induction n with
  | zero =>
    intro m a b ha hb e
    rcases kok_off ha with ⟨i, rfl⟩ | ⟨_, _, z, _⟩
    · rcases kok_off hb with ⟨j, rfl⟩ | ⟨_, ys, rfl, rfl, _⟩
      · rw [kd, kd] at e; injection e with e; rw [e]
      · rw [kd, kd] at e; cases e
    · cases z
  | succ n ih =>
    intro m a b ha hb e
    rcases kok_off ha with ⟨i, rfl⟩ | ⟨n', xs, z, rfl, hx⟩
    · rcases kok_off hb with ⟨j, rfl⟩ | ⟨_, ys, rfl, rfl, _⟩
      · rw [kd, kd] at e; injection e with e; rw [e]
      · rw [kd, kd] at e; cases e
    · cases z
      rcases kok_off hb with ⟨j, rfl⟩ | ⟨k, ys, rfl, rfl, hy⟩
      · rw [kd, kd] at e; cases e
      · rw [kd, kd] at e
        injection e with e
        congr 1
        have go : ∀ {xs ys : List D}, (∀ x ∈ xs, kok n x = true) → (∀ y ∈ ys, kok k y = true) → kds xs = kds ys → xs = ys := fun {xs} => by
          induction xs with
          | nil => intro ys _ _ e; cases ys with | nil => rfl | cons y ys => rw [kds, kds] at e; cases e
          | cons x xs ihx =>
            intro ys hx hy e
            cases ys with
            | nil => rw [kds, kds] at e; cases e
            | cons y ys =>
              rw [kds, kds] at e
              injection e with e1 e2
              rw [ih (hx x List.mem_cons_self) (hy y List.mem_cons_self) e1, ihx (fun z hz => hx z (List.mem_cons_of_mem _ hz)) (fun z hz => hy z (List.mem_cons_of_mem _ hz)) e2]
        exact go hx hy e
theorem kd_depth : ∀ (n : Nat) {d : D}, kok n d = true → (kd d).depth ≤ n := fun n => by
  induction n with
  | zero =>
    intro d h
    rcases kok_off h with ⟨i, rfl⟩ | ⟨_, _, z, _⟩
    · rw [kd, NestedKey.depth]; omega
    · cases z
  | succ n ih =>
    intro d h
    rcases kok_off h with ⟨i, rfl⟩ | ⟨n', xs, z, rfl, hx⟩
    · rw [kd, NestedKey.depth]; omega
    · cases z
      rw [kd, NestedKey.depth]
      have go : ∀ {xs : List D}, (∀ x ∈ xs, kok n x = true) → NestedKey.depthAll (kds xs) ≤ n := fun {xs} => by
        induction xs with
        | nil => intro _; rw [kds, NestedKey.depthAll]; omega
        | cons x xs ihx =>
          intro hx
          rw [kds, NestedKey.depthAll]
          have h1 := ih (hx x List.mem_cons_self)
          have h2 := ihx fun z hz => hx z (List.mem_cons_of_mem _ hz)
          omega
      have := go hx
      omega
section
variable {X : Cx} {pins : List (Addr × Obj)} {σ : L2.St} {H : Hp} {s : Shared} {F : Addr → Prop}
theorem nest_of (I : Inv X pins σ H s) : ∀ (n : Nat) {d : D} {v : V} {u : Value}, kok n d = true → Rp X.K F H v d → RelV v u → NestedIs s.heap (kd d) u := fun n => by
  induction n with
  | zero =>
    intro d v u h r ru
    rcases kok_off h with ⟨i, rfl⟩ | ⟨_, _, z, _⟩
    · obtain rfl := r.intE
      obtain ⟨t, rfl⟩ := ru
      rw [kd]
      exact .int _ _
    · cases z
  | succ n ih =>
    intro d v u h r ru
    rcases kok_off h with ⟨i, rfl⟩ | ⟨n', xs, z, rfl, hx⟩
    · obtain rfl := r.intE
      obtain ⟨t, rfl⟩ := ru
      rw [kd]
      exact .int _ _
    · cases z
      obtain ⟨a, vs, rfl, hs, ra⟩ := r.tupE
      cases ru
      obtain ⟨its, rv, ⟨o, ho, hc, m, hd⟩, _⟩ := I.tuple hs
      rw [kd]
      refine .tup ho hc hd ?_
      have go : ∀ {xs : List D} {vs : List V} {us : List Value}, (∀ x ∈ xs, kok n x = true) → RpAll X.K F H vs xs → Vals vs us → NestedAll s.heap (kds xs) us := fun {xs} => by
        induction xs with
        | nil => intro vs us _ r rv; cases r; cases rv; rw [kds]; exact .nil
        | cons x xs ihx =>
          intro vs us hx r rv
          cases r with
          | cons r1 r2 =>
            cases rv with
            | cons v1 v2 =>
              rw [kds]
              exact .cons (ih (hx x List.mem_cons_self) r1 v1) (ihx (fun z hz => hx z (List.mem_cons_of_mem _ hz)) r2 v2)
      exact go hx ra rv
/-- what may be a key here -/
def kkey (d : D) : Prop := kok 6 d = true ∧ ∃ ts, d = .tup ts
/-- what a dict's keys are -/
structure DOk (w : World) (hs : List Int) (ks : List D) : Prop where
  key : ∀ k ∈ ks, kkey k
  hash : hs = ks.map fun k => (kd k).hash w
  nd : (ks.map kd).Nodup
theorem key_is (I : Inv X pins σ H s) {d : D} {v : V} {u : Value} (h : kkey d) (r : Rp X.K F H v d) (ru : RelV v u) : ∃ b, v = .ref b ∧ u = .ref b ∧ (nestedKind X.prog X.w).is s.heap (kd d) b := by
  obtain ⟨h1, ts, rfl⟩ := h
  obtain ⟨b, vs, rfl, _, _⟩ := r.tupE
  have q := nest_of I 6 h1 r ru
  cases ru
  exact ⟨b, rfl, rfl, q, Nat.le_trans (kd_depth 6 h1) (by decide)⟩
abbrev EntR (e : Int × V × V) (x : DictEntry) : Prop := x.hash = e.1 ∧ RelV e.2.1 x.key ∧ RelV e.2.2 x.val
theorem mk_xs (I : Inv X pins σ H s) : ∀ {es : List (Int × V × V)} {ents : List DictEntry} {ks : List D}, Paired EntR es ents → RpAll X.K F H (es.map (·.2.1)) ks → (∀ k ∈ ks, kkey k) → es.map (·.1) = (ks.map fun k => (kd k).hash X.w) →
    ∃ xs : List (NestedKey × Addr × Value), ents = xs.map (entryOfKey (nestedKind X.prog X.w)) ∧ (∀ x ∈ xs, (nestedKind X.prog X.w).is s.heap x.1 x.2.1) ∧ xs.map (·.1) = ks.map kd ∧ Paired (fun (e : Int × V × V) (x : NestedKey × Addr × Value) => e.2.1 = V.ref x.2.1 ∧ RelV e.2.2 x.2.2) es xs := fun {es} => by
  induction es with
  | nil =>
    intro ents ks p r _ _
    cases p
    cases ks with
    | nil => exact ⟨[], rfl, (fun x hx => nomatch hx), rfl, .nil⟩
    | cons k ks => cases r
  | cons e es ih =>
    intro ents ks p r hk hh
    cases p with
    | @cons _ x _ ents p ps =>
      cases ks with
      | nil => cases r
      | cons k ks =>
        rw [List.map_cons] at r
        cases r with
        | cons r1 r2 =>
          rw [List.map_cons, List.map_cons] at hh
          injection hh with h1 h2
          obtain ⟨xs, e1, e2, e3, e4⟩ := ih ps r2 (fun z hz => hk z (List.mem_cons_of_mem _ hz)) h2
          obtain ⟨p1, p2, p3⟩ := p
          obtain ⟨b, q1, q2, q3⟩ := key_is I (hk k List.mem_cons_self) r1 p2
          refine ⟨(kd k, b, x.val) :: xs, ?_, (fun z hz => ?_), by rw [List.map_cons, List.map_cons, e3], .cons ⟨q1, p3⟩ e4⟩
          · rw [List.map_cons, ← e1]
            congr 1
            unfold entryOfKey
            obtain ⟨hh, kk, vv⟩ := x
            simp only at p1 q2
            rw [p1, h1, q2]
            rfl
          · rcases List.mem_cons.mp hz with rfl | hz
            · exact q3
            · exact e2 z hz
theorem dict_at (I : Inv X pins σ H s) {a : Addr} {es : List (Int × V × V)} {hs : List Int} {ks : List D} (hD : H a = some (.ext (isDict a es))) (he : es.map (·.1) = hs) (hk : RpAll X.K F H (es.map (·.2.1)) ks) (ok : DOk X.w hs ks) :
    ∃ xs : List (NestedKey × Addr × Value), s.heap.DictOfH (nestedKind X.prog X.w) a xs ∧ xs.map (·.1) = ks.map kd ∧ Paired (fun (e : Int × V × V) (x : NestedKey × Addr × Value) => e.2.1 = V.ref x.2.1 ∧ RelV e.2.2 x.2.2) es xs ∧ (a == sysModules) = false ∧ es.length ≤ 10000 := by
  obtain ⟨⟨o, ents, ep, ho, hx, hd, hsm, hl, pr⟩, _⟩ := (show ObjOk X.prog X.w H s.heap a (.ext (isDict a es)) from I.hok a _ hD)
  obtain ⟨xs, e1, e2, e3, e4⟩ := mk_xs I pr hk ok.key (he.trans ok.hash)
  exact ⟨xs, ⟨o, ents, ep, ho, hx, hd, e1, e2, by rw [e3]; exact ok.nd⟩, e3, e4, hsm, hl⟩
theorem atKey_iff {xs : List (NestedKey × Addr × Value)} {k : NestedKey} : (atKey xs k).isSome = decide (k ∈ xs.map (·.1)) := by
  unfold atKey
  rw [Option.isSome_map, Bool.eq_iff_iff, List.find?_isSome, decide_eq_true_iff, List.mem_map]
  constructor
  · rintro ⟨x, hx, e⟩
    exact ⟨x, hx, of_decide_eq_true e⟩
  · rintro ⟨x, hx, e⟩
    exact ⟨x, hx, decide_eq_true e⟩
/-- k in d -/
def rInD (K : PySem.W.Frag) (w : World) : R2 := fun x y H Q => ∃ (F : Addr → Prop) (hs : List Int) (ks vs : List D) (k : D), Rp K F H x k ∧ Rp K F H y (.dct hs ks vs) ∧ DOk w hs ks ∧ kkey k ∧ Q (.bl (decide (kd k ∈ ks.map kd))) H
theorem op_inD (hu : X.A.units + 64 < cLine) : OpR X (compareOp .In) (rInD X.K X.w) := by
  intro pins s σ H x y v u Q I rx ry q0
  obtain ⟨F, hs, ks, vs, k, rk, rd, ok, hk, q⟩ := q0
  obtain ⟨b, rfl, rfl, hb⟩ := key_is I hk rk rx
  cases rd with
  | dct nf hD he r1 r2 =>
    cases ry
    obtain ⟨xs, hm, e1, _, hsm, _⟩ := dict_at I hD he r1 ok
    exact wpAny_in_heap (show X.A.in1.units + 8 < cLine by have z : X.A.in1.units = X.A.units + 1 := rfl; omega) hb hsm hm ⟨.bl _, H, I.tok _, by rw [atKey_iff, e1]; rfl, q⟩
end
end Tx

set_option Elab.async false
set_option linter.all false
set_option maxRecDepth 100000
set_option maxHeartbeats 2000000
set_option autoImplicit false
/-! Tx: dicts with such keys: {}, d[k], d[k] = v, setdefault, tuple(d.values()) -/
namespace Tx
open PySem PySem.Spec PyProof.Rows L2
abbrev Ent := Int × V × V
abbrev dO (a : Addr) (es : List Ent) : HO := .ext (isDict a es)
theorem dO_ok {P : Program} {w : World} {H : Hp} {h : Heap} {a : Addr} {es : List Ent} (z : isDict a es h) : ObjOk P w H h a (dO a es) := by
  have ⟨o, _, _, ho, _⟩ := z
  exact ⟨z, ⟨o, ho⟩, fun h1 h2 q k => let ⟨o, c, p, e, r⟩ := q; ⟨o, c, p, k o e, r⟩⟩
theorem dO_at {P : Program} {w : World} {H : Hp} {h : Heap} {a : Addr} {es : List Ent} (ok : HOk P w H h) (e : H a = some (dO a es)) : isDict a es h := (show ObjOk P w H h a (dO a es) from ok a _ e).1
theorem pAt {α β : Type} {G : α → β → Prop} : ∀ {as : List α} {bs : List β}, Paired G as bs → ∀ {j : Nat} {b : β}, bs[j]? = some b → ∃ a, as[j]? = some a ∧ G a b
  | _, _, .nil, _, _, e => by simp at e
  | _, _, .cons p _, 0, _, e => by simp at e; exact ⟨_, rfl, e ▸ p⟩
  | _, _, .cons _ q, j + 1, _, e => by
    obtain ⟨a, h1, h2⟩ := pAt q (j := j) (by simpa using e)
    exact ⟨a, by simpa using h1, h2⟩
theorem isDict_raw {a : Addr} {es : List Ent} {h : Heap} (z : isDict a es h) : ∃ ents ep, h.DictRaw a ents ep ∧ (a == sysModules) = false ∧ es.length ≤ 10000 ∧ Paired EntR es ents.toList := by
  obtain ⟨o, ents, ep, h1, h2, h3, h4, h5, h6⟩ := z
  exact ⟨ents, ep, ⟨o, h1, h2, h3⟩, h4, h5, h6⟩
theorem isDict_type {s : Shared} {a : Addr} {es : List Ent} (z : isDict a es s.heap) : s.TypeIs (.ref a) "dict" ∧ ∀ b, Value.ref a = .ref b → ∃ ob, s.heap.get? b = some ob ∧ ob.dict = none := by
  obtain ⟨o, ents, ep, h1, h2, h3, _⟩ := z
  exact ⟨⟨o, h1, h2.1⟩, fun b e => by injection e with e; subst e; exact ⟨o, h1, h2.2.1⟩⟩
section
variable {X : Cx} {pins : List (Addr × Obj)} {σ : L2.St} {H : Hp} {s : Shared} {F : Addr → Prop} {a : Addr} {es : List Ent} {hs : List Int} {ks : List D} {k : D} {x y : V} {u r : Value}
/-- a new empty one -/
theorem inv_newD (I : Inv X pins σ H s) (tk : Nat) : Inv X pins σ (upd H s.heap.objs.size (dO s.heap.objs.size [])) { s with heap := s.heap.push { cls := .type "dict", data := .dict #[] }, toks := tk } :=
  I.laid (t' := tk) (fun _ _ q => Heap.get?_push_of_some _ q) (Nat.le_refl _) (dO_ok ⟨_, #[], 0, Heap.get?_push_size _ rfl, ⟨rfl, rfl, rfl⟩, rfl, beq_eq_false_iff_ne.mpr (Nat.ne_of_gt I.big), by decide, .nil⟩)
def tDNewH : TE := fun _ H Q => ∀ p, H p = none → Q (.ref p) (upd H p (dO p []))
theorem pe_dnewH {pos : Pos} : PE X (.Dict [] [] pos) tDNewH := ⟨fun pins s σ H Q I h => wpAny_Dict_empty ⟨.ref s.heap.objs.size, _, inv_newD I s.toks, rfl, h _ (I.hok.fresh (Nat.le_refl _))⟩⟩
/-- a key more -/
theorem ents_more {xs : List (NestedKey × Addr × Value)} {b : Addr} {kk : NestedKey} {ents : Array DictEntry} (e : ents.toList = (xs ++ [(kk, b, r)]).map (entryOfKey (nestedKind X.prog X.w))) (h0 : es.map (·.1) = xs.map fun z => z.1.hash X.w) (p : Paired (fun (e : Ent) (x : NestedKey × Addr × Value) => e.2.1 = V.ref x.2.1 ∧ RelV e.2.2 x.2.2) es xs) (rv : RelV y r) : Paired EntR (es ++ [(kk.hash X.w, .ref b, y)]) ents.toList := by
  rw [e]
  clear e
  induction p with
  | nil => exact .cons ⟨rfl, rfl, rv⟩ .nil
  | @cons e0 x0 es xs p ps ih =>
    rw [List.map_cons, List.map_cons] at h0
    injection h0 with h1 h2
    exact .cons ⟨h1.symm, by rw [p.1]; rfl, p.2⟩ (ih h2)
theorem put_back {h' : Heap} {b : Addr} {xs : List (NestedKey × Addr × Value)} (hm : h'.DictOfH (nestedKind X.prog X.w) a (xs ++ [(kd k, b, r)])) (h0 : es.map (·.1) = xs.map fun z => z.1.hash X.w) (p : Paired (fun (e : Ent) (x : NestedKey × Addr × Value) => e.2.1 = V.ref x.2.1 ∧ RelV e.2.2 x.2.2) es xs) (rv : RelV y r) (hsm : (a == sysModules) = false) (hl : es.length < 10000) :
    isDict a (es ++ [((kd k).hash X.w, .ref b, y)]) h' := by
  obtain ⟨o, ents, ep, h1, h2, h3, h4, _, _⟩ := hm
  exact ⟨o, ents, ep, h1, h2, h3, hsm, by rw [List.length_append]; simp; omega, ents_more h4 h0 p rv⟩
theorem hash_xs {xs : List (NestedKey × Addr × Value)} (he : es.map (·.1) = hs) (e : xs.map (·.1) = ks.map kd) (ok : DOk X.w hs ks) : es.map (·.1) = xs.map fun z => z.1.hash X.w := by
  rw [he, ok.hash, show (xs.map fun z => z.1.hash X.w) = (xs.map (·.1)).map (NestedKey.hash X.w) from by rw [List.map_map]; rfl, e, List.map_map]; rfl
/-- d[k] = v, k not there -/
theorem put_ok {E : Value → Shared → Prop} {A : Around} {Q : Unit → Shared → Prop} (hu : A.units + 8 < cLine) (I : Inv X pins σ H s) (hD : H a = some (dO a es)) (he : es.map (·.1) = hs) (hk : RpAll X.K F H (es.map (·.2.1)) ks) (ok : DOk X.w hs ks) (kk : kkey k) (rk : Rp X.K F H x k) (rx : RelV x u) (rv : RelV y r) (new : kd k ∉ ks.map kd) (hl : es.length < 10000)
    (h : ∀ s', Inv X pins σ (upd H a (dO a (es ++ [((kd k).hash X.w, x, y)]))) s' → Q () s') : wpAny (model X.prog X.w) A (dictSet a u r) Q E s := by
  obtain ⟨b, rfl, rfl, hb⟩ := key_is I kk rk rx
  obtain ⟨xs, hm, e1, e2, hsm, _⟩ := dict_at I hD he hk ok
  have lx : xs.length = es.length := (Paired.length e2).symm
  have none_ : atKey xs (kd k) = none := by
    have z := @atKey_iff xs (kd k)
    rw [e1, decide_eq_false new] at z
    exact Option.not_isSome_iff_eq_none.mp (by rw [z]; exact Bool.false_ne_true)
  refine wpAny_dictSet_heap (by exact hu) hb hm (fun h' hm' same => ?_) (by rw [lx, sizeLine_eq]; omega)
  rw [storedH_new none_] at hm'
  have z := put_back hm' (hash_xs he e1 ok) e2 rv hsm hl
  have ⟨o, _, _, ho, _⟩ := z
  exact h _ (I.write (e := a) (by rw [hD]; trivial) (.inl rfl) (fun c u ne q => (same.2 c ne).trans q) ⟨o, ho⟩ (dO_ok z))
theorem getK {xs : List (NestedKey × Addr × Value)} (hm : s.heap.DictOfH (nestedKind X.prog X.w) a xs) (e1 : xs.map (·.1) = ks.map kd) (e2 : Paired (fun (e : Ent) (x : NestedKey × Addr × Value) => e.2.1 = V.ref x.2.1 ∧ RelV e.2.2 x.2.2) es xs) {j : Nat} (hj : ks[j]? = some k) : ∃ e p, es[j]? = some e ∧ atKey xs (kd k) = some p ∧ RelV e.2.2 p.2 := by
  obtain ⟨o, _, _, _, _, _, _, _, nd⟩ := hm
  have z : (xs.map (·.1))[j]? = some (kd k) := by rw [e1, List.getElem?_map, hj]; rfl
  rw [List.getElem?_map] at z
  obtain ⟨x, hx, ex⟩ := Option.map_eq_some_iff.mp z
  obtain ⟨e, he, _, rv⟩ := pAt e2 hx
  obtain ⟨x1, x2⟩ := x
  exact ⟨e, x2, he, atKey_of_get nd (by rw [hx]; simp only at ex; rw [ex]), rv⟩
/-- setdefault as a call -/
theorem setd_ok {E : Value → Shared → Prop} {A : Around} {Q : Value → Shared → Prop} (hu : A.units + 16 < cLine) (I : Inv X pins σ H s) (hD : H a = some (dO a es)) (he : es.map (·.1) = hs) (hk : RpAll X.K F H (es.map (·.2.1)) ks) (ok : DOk X.w hs ks) (kk : kkey k) (rk : Rp X.K F H x k) (rx : RelV x u) (rv : RelV y r) (hl : es.length < 10000)
    (h1 : ∀ (j : Nat) (e : Ent), ks[j]? = some k → es[j]? = some e → ∀ (v : Value) (s' : Shared), Inv X pins σ H s' → RelV e.2.2 v → Q v s') (h2 : kd k ∉ ks.map kd → ∀ s', Inv X pins σ (upd H a (dO a (es ++ [((kd k).hash X.w, x, y)]))) s' → Q r s') : wpAny (model X.prog X.w) A (call (.builtin "dict.setdefault") [.ref a, u, r]) Q E s := by
  obtain ⟨b, rfl, rfl, hb⟩ := key_is I kk rk rx
  obtain ⟨xs, hm, e1, e2, hsm, _⟩ := dict_at I hD he hk ok
  have lx : xs.length = es.length := (Paired.length e2).symm
  refine call_setdefault_heap (show A.in1.units + 8 < cLine by have z : A.in1.units = A.units + 1 := rfl; omega) hb hsm hm (fun p hp => ?_) (fun none_ h' hm' same => ?_) (by rw [lx, sizeLine_eq]; omega)
  · have z : kd k ∈ ks.map kd := by
      have q := @atKey_iff xs (kd k)
      rw [hp, e1] at q
      exact of_decide_eq_true q.symm
    obtain ⟨k2, hk2, ek⟩ := List.mem_map.mp z
    have e3 : k2 = k := kd_inj 6 (ok.key k2 hk2).1 kk.1 ek
    rw [e3] at hk2
    obtain ⟨j, hj⟩ := List.mem_iff_getElem?.mp hk2
    obtain ⟨e, p2, he2, hp2, rv2⟩ := getK hm e1 e2 hj
    rw [hp] at hp2
    injection hp2 with hp2
    subst hp2
    exact h1 j e hj he2 _ _ (I.tok _) rv2
  · rw [storedH_new none_] at hm'
    have z := put_back hm' (hash_xs he e1 ok) e2 rv hsm hl
    have ⟨o, _, _, ho, _⟩ := z
    refine h2 (fun z => ?_) _ (I.write (e := a) (by rw [hD]; trivial) (.inl rfl) (fun c u ne q => (same.2 c ne).trans q) ⟨o, ho⟩ (dO_ok ‹_›))
    have q := @atKey_iff xs (kd k)
    rw [none_, e1, decide_eq_true z] at q
    cases q
def tDSd (K : PySem.W.Frag) (w : World) (td ty tx : TE) : TE := fun σ H Q => td σ H fun x H1 => ∃ a, x = .ref a ∧ (∃ es, H1 a = some (dO a es)) ∧ ty σ H1 fun y H2 => tx σ H2 fun z H3 => ∃ (F : Addr → Prop) (es : List Ent) (hs : List Int) (ks : List D) (k : D), H3 a = some (dO a es) ∧ es.map (·.1) = hs ∧ RpAll K F H3 (es.map (·.2.1)) ks ∧ DOk w hs ks ∧ kkey k ∧ Rp K F H3 y k ∧ es.length < 10000 ∧
  (∀ (j : Nat) (e : Ent), ks[j]? = some k → es[j]? = some e → Q e.2.2 H3) ∧ (kd k ∉ ks.map kd → Q z (upd H3 a (dO a (es ++ [((kd k).hash w, y, z)]))))
theorem pe_dsd {o e f : Expr} {td ty tx : TE} {apos cpos : Pos} (hu : X.A.units + 64 < cLine) (ho : PE X o td) (h1 : PE X e ty) (h2 : PE X f tx) (m : M2 X o "setdefault" apos e f cpos) : PE X (.Call (.Attribute o "setdefault" apos) [e, f] [] cpos) (tDSd X.K X.w td ty tx) := by
  refine ⟨fun pins s σ H Q I h => wpAny_Call_method m.base m.few m.line PySem.F.plainAttrs_dict PySem.F.slot_dict_setdefault PySem.F.type_dict_setdefault (thn (ho.run pins s σ H _ I h) fun u s1 ⟨x, H1, I1, rx, a, ex, ⟨es, d⟩, q1⟩ => ?_)⟩
  subst ex
  cases rx
  obtain ⟨t1, t2⟩ := isDict_type (dO_at I1.hok d)
  refine ⟨t1, t2, ?_⟩
  rw [m.trees]
  refine Calls.callWith_builtin rfl (Calls.evalArgs_plain (Calls.spliced_cons (thn (h1.run pins s1 σ H1 _ I1 q1) fun iv s2 ⟨y, H2, I2, ry, q2⟩ => Calls.spliced_cons (thn (h2.run pins s2 σ H2 _ I2 q2) fun fv s3 ⟨z, H3, I3, rz, F, es, hs, ks, k, a1, a2, a3, a4, a5, a6, a7, q3, q4⟩ => Calls.spliced_nil ?_))))
  exact setd_ok (by omega) I3 a1 a2 a3 a4 a5 a6 ry rz a7 (fun j e0 b1 b2 v s4 I4 rv => ⟨_, _, I4, rv, q3 j e0 b1 b2⟩) fun nw s4 I4 => ⟨z, _, I4, rz, q4 nw⟩
/-- d[k], there -/
def rIxD (K : PySem.W.Frag) (w : World) : R2 := fun x y H Q => ∃ (F : Addr → Prop) (a : Addr) (es : List Ent) (hs : List Int) (ks : List D) (k : D) (j : Nat) (e : Ent), x = .ref a ∧ H a = some (dO a es) ∧ es.map (·.1) = hs ∧ RpAll K F H (es.map (·.2.1)) ks ∧ DOk w hs ks ∧ kkey k ∧ Rp K F H y k ∧ ks[j]? = some k ∧ es[j]? = some e ∧ Q e.2.2 H
theorem ix_D (hu : X.A.units + 64 < cLine) : IxR X (rIxD X.K X.w) := by
  intro va sl pins s σ H x y v u Q I rx ry q hsub
  obtain ⟨F, a, es, hs, ks, k, j, e, rfl, hD, he, hk, ok, kk, rk, hj, hje, q⟩ := q
  cases rx
  obtain ⟨b, rfl, rfl, hb⟩ := key_is I kk rk ry
  obtain ⟨xs, hm, e1, e2, hsm, _⟩ := dict_at I hD he hk ok
  obtain ⟨e', p, he', hp, rv⟩ := getK hm e1 e2 hj
  rw [hje] at he'
  injection he' with he'
  subst he'
  refine tail_any hm.typeIs slot_dict_getitem.lookup (wpAny_getItem_heap (show X.A.in1.units + 8 < cLine by have z : X.A.in1.units = X.A.units + 1 := rfl; omega) hb hm hp ⟨_, H, I.tok _, rv, q⟩) hsub
end
end Tx

set_option Elab.async false
set_option linter.all false
set_option maxRecDepth 100000
set_option maxHeartbeats 2000000
set_option autoImplicit false
/-! Tx: tuple(d.values()) -/
namespace TxDV
open PySem PySem.W PySem.Calls PyProof.Rows PyProof.V PySem.Spec
section
variable {prog : Program} {w : World} {A : Around} {E : Value → Shared → Prop} {s : Shared} {p a : Addr} {ents : Array DictEntry} {ep : Nat}
abbrev IsVal (ents : Array DictEntry) (i : Nat) (v : Value) : Prop := ∃ hi : i < ents.size, v = ents[i].val
theorem new_vals {Q1 : Value → Shared → Prop} (hh : A.handled = none) (hv : s.heap.IsValuesView p a) (hm : s.heap.DictRaw a ents ep) (hn : ents.size ≤ sizeLine)
    (h : ∀ (h1 : Heap) (tk : Nat) (acc : Array Value), (∀ b o, s.heap.get? b = some o → h1.get? b = some o) → ItemsOf (IsVal ents) acc ents.size → Q1 (.ref h1.objs.size) { s with heap := h1.push { cls := .type "tuple", data := .seq acc }, toks := tk }) : codeAny (model prog w) A (.call (.builtin "tuple.__new__") ⟨[.type "tuple", .ref p], []⟩) (wants Q1 E) s := by
  refine codeAny_of_tree (show wpAny _ A.in1 (do checkBuiltinCall "tuple.__new__" ⟨[.type "tuple", .ref p], []⟩; again (.builtin "tuple.__new__" ⟨[.type "tuple", .ref p], []⟩)) _ _ s from ?_)
  refine wpAny_bind (wpAny_of_eq (F.newCall_tuple_1 _) (wpAny_pure ⟨plainId_quiet F.plain_tuple_new _, codeAny_builtin F.entry_tuple_new ?_⟩))
  rw [Around.under_plainId F.plain_tuple_new _]
  have h1 := sub_tuple_self; have h2 := init_tuple_lookup; have h3 := madeHere_tuple
  have h4 : s.TypeIs (.ref p) "dict_values" := hv.typeIs
  have h5 : A.in1.handled = none := hh
  wp_walk using wpAny_typeOf h4, kdu_collect (A := A.in1) (KdlSrc.rawValues (prog := prog) (w := w) (r := p) (d := a) (es := ents) (ep := ep)) h5 ⟨hv, hm⟩ hn
  intro g tk acc hk hacc
  show wpAny _ _ (Builtin.Tuple.tupleExact acc.toList.toArray >>= fun v => ret v) _ _ _
  unfold Builtin.Tuple.tupleExact
  rw [Array.toArray_toList]
  exact wpAny_bind (wpAny_newObj_type (wpAny_pure (h g tk acc hk hacc)) (Nat.le_trans (Nat.le_of_eq hacc.1) hn))
theorem call_vals {Q : Value → Shared → Prop} (hh : A.handled = none) (hv : s.heap.IsValuesView p a) (hm : s.heap.DictRaw a ents ep) (hn : ents.size ≤ sizeLine)
    (hQ : ∀ (h1 : Heap) (tk : Nat) (acc : Array Value), (∀ b o, s.heap.get? b = some o → h1.get? b = some o) → ItemsOf (IsVal ents) acc ents.size → Q (.ref h1.objs.size) { s with heap := h1.push { cls := .type "tuple", data := .seq acc }, toks := tk }) : wpAny (model prog w) A (call (.type "tuple") [.ref p]) Q E s := by
  refine callType_codes (Q₁ := fun obj t => t.TypeIs obj "tuple" ∧ Q obj t) F.called_tuple (F.typeCall_tuple_1 _) F.entry_object_init (new_vals (A := A.in1) hh hv hm hn fun g tk acc hk hacc => ⟨⟨_, Heap.get?_push_size _ rfl, rfl⟩, hQ g tk acc hk hacc⟩) fun obj t z => ?_
  exact ⟨z.1, F.args_object_init_2 obj _, object_init_meets F.called_tuple.init.lookup F.called_tuple.made (by decide) prog w A.in1 _ t ⟨z.1, rfl, z.2⟩⟩
end
end TxDV
namespace Tx
open PySem PySem.Spec PyProof.Rows L2
/-- the values of the dict at a -/
def valO (p a : Addr) : HO := .ext fun h => h.IsValuesView p a
theorem valO_ok {P : Program} {w : World} {H : Hp} {h : Heap} {p a : Addr} (z : h.IsValuesView p a) : ObjOk P w H h p (valO p a) := by
  have ⟨o, ho, _⟩ := z
  exact ⟨z, ⟨o, ho⟩, fun h1 h2 q k => let ⟨o, e, r⟩ := q; ⟨o, k o e, r⟩⟩
def tVals (te : TE) : TE := fun σ H Q => te σ H fun x H1 => ∃ a es, x = .ref a ∧ H1 a = some (dO a es) ∧ ∀ p, H1 p = none → Q (.ref p) (upd H1 p (valO p a))
def rTupV : List V → Hp → VK → Prop := fun vs H Q => ∃ p a es, vs = [.ref p] ∧ H p = some (valO p a) ∧ H a = some (dO a es) ∧ ∀ q, H q = none → Q (.ref q) (upd H q (.tup (es.map (·.2.2))))
section
variable {X : Cx}
theorem pe_vals {o : Expr} {to : TE} {apos cpos : Pos} (ho : PE X o to) (hbase : attributeBase o "values" X.env (eval o X.env) = eval o X.env := by rfl) (hline : (apos.endLine == cpos.line) = true := by rfl) : PE X (.Call (.Attribute o "values" apos) [] [] cpos) (tVals to) := by
  refine ⟨fun pins s σ H Q I h => wpAny_Call_method0_late hbase hline (thn (ho.run pins s σ H _ I h) fun v s1 ⟨x, H1, I1, r1, a, es, ex, hD, q⟩ => ?_)⟩
  subst ex
  cases r1
  obtain ⟨t1, t2⟩ := isDict_type (dO_at I1.hok hD)
  obtain ⟨ents, ep, hr, hsm, _, _⟩ := isDict_raw (dO_at I1.hok hD)
  refine ⟨"dict", _, PySem.F.plainAttrs_dict, PySem.F.slot_dict_values, PySem.F.type_dict_values, t1, t2, Calls.callWith_builtin rfl (PySem.evalArgs_none ?_)⟩
  refine call_meetsIn PySem.F.slot_dict_values t1 PySem.F.entry_dict_values (PySem.F.args_dict_values_1 _) (meets_dict_values_raw a hsm) ⟨⟨ents, ep, hr⟩, ?_⟩
  exact ⟨.ref s1.heap.objs.size, _, I1.laid (t' := s1.toks) (fun _ _ q => Heap.get?_push_of_some _ q) (Nat.le_refl _) (valO_ok ⟨_, Heap.get?_push_size _ rfl, rfl, rfl⟩), rfl, q _ (I1.hok.fresh (Nat.le_refl _))⟩
theorem vals_of_ents : ∀ {es : List Ent} {l : List DictEntry}, Paired EntR es l → Vals (es.map (·.2.2)) (l.map (·.val))
  | _, _, .nil => .nil
  | _, _, .cons p q => .cons p.2.2 (vals_of_ents q)
theorem cr_tupV (hc : X.calm = true) : CallR X (.type "tuple") rTupV := by
  intro pins s σ H vs us Q I rs h
  obtain ⟨p, a, es, rfl, hp, ha, q⟩ := h
  obtain ⟨u, rfl, ru⟩ := Vals.one rs
  cases ru
  obtain ⟨ents, ep, hr, hsm, hl, pr⟩ := isDict_raw (dO_at I.hok ha)
  have hv : s.heap.IsValuesView p a := (show ObjOk X.prog X.w H s.heap p (valO p a) from I.hok p _ hp).1
  have sz : ents.size = es.length := by rw [← Array.length_toList]; exact (Paired.length pr).symm
  refine TxDV.call_vals (I.ok.hd hc) hv hr (by rw [sz, sizeLine_eq]; omega) fun g tk acc hk hacc => ?_
  have I1 : Inv X pins σ H { s with heap := g, toks := tk } := I.kept (t' := tk) hk
  have e : acc.toList = ents.toList.map (·.val) := by
    refine List.ext_getElem (by rw [Array.length_toList, List.length_map, Array.length_toList]; exact hacc.1) fun i h1 h2 => ?_
    have hi : i < acc.size := by rw [Array.length_toList] at h1; exact h1
    obtain ⟨_, z⟩ := hacc.2 i acc[i] (Array.getElem?_eq_getElem hi)
    rw [Array.getElem_toList, z, List.getElem_map, Array.getElem_toList]
  have rv : Vals (es.map (·.2.2)) acc.toList := by rw [e]; exact vals_of_ents pr
  have I2 : Inv X pins σ (upd H g.objs.size (.tup (es.map (·.2.2)))) { s with heap := g.push { cls := .type "tuple", data := .seq acc }, toks := tk } :=
    I1.laid (t' := tk) (fun b o e => Heap.get?_push_of_some _ e) (Nat.le_refl _) (show ObjOk X.prog X.w _ _ _ (.tup _) from ⟨by rw [List.length_map, sizeLine_eq]; omega, acc.toList, rv, by rw [Array.toArray_toList]; exact IsTup.new _ _⟩)
  exact ⟨.ref g.objs.size, _, I2, rfl, q _ (I1.hok.fresh (Nat.le_refl _))⟩
end
end Tx

set_option Elab.async false
set_option linter.all false
set_option maxRecDepth 100000
set_option maxHeartbeats 2000000
set_option autoImplicit false
/-! Tx: an object of one's own, of any kind (OwnW), while it is filled; a dict of one's own -/
namespace Tx
open PySem PySem.Spec PyProof.Rows L2
/-- what stands at l while it is one's own: α its content -/
structure OwnW (m : Mo) (K : PySem.W.Frag) (l : Addr) (α : Type) where
  at_ : Hp → α → Prop
  keep : ∀ {H H' : Hp} {x : α}, at_ H x → H' l = H l → (∀ a o, ¬ (m.ext l).F a → H a = some o → H' a = some o) → at_ H' x
  view : α → D
  see : ∀ {H : Hp} {x : α}, ¬ m.F l → at_ H x → Rp K m.F H (.ref l) (view x)
  some_ : ∀ {H : Hp} {x : α}, at_ H x → ∃ o, H l = some o
structure OutW (α : Type) where
  nx : G → α → Prop
  rt : D → Prop
section
variable {K : PySem.W.Frag} {m : Mo} {Γ : G} {ta tb te tv tk : TE} {tt : TT} {ts tw : TS} {d : D} {l : Addr} {H0 : Hp} {α : Type} {W : OwnW m K l α} {x : α} {O O' : OutW α}
structure MeetsW (W : OwnW m K l α) (H0 H : Hp) (O : OutW α) (E : Ends) : Prop where
  nx : ∀ Γ' x' σ' H', O.nx Γ' x' → m.R H0 H' → StK (m.ext l) H H' → ER (m.ext l) K Γ' σ' H' → W.at_ H' x' → E.nx σ' H'
  rt : ∀ d v H', O.rt d → m.R H0 H' → Rp K m.F H' v d → E.rt v H'
theorem MeetsW.mv {H H1 : Hp} {E : Ends} (M : MeetsW W H0 H O E) (s : StK (m.ext l) H H1) : MeetsW W H0 H1 O E := ⟨fun Γ' x' σ' H' o r st => M.nx Γ' x' σ' H' o r (s.trans st), M.rt⟩
/-- a statement, while what stands at l is one's own -/
def SGw (W : OwnW m K l α) (H0 : Hp) (ts : TS) (Γ : G) (x : α) (O : OutW α) : Prop :=
  H0 l = none → m.I H0 → ∀ σ H, m.R H0 H → ER (m.ext l) K Γ σ H → W.at_ H x → ∀ E : Ends, MeetsW W H0 H O E → ts E σ H
theorem ow_mv {σ : L2.St} {H H1 : Hp} (h0 : H0 l = none) (i0 : m.I H0) (e : ER (m.ext l) K Γ σ H) (a : W.at_ H x) (r : m.R H H1) : W.at_ H1 x := by
  obtain ⟨o, ho⟩ := W.some_ a
  exact W.keep a (by rw [ho]; exact m.keep r e.i.1 l _ (nFl h0 i0) ho) fun b u n q => (m.ext l).keep r e.i b u n q
theorem ew_dis {i : Nat} {σ : L2.St} {H : Hp} (h0 : H0 l = none) (i0 : m.I H0) (e : ER (m.ext l) K Γ σ H) (hi : Γ[i]? = some (some (.adr l))) (a : W.at_ H x) : ER m K (Γ.set i (some (W.view x))) σ H := by
  refine ⟨e.i.1, by rw [List.length_set, e.len], fun j d h => ?_⟩
  by_cases z : i = j
  · subst z
    rw [List.getElem?_set_self (List.getElem?_eq_some_iff.mp hi).1] at h
    injection h with h; injection h with h; subst h
    obtain ⟨v, h1, h2⟩ := e.at_ i _ hi
    obtain rfl := h2.adrE
    exact ⟨_, h1, W.see (nFl h0 i0) a⟩
  · rw [List.getElem?_set_ne z] at h
    obtain ⟨v, h1, h2⟩ := e.at_ j d h
    exact ⟨v, h1, h2.weak fun a f => .inl f⟩
theorem sw_dis {i : Nat} {O : Out} (hi : Γ[i]? = some (some (.adr l))) (k : SG m K ts (Γ.set i (some (W.view x))) { nx := fun _ => False, rt := O.rt }) : SGw W H0 ts Γ x { nx := fun _ _ => False, rt := O.rt } := fun h0 i0 σ H r e a E M =>
  k σ H (ew_dis h0 i0 e hi a) E ⟨fun _ _ _ o => o.elim, fun d v H' o r' rv => M.rt d v H' o (m.trans r r') rv, fun _ _ _ o => o.elim, fun _ _ _ o => o.elim⟩
theorem sw_next (h : O.nx Γ x) : SGw W H0 tNext Γ x O := fun h0 i0 σ H r e a E M => M.nx _ _ _ _ h r (fun _ _ _ e => e) e a
theorem sw_seq (N : G → α → Prop) (h1 : SGw W H0 ts Γ x { O with nx := N }) (h2 : ∀ Γ' x', N Γ' x' → SGw W H0 tw Γ' x' O) : SGw W H0 (tSeq ts tw) Γ x O := fun h0 i0 σ H r e a E M =>
  h1 h0 i0 σ H r e a _ ⟨fun Γ' x' σ' H' o r' st e' a' => h2 Γ' x' o h0 i0 σ' H' r' e' a' E (M.mv st), M.rt⟩
/-- a test that sees it as data -/
theorem sw_if {i : Nat} {b : Bool} (hi : Γ[i]? = some (some (.adr l))) (h : EvT1 m K tt (Γ.set i (some (W.view x))) b) (h1 : b = true → SGw W H0 ts Γ x O) (h2 : b = false → SGw W H0 tw Γ x O) : SGw W H0 (tIfS tt ts tw) Γ x O := fun h0 i0 σ H r e a E M =>
  h σ H (ew_dis h0 i0 e hi a) _ fun b' H1 s r1 => by
    subst s
    have e1 : ER (m.ext l) K Γ σ H1 := e.mv (m := m.ext l) r1
    have st1 : StK (m.ext l) H H1 := fun b u n q => (m.ext l).keep r1 e.i b u n q
    cases b' with
    | true => exact h1 rfl h0 i0 σ H1 (m.trans r r1) e1 (ow_mv h0 i0 e a r1) E (M.mv st1)
    | false => exact h2 rfl h0 i0 σ H1 (m.trans r r1) e1 (ow_mv h0 i0 e a r1) E (M.mv st1)
/-- a test that doesn't look at it -/
theorem sw_ifX {b : Bool} (h : EvT1 (m.ext l) K tt Γ b) (h1 : b = true → SGw W H0 ts Γ x O) (h2 : b = false → SGw W H0 tw Γ x O) : SGw W H0 (tIfS tt ts tw) Γ x O := fun h0 i0 σ H r e a E M =>
  h σ H e _ fun b' H1 s r1 => by
    subst s
    have e1 : ER (m.ext l) K Γ σ H1 := e.mv (m := m.ext l) r1
    have st1 : StK (m.ext l) H H1 := fun b u n q => (m.ext l).keep r1 e.i b u n q
    cases b' with
    | true => exact h1 rfl h0 i0 σ H1 (m.trans r r1) e1 (ow_mv h0 i0 e a r1) E (M.mv st1)
    | false => exact h2 rfl h0 i0 σ H1 (m.trans r r1) e1 (ow_mv h0 i0 e a r1) E (M.mv st1)
theorem sw_asg {i : Nat} (h : Ev1 (m.ext l) K te Γ d) (k : O.nx (Γ.set i (some d)) x) : SGw W H0 (tAsg te (gName i)) Γ x O := fun h0 i0 σ H r e a E M =>
  h σ H e _ fun v d' H1 s r1 rv => by
    subst s
    exact M.nx _ x _ H1 k (m.trans r r1) (fun b u n q => (m.ext l).keep r1 e.i b u n q) ((e.mv (m := m.ext l) r1).set i rv) (ow_mv h0 i0 e a r1)
/-- something that changes it -/
theorem sw_do {S : α → Prop} (h : ∀ σ H, H0 l = none → m.I H0 → m.R H0 H → ER (m.ext l) K Γ σ H → W.at_ H x → ∀ Q : VK, (∀ v H' x', S x' → m.R H0 H' → StK (m.ext l) H H' → ER (m.ext l) K Γ σ H' → W.at_ H' x' → Q v H') → te σ H Q) (k : ∀ x', S x' → O.nx Γ x') : SGw W H0 (tDrop te) Γ x O := fun h0 i0 σ H r e a E M =>
  h σ H h0 i0 r e a _ fun v H' x' s r' st e' a' => M.nx Γ x' σ H' (k x' s) r' st e' a'
theorem sw_for {wi : TI} {g : TG} {xs : List D} (hi : ItX (m.ext l) K wi Γ xs) (V : Nat → G → α → Prop) (hv : V 0 Γ x)
    (hs : ∀ i d Γ' x', xs[i]? = some d → V i Γ' x' → ∃ Γ2 js, TgD (m.ext l) K g Γ' d js Γ2 ∧ SGw W H0 ts Γ2 x' { nx := V (i + 1), rt := O.rt }) (hd : ∀ Γ' x', V xs.length Γ' x' → O.nx Γ' x') : SGw W H0 (tFor wi g ts) Γ x O := fun h0 i0 σ H r e a E M => by
  refine hi σ H e _ fun J H1 r1 wk => ?_
  have r01 : m.R H0 H1 := m.trans r r1
  refine ⟨fun i k σ' H' => k = xs.length - i ∧ i ≤ xs.length ∧ m.R H0 H' ∧ StK (m.ext l) H1 H' ∧ ∃ Γ' x', V i Γ' x' ∧ ER (m.ext l) K Γ' σ' H' ∧ W.at_ H' x', ⟨_, rfl, Nat.zero_le _, r01, fun _ _ _ e => e, Γ, x, hv, e.mv r1, ow_mv h0 i0 e a r1⟩, ?_⟩
  rintro i k σ' H' ⟨rfl, hle, r', st, Γ', x', w, e', a'⟩
  obtain ⟨go, stop, yld⟩ := wk H' st
  by_cases hlt : i < xs.length
  · refine .inr ⟨go i hlt, fun σ3 H3 => m.R H0 H3 ∧ StK (m.ext l) H1 H3 ∧ ∃ Γ3 x3, V (i + 1) Γ3 x3 ∧ ER (m.ext l) K Γ3 σ3 H3 ∧ W.at_ H3 x3, fun σ3 H3 q => ⟨xs.length - (i + 1), by omega, rfl, hlt, q⟩, fun y H2 yy => ?_⟩
    obtain ⟨e2, d, hd', rx⟩ := yld i y H2 hlt yy
    subst e2
    obtain ⟨Γ2, js, tg, body⟩ := hs i d Γ' x' hd' w
    refine tg y σ' H2 e' rx _ fun σ3 H3 e3 r3 _ => ?_
    have st3 : StK (m.ext l) H1 H3 := fun a o n q => (m.ext l).keep r3 e'.i a o n (st a o n q)
    exact body h0 i0 σ3 H3 (m.trans r' r3) e3 (ow_mv h0 i0 e' a' r3) _ ⟨fun Γ4 x4 σ4 H4 o r4 st4 e4 a4 => ⟨r4, st3.trans st4, Γ4, x4, o, e4, a4⟩, fun d v H4 o r4 rv => M.rt d v H4 o r4 rv⟩
  · have e0 : i = xs.length := by omega
    subst e0
    exact .inl ⟨stop, M.nx Γ' x' σ' H' (hd Γ' x' w) r' (fun a o n q => st a o n ((m.ext l).keep r1 e.i a o n q)) e' a'⟩
end
/-! ### a dict of one's own -/
structure DX where
  hs : List Int
  ks : List D
  vs : List D
def DX.nil : DX := ⟨[], [], []⟩
def DX.more (w : World) (x : DX) (k v : D) : DX := ⟨x.hs ++ [(kd k).hash w], x.ks ++ [k], x.vs ++ [v]⟩
noncomputable def DX.setd (w : World) (x : DX) (k v : D) : DX := open Classical in if kd k ∈ x.ks.map kd then x else x.more w k v
def dctW (m : Mo) (K : PySem.W.Frag) (w : World) (l : Addr) : OwnW m K l DX where
  at_ := fun H x => DOk w x.hs x.ks ∧ ∃ es, H l = some (dO l es) ∧ es.map (·.1) = x.hs ∧ RpAll K (m.ext l).F H (es.map (·.2.1)) x.ks ∧ RpAll K (m.ext l).F H (es.map (·.2.2)) x.vs
  keep := fun a e k => by
    obtain ⟨o, es, h1, h2, h3, h4⟩ := a
    exact ⟨o, es, e.trans h1, h2, RpAll.mv k h3, RpAll.mv k h4⟩
  view := fun x => .dct x.hs x.ks x.vs
  see := fun n a => let ⟨o, es, h1, h2, h3, h4⟩ := a; .dct n h1 h2 (h3.weak fun a f => .inl f) (h4.weak fun a f => .inl f)
  some_ := fun a => let ⟨_, _, h1, _⟩ := a; ⟨_, h1⟩
theorem DOk.nil {w : World} : DOk w [] [] := ⟨(fun _ h => nomatch h), rfl, List.nodup_nil⟩
theorem DOk.more {w : World} {x : DX} {k v : D} (o : DOk w x.hs x.ks) (kk : kkey k) (new : kd k ∉ x.ks.map kd) : DOk w (x.more w k v).hs (x.more w k v).ks where
  key := fun z hz => (List.mem_append.mp hz).elim (o.key z) fun q => by rw [List.mem_singleton.mp q]; exact kk
  hash := by show _ ++ _ = _; rw [DX.more, List.map_append, o.hash]; rfl
  nd := by
    show ((x.ks ++ [k]).map kd).Nodup
    rw [List.map_append, List.nodup_append]
    refine ⟨o.nd, by simp, fun a ha b hb e => new ?_⟩
    have z : b = kd k := by simpa using hb
    rw [← z, ← e]
    exact ha
section
variable {K : PySem.W.Frag} {m : Mo} {w : World} {Γ : G} {te tv tk : TE} {ts tw : TS} {k v : D} {l : Addr} {H0 : Hp} {x : DX} {O : OutW DX}
theorem sq_newD {i : Nat} {O : Out} (kk : ∀ l H0, SGw (dctW m K w l) H0 tw (Γ.set i (some (.adr l))) DX.nil { nx := fun _ _ => False, rt := O.rt }) : SG m K (tSeq (tAsg tDNewH (gName i)) tw) Γ O := fun σ H e E M l hl => by
  have rN : m.R H (upd H l (dO l [])) := m.grow e.i (same_new hl)
  have eX : ER (m.ext l) K Γ σ (upd H l (dO l [])) := e.ext hl rN (by rw [upd_same]; exact fun z => nomatch z)
  exact kk l H hl e.i _ _ rN (eX.set i (.adr l)) ⟨.nil, [], upd_same, rfl, .nil, .nil⟩ E ⟨fun _ _ _ _ o => o.elim, fun d v H' o r rv => M.rt d v H' o r rv⟩
theorem upd_w {σ : L2.St} {H1 : Hp} {es : List Ent} (h0 : H0 l = none) (i0 : m.I H0) (r : m.R H0 H1) (e : ER (m.ext l) K Γ σ H1) : m.R H0 (upd H1 l (dO l es)) ∧ (∀ a o, ¬ (m.ext l).F a → H1 a = some o → (upd H1 l (dO l es)) a = some o) ∧ ER (m.ext l) K Γ σ (upd H1 l (dO l es)) := by
  have mv : ∀ a o, ¬ (m.ext l).F a → H1 a = some o → (upd H1 l (dO l es)) a = some o := fun a o n q => by rw [upd_ne (fun z => n (.inr z))]; exact q
  have rr : m.R H0 (upd H1 l (dO l es)) := m.chg i0 r h0
  exact ⟨rr, mv, ⟨m.inv rr i0, by rw [upd_same]; exact fun z => nomatch z⟩, e.len, fun j d h => let ⟨v, h1, h2⟩ := e.at_ j d h; ⟨v, h1, h2.go fun a o n q => ⟨n, mv a o n q⟩⟩⟩
theorem at_more {H1 : Hp} {y z : V} {es : List Ent} (ok : DOk w x.hs x.ks) (kk : kkey k) (new : kd k ∉ x.ks.map kd) (h2 : es.map (·.1) = x.hs) (h3 : RpAll K (m.ext l).F H1 (es.map (·.2.1)) x.ks) (h4 : RpAll K (m.ext l).F H1 (es.map (·.2.2)) x.vs) (rk : Rp K (m.ext l).F H1 y k) (rv : Rp K (m.ext l).F H1 z v) (mv : ∀ a o, ¬ (m.ext l).F a → H1 a = some o → (upd H1 l (dO l (es ++ [((kd k).hash w, y, z)]))) a = some o) :
    (dctW m K w l).at_ (upd H1 l (dO l (es ++ [((kd k).hash w, y, z)]))) (x.more w k v) := by
  refine ⟨ok.more kk new, es ++ [((kd k).hash w, y, z)], upd_same, ?_, ?_, ?_⟩
  · rw [List.map_append, h2]; rfl
  · rw [List.map_append]; exact (h3.append (.cons rk .nil)).mv mv
  · rw [List.map_append]; exact (h4.append (.cons rv .nil)).mv mv
/-- d.setdefault(k, v) -/
theorem sw_setd {i : Nat} (hi : Γ[i]? = some (some (.adr l))) (hk : Ev1 (m.ext l) K tk Γ k) (hv : Ev1 (m.ext l) K tv Γ v) (kk : kkey k) (hz : x.ks.length < 10000) (kn : O.nx Γ (x.setd w k v)) : SGw (dctW m K w l) H0 (tDrop (tDSd K w (tVar i) tk tv)) Γ x O :=
  sw_do (S := fun x' => x' = x.setd w k v) (fun σ H h0 i0 r e a Q q => by
    obtain ⟨u, h1, h2⟩ := e.at_ i _ hi
    obtain rfl := h2.adrE
    obtain ⟨ok, es, e1, e2, e3, e4⟩ := a
    refine ⟨_, h1, l, rfl, ⟨es, e1⟩, hk σ H e _ fun y ky H1 s1 r1 ry => hv σ H1 (e.mv (m := m.ext l) r1) _ fun z vz H2 s2 r2 rz => ?_⟩
    subst s1 s2
    have e12 := (e.mv (m := m.ext l) r1)
    have eb := e12.mv (m := m.ext l) r2
    have nl := nFl (m := m) h0 i0
    have at2 : H2 l = some (dO l es) := m.keep r2 e12.i.1 l _ nl (m.keep r1 e.i.1 l _ nl e1)
    have k12 : ∀ a o, ¬ (m.ext l).F a → H a = some o → H2 a = some o := fun a o n q => (m.ext l).keep r2 e12.i a o n ((m.ext l).keep r1 e.i a o n q)
    have ry2 := ry.mv fun a o n q => (m.ext l).keep r2 e12.i a o n q
    have rr := m.trans r (m.trans r1 r2)
    refine ⟨(m.ext l).F, es, x.hs, x.ks, ky, at2, e2, e3.mv k12, ok, kk, ry2, by have := congrArg List.length e2; have h3 := e3.len; rw [List.length_map] at h3; omega, fun j e0 hj _ => ?_, fun new => ?_⟩
    · refine q _ H2 x ?_ rr (fun a o n z => k12 a o n z) eb ⟨ok, es, at2, e2, e3.mv k12, e4.mv k12⟩
      rw [DX.setd, if_pos (List.mem_map.mpr ⟨_, List.mem_of_getElem? hj, rfl⟩)]
    · obtain ⟨r3, mv, e3'⟩ := upd_w (es := es ++ [((kd ky).hash w, y, z)]) h0 i0 rr eb
      exact q _ _ (x.more w ky vz) (by rw [DX.setd, if_neg new]) r3 (fun a o n z => mv a o n (k12 a o n z)) e3' (at_more ok kk new e2 (e3.mv k12) (e4.mv k12) ry2 rz mv)) fun x' e => e ▸ kn
/-- tuple(d.values()) -/
theorem en_tupV {hs : List Int} {ks vs : List D} (h : Ev1 m K te Γ (.dct hs ks vs)) : Ev1 m K (tCB rTupV (tCons (tVals te) tNil)) Γ (.tup vs) := fun σ H e Q q =>
  h σ H e _ fun v d H1 s r1 rv => by
    subst s
    cases rv with
    | dct nf hD he rk rv =>
      rename_i a es
      have i1 := m.inv r1 e.i
      refine ⟨a, es, rfl, hD, fun p hp => ?_⟩
      have r2 : m.R H1 (upd H1 p (valO p a)) := m.grow i1 (same_new hp)
      have i2 := m.inv r2 i1
      have ne : a ≠ p := fun z => by rw [z, hp] at hD; cases hD
      refine ⟨p, a, es, rfl, upd_same, by rw [upd_ne ne]; exact hD, fun t ht => ?_⟩
      exact q _ _ _ rfl (m.trans r1 (m.trans r2 (m.grow i2 (same_new ht)))) (rp_new i2 ht (rv.mv (m.keep r2 i1)))
end
end Tx

set_option Elab.async false
set_option linter.all false
set_option maxRecDepth 100000
set_option maxHeartbeats 2000000
/-! Tx: a dict comprehension whose keys are tuples -/
namespace TxDC
open PySem PySem.Spec PyProof.Rows L2 Tx TxS
/-- what it asks: each pair that comes is put at the end of the dict at D, under a new key -/
def tDcH (K : PySem.W.Frag) (w : World) (wi : TI) (g : TG) (tt : TT) (tk tv : TE) (vs : List Nat) : TE := fun σ H Q => wi σ H fun J H1 => ∀ D, H1 D = none →
  ∃ W : Nat → Nat → Hp → Prop, (∃ k0, W 0 k0 (upd H1 D (dO D []))) ∧ ∀ i k H2, W i k H2 → (J.stop i H2 ∧ Q (.ref D) H2) ∨ (J.go i H2 ∧
    ∃ Nx : Hp → Prop, (∀ H3, Nx H3 → ∃ k1, k1 < k ∧ W (i + 1) k1 H3) ∧ ∀ x H3, J.yld i H2 x H3 → g x (wipe σ vs) H3 fun σ2 H4 => wipe σ2 vs = wipe σ vs ∧ tt σ2 H4 fun b H5 =>
      if b = true then tk σ2 H5 fun y H6 => tv σ2 H6 fun z H7 => ∃ (F : Addr → Prop) (es : List Ent) (hs : List Int) (ks : List Tx.D) (k : Tx.D), H7 D = some (dO D es) ∧ es.map (·.1) = hs ∧ RpAll K F H7 (es.map (·.2.1)) ks ∧ DOk w hs ks ∧ kkey k ∧ Rp K F H7 y k ∧ es.length < 10000 ∧ kd k ∉ ks.map kd ∧ Nx (upd H7 D (dO D (es ++ [((kd k).hash w, y, z)]))) else Nx H5)
section
variable {X : Cx} {σ : L2.St} {kx vx tg iter : Expr} {ifs : List Expr} {sc : Scope} {own : List (PySem.Str × Nat)} {pos pos2 : Pos} {wi : TI} {g : TG} {tt : TT} {tk tv : TE}
theorem dc_core {pins : List (Addr × Obj)} {s : Shared} {H : Hp} {Q : VK} {use : Option (Value → Sem Unit)} {Qf : Value → Shared → Prop} (hc : X.calm = true) (hu : X.A.units + 8 < cLine) (hN : X.N.Nodup) (I : Inv X pins σ H s) (hi : PI X tg iter wi) (ok : BlkOk X.N X.env.scope sc own)
    (hg : ∀ s H C cl fp, PG (X.blk s H sc (compEnvC sc cl C X.env) fp) tg g) (ht : ∀ s H C cl fp, PTs (X.blk s H sc (compEnvC sc cl C X.env) fp) ifs tt) (hk : ∀ s H C cl fp, PE (X.blk s H sc (compEnvC sc cl C X.env) fp) kx tk) (hv : ∀ s H C cl fp, PE (X.blk s H sc (compEnvC sc cl C X.env) fp) vx tv)
    (hs : ∀ x, foldedSetIterable iter X.env x = pure x) (h : tDcH X.K X.w wi g tt tk tv (own.map (·.2)) σ H Q)
    (out : ∀ D C t m H', Inv X pins σ H' t → Q (.ref D) H' → t.heap.Ns C m → FpOk X pins H' C → compPost (model X.prog X.w) X.A X.xe use Qf (.ref D) C (.ok .next) t) :
    wpAny (model X.prog X.w) X.A (comprehension (.DictComp kx vx [⟨tg, iter, ifs, 0⟩] sc pos) sc X.env pos2 newDict false (eval iter X.env) use) Qf X.xe s := by
  refine wpAny_comprehension_free (use := use) rfl hs (closure_ok fun y hy e => (ok.free y hy e).elim (fun k => I.ok.has _ (.inl k)) fun k => I.ok.has _ (.inr k)) ok.kind (fun y hy e => by rw [ok.uniq y hy, e]) (thn (hi.run pins s σ H _ I h) fun _ _ came => thn came fun _ t came2 => ?_)
  obtain ⟨itA, fp, seen, J, H2, rfl, I2, T, at0, away, asks⟩ := came2
  refine wpAny_newObj_type (newEnv_comp ?_)
  generalize eD : t.heap.objs.size = D
  obtain ⟨W, ⟨k0, w0⟩, turns⟩ := asks D (I2.hok.fresh (Nat.le_of_eq eD))
  generalize e3 : ({ t with heap := t.heap.push { cls := .type "dict", data := .dict #[] } } : Shared) = s3
  have p3 : s3.heap = t.heap.push { cls := .type "dict", data := .dict #[] } := by rw [← e3]
  have z3 : s3.heap.objs.size = t.heap.objs.size + 1 := by rw [p3, Heap.size_push]
  generalize eH : upd H2 D (dO D []) = H3 at w0
  have I3 : Inv X pins σ H3 s3 := by rw [← e3, ← eH, ← eD]; exact inv_newD I2 t.toks
  have own3 : ∀ b ∈ fp, FpOk X pins H3 b ∧ b < s3.heap.objs.size := fun b hb => by
    obtain ⟨_, e, _⟩ := T.obj _ _ at0 b hb
    have lt : b < t.heap.objs.size := Heap.lt_size e
    refine ⟨⟨?_, (away b hb).2⟩, by rw [z3]; exact Nat.lt_succ_of_lt lt⟩; rw [← eH, upd_ne (by rw [← eD]; exact Nat.ne_of_lt lt)]; exact (away b hb).1
  have at3 : seen 0 s3.heap := T.keep _ _ _ at0 fun _ _ _ e => by rw [p3]; exact Heap.get?_push_of_some _ e
  have I4 := block_start I3 ok hN own3
  let cl := cellsFrom (s3.heap.objs.size + 1) sc.names (cloFrom X.env.cells sc.names [])
  have gT := hg s3 H3 s3.heap.objs.size cl fp; have gI := ht s3 H3 s3.heap.objs.size cl fp; have gK := hk s3 H3 s3.heap.objs.size cl fp; have gV := hv s3 H3 s3.heap.objs.size cl fp
  show codeAny _ _ (.compStart (.DictComp kx vx [⟨tg, iter, ifs, 0⟩] sc pos) 0 (.ref itA) (.ref D) (compEnvC sc cl s3.heap.objs.size X.env)) (compPost (model X.prog X.w) X.A X.xe use Qf (.ref D) s3.heap.objs.size) { s3 with heap := pushCells (s3.heap.push { cls := .type "dict", data := .dict #[] }) sc.names }
  generalize eB : compEnvC sc cl s3.heap.objs.size X.env = ce at gT gI gK gV ⊢
  have I4 : Inv (X.blk s3 H3 sc ce fp) [] (wipe σ (own.map (·.2))) H3 { s3 with heap := pushCells (s3.heap.push { cls := .type "dict", data := .dict #[] }) sc.names } := by rw [← eB]; exact I4
  have loc : ce.locals = s3.heap.objs.size := by rw [← eB]; rfl
  generalize e4 : ({ s3 with heap := pushCells (s3.heap.push { cls := .type "dict", data := .dict #[] }) sc.names } : Shared) = s4 at I4 ⊢
  have at4 : seen 0 s4.heap := T.keep _ _ _ at3 fun _ _ _ e => by rw [← e4]; exact pushCells_keeps _ _ _ _ (Heap.get?_push_of_some _ e)
  have mine : ∀ {σ' : L2.St} {H' : Hp} {t : Shared}, Inv (X.blk s3 H3 sc ce fp) [] σ' H' t → (∀ b ∈ fp, H' b = none) → ∀ b ∈ fp, FpOk (X.blk s3 H3 sc ce fp) [] H' b := fun I' none_ b hb => ⟨none_ b hb, (I'.ok.exf b hb).1, I'.ok.exfs b hb, .inl hb, fun x c e => (I'.ok.exf b hb).2 x c e, fun p hp => by
    have hp : p ∈ ([] : List (Addr × Obj)) ++ [] := hp
    simp at hp⟩
  have all : codeAny (model X.prog X.w) X.A (.compLoop (.DictComp kx vx [⟨tg, iter, ifs, 0⟩] sc pos) 0 (.ref itA) (.ref D) ce) (compPost (model X.prog X.w) X.A X.xe use Qf (.ref D) s3.heap.objs.size) s4 := by
    refine compLoop_anyD (Here (X.blk s3 H3 sc ce fp) σ (own.map (·.2)) seen fp W) ?_ k0 ⟨0, H3, I4, at4, fun b hb => (own3 b hb).1.1, w0⟩
    rintro k s5 ⟨i, H5, I5, at5, no5, w5⟩
    rcases turns i k H5 w5 with ⟨ends, fin⟩ | ⟨goes, Nx, next, one⟩
    · refine thnF (T.done (X.blk s3 H3 sc ce fp) rfl rfl rfl hc i [] s5 _ H5 (fun _ _ => False) I5 (mine I5 no5) at5 ends) fun r s6 ⟨hr, I6⟩ => ?_
      subst hr
      have back : Inv X pins σ H5 s6 := I3.call' (ch := fp) I6.os I6.base I6.hok I6.bare fun b hb => let q := (own3 b hb).1.2; ⟨q.2.2.1, q.1, q.2.2.2.1, q.2.2.2.2⟩
      have free : H5 s3.heap.objs.size = none := loc ▸ (show H5 ce.locals = none from I6.free)
      obtain ⟨m, ns, _⟩ := I6.loc
      exact out D s3.heap.objs.size s6 m H5 back fin (loc ▸ (show s6.heap.Ns ce.locals m from ns)) (I3.fpOk (Nat.le_refl _) free)
    · refine thnF (T.item (X.blk s3 H3 sc ce fp) rfl rfl rfl hc i [] s5 _ H5 (fun _ _ => False) I5 (mine I5 no5) at5 goes) fun r s6 ⟨u, hr, came6⟩ => ?_
      subst hr
      refine thnF came6 fun _ s7 ⟨x, H7, I7, r7, y7, at7, no7⟩ => thnF (gT.run _ s7 _ H7 x u _ (I7.pinned (mine I7 no7) (T.obj _ _ at7)) r7 (one x H7 y7)) fun _ s8 ⟨σ8, H8, I8, same, q8⟩ => thnF (gI.run _ s8 σ8 H8 _ I8 q8) fun b s9 ⟨H9, I9, q9⟩ => ?_
      cases b with
      | false => simp only [Bool.false_eq_true, if_false] at q9 ⊢; exact turn_next T at7 next same I9 q9
      | true =>
        simp only [if_true] at q9 ⊢
        refine thnF (gK.run _ s9 σ8 H9 _ I9 q9) fun z s10 ⟨y, H10, I10, ry, q10⟩ => thnF (gV.run _ s10 σ8 H10 _ I10 q10) fun z2 s11 ⟨v, H11, I11, rv, F, es, hs', ks, kk, a1, a2, a3, a4, a5, a6, a7, a8, nx⟩ => ?_
        exact put_ok (X := X.blk s3 H3 sc ce fp) (F := F) hu I11 a1 a2 a3 a4 a5 a6 ry rv a8 a7 fun _ I12 => turn_next T at7 next same I12 nx
  exact codeAny_compStart_dict all (T.self X.A 0 _ _ _ at4 all)
/-- as a value -/
theorem pe_dcH (hc : X.calm = true) (hu : X.A.units + 8 < cLine) (hN : X.N.Nodup) (hi : PI X tg iter wi) (ok : BlkOk X.N X.env.scope sc own)
    (hg : ∀ s H C cl fp, PG (X.blk s H sc (compEnvC sc cl C X.env) fp) tg g) (ht : ∀ s H C cl fp, PTs (X.blk s H sc (compEnvC sc cl C X.env) fp) ifs tt) (hk : ∀ s H C cl fp, PE (X.blk s H sc (compEnvC sc cl C X.env) fp) kx tk) (hv : ∀ s H C cl fp, PE (X.blk s H sc (compEnvC sc cl C X.env) fp) vx tv)
    (hs : ∀ x, foldedSetIterable iter X.env x = pure x := by intro _; rfl) : PE X (.DictComp kx vx [⟨tg, iter, ifs, 0⟩] sc pos) (tDcH X.K X.w wi g tt tk tv (own.map (·.2))) :=
  ⟨fun pins s σ H Q I h => by
    rw [arm_eval_DictComp]
    exact dc_core hc hu hN I hi ok hg ht hk hv hs h fun D C t m H' I' q ns f => ⟨m, ns, fun h'' sb => ⟨.ref D, H', I'.turned (t' := t.toks) (fun b o ne e => (sb.2 b ne).trans e) f.1 f.2.1 f.2.2.2.1 f.2.2.2.2.1 f.2.2.2.2.2, rfl, q⟩⟩⟩
end
end TxDC
namespace Tx
open PySem PySem.Spec PyProof.Rows L2 TxDC
section
variable {K : PySem.W.Frag} {m : Mo} {Γ : G} {tk tv : TE} {tt : TT} {w : World}
/-- {k: v for ..}, no test, all keys different -/
theorem en_dcH {α : Type} {wi : TI} {g : TG} {vs : List Nat} {xs : List α} {js : List Nat} (enc : α → D) (fk fv : α → D) (hj : ∀ j ∈ js, j ∈ vs) (hi : ItD1 m K wi Γ (xs.map enc)) (hu : xs.length < 10000) (kk : ∀ x ∈ xs, kkey (fk x)) (nd : (xs.map fun x => kd (fk x)).Nodup)
    (hs : ∀ m', Mo.Le m m' → ∀ x, x ∈ xs → ∃ Γ2, TgD m' K g (wipeG Γ vs) (enc x) js Γ2 ∧ EvT1 m' K tt Γ2 true ∧ Ev1 m' K tk Γ2 (fk x) ∧ Ev1 m' K tv Γ2 (fv x)) :
    Ev1 m K (tDcH K w wi g tt tk tv vs) Γ (.dct (xs.map fun x => (kd (fk x)).hash w) (xs.map fk) (xs.map fv)) := fun σ H e Q q => by
  refine hi σ H e _ fun J zs H1 hz r1 wk => fun Dl hD => ?_
  subst hz
  have e1 := e.mv r1
  have nF : ¬ m.F Dl := fun f => m.fa e1.i f hD
  have rN : m.R H1 (upd H1 Dl (dO Dl [])) := m.grow e1.i (same_new hD)
  have wkA : ∀ H', m.R H1 H' → (m.ext Dl).I H' → WkD (m.ext Dl) K J H' (xs.map enc) := fun H' r i => wk (m.ext Dl) (m.le_ext Dl) H' i r fun a f n => f.elim (fun f => absurd f n) fun z => z ▸ hD
  let part : Nat → DX := fun i => ⟨(xs.take i).map fun x => (kd (fk x)).hash w, (xs.take i).map fk, (xs.take i).map fv⟩
  refine ⟨fun i k H' => k = xs.length - i ∧ i ≤ xs.length ∧ m.R H1 H' ∧ (dctW m K w Dl).at_ H' (part i), ⟨_, rfl, Nat.zero_le _, rN, ⟨.nil, [], upd_same, rfl, .nil, .nil⟩⟩, ?_⟩
  rintro i k H' ⟨rfl, hle, r, at_⟩
  have eX : ER (m.ext Dl) K Γ σ H' := e1.ext hD r (by obtain ⟨_, _, z, _⟩ := at_; rw [z]; exact fun z => nomatch z)
  have iX := eX.i
  have wkX := wkA H' r iX
  have hlen : (xs.map enc).length = xs.length := List.length_map _
  by_cases hlt : i < xs.length
  · refine .inr ⟨wkX.go i H' (m.refl _) (by rw [hlen]; exact hlt), fun H3 => m.R H1 H3 ∧ (dctW m K w Dl).at_ H3 (part (i + 1)), fun H3 z => ⟨xs.length - (i + 1), by omega, rfl, hlt, z⟩, fun x H2 y => ?_⟩
    obtain ⟨r2, d, hd, rx⟩ := wkX.yld i H' x H2 (m.refl _) (by rw [hlen]; exact hlt) y
    rw [List.getElem?_map, List.getElem?_eq_getElem hlt] at hd
    injection hd with hd
    subst hd
    obtain ⟨Γ2, tg, tst, ek, ev⟩ := hs (m.ext Dl) (m.le_ext Dl) xs[i] (List.getElem_mem hlt)
    have tk1 : xs.take (i + 1) = xs.take i ++ [xs[i]] := take_one (List.getElem?_eq_getElem hlt)
    refine tg x (wipe σ vs) H2 ((eX.mv r2).wipe vs) rx _ fun σ3 H3 e3 r3 w3 => ⟨by rw [w3 vs hj, wipe_wipe], ?_⟩
    refine tst σ3 H3 e3 _ fun b H4 tb r4 => ?_
    subst tb
    rw [if_pos rfl]
    refine ek σ3 H4 (e3.mv r4) _ fun y dk H5 sk r5 ry => ev σ3 H5 ((e3.mv r4).mv r5) _ fun z dv H6 sv r6 rz => ?_
    subst sk sv
    have rr : m.R H' H6 := m.trans r2 (m.trans r3 (m.trans r4 (m.trans r5 r6)))
    obtain ⟨ok, es, b1, b2, b3, b4⟩ := ow_mv (W := dctW m K w Dl) (H0 := H1) hD e1.i eX at_ rr
    have new : kd (fk xs[i]) ∉ (part i).ks.map kd := fun z => by
      have nd' := nd
      rw [show xs.map (fun x => kd (fk x)) = (xs.take (i + 1)).map (fun x => kd (fk x)) ++ (xs.drop (i + 1)).map (fun x => kd (fk x)) from by rw [← List.map_append, List.take_append_drop], List.nodup_append, tk1, List.map_append, List.nodup_append] at nd'
      refine nd'.1.2.2 (kd (fk xs[i])) ?_ (kd (fk xs[i])) (by simp) rfl
      have z' : kd (fk xs[i]) ∈ ((xs.take i).map fk).map kd := z
      rw [List.map_map] at z'
      exact z'
    have ry6 : Rp K (m.ext Dl).F H6 y (fk xs[i]) := ry.mv fun a o n q => (m.ext Dl).keep r6 ((e3.mv r4).mv r5).i a o n q
    have e6 := ((e3.mv r4).mv r5).mv (m := m.ext Dl) r6
    obtain ⟨r7, mv, _⟩ := upd_w (es := es ++ [((kd (fk xs[i])).hash w, y, z)]) (H0 := H1) hD e1.i (m.trans r rr) e6
    have more := at_more (m := m) ok (kk _ (List.getElem_mem hlt)) new b2 b3 b4 ry6 rz mv
    refine ⟨(m.ext Dl).F, es, _, _, fk xs[i], b1, b2, b3, ok, kk _ (List.getElem_mem hlt), ry6, ?_, new, r7, ?_⟩
    · have h2 := congrArg List.length b2
      have h3 := b3.len
      simp only [part, List.length_map, List.length_take] at h2 h3
      omega
    · have ep : part (i + 1) = (part i).more w (fk xs[i]) (fv xs[i]) := by
        simp only [part, DX.more, tk1, List.map_append, List.map_cons, List.map_nil]
      rw [ep]
      exact more
  · have e0 : i = xs.length := by omega
    subst e0
    have sees := (dctW m K w Dl).see nF at_
    simp only [part, List.take_length] at sees
    exact .inl ⟨by have := wkX.stop H' (m.refl _); rw [hlen] at this; exact this, q _ _ _ rfl (m.trans r1 r) sees⟩
end
end Tx

set_option Elab.async false
set_option linter.all false
set_option maxRecDepth 100000
set_option maxHeartbeats 2000000
set_option autoImplicit false
/-! Tx: o[k] by the own `__getitem__` -/
namespace Tx
open PySem PySem.Spec PyProof.Rows L2
/-- the own method, as a subscript asks for it -/
structure IxK (P : Program) (w : World) (K : PySem.W.Frag) (mg : Str → Option Value) (base : Heap) (C : Addr) (n : Nat) (sp : Sp) : Prop where
  ex : ∃ f, PySem.W.findIn K (.ref C) "__getitem__" = some (some (.ref f)) ∧ PySem.W.isFn K (.ref f) = true ∧ PySem.W.fnIn K f = true ∧ ∃ fd ps, FnOk P w K mg base CX0 n f fd ps sp ∧ Binds K fd ps []
def rIxO (C : Addr) (sp : Sp) : R2 := fun x y H Q => ∃ (a dx : Addr) (fs : List (Str × V)), x = .ref a ∧ H a = some (.ins C dx fs) ∧ sp [.ref a, y] H Q E0
def rIxU (K : PySem.W.Frag) (C : Addr) (sp : Sp) : R2 := fun x y H Q => rIx K x y H Q ∨ rIxO C sp x y H Q
theorem pe_ixU {X : Cx} {C : Addr} {n k : Nat} {sp : Sp} {a b : Expr} {ta tb : TE} {pos : Pos} (O : IxK X.prog X.w X.K X.mg X.base C n sp) (hr : Room k X.A) (hk : n + 1 ≤ k) (ha : PE X a ta) (hb : PE X b tb) (hs : PlainIx b)
    (own : ∀ (x : Addr) (i : Value), subscripted b true (.ref x) i = runValue (.builtin "lifetime.subscript" ⟨[.ref x, i], []⟩) := by intro _ _; with_unfolding_all rfl) : PE X (.Subscript a b pos) (tOp (rIxU X.K C sp) ta tb) := by
  refine ⟨fun pins s σ H Q I h => Subscript_ (binT ha hb I h fun v u s2 x y H2 I2 rx ry q => ?_)⟩
  rcases q with q | ⟨p, dx, fs, rfl, hp, hsp⟩
  · exact ix_seq a b pins s2 σ H2 x y v u Q I2 rx ry q (hs _ _)
  cases rx
  obtain ⟨f, h1, h2, h3, fd, ps, F, hbi⟩ := O.ex
  obtain ⟨_, J, _⟩ := ins_get I2.hok hp
  obtain ⟨od, J, _⟩ := J.look
  obtain ⟨m, hF⟩ := I2.fr
  exact PySem.W.sub_K hF I2.ok.mod.kin J h1 h3 h2 (run_own F hbi (hr.mono hk).in1 rfl I2 (rr2 p ry) hsp) (own p u)
section
variable {K : PySem.W.Frag} {m : Mo} {C : Addr} {ns : List Str} {xs : List D} {y d : D} {pre : List D → Prop} {Sf : List D → D → Prop}
theorem o_ixOS (hp : pre [.obj C ns xs, y]) (hn : ∀ z, Sf [.obj C ns xs, y] z → z = d) : Op1 m K (rIxU K C (spS K pre Sf)) (.obj C ns xs) y d := fun vx vy H I rv ry Q q => by
  obtain ⟨a, dx, fs, rfl, ha, _⟩ := rv.ins
  exact .inr ⟨a, dx, fs, rfl, ha, m.F, [.obj C ns xs, y], fun a f => m.fa I f, .cons rv (.cons ry .nil), hp, fun v z H' sd sm rz => q _ _ H' (hn z sd) (m.grow I sm) rz⟩
theorem o_ixP {sp : Sp} {x : D} (h : Op1 m K (rIx K) x y d) : Op1 m K (rIxU K C sp) x y d := fun vx vy H I rx ry Q q => .inl (h vx vy H I rx ry Q q)
end
end Tx

set_option Elab.async false
set_option linter.all false
set_option maxRecDepth 100000
set_option maxHeartbeats 1000000
set_option autoImplicit false
/-! Tx: len of a dict whose keys are tuples; a test within __init__ that reads what is being made -/
namespace TxSP
open PySem PySem.W PySem.Calls PyProof.Rows PyProof.V PySem.Spec
section
variable {prog : Program} {w : World} {A : Around} {E : Value → Shared → Prop} {s : Shared} {d : Addr} {ents : Array DictEntry} {ep : Nat}
theorem len_body {Q : Value → Shared → Prop} (hd : (d == sysModules) = false) (hm : s.heap.DictRaw d ents ep) (hfit : (ents.size : Int) < 2 ^ 63)
    (h : Q (.int ents.size (s.toks + 1)) { s with toks := s.toks + 1 + 1 }) : wpAny (model prog w) A (Builtin.«len» ⟨[.ref d], []⟩) (fun fin s' => ∃ r, fin = .done (.ret r) ∧ Q r s') E s := by
  unfold Builtin.«len»
  refine wpAny_bind (m := oneArg "len" _) (wpAny_pure ?_)
  refine wpAny_bind (m := callSpecial? (.ref d) (Str.ofString "__len__")) (wpAny_callSpecial?_slot (name := Str.ofString "__len__") hm.typeIs F.slot_dict_len (call_meetsIn F.slot_dict_len hm.typeIs F.entry_dict_len (F.args_dict_len_1 _) (meets_dict_len_raw d hd) ⟨ents, ep, hm, ?_⟩))
  show wpAny _ _ _ _ _ { s with toks := s.toks + 1 }
  refine wpAny_bind (wpAny_holding (wpAny_pure (wpAny_bind (wpAny_letGo ?_))))
  show wpAny _ _ (if ((ents.size : Nat) : Int) < 0 then _ else _) _ _ _
  rw [if_neg (by omega)]
  show wpAny _ _ (if ((ents.size : Nat) : Int) ≥ 2 ^ 63 then _ else _) _ _ _
  rw [if_neg (by omega)]
  exact wpAny_bind (wpAny_mkInt (wpAny_pure ⟨_, rfl, h⟩))
theorem len_call {Q : Value → Shared → Prop} (hd : (d == sysModules) = false) (hm : s.heap.DictRaw d ents ep) (hfit : (ents.size : Int) < 2 ^ 63)
    (h : Q (.int ents.size (s.toks + 1)) { s with toks := s.toks + 1 + 1 }) : wpAny (model prog w) A (call (.builtin "len") [.ref d]) Q E s :=
  Calls.call_function_entry kind_len plain_len entry_len (args_len1 _) (len_body hd hm hfit h)
end
end TxSP
namespace Tx
open PySem PySem.Spec PyProof.Rows L2
def rLenD : List V → Hp → VK → Prop := fun xs H Q => ∃ (p : Addr) (es : List Ent), xs = [.ref p] ∧ H p = some (dO p es) ∧ Q (.int ((es.length : Nat) : Int)) H
theorem cr_lenD {X : Cx} : CallR X (.builtin "len") rLenD := by
  intro pins s σ H xs us Q I r h
  obtain ⟨p, es, rfl, hp, q⟩ := h
  rw [Vals.ref1 r]
  obtain ⟨ents, ep, hr, hsm, hl, pr⟩ := isDict_raw (dO_at I.hok hp)
  have e : ents.size = es.length := by have := Paired.length pr; rw [Array.length_toList] at this; exact this.symm
  exact TxSP.len_call hsm hr (by omega) ⟨.int ((es.length : Nat) : Int), H, I.tok _, ⟨_, by rw [e]⟩, q⟩
section
variable {K : PySem.W.Frag} {m : Mo} {Γ : G} {te : TE}
theorem en_lenD {hs : List Int} {ks vs : List D} (h : Ev1 m K te Γ (.dct hs ks vs)) : Ev1 m K (tCB rLenD (tCons te tNil)) Γ (.int ((ks.length : Nat) : Int)) := fun σ H e Q q =>
  h σ H e _ fun v d H1 s r1 rv => by
    subst s
    cases rv with
    | dct n hD e1 ak av =>
      have l := ak.len
      rw [List.length_map] at l
      refine ⟨_, _, rfl, hD, ?_⟩
      rw [l]
      exact q _ _ H1 rfl r1 (.int _)
end
section
variable {F : Addr → Prop} {K : PySem.W.Frag} {x C : Addr} {Γ : G} {ns : List Str} {ds : List D} {tt : TT} {ts tw : TS}
/-- if .., read off what is being made -/
theorem si_ifS {Fin : List Str → List D → Prop} (h : ∀ dx fvs, EvT1 (instMo F K x C dx ns fvs ds) K tt Γ false) (k : SI F K x C tw Γ ns ds Fin) : SI F K x C (tSeq (tIfS tt ts tNext) tw) Γ ns ds Fin := fun dx σ H fvs e hx hlen ra E q => by
  have eI : ER (instMo F K x C dx ns fvs ds) K Γ σ H := ⟨⟨e.i, hx, ra⟩, e.len, e.at_⟩
  refine h dx fvs σ H eI _ fun b H1 s r1 => ?_
  subst s
  exact k dx σ H1 fvs (e.mv r1) (r1 _ _ hx) hlen (ra.mv fun a o _ e => r1 a o e) E fun σ' H' ns' fvs' ds' hf hk => q σ' H' ns' fvs' ds' hf fun a o n e => hk a o n (r1 a o e)
end
end Tx

set_option Elab.async false
set_option linter.all false
set_option maxRecDepth 100000
set_option maxHeartbeats 4000000
set_option autoImplicit false
namespace K03
open PySem L2 Tx WebM
/-! ### pools as data -/
abbrev WM := Hd × List Nat
noncomputable abbrev wD (C : Addr) (p : WM) : D := webD C p.1 p.2
def keyD (p : WM) : D := .tup [hdD p.1, tupN p.2]
theorem wD_inj {C : Addr} {p q : WM} (e : wD C p = wD C q) : p = q := by
  obtain ⟨a, b⟩ := p; obtain ⟨c, d⟩ := q
  obtain ⟨e1, e2⟩ := webD_inj e
  rw [show a = c from e1, show b = d from e2]
theorem keyD_inj {p q : WM} (e : keyD p = keyD q) : p = q := by
  obtain ⟨a, b⟩ := p; obtain ⟨c, d⟩ := q
  injection e with e
  injection e with e1 e
  injection e with e2 _
  rw [show a = c from hdD_inj e1, show b = d from tupN_inj e2]
theorem kok_tupN (n : Nat) (l : List Nat) : kok (n + 1) (tupN l) = true := by
  show (l.map dN).all (kok n) = true
  rw [List.all_map]
  exact List.all_eq_true.mpr fun x _ => by cases n <;> rfl
theorem kk_key (p : WM) : kkey (keyD p) := by
  refine ⟨?_, _, rfl⟩
  show [hdD p.1, tupN p.2].all (kok 5) = true
  have h1 : kok 5 (hdD p.1) = true := by
    show (p.1.map tupN).all (kok 4) = true
    rw [List.all_map]
    exact List.all_eq_true.mpr fun x _ => kok_tupN 3 x
  simp only [List.all_cons, List.all_nil, h1, kok_tupN 4 p.2, Bool.and_true]
theorem kdk_inj {p q : WM} (e : kd (keyD p) = kd (keyD q)) : p = q := keyD_inj (kd_inj 6 (kk_key p).1 (kk_key q).1 e)
/-- webs that make a pool of n threads -/
structure POk (ws : List WM) (n : Nat) : Prop where
  ok : ∀ p ∈ ws, WOk p.1 p.2
  sz : ∀ p ∈ ws, p.1.length = n
  n1 : 1 ≤ ws.length
  n80 : ws.length ≤ 80
  nd : ws.Nodup
abbrev at0 (ws : List WM) (i : Nat) : WM := ws.getD i default
theorem at0_lt {ws : List WM} {i : Nat} (h : i < ws.length) : at0 ws i = ws[i] := by rw [at0, List.getD_eq_getElem?_getD, List.getElem?_eq_getElem h]; rfl
theorem at0_mem {ws : List WM} {i : Nat} (h : i < ws.length) : at0 ws i ∈ ws := by rw [at0_lt h]; exact List.getElem_mem h
noncomputable def wsD (C : Addr) (ws : List WM) : D := .tup (ws.map (wD C))
theorem wsD_inj {C : Addr} {ws vs : List WM} (e : wsD C ws = wsD C vs) : ws = vs := by
  injection e with e
  have go : ∀ {as bs : List WM}, as.map (wD C) = bs.map (wD C) → as = bs := fun {as} => by
    induction as with
    | nil => intro bs e; cases bs with | nil => rfl | cons b bs => cases e
    | cons a as ih =>
      intro bs e
      cases bs with
      | nil => cases e
      | cons b bs => injection e with e1 e2; rw [wD_inj e1, ih e2]
  exact go e
def poolNs : List Str := ["_webs", "_places"]
noncomputable def placesD (w : World) (ws : List WM) : D := .dct ((List.range ws.length).map fun i => (kd (keyD (at0 ws i))).hash w) ((List.range ws.length).map fun i => keyD (at0 ws i)) ((List.range ws.length).map dN)
noncomputable def poolXs (w : World) (C : Addr) (ws : List WM) : List D := [wsD C ws, placesD w ws]
noncomputable abbrev poolD (w : World) (C Cp : Addr) (ws : List WM) : D := .obj Cp poolNs (poolXs w C ws)
theorem poolD_inj {w : World} {C Cp : Addr} {ws vs : List WM} (e : poolD w C Cp ws = poolD w C Cp vs) : ws = vs := by
  injection e with _ _ e
  injection e with e1 _
  exact wsD_inj e1
structure PoolC (K : PySem.W.Frag) (Cp : Addr) : Prop where
  cl : Cls K Cp
  webs : NoAttr K Cp "_webs"
  places : NoAttr K Cp "_places"
structure TxtP (K : PySem.W.Frag) (mg : Str → Option Value) (C Cp : Addr) : Prop extends Txt K mg C where
  g_Pool : mg "Pool" = some (.ref Cp)
  k_MAX_WEBS : ∃ u, mg "MAX_WEBS" = some u ∧ RelV (.int 80) u
  repr : mg "repr" = none
  k_MAX_ROUNDS : ∃ u, mg "MAX_ROUNDS" = some u ∧ RelV (.int 6) u
section
variable {P : Program} {w : World} {K : PySem.W.Frag} {mg : Str → Option Value} {base : Heap} {C Cp : Addr}
theorem sc_web_key : FnScope ["web"] ["web"] (defScope s_web_key) := ⟨rfl, rfl, rfl, by decide +kernel, rfl, by decide +kernel, by decide +kernel⟩
abbrev CKey (P : Program) (w : World) (K : PySem.W.Frag) (mg : Str → Option Value) (base : Heap) (C : Addr) : Prop := C8.Cal P w K mg base 3 "web_key" (spS K (pre_self C) (S_self C fun h ms => keyD (h, ms))) []
theorem ok_web_key {f : Addr} {fd : FuncData} (Fu : Fun K "web_key" "web_key" s_web_key f fd) (T : TxtP K mg C Cp) (p_heard : C8.PrM P w K mg base 1 C "heard" (spS K (pre_self C) (S_self C (fun h _ => hdD h)))) (p_marks : C8.PrM P w K mg base 1 C "marks" (spS K (pre_self C) (S_self C (fun _ ms => tupN ms)))) : FnOk P w K mg base CX0 3 f fd ["web"] (spS K (pre_self C) (S_self C fun h ms => keyD (h, ms))) := by
  refine fn_pure Fu sc_web_key (fun ds h => by obtain ⟨h, ms, rfl, _⟩ := h; rfl) fun cdv A outer s H E hr => ⟨_, (pss_one (ps_ret (pe_tup (pa_cons (C8.pe_prM p_heard hr (by decide) (pv 0)) (pa_cons (C8.pe_prM p_marks hr (by decide) (pv 0)) pa_nil))))), fun F ds hp => ?_⟩
  obtain ⟨h, ms, rfl, wok⟩ := hp
  refine sg_ret (d := keyD (h, ms)) (en_tup (ea_cons (en_propN (S := fun d => d = hdD h) (en_var 0 rfl) ⟨h, ms, rfl, wok⟩ fun d hd => hd h ms rfl) (ea_cons (en_propN (S := fun d => d = tupN ms) (en_var 0 rfl) ⟨h, ms, rfl, wok⟩ fun d hd => hd h ms rfl) ea_nil)) (by simp)) (s_self (g := fun h ms => keyD (h, ms)))
theorem sc_is_web_tuple : FnScope ["value", "size", "web"] ["value"] (defScope s_is_web_tuple) := ⟨rfl, rfl, rfl, by decide +kernel, rfl, by decide +kernel, by decide +kernel⟩
def pre_wt (C : Addr) (ds : List D) : Prop := ∃ ws n, ds = [wsD C ws] ∧ POk ws n
theorem ok_is_web_tuple {f : Addr} {fd : FuncData} (Fu : Fun K "is_web_tuple" "is_web_tuple" s_is_web_tuple f fd) (T : TxtP K mg C Cp) (ic : C8.InsC K C) (p_size : CSize P w K mg base C) : FnOk P w K mg base CX0 3 f fd ["value"] (spF K (pre_wt C) fun _ => .bl true) := by
  refine fn_pure Fu sc_is_web_tuple (fun ds h => by obtain ⟨ws, n, rfl, _⟩ := h; rfl) fun cdv A outer s H E hr => ⟨_, (pss_cons (ps_if (PW.pt (pw_or (pt_not (pt_val (pe_callB (r := rIsi K) call_isi (by rfl) T.isinstance (by decide +kernel) (pa_cons (pv 0) (pa_cons (pe_bltn (v := .ty "tuple") rfl T.tuple (by decide +kernel) rfl) pa_nil))))) (pw_or1 (pt_not (pt_chain op_le op_le pe_int (pe_callB (r := rLenS K) cr_len (by rfl) T.len (by decide +kernel) (pa_cons (pv 0) pa_nil)) (C8.pe_gc rfl T.k_MAX_WEBS)))))) (pss_one (ps_ret pe_bl)) pss_nil) (pss_cons (ps_if (pt_not (pt_val (pe_callB (r := rAll K) (cr_all rfl) (by rfl) T.all (by decide +kernel) (pa_cons (pe_lc (own := [("web", 2)]) rfl sc_is_web_tuple.nd (show PI _ _ _ (iSeq K _) from pi_seq (pv 0)) (blkOk_by (by kernel_rfl)) (fun _ _ _ _ _ => (pg_name (i := 2) sc_is_web_tuple.nd rfl (by first | exact Or.inl rfl | exact Or.inr rfl))) (fun _ _ _ _ _ => pts_nil) (fun _ _ _ _ _ => (pe_callB (r := rIsi K) call_isi (by rfl) T.isinstance (by decide +kernel) (pa_cons (pv 2) (pa_cons (C8.pe_gc (v := .ref C) rfl ⟨_, T.g_Web, rfl⟩) pa_nil))))) pa_nil)))) (pss_one (ps_ret pe_bl)) pss_nil) (pss_cons (ps_set (i := 1) sc_is_web_tuple.nd rfl (by first | exact Or.inl rfl | exact Or.inr rfl) (C8.pe_prM p_size hr (by decide) (pe_ix (r := rIx K) ix_seq (pv 0) pe_int (fun _ _ => rfl)))) (pss_one (ps_ret (pe_callB (r := rAll K) (cr_all rfl) (by rfl) T.all (by decide +kernel) (pa_cons (pe_lc (own := [("web", 2)]) rfl sc_is_web_tuple.nd (show PI _ _ _ (iSeq K _) from pi_seq (pv 0)) (blkOk_by (by kernel_rfl)) (fun _ _ _ _ _ => (pg_name (i := 2) sc_is_web_tuple.nd rfl (by first | exact Or.inl rfl | exact Or.inr rfl))) (fun _ _ _ _ _ => pts_nil) (fun _ _ _ _ _ => (pe_cmpR (r := rEqD K) (op_eqD hr.units) (C8.pe_prM p_size hr (by decide) (pv 2)) (pv 1) (nomark _)))) pa_nil))))))), fun F ds hp => ?_⟩
  obtain ⟨ws, n, rfl, pk⟩ := hp
  have n1 := pk.n1
  have n80 := pk.n80
  refine sg_seqIf (b := false) ?_ (fun e => nomatch e) fun _ => ?_
  · refine EvT1.is (et_or (et_not (et_B (en_isTup (d := wsD C ws) (en_var 0 rfl) rfl))) fun _ => et_not (et_test (en_chain (en_int 1) (en_cb1 (ea_cons (en_var 0 rfl) ea_nil) (c_len (.inl rfl))) (fun _ => en_int 80) o_bl fun _ => o_bl))) ?_
    rw [List.length_map]
    have e1 : decide ((1 : Int) ≤ (ws.length : Int)) = true := decide_eq_true (by omega)
    have e2 : decide ((ws.length : Int) ≤ 80) = true := decide_eq_true (by omega)
    rw [e1, e2]
    rfl
  · have h0 : 0 < ws.length := by omega
    have size : ∀ {m' : Mo} {Γ : G} {te : TE} {E : XK} {p : WM}, p ∈ ws → Ev1 m' K te Γ (wD C p) → Ev1 m' K (tProp C (spS K (pre_self C) (S_self C fun h _ => dN h.length)) [] E te) Γ (dN n) := fun {m' Γ te E p} hp he => Ev1.is (en_propN (S := fun d => d = dN p.1.length) he ⟨p.1, p.2, rfl, pk.ok p hp⟩ fun d hd => hd p.1 p.2 rfl) (by rw [pk.sz p hp])
    have hz : ws.length ≤ 100000 := by omega
    refine sg_seqIf (b := false) (EvT1.is (et_not (et_B (en_allM (xs := ws) (wD C) (fun _ => true) (fun x _ y _ e => wD_inj e) (js := [2]) (by simp) (it_seq (d := wsD C ws) (en_var 0 rfl) (.inl rfl)) hz fun m' l p hp => ⟨_, tg_name 2, en_isiC (en_var 2 rfl) ic⟩))) (by simp)) (fun e => nomatch e) fun _ => ?_
    refine sq_asg (d := dN n) (size (List.getElem_mem h0) (en_op1 (en_var 0 rfl) (en_int 0) (o_ix (d := wD C ws[0]) (.inl rfl) (atI_of (i := 0) (by rw [List.getElem?_map, List.getElem?_eq_getElem h0]; rfl))))) ?_
    refine sg_ret (d := .bl true) (Ev1.is (en_allM (xs := ws) (wD C) (fun _ => true) (fun x _ y _ e => wD_inj e) (js := [2]) (by simp) (it_seq (d := wsD C ws) (en_var 0 rfl) (.inl rfl)) hz fun m' l p hp => ⟨_, tg_name 2, Ev1.is (en_op1 (size hp (en_var 2 rfl)) (en_var 1 rfl) o_eqI) (by simp)⟩) (by simp)) rfl
theorem rng_at {α : Type} {g : WM → α} (ws : List WM) : ((List.range ws.length).map fun i => g (at0 ws i)) = ws.map g := by
  apply List.ext_getElem
  · rw [List.length_map, List.length_map, List.length_range]
  · intro i h1 h2
    rw [List.length_map] at h2
    rw [List.getElem_map, List.getElem_map, List.getElem_range, at0_lt h2]
theorem sc_places_of : FnScope ["webs", "index", "web"] ["webs"] (defScope s_places_of) := ⟨rfl, rfl, rfl, by decide +kernel, rfl, by decide +kernel, by decide +kernel⟩
def S_places (w : World) (C : Addr) (ds : List D) (d : D) : Prop := ∀ ws, ds = [wsD C ws] → d = placesD w ws
theorem ok_places_of {f : Addr} {fd : FuncData} (Fu : Fun K "places_of" "places_of" s_places_of f fd) (T : TxtP K mg C Cp) (p_heard : C8.PrM P w K mg base 1 C "heard" (spS K (pre_self C) (S_self C (fun h _ => hdD h)))) (p_marks : C8.PrM P w K mg base 1 C "marks" (spS K (pre_self C) (S_self C (fun _ ms => tupN ms)))) : FnOk P w K mg base CX0 5 f fd ["webs"] (spS K (pre_wt C) (S_places w C)) := by
  refine fn_pure Fu sc_places_of (fun ds h => by obtain ⟨ws, n, rfl, _⟩ := h; rfl) fun cdv A outer s H E hr => ⟨_, (pss_one (ps_ret (show PE _ _ (TxDC.tDcH K w _ _ _ _ _ _) from TxDC.pe_dcH (own := [("index", 1), ("web", 2)]) rfl (Nat.lt_of_le_of_lt (Nat.add_le_add_left (by decide) _) hr.units) sc_places_of.nd (show PI _ _ _ (iEnumS K _) from pi_enumS rfl T.enumerate (pa_cons (pv 0) pa_nil)) (blkOk_by (by kernel_rfl)) (fun _ _ _ _ _ => (show PG _ _ (gTup K 2 (gCons (gName 1) (gCons (gName 2) gNil))) from pg_tup rfl (pgs_cons (pg_name (i := 1) sc_places_of.nd rfl (by first | exact Or.inl rfl | exact Or.inr rfl)) (pgs_cons (pg_name (i := 2) sc_places_of.nd rfl (by first | exact Or.inl rfl | exact Or.inr rfl)) pgs_nil)))) (fun _ _ _ _ _ => pts_nil) (fun _ _ _ _ _ => (pe_tup (pa_cons (C8.pe_prM p_heard hr (by decide) (pv 2)) (pa_cons (C8.pe_prM p_marks hr (by decide) (pv 2)) pa_nil)))) (fun _ _ _ _ _ => (pv 1))))), fun F ds hp => ?_⟩
  obtain ⟨ws, n, rfl, pk⟩ := hp
  have n80 := pk.n80
  refine sg_ret (d := placesD w ws) ?_ (fun vs e => by rw [wsD_inj (List.cons.inj e).1])
  refine Ev1.is (en_dcH (xs := List.range ws.length) (fun i => .tup [dN i, wD C (at0 ws i)]) (fun i => keyD (at0 ws i)) (fun i => dN i) (js := [1, 2]) (by simp) ?_ (by rw [List.length_range]; omega) (fun i _ => kk_key _) ?_ fun m' l i hi => ⟨_, tg_pair, et_yes, ?_, en_var 1 rfl⟩) rfl
  · have q := it_enum (m := pureMo F) (K := K) (Γ := startG ["webs", "index", "web"] [wsD C ws]) (ea_cons (en_var 0 rfl) ea_nil) (.inl rfl)
    rw [enumD_map] at q
    exact q
  · rw [rng_at (g := fun p => kd (keyD p))]
    exact List.Pairwise.map _ (fun a b h e => h (kdk_inj e)) pk.nd
  · have ok := pk.ok _ (at0_mem (List.mem_range.mp hi))
    exact en_tup (ea_cons (en_propN (S := fun d => d = hdD (at0 ws i).1) (en_var 2 rfl) ⟨_, _, rfl, ok⟩ fun d hd => hd _ _ rfl) (ea_cons (en_propN (S := fun d => d = tupN (at0 ws i).2) (en_var 2 rfl) ⟨_, _, rfl, ok⟩ fun d hd => hd _ _ rfl) ea_nil)) (by simp)
end
end K03

set_option Elab.async false
set_option linter.all false
set_option maxRecDepth 100000
set_option maxHeartbeats 4000000
set_option autoImplicit false
namespace K03
open PySem L2 Tx WebM
section
variable {P : Program} {w : World} {K : PySem.W.Frag} {mg : Str → Option Value} {base : Heap} {C Cp : Addr}
theorem sc_Pool___init : FnScope ["self", "webs"] ["self", "webs"] (defScope s_Pool___init) := ⟨rfl, rfl, rfl, by decide +kernel, rfl, by decide +kernel, by decide +kernel⟩
def pre_Pool (C : Addr) (ds : List D) : Prop := ∃ ws n, ds = [wsD C ws] ∧ POk ws n
def S_Pool (w : World) (C : Addr) (ds xs : List D) : Prop := ∀ ws, ds = [wsD C ws] → xs = poolXs w C ws
theorem ok_Pool_init {f : Addr} {fd : FuncData} (Fu : FunD K "__init__" "Pool.__init__" (defArgs s_Pool___init) (defBody s_Pool___init) (defScope s_Pool___init) [] [] f fd) (T : TxtP K mg C Cp) (W : PoolC K Cp)
    (c_is_web_tuple : C8.Cal P w K mg base 3 "is_web_tuple" (spF K (pre_wt C) fun _ => .bl true) []) (c_places_of : C8.Cal P w K mg base 5 "places_of" (spS K (pre_wt C) (S_places w C)) []) : FnOk P w K mg base CX0 7 f fd ["self", "webs"] (spIS K Cp (pre_Pool C) poolNs (S_Pool w C)) := by
  refine fn_init Fu sc_Pool___init (fun ds h => by obtain ⟨ws, n, rfl, _⟩ := h; rfl) fun cdv A outer s H E hr => ⟨_, (pss_cons (ps_if (pt_not (pt_val (C8.pe_c c_is_web_tuple hr (by decide) rfl (pa_cons (pv 1) pa_nil)))) (pss_one ps_never) pss_nil) (pss_cons (ps_fld (pv 0) (pv 1) rfl) (pss_cons (ps_fld (pv 0) (C8.pe_c c_places_of hr (by decide) rfl (pa_cons (pv 1) pa_nil)) rfl) (pss_one (ps_if (pt_cmpR op_lt (pe_callB (r := rLenD) cr_lenD (by rfl) T.len (by decide +kernel) (pa_cons (show PE _ _ (tFld K _ "_places") from pe_fld (pv 0) rfl) pa_nil)) (pe_callB (r := rLenS K) cr_len (by rfl) T.len (by decide +kernel) (pa_cons (pv 1) pa_nil)) (nomark _)) (pss_one ps_never) pss_nil))))), fun F x ds hp hF => ?_⟩
  obtain ⟨ws, n, rfl, pk⟩ := hp
  have n1 := pk.n1
  have n80 := pk.n80
  refine si_if (EvT1.is (et_not (et_B (en_callF (ds := [wsD C ws]) (ea_cons (en_var 1 rfl) ea_nil) ⟨ws, n, rfl, pk⟩))) rfl) ?_
  refine si_fld hF (fun dx fvs => en_var 1 rfl) rfl W.cl W.webs (by decide) (by decide) ?_
  refine si_fld (d := placesD w ws) hF (fun dx fvs => en_call (ds := [wsD C ws]) (S := fun d => d = placesD w ws) (ea_cons (en_var 1 rfl) ea_nil) ⟨ws, n, rfl, pk⟩ fun d hd => hd ws rfl) rfl W.cl W.places (by decide) (by decide) ?_
  refine si_seqNext (si_ifS (fun dx fvs => ?_) (si_end ⟨rfl, fun vs e => by rw [wsD_inj (List.cons.inj e).1]; rfl⟩))
  refine EvT1.is (et_test (en_op1 (en_lenD (hs := (List.range ws.length).map fun i => (kd (keyD (at0 ws i))).hash w) (ks := (List.range ws.length).map fun i => keyD (at0 ws i)) (vs := (List.range ws.length).map dN) (en_fldSelf (f := "_places") rfl (en_var 0 rfl) W.cl W.places)) (en_cb1 (ea_cons (en_var 1 rfl) ea_nil) (c_len (b := wsD C ws) (ds := ws.map (wD C)) (.inl rfl))) o_bl)) ?_
  rw [List.length_map, List.length_map, List.length_range]
  exact decide_eq_false (by omega)
/-! ### what a pool tells -/
def pre_pool (w : World) (C Cp : Addr) (ds : List D) : Prop := ∃ ws n, ds = [poolD w C Cp ws] ∧ POk ws n
def S_pool (w : World) (C Cp : Addr) (g : List WM → D) (ds : List D) (d : D) : Prop := ∀ ws, ds = [poolD w C Cp ws] → d = g ws
theorem s_pool {g : List WM → D} {ws : List WM} : S_pool w C Cp g [poolD w C Cp ws] (g ws) := fun vs e => by rw [poolD_inj (List.cons.inj e).1]
theorem sc_Pool_webs : FnScope ["self"] ["self"] (defScope s_Pool_webs) := ⟨rfl, rfl, rfl, by decide +kernel, rfl, by decide +kernel, by decide +kernel⟩
theorem ok_Pool_webs {f : Addr} {fd : FuncData} (Fu : Fun K "webs" "Pool.webs" s_Pool_webs f fd) (T : TxtP K mg C Cp) (W : PoolC K Cp) : FnOk P w K mg base CX0 1 f fd ["self"] (spS K (pre_pool w C Cp) (S_pool w C Cp (wsD C))) := by
  refine fn_pure Fu sc_Pool_webs (fun ds h => by obtain ⟨ws, n, rfl, _⟩ := h; rfl) fun cdv A outer s H E hr => ⟨_, (pss_one (ps_ret (show PE _ _ (tFld K _ "_webs") from pe_fld (pv 0) rfl))), fun F ds hp => ?_⟩
  obtain ⟨ws, n, rfl, pk⟩ := hp
  exact sg_ret (en_fld (en_var 0 rfl) W.cl W.webs rfl) (s_pool (g := wsD C))
def sizeP (ws : List WM) : Nat := (at0 ws 0).1.length
theorem size_is {ws : List WM} {n : Nat} (pk : POk ws n) : sizeP ws = n := pk.sz _ (at0_mem (by have := pk.n1; omega))
theorem sc_Pool_size : FnScope ["self"] ["self"] (defScope s_Pool_size) := ⟨rfl, rfl, rfl, by decide +kernel, rfl, by decide +kernel, by decide +kernel⟩
theorem ok_Pool_size {f : Addr} {fd : FuncData} (Fu : Fun K "size" "Pool.size" s_Pool_size f fd) (T : TxtP K mg C Cp) (W : PoolC K Cp) (p_size : CSize P w K mg base C) : FnOk P w K mg base CX0 3 f fd ["self"] (spS K (pre_pool w C Cp) (S_pool w C Cp fun ws => dN (sizeP ws))) := by
  refine fn_pure Fu sc_Pool_size (fun ds h => by obtain ⟨ws, n, rfl, _⟩ := h; rfl) fun cdv A outer s H E hr => ⟨_, (pss_one (ps_ret (C8.pe_prM p_size hr (by decide) (pe_ix (r := rIx K) ix_seq (show PE _ _ (tFld K _ "_webs") from pe_fld (pv 0) rfl) pe_int (fun _ _ => rfl))))), fun F ds hp => ?_⟩
  obtain ⟨ws, n, rfl, pk⟩ := hp
  have h0 : 0 < ws.length := by have := pk.n1; omega
  exact sg_ret (d := dN (sizeP ws)) (en_propN (S := fun d => d = dN (sizeP ws)) (en_op1 (en_fld (d := wsD C ws) (en_var 0 rfl) W.cl W.webs rfl) (en_int 0) (o_ix (d := wD C (at0 ws 0)) (.inl rfl) (atI_of (i := 0) (by rw [List.getElem?_map, List.getElem?_eq_getElem h0, at0_lt h0]; rfl)))) ⟨_, _, rfl, pk.ok _ (at0_mem h0)⟩ fun d hd => hd _ _ rfl) (s_pool (g := fun ws => dN (sizeP ws)))
theorem sc_Pool___len : FnScope ["self"] ["self"] (defScope s_Pool___len) := ⟨rfl, rfl, rfl, by decide +kernel, rfl, by decide +kernel, by decide +kernel⟩
abbrev spPL (K : PySem.W.Frag) (w : World) (C Cp : Addr) : Sp := spS K (pre_pool w C Cp) (S_pool w C Cp fun ws => dN ws.length)
theorem ok_Pool_len {f : Addr} {fd : FuncData} (Fu : Fun K "__len__" "Pool.__len__" s_Pool___len f fd) (T : TxtP K mg C Cp) (W : PoolC K Cp) : FnOk P w K mg base CX0 1 f fd ["self"] (spPL K w C Cp) := by
  refine fn_pure Fu sc_Pool___len (fun ds h => by obtain ⟨ws, n, rfl, _⟩ := h; rfl) fun cdv A outer s H E hr => ⟨_, (pss_one (ps_ret (pe_callB (r := rLenS K) cr_len (by rfl) T.len (by decide +kernel) (pa_cons (show PE _ _ (tFld K _ "_webs") from pe_fld (pv 0) rfl) pa_nil)))), fun F ds hp => ?_⟩
  obtain ⟨ws, n, rfl, pk⟩ := hp
  exact sg_ret (d := dN ws.length) (Ev1.is (en_cb1 (ea_cons (en_fld (d := wsD C ws) (en_var 0 rfl) W.cl W.webs rfl) ea_nil) (c_len (.inl rfl))) (by rw [List.length_map])) (s_pool (g := fun ws => dN ws.length))
theorem sc_Pool___getitem : FnScope ["self", "at"] ["self", "at"] (defScope s_Pool___getitem) := ⟨rfl, rfl, rfl, by decide +kernel, rfl, by decide +kernel, by decide +kernel⟩
def pre_pix (w : World) (C Cp : Addr) (ds : List D) : Prop := ∃ ws n i, ds = [poolD w C Cp ws, dN i] ∧ POk ws n ∧ i < ws.length
def S_pix (w : World) (C Cp : Addr) (ds : List D) (d : D) : Prop := ∀ ws i, ds = [poolD w C Cp ws, dN i] → d = wD C (at0 ws i)
theorem ok_Pool_getitem {f : Addr} {fd : FuncData} (Fu : Fun K "__getitem__" "Pool.__getitem__" s_Pool___getitem f fd) (T : TxtP K mg C Cp) (W : PoolC K Cp) (c_check_number : CCheckNum P w K mg base) : FnOk P w K mg base CX0 4 f fd ["self", "at"] (spS K (pre_pix w C Cp) (S_pix w C Cp)) := by
  refine fn_pure Fu sc_Pool___getitem (fun ds h => by obtain ⟨ws, n, i, rfl, _⟩ := h; rfl) fun cdv A outer s H E hr => ⟨_, (pss_cons (ps_expr (C8.pe_c c_check_number hr (by decide) rfl (pa_cons (pv 1) (pa_cons pe_int (pa_cons (pe_op op_sub (pe_callB (r := rLenS K) cr_len (by rfl) T.len (by decide +kernel) (pa_cons (show PE _ _ (tFld K _ "_webs") from pe_fld (pv 0) rfl) pa_nil)) pe_int) pa_nil))))) (pss_one (ps_ret (pe_ix (r := rIx K) ix_seq (show PE _ _ (tFld K _ "_webs") from pe_fld (pv 0) rfl) (pv 1) (fun _ _ => rfl))))), fun F ds hp => ?_⟩
  obtain ⟨ws, n, i, rfl, pk, hi⟩ := hp
  have webs : ∀ {m' : Mo} {Γ : G}, Γ[0]? = some (some (poolD w C Cp ws)) → Ev1 m' K (tFld K (tVar 0) "_webs") Γ (wsD C ws) := fun e => en_fld (d := wsD C ws) (en_var 0 e) W.cl W.webs rfl
  refine sg_seq (fun Γ' => Γ' = startG ["self", "at"] [poolD w C Cp ws, dN i]) (sg_drop (en_callF (ds := [dN i, .int 0, .int ((ws.length : Int) - 1)]) (ea_cons (en_var 1 rfl) (ea_cons (en_int 0) (ea_cons (Ev1.is (en_op1 (en_cb1 (ea_cons (webs rfl) ea_nil) (c_len (.inl rfl))) (en_int 1) o_int) (by rw [List.length_map])) ea_nil))) ⟨_, _, _, rfl, by omega, by omega⟩) rfl) ?_
  rintro Γ' rfl
  refine sg_ret (d := wD C (at0 ws i)) (en_op1 (webs rfl) (en_var 1 rfl) (o_ix (d := wD C (at0 ws i)) (.inl rfl) (atI_of (by rw [List.getElem?_map, List.getElem?_eq_getElem hi, at0_lt hi]; rfl)))) fun vs j e => ?_
  injection e with e1 e
  injection e with e2 _
  rw [poolD_inj e1, dN_inj e2]
def turnP (ns : List Nat) (p : WM) : WM := (turnH ns p.1, turnM ns p.2)
def pre_prn (w : World) (C Cp : Addr) (ds : List D) : Prop := ∃ ws n ns, ds = [poolD w C Cp ws, tupN ns] ∧ POk ws n ∧ ns.Perm (List.range n) ∧ POk (ws.map (turnP ns)) n
def S_prn (w : World) (C Cp : Addr) (ds : List D) (d : D) : Prop := ∀ ws ns, ds = [poolD w C Cp ws, tupN ns] → d = poolD w C Cp (ws.map (turnP ns))
abbrev CPool (P : Program) (w : World) (K : PySem.W.Frag) (mg : Str → Option Value) (base : Heap) (C Cp : Addr) : Prop := C8.Mak P w K mg base 7 "Pool" Cp (spIS K Cp (pre_Pool C) poolNs (S_Pool w C)) []
theorem sc_check_pool : FnScope ["pool"] ["pool"] (defScope s_check_pool) := ⟨rfl, rfl, rfl, by decide +kernel, rfl, by decide +kernel, by decide +kernel⟩
theorem ok_check_pool {f : Addr} {fd : FuncData} (Fu : Fun K "check_pool" "check_pool" s_check_pool f fd) (T : TxtP K mg C Cp) (icp : C8.InsC K Cp) : FnOk P w K mg base CX0 1 f fd ["pool"] (spF K (pre_pool w C Cp) fun _ => .non) := by
  refine fn_pure Fu sc_check_pool (fun ds h => by obtain ⟨ws, n, rfl, _⟩ := h; rfl) fun cdv A outer s H E hr => ⟨_, (pss_one (ps_if (pt_not (pt_val (pe_callB (r := rIsi K) call_isi (by rfl) T.isinstance (by decide +kernel) (pa_cons (pv 0) (pa_cons (C8.pe_gc (v := .ref Cp) rfl ⟨_, T.g_Pool, rfl⟩) pa_nil))))) (pss_one ps_never) pss_nil)), fun F ds hp => ?_⟩
  obtain ⟨ws, n, rfl, pk⟩ := hp
  exact sg_if (b := false) (EvT1.is (et_not (et_B (en_isiC (en_var 0 rfl) icp))) rfl) (fun e => nomatch e) fun _ => sg_next rfl
def pre_ct (w : World) (C Cp : Addr) (ds : List D) : Prop := ∃ ws n t, ds = [poolD w C Cp ws, dN t] ∧ POk ws n ∧ t < n
abbrev CPSize (P : Program) (w : World) (K : PySem.W.Frag) (mg : Str → Option Value) (base : Heap) (C Cp : Addr) : Prop := C8.PrM P w K mg base 3 Cp "size" (spS K (pre_pool w C Cp) (S_pool w C Cp fun ws => dN (sizeP ws)))
end
end K03

set_option Elab.async false
set_option linter.all false
set_option maxRecDepth 100000
set_option maxHeartbeats 2000000
/-! Tx: a set comprehension of numbers with two sources -/
namespace TxS2
open PySem PySem.Spec PyProof.Rows L2 PpSet Tx TxS
section
variable {prog : Program} {w : World} {A : Around} {R : Result → Shared → Prop} {s : Shared} {elt t0 i0 t1 i1 : Expr} {f0 f1 : List Expr} {sc : Scope} {pos : Pos} {it acc : Value} {env : Env}
/-- the comprehension of two sources -/
abbrev two (elt t0 i0 t1 i1 : Expr) (f0 f1 : List Expr) (sc : Scope) (pos : Pos) : Expr := .SetComp elt [⟨t0, i0, f0, 0⟩, ⟨t1, i1, f1, 0⟩] sc pos
/-- the tests of a turn, one after the other -/
abbrev tests (fs : List Expr) (env : Env) : Sem Bool := forIn fs true fun c r => if r = true then do let ok ← isTrue c env (eval c env); pure (ForInStep.yield ok) else pure (ForInStep.yield r)
theorem turn_out : compTurn (two elt t0 i0 t1 i1 f0 f1 sc pos) 0 it acc env = (do
  standAt i0.pos; let r ← pyNext it
  match r with
  | none => pure (.done .next)
  | some v => do
    letOwnedTupleGo t0 it v; assign t0 env v; let ok ← tests f0 env
    if ok = true then do
      let x ← eval i1 env; standAt i1.pos; let x ← foldedSetIterable i1 env x
      let i ← holding [x] (pyIter x); let _ ← runOwn (.compStart (two elt t0 i0 t1 i1 f0 f1 sc pos) 1 i acc env) env
      again (.compLoop (two elt t0 i0 t1 i1 f0 f1 sc pos) 0 it acc env)
    else again (.compLoop (two elt t0 i0 t1 i1 f0 f1 sc pos) 0 it acc env)) := by rfl
theorem turn_in : compTurn (two elt t0 i0 t1 i1 f0 f1 sc pos) 1 it acc env = (do
  standAt i1.pos; let r ← pyNext it
  match r with
  | none => pure (.done .next)
  | some v => do
    letOwnedTupleGo t1 it v; assign t1 env v; let ok ← tests f1 env
    if ok = true then do
      (do let x ← eval elt env; standAt elt.pos; let _ ← call (.builtin "set.add") [acc, x])
      again (.compLoop (two elt t0 i0 t1 i1 f0 f1 sc pos) 1 it acc env)
    else again (.compLoop (two elt t0 i0 t1 i1 f0 f1 sc pos) 1 it acc env)) := by rfl
/-- a raise is noted -/
abbrev Out (prog : Program) (w : World) (A : Around) (env : Env) (R : Result → Shared → Prop) : Value → Shared → Prop := notedBy (model prog w) A env fun e s' => R (.error e) s'
theorem loop_out (plain : ∀ x, foldedSetIterable i1 env x = pure x) (J : Nat → Shared → Prop)
    (turn : ∀ n s, J n s → wpAny (model prog w) A (pyNext it) (fun r a => match r with
      | none => R (.ok .next) a
      | some v => wpAny (model prog w) A (letOwnedTupleGo t0 it v) (fun _ b => wpAny (model prog w) A (assign t0 env v) (fun _ c => wpAny (model prog w) A (tests f0 env) (fun ok d =>
          if ok = true then wpAny (model prog w) A (eval i1 env) (fun x e => wpAny (model prog w) A (pyIter x) (fun i f => codeAny (model prog w) A (.compStart (two elt t0 i0 t1 i1 f0 f1 sc pos) 1 i acc env) (fun r s' => match r with | .ok _ => ∃ m, m < n ∧ J m s' | .error _ => False) f) (Out prog w A env R) e) (Out prog w A env R) d
          else ∃ m, m < n ∧ J m d) (Out prog w A env R) c) (Out prog w A env R) b) (Out prog w A env R) a) (Out prog w A env R) s)
    (n : Nat) (h : J n s) : codeAny (model prog w) A (.compLoop (two elt t0 i0 t1 i1 f0 f1 sc pos) 0 it acc env) R s := by
  refine codeAny_loop rfl J (fun n s hJ => ?_) n h
  show wpAny _ A ((compTurn (two elt t0 i0 t1 i1 f0 f1 sc pos) 0 it acc env).onRaise (fun x => do noteFrame x env; theTreesLotGoes x)) _ _ s
  refine wpAny_noted ?_; rw [turn_out]; refine wpAny_bind (wpAny_standAt (wpAny_bind (wpAny_mono (turn n s hJ) (fun r a ha => ?_) fun _ _ z => z)))
  cases r with
  | none => exact wpAny_pure ha
  | some v =>
    refine wpAny_bind (wpAny_mono ha (fun _ b hb => wpAny_bind (wpAny_mono hb (fun _ c hc => wpAny_bind (wpAny_mono hc (fun ok d hd => ?_) fun _ _ z => z)) fun _ _ z => z)) fun _ _ z => z)
    cases ok with
    | false => exact wpAny_pure ⟨rfl, hd⟩
    | true =>
      refine wpAny_bind (wpAny_mono hd (fun x e he => wpAny_bind (wpAny_standAt (wpAny_bind (wpAny_of_eq (plain x) (wpAny_bind (wpAny_holding (wpAny_mono he (fun i f hf => ?_) fun _ _ z => z))))))) fun _ _ z => z)
      refine wpAny_bind (wpAny_runOwn ?_)
      rw [Around.mark_none]
      refine codeAny_mono hf fun r s' hr => ?_
      cases r with
      | error e => exact hr.elim
      | ok f => first | exact wpAny_pure ⟨rfl, hr⟩ | exact wpAny_bind (wpAny_pure (wpAny_pure ⟨rfl, hr⟩))
theorem loop_in (J : Nat → Shared → Prop)
    (turn : ∀ n s, J n s → wpAny (model prog w) A (pyNext it) (fun r a => match r with
      | none => R (.ok .next) a
      | some v => wpAny (model prog w) A (letOwnedTupleGo t1 it v) (fun _ b => wpAny (model prog w) A (assign t1 env v) (fun _ c => wpAny (model prog w) A (tests f1 env) (fun ok d =>
          if ok = true then wpAny (model prog w) A (eval elt env) (fun x e => wpAny (model prog w) A (call (.builtin "set.add") [acc, x]) (fun _ f => ∃ m, m < n ∧ J m f) (Out prog w A env R) e) (Out prog w A env R) d
          else ∃ m, m < n ∧ J m d) (Out prog w A env R) c) (Out prog w A env R) b) (Out prog w A env R) a) (Out prog w A env R) s)
    (n : Nat) (h : J n s) : codeAny (model prog w) A (.compLoop (two elt t0 i0 t1 i1 f0 f1 sc pos) 1 it acc env) R s := by
  refine codeAny_loop rfl J (fun n s hJ => ?_) n h
  show wpAny _ A ((compTurn (two elt t0 i0 t1 i1 f0 f1 sc pos) 1 it acc env).onRaise (fun x => do noteFrame x env; theTreesLotGoes x)) _ _ s
  refine wpAny_noted ?_; rw [turn_in]; refine wpAny_bind (wpAny_standAt (wpAny_bind (wpAny_mono (turn n s hJ) (fun r a ha => ?_) fun _ _ z => z)))
  cases r with
  | none => exact wpAny_pure ha
  | some v =>
    refine wpAny_bind (wpAny_mono ha (fun _ b hb => wpAny_bind (wpAny_mono hb (fun _ c hc => wpAny_bind (wpAny_mono hc (fun ok d hd => ?_) fun _ _ z => z)) fun _ _ z => z)) fun _ _ z => z)
    cases ok with
    | false => exact wpAny_pure ⟨rfl, hd⟩
    | true => exact wpAny_bind (wpAny_bind (wpAny_mono hd (fun x e he => wpAny_bind (wpAny_standAt (wpAny_bind (wpAny_mono he (fun _ f hf => wpAny_pure (wpAny_pure ⟨rfl, hf⟩)) fun _ _ z => z)))) fun _ _ z => z))
/-- the second source begins -/
theorem start1 (h0 : codeAny (model prog w) A (.compLoop (two elt t0 i0 t1 i1 f0 f1 sc pos) 1 it acc env) R s) (h : wpAny (model prog w) A (pyIter it) (fun i t => codeAny (model prog w) A (.compLoop (two elt t0 i0 t1 i1 f0 f1 sc pos) 1 i acc env) R t) (Out prog w A env R) s) : codeAny (model prog w) A (.compStart (two elt t0 i0 t1 i1 f0 f1 sc pos) 1 it acc env) R s := by
  refine codeAny_of_tree (show wpAny _ _ ((compStart (two elt t0 i0 t1 i1 f0 f1 sc pos) 1 it acc env).onRaise (fun x => do noteFrame x env; standAt theWindowsPlace)) _ _ s from wpAny_notedAt ?_)
  unfold compStart
  refine (show wpAny _ _ (ask >>= _) _ _ s from wpAny_bind (wpAny_askSetting (wpAny_ite ?_)))
  split
  · first | exact wpAny_bind (wpAny_pure (wpAny_pure (And.intro rfl h0))) | exact wpAny_pure (And.intro rfl h0)
  · first | exact wpAny_bind (wpAny_rule (wpAny_bind (wpAny_standAt (wpAny_bind (wpAny_mono h (fun i t z => wpAny_pure (And.intro rfl z)) fun _ _ x => x))))) | (refine wpAny_bind (wpAny_rule ?_); show wpAny _ _ (standAt i1.pos >>= _) _ _ s; exact wpAny_bind (wpAny_standAt (wpAny_bind (wpAny_mono h (fun i t z => wpAny_pure (And.intro rfl z)) fun _ _ x => x))))
end
/-- what such a comprehension asks -/
def tSetI2 (w : World) (wi : TI) (g : TG) (tt : TT) (wi1 : TI) (g1 : TG) (tt1 : TT) (te : TE) (vs vs1 : List Nat) : TE := fun σ H Q => wi σ H fun J H1 => ∀ D, H1 D = none →
  ∃ W : Nat → Nat → Hp → Prop, (∃ k0, W 0 k0 (upd H1 D (SetO w D (fun _ => false) 0))) ∧ ∀ i k H2, W i k H2 → (J.stop i H2 ∧ Q (.ref D) H2) ∨ (J.go i H2 ∧ ∃ Nx : Hp → Prop, (∀ H3, Nx H3 → ∃ k1, k1 < k ∧ W (i + 1) k1 H3) ∧
    ∀ x H3, J.yld i H2 x H3 → g x (wipe σ vs) H3 fun σ2 H4 => wipe σ2 vs = wipe σ vs ∧ tt σ2 H4 fun b H5 => if b = true then wi1 σ2 H5 fun J1 H6 => ∃ W1 : Nat → Nat → Hp → Prop, (∃ k2, W1 0 k2 H6) ∧ ∀ j k2 H7, W1 j k2 H7 →
      (J1.stop j H7 ∧ Nx H7) ∨ (J1.go j H7 ∧ ∃ Nx1 : Hp → Prop, (∀ H8, Nx1 H8 → ∃ k3, k3 < k2 ∧ W1 (j + 1) k3 H8) ∧ ∀ x H8, J1.yld j H7 x H8 → g1 x (wipe σ2 vs1) H8 fun σ3 H9 => wipe σ3 vs1 = wipe σ2 vs1 ∧ tt1 σ3 H9 fun b H10 =>
        if b = true then te σ3 H10 fun y H11 => ∃ (c : Int) (S : Int → Bool) (n : Nat), y = .int c ∧ H11 D = some (SetO w D S n) ∧ n + 1 < scanBound ∧ Nx1 (upd H11 D (SetO w D (fun j => S j || decide (j = c)) (if S c = true then n else n + 1))) else Nx1 H10)
      else Nx H5)
theorem wipe_sub {σ : L2.St} {vs : List Nat} : ∀ {us : List Nat}, (∀ i ∈ us, i ∈ vs) → wipe (wipe σ us) vs = wipe σ vs
  | [], _ => rfl
  | u :: us, h => (wipe_set (h u List.mem_cons_self)).trans (wipe_sub fun i hi => h i (List.mem_cons_of_mem _ hi))
/-- as Here, with pins -/
def HereP (B : Cx) (p0 : List (Addr × Obj)) (τ : L2.St) (seen : Nat → Heap → Prop) (fp : List Addr) (W : Nat → Nat → Hp → Prop) (k : Nat) (t : Shared) : Prop := ∃ i H, Inv B p0 τ H t ∧ seen i t.heap ∧ (∀ b ∈ fp, H b = none) ∧ W i k H
theorem turn_nextP {B : Cx} {P : Program} {w : World} {F : PySem.W.Frag} {tg : Expr} {p0 : List (Addr × Obj)} {σ : L2.St} {vs : List Nat} {J : It} {itA : Addr} {fp : List Addr} {seen : Nat → Heap → Prop} (T : Turn P w F tg J fp itA seen) {W : Nat → Nat → Hp → Prop} {Nx : Hp → Prop} {k i : Nat} {τ : L2.St} {t t' : Shared} {H : Hp} (at_ : seen (i + 1) t.heap)
    (next : ∀ H, Nx H → ∃ j, j < k ∧ W (i + 1) j H) (same : wipe τ vs = wipe σ vs) (I : Inv B (p0 ++ pinsAt fp t.heap) τ H t') (nx : Nx H) : ∃ j, j < k ∧ HereP B p0 (wipe σ vs) seen fp W j t' := by
  obtain ⟨j, lt, w'⟩ := next H nx
  have stay : ∀ b ∈ fp, ∀ o, t.heap.get? b = some o → t'.heap.get? b = some o ∧ H b = none := fun b hb o e => let p := I.pin (b, o) (List.mem_append_right _ (List.mem_append_right _ (mem_pinsAt hb e))); ⟨p.1, p.2.1⟩
  refine ⟨j, lt, i + 1, H, I.unpinned.weak (by rw [← same, wipe_length]) (fun a v e => (wipe_some (same ▸ e)).1), T.keep _ _ _ at_ fun b hb o e => (stay b hb o e).1, fun b hb => ?_, w'⟩
  obtain ⟨o, e, _⟩ := T.obj _ _ at_ b hb; exact (stay b hb o e).2
section
variable {X : Cx} {σ : L2.St} {elt tg iter tg1 iter1 : Expr} {ifs ifs1 : List Expr} {sc : Scope} {own : List (PySem.Str × Nat)} {vs1 : List Nat} {pos pos2 : Pos} {wi wi1 : TI} {g g1 : TG} {tt tt1 : TT} {te : TE}
theorem core2 {pins : List (Addr × Obj)} {s : Shared} {H : Hp} {Q : VK} {use : Option (Value → Sem Unit)} {Qf : Value → Shared → Prop} (hc : X.calm = true) (hN : X.N.Nodup) (I : Inv X pins σ H s) (hi : PI X tg iter wi) (ok : BlkOk X.N X.env.scope sc own) (sub : ∀ i ∈ vs1, i ∈ own.map (·.2))
    (hg : ∀ s H C cl fp, PG (X.blk s H sc (compEnvC sc cl C X.env) fp) tg g) (ht : ∀ s H C cl fp, PTs (X.blk s H sc (compEnvC sc cl C X.env) fp) ifs tt) (hi1 : ∀ s H C cl fp, PI (X.blk s H sc (compEnvC sc cl C X.env) fp) tg1 iter1 wi1) (hg1 : ∀ s H C cl fp, PG (X.blk s H sc (compEnvC sc cl C X.env) fp) tg1 g1)
    (ht1 : ∀ s H C cl fp, PTs (X.blk s H sc (compEnvC sc cl C X.env) fp) ifs1 tt1) (he : ∀ s H C cl fp, PE (X.blk s H sc (compEnvC sc cl C X.env) fp) elt te) (hs : ∀ x, foldedSetIterable iter X.env x = pure x) (hs1 : ∀ env x, foldedSetIterable iter1 env x = pure x) (h : tSetI2 X.w wi g tt wi1 g1 tt1 te (own.map (·.2)) vs1 σ H Q)
    (out : ∀ D C t m H', Inv X pins σ H' t → Q (.ref D) H' → t.heap.Ns C m → FpOk X pins H' C → compPost (model X.prog X.w) X.A X.xe use Qf (.ref D) C (.ok .next) t) :
    wpAny (model X.prog X.w) X.A (comprehension (two elt tg iter tg1 iter1 ifs ifs1 sc pos) sc X.env pos2 (newSet (.type "set")) false (eval iter X.env) use) Qf X.xe s := by
  refine wpAny_comprehension_free (use := use) rfl hs (closure_ok fun y hy e => (ok.free y hy e).elim (fun k => I.ok.has _ (.inl k)) fun k => I.ok.has _ (.inr k)) ok.kind (fun y hy e => by rw [ok.uniq y hy, e]) (thn (hi.run pins s σ H _ I h) fun _ _ came => thn came fun _ t came2 => ?_)
  obtain ⟨itA, fp, seen, J, H2, rfl, I2, T, at0, away, asks⟩ := came2
  refine newSet_ok (newEnv_comp ?_)
  generalize eD : t.heap.objs.size = D
  obtain ⟨W, ⟨k0, w0⟩, turns⟩ := asks D (I2.hok.fresh (Nat.le_of_eq eD))
  generalize e3 : ({ t with heap := t.heap.push (emptySet X.w) } : Shared) = s3
  have p3 : s3.heap = t.heap.push (emptySet X.w) := by rw [← e3]
  have z3 : s3.heap.objs.size = t.heap.objs.size + 1 := by rw [p3, Heap.size_push]
  generalize eH : upd H2 D (SetO X.w D (fun _ => false) 0) = H3 at w0
  have I3 : Inv X pins σ H3 s3 := by
    rw [← e3, ← eH]; refine I2.laid (t' := t.toks) (fun _ _ e => Heap.get?_push_of_some _ e) (Nat.le_of_eq eD) ?_; rw [← eD]; exact setO_new (setR_fresh X.w)
  have own3 : ∀ b ∈ fp, FpOk X pins H3 b ∧ b < s3.heap.objs.size := fun b hb => by
    obtain ⟨_, e, _⟩ := T.obj _ _ at0 b hb
    have lt : b < t.heap.objs.size := Heap.lt_size e
    refine ⟨⟨?_, (away b hb).2⟩, by rw [z3]; exact Nat.lt_succ_of_lt lt⟩; rw [← eH, upd_ne (by rw [← eD]; exact Nat.ne_of_lt lt)]; exact (away b hb).1
  have at3 : seen 0 s3.heap := T.keep _ _ _ at0 fun _ _ _ e => by rw [p3]; exact Heap.get?_push_of_some _ e
  have I4 := block_start I3 ok hN own3
  let cl := cellsFrom (s3.heap.objs.size + 1) sc.names (cloFrom X.env.cells sc.names [])
  have gT := hg s3 H3 s3.heap.objs.size cl fp; have gI := ht s3 H3 s3.heap.objs.size cl fp; have gE := he s3 H3 s3.heap.objs.size cl fp; have gJ := hi1 s3 H3 s3.heap.objs.size cl fp; have gT1 := hg1 s3 H3 s3.heap.objs.size cl fp; have gI1 := ht1 s3 H3 s3.heap.objs.size cl fp
  show codeAny _ _ (.compStart (two elt tg iter tg1 iter1 ifs ifs1 sc pos) 0 (.ref itA) (.ref D) (compEnvC sc cl s3.heap.objs.size X.env)) (compPost (model X.prog X.w) X.A X.xe use Qf (.ref D) s3.heap.objs.size) { s3 with heap := pushCells (s3.heap.push { cls := .type "dict", data := .dict #[] }) sc.names }
  generalize eB : compEnvC sc cl s3.heap.objs.size X.env = ce at gT gI gE gJ gT1 gI1 ⊢
  have I4 : Inv (X.blk s3 H3 sc ce fp) [] (wipe σ (own.map (·.2))) H3 { s3 with heap := pushCells (s3.heap.push { cls := .type "dict", data := .dict #[] }) sc.names } := by rw [← eB]; exact I4
  have loc : ce.locals = s3.heap.objs.size := by rw [← eB]; rfl
  generalize e4 : ({ s3 with heap := pushCells (s3.heap.push { cls := .type "dict", data := .dict #[] }) sc.names } : Shared) = s4 at I4 ⊢
  have at4 : seen 0 s4.heap := T.keep _ _ _ at3 fun _ _ _ e => by rw [← e4]; exact pushCells_keeps _ _ _ _ (Heap.get?_push_of_some _ e)
  have mine : ∀ {σ' : L2.St} {H' : Hp} {t : Shared}, Inv (X.blk s3 H3 sc ce fp) [] σ' H' t → (∀ b ∈ fp, H' b = none) → ∀ b ∈ fp, FpOk (X.blk s3 H3 sc ce fp) [] H' b := fun I' none_ b hb => ⟨none_ b hb, (I'.ok.exf b hb).1, I'.ok.exfs b hb, .inl hb, fun x c e => (I'.ok.exf b hb).2 x c e, fun p hp => by
    have hp : p ∈ ([] : List (Addr × Obj)) ++ [] := hp
    simp at hp⟩
  have all : codeAny (model X.prog X.w) X.A (.compLoop (two elt tg iter tg1 iter1 ifs ifs1 sc pos) 0 (.ref itA) (.ref D) ce) (compPost (model X.prog X.w) X.A X.xe use Qf (.ref D) s3.heap.objs.size) s4 := by
    refine loop_out (hs1 ce) (HereP (X.blk s3 H3 sc ce fp) [] (wipe σ (own.map (·.2))) seen fp W) ?_ k0 ⟨0, H3, I4, at4, fun b hb => (own3 b hb).1.1, w0⟩
    rintro k s5 ⟨i, H5, I5, at5, no5, w5⟩
    rcases turns i k H5 w5 with ⟨ends, fin⟩ | ⟨goes, Nx, next, one⟩
    · refine thnF (T.done (X.blk s3 H3 sc ce fp) rfl rfl rfl hc i [] s5 _ H5 (fun _ _ => False) I5 (mine I5 no5) at5 ends) fun r s6 ⟨hr, I6⟩ => ?_
      subst hr
      have back : Inv X pins σ H5 s6 := I3.call' (ch := fp) I6.os I6.base I6.hok I6.bare fun b hb => let q := (own3 b hb).1.2; ⟨q.2.2.1, q.1, q.2.2.2.1, q.2.2.2.2⟩
      have free : H5 s3.heap.objs.size = none := loc ▸ (show H5 ce.locals = none from I6.free)
      obtain ⟨m, ns, _⟩ := I6.loc
      exact out D s3.heap.objs.size s6 m H5 back fin (loc ▸ (show s6.heap.Ns ce.locals m from ns)) (I3.fpOk (Nat.le_refl _) free)
    · refine thnF (T.item (X.blk s3 H3 sc ce fp) rfl rfl rfl hc i [] s5 _ H5 (fun _ _ => False) I5 (mine I5 no5) at5 goes) fun r s6 ⟨u, hr, came6⟩ => ?_
      subst hr
      refine thnF came6 fun _ s7 ⟨x, H7, I7, r7, y7, at7, no7⟩ => thnF (gT.run _ s7 _ H7 x u _ (I7.pinned (mine I7 no7) (T.obj _ _ at7)) r7 (one x H7 y7)) fun _ s8 ⟨σ8, H8, I8, same, q8⟩ => thnF (gI.run _ s8 σ8 H8 _ I8 q8) fun b s9 ⟨H9, I9, q9⟩ => ?_
      cases b with
      | false => simp only [Bool.false_eq_true, if_false] at q9 ⊢; exact turn_nextP T at7 next same I9 q9
      | true =>
        simp only [if_true] at q9 ⊢
        refine thnF (gJ.run _ s9 σ8 H9 _ I9 q9) fun _ _ cameA => thnF cameA fun _ s11 cameB => ?_
        obtain ⟨it1, fp1, seen1, J1, H11, rfl, I11, T1, atB, awayB, W1, ⟨k1, w1⟩, turns1⟩ := cameB
        have mine1 : ∀ {H' : Hp}, (∀ b ∈ fp1, H' b = none) → ∀ b ∈ fp1, FpOk (X.blk s3 H3 sc ce fp) ([] ++ pinsAt fp s7.heap) H' b := fun no b hb => ⟨no b hb, (awayB b hb).2⟩
        have inner : codeAny (model X.prog X.w) X.A (.compLoop (two elt tg iter tg1 iter1 ifs ifs1 sc pos) 1 (.ref it1) (.ref D) ce) (fun r s' => match r with | .ok _ => ∃ m, m < k ∧ HereP (X.blk s3 H3 sc ce fp) [] (wipe σ (own.map (·.2))) seen fp W m s' | .error _ => False) s11 := by
          refine loop_in (HereP (X.blk s3 H3 sc ce fp) ([] ++ pinsAt fp s7.heap) (wipe σ8 vs1) seen1 fp1 W1) ?_ k1 ⟨0, H11, I11.weak (wipe_length _ _) (fun j v e => (wipe_some e).1), atB, fun b hb => (awayB b hb).1, w1⟩
          rintro k2 s12 ⟨j, H12, I12, at12, no12, w12⟩
          rcases turns1 j k2 H12 w12 with ⟨ends1, nx⟩ | ⟨goes1, Nx1, next1, one1⟩
          · refine thnF (T1.done (X.blk s3 H3 sc ce fp) rfl rfl rfl hc j _ s12 _ H12 (fun _ _ => False) I12 (mine1 no12) at12 ends1) fun r s13 ⟨hr, I13⟩ => ?_
            subst hr
            exact turn_nextP T at7 next ((wipe_sub sub).trans same) I13 nx
          · refine thnF (T1.item (X.blk s3 H3 sc ce fp) rfl rfl rfl hc j _ s12 _ H12 (fun _ _ => False) I12 (mine1 no12) at12 goes1) fun r s13 ⟨u1, hr, came13⟩ => ?_
            subst hr
            refine thnF came13 fun _ s14 ⟨x1, H14, I14, r14, y14, at14, no14⟩ => thnF (gT1.run _ s14 _ H14 x1 u1 _ (I14.pinned (mine1 no14) (T1.obj _ _ at14)) r14 (one1 x1 H14 y14)) fun _ s15 ⟨σ15, H15, I15, same1, q15⟩ => thnF (gI1.run _ s15 σ15 H15 _ I15 q15) fun b s16 ⟨H16, I16, q16⟩ => ?_
            cases b with
            | false => simp only [Bool.false_eq_true, if_false] at q16 ⊢; exact turn_nextP T1 at14 next1 same1 I16 q16
            | true =>
              simp only [if_true] at q16 ⊢
              refine thnF (gE.run _ s16 σ15 H16 _ I16 q16) fun z s17 ⟨_, H17, I17, rz, c, S0, n0, ey, atD, few, nx⟩ => ?_
              subst ey
              obtain ⟨tk, rfl⟩ := (show ∃ tk, z = Value.int c tk from rz)
              exact addI_ok (X := X.blk s3 H3 sc ce fp) I17 atD few fun _ I18 => turn_nextP T1 at14 next1 same1 I18 nx
        exact start1 inner (T1.self X.A 0 _ _ _ atB inner)
  exact codeAny_compStart_set all (T.self X.A 0 _ _ _ at4 all)
/-- as a value -/
theorem pe_setI2 (hc : X.calm = true) (hN : X.N.Nodup) (hi : PI X tg iter wi) (ok : BlkOk X.N X.env.scope sc own) (sub : ∀ i ∈ vs1, i ∈ own.map (·.2))
    (hg : ∀ s H C cl fp, PG (X.blk s H sc (compEnvC sc cl C X.env) fp) tg g) (ht : ∀ s H C cl fp, PTs (X.blk s H sc (compEnvC sc cl C X.env) fp) ifs tt) (hi1 : ∀ s H C cl fp, PI (X.blk s H sc (compEnvC sc cl C X.env) fp) tg1 iter1 wi1) (hg1 : ∀ s H C cl fp, PG (X.blk s H sc (compEnvC sc cl C X.env) fp) tg1 g1)
    (ht1 : ∀ s H C cl fp, PTs (X.blk s H sc (compEnvC sc cl C X.env) fp) ifs1 tt1) (he : ∀ s H C cl fp, PE (X.blk s H sc (compEnvC sc cl C X.env) fp) elt te) (hs : ∀ x, foldedSetIterable iter X.env x = pure x := by intro _; rfl) (hs1 : ∀ env x, foldedSetIterable iter1 env x = pure x := by intro _ _; rfl) :
    PE X (two elt tg iter tg1 iter1 ifs ifs1 sc pos) (tSetI2 X.w wi g tt wi1 g1 tt1 te (own.map (·.2)) vs1) :=
  ⟨fun pins s σ H Q I h => by
    rw [eval_SetComp]
    exact core2 hc hN I hi ok sub hg ht hi1 hg1 ht1 he hs hs1 h fun D C t m H' I' q ns f => ⟨m, ns, fun h'' sb => ⟨.ref D, H', I'.turned (t' := t.toks) (fun b o ne e => (sb.2 b ne).trans e) f.1 f.2.1 f.2.2.2.1 f.2.2.2.2.1 f.2.2.2.2.2, rfl, q⟩⟩⟩
end
end TxS2

set_option Elab.async false
set_option linter.all false
set_option maxRecDepth 100000
set_option maxHeartbeats 2000000
set_option autoImplicit false
/-! Tx: sorted of such a set -/
namespace Tx
open PySem L2 TxS2
section
variable {K : PySem.W.Frag} {m : Mo} {Γ : G} {te : TE} {tt tt1 : TT} {w : World}
theorem er_stk {Γ2 : G} {σ2 : L2.St} {H H' : Hp} (e : ER m K Γ2 σ2 H) (st : StK m H H') (i : m.I H') : ER m K Γ2 σ2 H' := ⟨i, e.len, fun j d h => let ⟨v, h1, h2⟩ := e.at_ j d h; ⟨v, h1, h2.mv fun a o n q => st a o n q⟩⟩
theorem rp_intsL (F : Addr → Prop) (H : Hp) : ∀ l : List Int, RpAll K F H (l.map V.int) (l.map D.int)
  | [] => .nil
  | _ :: l => .cons (.int _) (rp_intsL F H l)
theorem en_sortSet2 {α : Type} {wi wi1 : TI} {g g1 : TG} {vs vs1 : List Nat} {xs : List α} {js js1 : List Nat} (enc : α → D) (ys : α → List Int) (hj : ∀ j ∈ js, j ∈ vs) (hj1 : ∀ j ∈ js1, j ∈ vs1) (hi : ItD1 m K wi Γ (xs.map enc)) (hu : (xs.flatMap ys).length < 60)
    (hs : ∀ m', Mo.Le m m' → ∀ x, x ∈ xs → ∃ Γ2, TgD m' K g (wipeG Γ vs) (enc x) js Γ2 ∧ EvT1 m' K tt Γ2 true ∧ ItX m' K wi1 Γ2 ((ys x).map D.int) ∧ ∀ y ∈ ys x, ∃ Γ3, TgD m' K g1 (wipeG Γ2 vs1) (.int y) js1 Γ3 ∧ EvT1 m' K tt1 Γ3 true ∧ Ev1 m' K te Γ3 (.int y)) :
    EvN m K (tCB (rSortedSet w) (tCons (tSetI2 w wi g tt wi1 g1 tt1 te vs vs1) tNil)) Γ (fun d => ∃ ns : List Int, d = .lst (ns.map D.int) ∧ ns.Pairwise (· < ·) ∧ ∀ k, k ∈ ns ↔ k ∈ xs.flatMap ys) := fun σ H e Q q => by
  refine (show tSetI2 w wi g tt wi1 g1 tt1 te vs vs1 σ H (fun x H2 => rSortedSet w [x] H2 Q) from ?_)
  refine hi σ H e _ fun J zs H1 hz r1 wk => fun Dl hD => ?_
  subst hz
  have e1 := e.mv r1
  have nF : ¬ m.F Dl := fun f => m.fa e1.i f hD
  have rN : m.R H1 (upd H1 Dl (SetO w Dl (fun _ => false) 0)) := m.grow e1.i (same_new hD)
  have wkA : ∀ H', m.R H1 H' → (m.ext Dl).I H' → WkD (m.ext Dl) K J H' (xs.map enc) := fun H' r i => wk (m.ext Dl) (m.le_ext Dl) H' i r fun a f n => f.elim (fun f => absurd f n) fun z => z ▸ hD
  have hlen : (xs.map enc).length = xs.length := List.length_map _
  refine ⟨fun i k H' => k = xs.length - i ∧ i ≤ xs.length ∧ m.R H1 H' ∧ ∃ S n, H' Dl = some (SetO w Dl S n) ∧ n ≤ ((xs.take i).flatMap ys).length ∧ ∀ j, S j = true ↔ j ∈ (xs.take i).flatMap ys, ⟨_, rfl, Nat.zero_le _, rN, _, 0, upd_same, Nat.le_refl 0, fun j => by simp⟩, ?_⟩
  rintro i k H' ⟨rfl, hle, r, S, n, hS, hn, hm⟩
  have eX : ER (m.ext Dl) K Γ σ H' := e1.ext hD r (by rw [hS]; exact fun z => nomatch z)
  have wkX := wkA H' r eX.i
  by_cases hlt : i < xs.length
  · refine .inr ⟨wkX.go i H' (m.refl _) (by rw [hlen]; exact hlt), fun H3 => m.R H1 H3 ∧ ∃ S n, H3 Dl = some (SetO w Dl S n) ∧ n ≤ ((xs.take (i + 1)).flatMap ys).length ∧ ∀ j, S j = true ↔ j ∈ (xs.take (i + 1)).flatMap ys, fun H3 z => ⟨xs.length - (i + 1), by omega, rfl, hlt, z⟩, fun x H2 y => ?_⟩
    obtain ⟨r2, d, hd, rx⟩ := wkX.yld i H' x H2 (m.refl _) (by rw [hlen]; exact hlt) y
    rw [List.getElem?_map, List.getElem?_eq_getElem hlt] at hd
    injection hd with hd
    subst hd
    obtain ⟨Γ2, tg, tst, itx, el⟩ := hs (m.ext Dl) (m.le_ext Dl) xs[i] (List.getElem_mem hlt)
    have tk : xs.take (i + 1) = xs.take i ++ [xs[i]] := take_one (List.getElem?_eq_getElem hlt)
    have tf : (xs.take (i + 1)).flatMap ys = (xs.take i).flatMap ys ++ ys xs[i] := by rw [tk, List.flatMap_append]; simp
    have tot : ((xs.take i).flatMap ys).length + (ys xs[i]).length < 60 := by
      have z : xs.flatMap ys = (xs.take (i + 1)).flatMap ys ++ (xs.drop (i + 1)).flatMap ys := by rw [← List.flatMap_append, List.take_append_drop]
      rw [z, tf, List.length_append, List.length_append] at hu
      omega
    refine tg x (wipe σ vs) H2 ((eX.mv r2).wipe vs) rx _ fun σ3 H3 e3 r3 w3 => ⟨by rw [w3 vs hj, wipe_wipe], ?_⟩
    refine tst σ3 H3 e3 _ fun b H4 tb r4 => ?_
    subst tb
    rw [if_pos rfl]
    have e4 := e3.mv r4
    refine itx σ3 H4 e4 _ fun J1 H6 r6 wk1 => ?_
    have e6 := e4.mv r6
    have r16 : m.R H1 H6 := m.trans r (m.trans r2 (m.trans r3 (m.trans r4 r6)))
    have hS6 : H6 Dl = some (SetO w Dl S n) := m.keep (m.trans r2 (m.trans r3 (m.trans r4 r6))) eX.i.1 Dl _ nF hS
    refine ⟨fun j k2 H7 => k2 = (ys xs[i]).length - j ∧ j ≤ (ys xs[i]).length ∧ m.R H1 H7 ∧ StK (m.ext Dl) H6 H7 ∧ ∃ S n, H7 Dl = some (SetO w Dl S n) ∧ n ≤ ((xs.take i).flatMap ys).length + j ∧ ∀ z, S z = true ↔ z ∈ (xs.take i).flatMap ys ++ (ys xs[i]).take j, ⟨_, rfl, Nat.zero_le _, r16, fun _ _ _ z => z, S, n, hS6, by omega, fun z => by rw [hm]; simp⟩, ?_⟩
    rintro j k2 H7 ⟨rfl, hle1, r7, st7, S7, n7, hS7, hn7, hm7⟩
    have i7 : (m.ext Dl).I H7 := ⟨m.inv r7 e1.i, by rw [hS7]; exact fun z => nomatch z⟩
    have e7 : ER (m.ext Dl) K Γ2 σ3 H7 := er_stk e6 st7 i7
    obtain ⟨go, stop, yld⟩ := wk1 H7 st7
    by_cases hlt1 : j < (ys xs[i]).length
    · refine .inr ⟨go j (by rw [List.length_map]; exact hlt1), fun H8 => m.R H1 H8 ∧ StK (m.ext Dl) H6 H8 ∧ ∃ S n, H8 Dl = some (SetO w Dl S n) ∧ n ≤ ((xs.take i).flatMap ys).length + (j + 1) ∧ ∀ z, S z = true ↔ z ∈ (xs.take i).flatMap ys ++ (ys xs[i]).take (j + 1), fun H8 z => ⟨(ys xs[i]).length - (j + 1), by omega, rfl, hlt1, z⟩, fun x1 H8 y1 => ?_⟩
      obtain ⟨e2, d1, hd1, rx1⟩ := yld j x1 H8 (by rw [List.length_map]; exact hlt1) y1
      subst e2
      rw [List.getElem?_map, List.getElem?_eq_getElem hlt1] at hd1
      injection hd1 with hd1
      subst hd1
      obtain ⟨Γ3, tg1, tst1, el1⟩ := el _ (List.getElem_mem hlt1)
      refine tg1 x1 (wipe σ3 vs1) H8 (e7.wipe vs1) rx1 _ fun σ5 H9 e9 r9 w9 => ⟨by rw [w9 vs1 hj1, wipe_wipe], ?_⟩
      refine tst1 σ5 H9 e9 _ fun b H10 tb r10 => ?_
      subst tb
      rw [if_pos rfl]
      refine el1 σ5 H10 (e9.mv r10) _ fun v dv H11 sv r11 rv => ?_
      subst sv
      have rr : m.R H8 H11 := m.trans r9 (m.trans r10 r11)
      have hS11 : H11 Dl = some (SetO w Dl S7 n7) := m.keep rr i7.1 Dl _ nF hS7
      refine ⟨(ys xs[i])[j], S7, n7, rv.intE, hS11, by unfold scanBound; omega, m.chg e1.i (m.trans r7 rr) hD, fun a o n q => ?_, _, _, upd_same, by split <;> omega, fun z => ?_⟩
      · rw [upd_ne (fun z => n (.inr z))]
        exact (m.ext Dl).keep rr i7 a o n (st7 a o n q)
      · rw [Bool.or_eq_true, hm7, decide_eq_true_iff, take_one (List.getElem?_eq_getElem hlt1), ← List.append_assoc]
        simp only [List.mem_append, List.mem_singleton]
    · have e0 : j = (ys xs[i]).length := by omega
      subst e0
      refine .inl ⟨by rw [List.length_map] at stop; exact stop, r7, S7, n7, hS7, by rw [tf, List.length_append]; exact hn7, fun z => ?_⟩
      rw [hm7, tf, List.take_length]
  · have e0 : i = xs.length := by omega
    subst e0
    have iN : m.I H' := m.inv r e1.i
    refine .inl ⟨by have := wkX.stop H' (m.refl _); rw [hlen] at this; exact this, ?_⟩
    rw [List.take_length] at hn hm
    refine ⟨Dl, S, n, rfl, hS, by omega, fun ns p hp1 hp2 _ hp3 => ?_⟩
    exact q _ (.lst (ns.map D.int)) _ ⟨ns, rfl, hp1, fun k => by rw [hp2, hm]⟩ (m.trans r1 (m.trans r (m.grow iN (same_new hp3)))) (.lst (fun z => m.fa iN z hp3) upd_same (rp_intsL _ _ ns))
end
end Tx

set_option Elab.async false
set_option linter.all false
set_option maxRecDepth 100000
set_option maxHeartbeats 4000000
set_option autoImplicit false
namespace K03
open PySem L2 Tx WebM
/-! ### who knows whom -/
structure KOk (n : Nat) (k : Hd) : Prop where
  len : k.length = n
  up : ∀ t < n, (rowOf k t).Pairwise (· < ·)
  lt : ∀ t < n, ∀ x ∈ rowOf k t, x < n
theorem KOk.few {n : Nat} {k : Hd} (o : KOk n k) {t : Nat} (ht : t < n) : (rowOf k t).length ≤ n := by
  have h := List.Nodup.length_le_of_subset ((o.up t ht).imp fun {a b} q => Nat.ne_of_lt q) (fun x hx => List.mem_range.mpr (o.lt t ht x hx) : ∀ x, x ∈ rowOf k t → x ∈ List.range n)
  rwa [List.length_range] at h
def firstK (n : Nat) : Hd := (List.range n).map fun t => [t]
def afterK (n : Nat) (h k : Hd) : Hd := (List.range n).map fun t => (List.range n).filter fun x => (own h t).any fun o => decide (x ∈ rowOf k o)
def behindK (ws : List WM) (n : Nat) (word : List Nat) : Hd := word.foldl (fun k i => afterK n (at0 ws i).1 k) (firstK n)
theorem row_of_map {n t : Nat} {f : Nat → List Nat} (ht : t < n) : rowOf ((List.range n).map f) t = f t := by
  unfold rowOf
  rw [List.getD_eq_getElem?_getD, List.getElem?_map, List.getElem?_range ht]
  rfl
theorem firstK_ok (n : Nat) : KOk n (firstK n) := ⟨by unfold firstK; rw [List.length_map, List.length_range], fun t ht => by unfold firstK; rw [row_of_map ht]; exact List.pairwise_singleton .., fun t ht x hx => by
  unfold firstK at hx
  rw [row_of_map ht, List.mem_singleton] at hx
  omega⟩
theorem afterK_ok (n : Nat) (h k : Hd) : KOk n (afterK n h k) := ⟨by unfold afterK; rw [List.length_map, List.length_range], fun t ht => by unfold afterK; rw [row_of_map ht]; exact List.pairwise_lt_range.filter _, fun t ht x hx => by
  unfold afterK at hx
  rw [row_of_map ht] at hx
  exact List.mem_range.mp (List.mem_filter.mp hx).1⟩
theorem foldK_ok {ws : List WM} {n : Nat} : ∀ (word : List Nat) {k : Hd}, KOk n k → KOk n (word.foldl (fun k i => afterK n (at0 ws i).1 k) k)
  | [], _, o => o
  | _ :: word, _, _ => foldK_ok word (afterK_ok _ _ _)
theorem behindK_ok (ws : List WM) (n : Nat) (word : List Nat) : KOk n (behindK ws n word) := foldK_ok word (firstK_ok n)
/-- a word of the pool -/
structure DOkW (ws : List WM) (word : List Nat) : Prop where
  lt : ∀ i ∈ word, i < ws.length
  six : word.length ≤ 6
theorem word_num {ws : List WM} {word : List Nat} (wo : DOkW ws word) (h1 : 1 ≤ ws.length) : areNum (tupN word) 0 ((ws.length : Int) - 1) = true := by
  show (word.map dN).all (fun x => isNum x 0 ((ws.length : Int) - 1)) = true
  rw [List.all_map, List.all_eq_true]
  intro x hx
  have := wo.lt x hx
  show (decide ((0 : Int) ≤ (x : Int)) && decide ((x : Int) ≤ (ws.length : Int) - 1)) = true
  rw [decide_eq_true (by omega), decide_eq_true (by omega)]
  rfl
theorem okT_tupN {l : List Nat} (h : l.length ≤ 1000) : okT (tupN l) := ⟨by rw [List.length_map]; exact h, fun x hx => by obtain ⟨y, _, rfl⟩ := List.mem_map.mp hx; rfl⟩
section
variable {P : Program} {w : World} {K : PySem.W.Frag} {mg : Str → Option Value} {base : Heap} {C Cp : Addr}
abbrev CCheckPool (P : Program) (w : World) (K : PySem.W.Frag) (mg : Str → Option Value) (base : Heap) (C Cp : Addr) : Prop := C8.Cal P w K mg base 1 "check_pool" (spF K (pre_pool w C Cp) fun _ => .non) []
abbrev CAreNum (P : Program) (w : World) (K : PySem.W.Frag) (mg : Str → Option Value) (base : Heap) : Prop := C8.Cal P w K mg base 2 "are_numbers" (spF K pre_are_numbers f_are_numbers) []
theorem sc_is_word : FnScope ["pool", "value"] ["pool", "value"] (defScope s_is_word) := ⟨rfl, rfl, rfl, by decide +kernel, rfl, by decide +kernel, by decide +kernel⟩
def pre_word (w : World) (C Cp : Addr) (ds : List D) : Prop := ∃ ws n word, ds = [poolD w C Cp ws, tupN word] ∧ POk ws n ∧ DOkW ws word
theorem ok_is_word {f : Addr} {fd : FuncData} (Fu : Fun K "is_word" "is_word" s_is_word f fd) (T : TxtP K mg C Cp) (c_check_pool : CCheckPool P w K mg base C Cp) (c_are_numbers : CAreNum P w K mg base) (O_plen : OwnK P w K mg base Cp "__len__" 1 (spPL K w C Cp)) : FnOk P w K mg base CX0 4 f fd ["pool", "value"] (spF K (pre_word w C Cp) fun _ => .bl true) := by
  refine fn_pure Fu sc_is_word (fun ds h => by obtain ⟨ws, n, word, rfl, _⟩ := h; rfl) fun cdv A outer s H E hr => ⟨_, (pss_cons (ps_expr (C8.pe_c c_check_pool hr (by decide) rfl (pa_cons (pv 0) pa_nil))) (pss_one (ps_ret (pe_and (C8.pe_c c_are_numbers hr (by decide) rfl (pa_cons (pv 1) (pa_cons pe_int (pa_cons (pe_op op_sub (pe_callB (r := rLenU K Cp (spPL K w C Cp)) (cr_lenK O_plen hr (by decide)) (by rfl) T.len (by decide +kernel) (pa_cons (pv 0) pa_nil)) pe_int) pa_nil)))) (pe_one (pe_cmpR op_le (pe_callB (r := rLenU K Cp (spPL K w C Cp)) (cr_lenK O_plen hr (by decide)) (by rfl) T.len (by decide +kernel) (pa_cons (pv 1) pa_nil)) (C8.pe_gc rfl T.k_MAX_ROUNDS) (nomark _))))))), fun F ds hp => ?_⟩
  obtain ⟨ws, n, word, rfl, pk, wo⟩ := hp
  have n80 := pk.n80
  have n1 := pk.n1
  have w6 := wo.six
  refine sg_seq (fun Γ' => Γ' = startG ["pool", "value"] [poolD w C Cp ws, tupN word]) (sg_drop (en_callF (ds := [poolD w C Cp ws]) (ea_cons (en_var 0 rfl) ea_nil) ⟨ws, n, rfl, pk⟩) rfl) ?_
  rintro Γ' rfl
  refine sg_ret (d := .bl true) (Ev1.is (en_and (k := true) (Ev1.is (en_callF (ds := [tupN word, .int 0, .int ((ws.length : Int) - 1)]) (ea_cons (en_var 1 rfl) (ea_cons (en_int 0) (ea_cons (en_op1 (en_cb1 (ea_cons (en_var 0 rfl) ea_nil) (c_lenOS (n := (ws.length : Int)) ⟨ws, n, rfl, pk⟩ (fun d hd => hd ws rfl) (by omega))) (en_int 1) o_int) ea_nil))) ⟨_, _, _, rfl, okT_tupN (by omega)⟩) (by show D.bl (areNum _ _ _) = _; rw [word_num wo n1])) fun _ => Ev1.is (en_op1 (en_cb1 (ea_cons (en_var 1 rfl) ea_nil) (c_lenU (.inl rfl))) (en_int 6) o_bl) ?_) rfl) rfl
  rw [List.length_map]
  have : decide ((word.length : Int) ≤ 6) = true := decide_eq_true (by omega)
  rw [this]
abbrev CIsWord (P : Program) (w : World) (K : PySem.W.Frag) (mg : Str → Option Value) (base : Heap) (C Cp : Addr) : Prop := C8.Cal P w K mg base 4 "is_word" (spF K (pre_word w C Cp) fun _ => .bl true) []
theorem sc_check_word : FnScope ["pool", "word"] ["pool", "word"] (defScope s_check_word) := ⟨rfl, rfl, rfl, by decide +kernel, rfl, by decide +kernel, by decide +kernel⟩
theorem ok_check_word {f : Addr} {fd : FuncData} (Fu : Fun K "check_word" "check_word" s_check_word f fd) (T : TxtP K mg C Cp) (c_is_word : CIsWord P w K mg base C Cp) : FnOk P w K mg base CX0 6 f fd ["pool", "word"] (spF K (pre_word w C Cp) fun _ => .non) := by
  refine fn_pure Fu sc_check_word (fun ds h => by obtain ⟨ws, n, word, rfl, _⟩ := h; rfl) fun cdv A outer s H E hr => ⟨_, (pss_one (ps_if (pt_not (pt_val (C8.pe_c c_is_word hr (by decide) rfl (pa_cons (pv 0) (pa_cons (pv 1) pa_nil))))) (pss_one ps_never) pss_nil)), fun F ds hp => ?_⟩
  obtain ⟨ws, n, word, rfl, pk, wo⟩ := hp
  exact sg_if (b := false) (EvT1.is (et_not (et_B (en_callF (ds := [poolD w C Cp ws, tupN word]) (ea_cons (en_var 0 rfl) (ea_cons (en_var 1 rfl) ea_nil)) ⟨ws, n, word, rfl, pk, wo⟩))) rfl) (fun e => nomatch e) fun _ => sg_next rfl
abbrev CCheckWord (P : Program) (w : World) (K : PySem.W.Frag) (mg : Str → Option Value) (base : Heap) (C Cp : Addr) : Prop := C8.Cal P w K mg base 6 "check_word" (spF K (pre_word w C Cp) fun _ => .non) []
theorem sc_knowing_at_first : FnScope ["pool", "thread"] ["pool"] (defScope s_knowing_at_first) := ⟨rfl, rfl, rfl, by decide +kernel, rfl, by decide +kernel, by decide +kernel⟩
theorem ok_knowing_at_first {f : Addr} {fd : FuncData} (Fu : Fun K "knowing_at_first" "knowing_at_first" s_knowing_at_first f fd) (T : TxtP K mg C Cp) (p_size : CPSize P w K mg base C Cp) : FnOk P w K mg base CX0 5 f fd ["pool"] (spS K (pre_pool w C Cp) (S_pool w C Cp fun ws => hdD (firstK (sizeP ws)))) := by
  refine fn_pure Fu sc_knowing_at_first (fun ds h => by obtain ⟨ws, n, rfl, _⟩ := h; rfl) fun cdv A outer s H E hr => ⟨_, (pss_one (ps_ret (pe_callTy (r := rTup K) cr_tup (by rfl) T.tuple (by decide +kernel) (pa_cons (pe_lc (own := [("thread", 1)]) rfl sc_knowing_at_first.nd (pi_range1 rfl T.range (pa_cons (C8.pe_prM p_size hr (by decide) (pv 0)) pa_nil)) (blkOk_by (by kernel_rfl)) (fun _ _ _ _ _ => (pg_name (i := 1) sc_knowing_at_first.nd rfl (by first | exact Or.inl rfl | exact Or.inr rfl))) (fun _ _ _ _ _ => pts_nil) (fun _ _ _ _ _ => (pe_tup (pa_cons (pv 1) pa_nil)))) pa_nil)))), fun F ds hp => ?_⟩
  obtain ⟨ws, n, rfl, pk⟩ := hp
  have n5 : sizeP ws ≤ 5 := (pk.ok _ (at0_mem (by have := pk.n1; omega))).ok.n5
  refine sg_ret (d := hdD (firstK (sizeP ws))) (Ev1.is (en_cb1 (ea_cons (en_lcMA (xs := List.range (sizeP ws)) dN (fun t => tupN [t]) (fun x _ y _ e => dN_inj e) (js := [1]) (by simp) (it_rng (n := sizeP ws) (ea_cons (en_propN (S := fun d => d = dN (sizeP ws)) (en_var 0 rfl) ⟨ws, n, rfl, pk⟩ fun d hd => hd ws rfl) ea_nil) (by omega)) (by rw [List.length_range]; omega) fun m' l t ht => ⟨_, tg_name 1, en_tup (ea_cons (en_var 1 rfl) ea_nil) (by simp)⟩) ea_nil) (c_tuple (.inr (.inl rfl)))) ?_) (s_pool (g := fun ws => hdD (firstK (sizeP ws))))
  show D.tup _ = D.tup ((firstK _).map tupN)
  unfold firstK
  rw [List.map_map]
  rfl
abbrev CFirst (P : Program) (w : World) (K : PySem.W.Frag) (mg : Str → Option Value) (base : Heap) (C Cp : Addr) : Prop := C8.Cal P w K mg base 5 "knowing_at_first" (spS K (pre_pool w C Cp) (S_pool w C Cp fun ws => hdD (firstK (sizeP ws)))) []
theorem sc_knowing_after : FnScope ["web", "earlier", "heard", "_"] ["web", "earlier"] (defScope s_knowing_after) := ⟨rfl, rfl, rfl, by decide +kernel, rfl, by decide +kernel, by decide +kernel⟩
def pre_ka (C : Addr) (ds : List D) : Prop := ∃ h ms k, ds = [webD C h ms, hdD k] ∧ WOk h ms ∧ KOk h.length k
def S_ka (C : Addr) (ds : List D) (d : D) : Prop := ∀ h ms k, ds = [webD C h ms, hdD k] → d = hdD (afterK h.length h k)
def natsD : D → List Nat
  | .tup xs => xs.map fun d => match d with | .int i => i.toNat | _ => 0
  | _ => []
theorem natsD_tupN (l : List Nat) : natsD (tupN l) = l := by
  show (l.map dN).map _ = l
  rw [List.map_map]
  exact (List.map_congr_left fun x _ => rfl).trans (List.map_id l)
def knR (n : Nat) (k : Hd) (row : List Nat) : List Nat := (List.range n).filter fun x => row.any fun o => decide (x ∈ rowOf k o)
def kaF (n : Nat) (k : Hd) : D → D
  | .tup [r, _] => tupN (knR n k (natsD r))
  | d => d
theorem flat_len {l : List Nat} {g : Nat → List Int} {b : Nat} (h : ∀ x ∈ l, (g x).length ≤ b) : (l.flatMap g).length ≤ l.length * b := by
  induction l with
  | nil => simp
  | cons x l ih =>
    have h1 := h x List.mem_cons_self
    have h2 := ih fun y hy => h y (List.mem_cons_of_mem _ hy)
    rw [List.flatMap_cons, List.length_append, List.length_cons, Nat.add_mul, Nat.one_mul]
    omega
theorem sc_known_together : FnScope ["heard", "earlier", "other", "each"] ["heard", "earlier"] (defScope s_known_together) := ⟨rfl, rfl, rfl, by decide +kernel, rfl, by decide +kernel, by decide +kernel⟩
def pre_kt (ds : List D) : Prop := ∃ (row : List Nat) (k : Hd), ds = [tupN row, hdD k] ∧ KOk k.length k ∧ k.length ≤ 5 ∧ row.length ≤ k.length ∧ ∀ o ∈ row, o < k.length
def S_kt (ds : List D) (d : D) : Prop := ∀ row k, ds = [tupN row, hdD k] → d = tupN (knR k.length k row)
theorem ok_known_together {f : Addr} {fd : FuncData} (Fu : Fun K "known_together" "known_together" s_known_together f fd) (T : TxtP K mg C Cp) : FnOk P w K mg base CX0 1 f fd ["heard", "earlier"] (spS K pre_kt S_kt) := by
  refine fn_pure Fu sc_known_together (fun ds h => by obtain ⟨row, k, rfl, _⟩ := h; rfl) fun cdv A outer s H E hr => ⟨_, (pss_one (ps_ret (pe_callTy (r := rTup K) cr_tup (by rfl) T.tuple (by decide +kernel) (pa_cons (pe_callB (r := rSortedSet w) (cr_sortedSet rfl) (by rfl) T.sorted (by decide +kernel) (pa_cons (show PE _ _ (TxS2.tSetI2 w _ _ _ _ _ _ _ _ _) from (TxS2.pe_setI2 (own := [("other", 2), ("each", 3)]) (vs1 := [3]) rfl sc_known_together.nd (show PI _ _ _ (iSeq K _) from pi_seq (pv 0)) (blkOk_by (by kernel_rfl)) (by decide) (fun _ _ _ _ _ => (pg_name (i := 2) sc_known_together.nd rfl (by first | exact Or.inl rfl | exact Or.inr rfl))) (fun _ _ _ _ _ => pts_nil) (fun _ _ _ _ _ => (show PI _ _ _ (iSeq K _) from pi_seq (pe_ix (r := rIx K) ix_seq (pv 1) (pv 2) (fun _ _ => rfl)))) (fun _ _ _ _ _ => (pg_name (i := 3) sc_known_together.nd rfl (by first | exact Or.inl rfl | exact Or.inr rfl))) (fun _ _ _ _ _ => pts_nil) (fun _ _ _ _ _ => (pv 3)))) pa_nil)) pa_nil)))), fun F ds hp => ?_⟩
  obtain ⟨row, k, rfl, ko, k5, rl, rlt⟩ := hp
  have few : (row.flatMap fun o => (rowOf k o).map fun x : Nat => (x : Int)).length < 60 := by
    have z := flat_len (l := row) (g := fun o => (rowOf k o).map fun x : Nat => (x : Int)) (b := k.length) fun o ho => by rw [List.length_map]; exact ko.few (rlt o ho)
    have z3 : row.length * k.length ≤ 5 * 5 := Nat.mul_le_mul (by omega) k5
    omega
  refine sg_ret (d := tupN (knR k.length k row)) ?_ fun row' k' e => by
    injection e with e1 e
    injection e with e2 _
    rw [tupN_inj e1, hdD_inj e2]
  refine en_cb1 (ea_cons (ev_set (L := knR k.length k row) (en_sortSet2 (xs := row) dN (fun o => (rowOf k o).map fun x : Nat => (x : Int)) (js := [2]) (js1 := [3]) (by simp) (by simp) (it_seq (en_var 0 rfl) (.inl rfl)) few fun m'' l' o ho => ⟨_, tg_name 2, et_yes, ?_, fun y hy => ⟨_, tg_name 3, et_yes, en_var 3 rfl⟩⟩) (List.pairwise_lt_range.filter _) fun z => ?_) ea_nil) (c_tuple (.inr (.inl rfl)))
  · have hol : o < k.length := rlt o ho
    refine itx_seq (d := tupN (rowOf k o)) (en_op1 (en_var 1 rfl) (en_var 2 rfl) (o_ix (d := tupN (rowOf k o)) (.inl rfl) (atI_of (by rw [List.getElem?_map, row_at hol]; rfl)))) (.inl ?_)
    show D.tup _ = D.tup _
    rw [List.map_map]
    rfl
  · rw [List.mem_flatMap]
    constructor
    · rintro ⟨o, ho, hz⟩
      obtain ⟨x, hx, rfl⟩ := List.mem_map.mp hz
      exact ⟨x, List.mem_filter.mpr ⟨List.mem_range.mpr (ko.lt o (rlt o ho) x hx), List.any_eq_true.mpr ⟨o, ho, decide_eq_true hx⟩⟩, rfl⟩
    · rintro ⟨x, hx, rfl⟩
      obtain ⟨o, ho, hx'⟩ := List.any_eq_true.mp (List.mem_filter.mp hx).2
      exact ⟨o, ho, List.mem_map.mpr ⟨x, of_decide_eq_true hx', rfl⟩⟩
theorem ok_knowing_after {f : Addr} {fd : FuncData} (Fu : Fun K "knowing_after" "knowing_after" s_knowing_after f fd) (T : TxtP K mg C Cp) (W : WebC K C) (p_signals : C8.PrM P w K mg base 1 C "signals" (spS K (pre_self C) (S_self C fun h ms => .tup (sgL h ms)))) (c_known_together : C8.Cal P w K mg base 1 "known_together" (spS K pre_kt S_kt) []) : FnOk P w K mg base CX0 3 f fd ["web", "earlier"] (spS K (pre_ka C) (S_ka C)) := by
  refine fn_pure Fu sc_knowing_after (fun ds h => by obtain ⟨h, ms, k, rfl, _⟩ := h; rfl) fun cdv A outer s H E hr => ⟨_, (pss_one (ps_ret (pe_callTy (r := rTup K) cr_tup (by rfl) T.tuple (by decide +kernel) (pa_cons (pe_lc (own := [("heard", 2), ("_", 3)]) rfl sc_knowing_after.nd (show PI _ _ _ (iSeq K _) from pi_seq (C8.pe_prM p_signals hr (by decide) (pv 0))) (blkOk_by (by kernel_rfl)) (fun _ _ _ _ _ => (show PG _ _ (gTup K 2 (gCons (gName 2) (gCons (gName 3) gNil))) from pg_tup rfl (pgs_cons (pg_name (i := 2) sc_knowing_after.nd rfl (by first | exact Or.inl rfl | exact Or.inr rfl)) (pgs_cons (pg_name (i := 3) sc_knowing_after.nd rfl (by first | exact Or.inl rfl | exact Or.inr rfl)) pgs_nil)))) (fun _ _ _ _ _ => pts_nil) (fun _ _ _ _ _ => (C8.pe_c c_known_together hr (by decide) rfl (pa_cons (pv 2) (pa_cons (pv 1) pa_nil))))) pa_nil)))), fun F ds hp => ?_⟩
  obtain ⟨h, ms, k, rfl, wk, ko⟩ := hp
  have n5 := wk.ok.n5
  refine sg_ret (d := hdD (afterK h.length h k)) (Ev1.is (en_cb1 (ea_cons (en_lcA (xs := sgL h ms) (kaF h.length k) (js := [2, 3]) (by simp) (it_seq (d := .tup (sgL h ms)) (en_propN (S := fun d => d = .tup (sgL h ms)) (en_var 0 rfl) ⟨h, ms, rfl, wk⟩ fun d hd => hd h ms rfl) (.inl rfl)) (by unfold sgL; rw [List.length_map, List.length_range]; omega) fun m' l d hd => ?_) ea_nil) (c_tuple (.inr (.inl rfl)))) ?_) fun h' ms' k' e => ?_
  · obtain ⟨t, ht, rfl⟩ := List.mem_map.mp hd
    rw [List.mem_range] at ht
    refine ⟨_, tg_pair, ?_⟩
    have e0 : kaF h.length k (.tup [tupN (own h t), dN (ms.getD t 0)]) = tupN (knR h.length k (own h t)) := by
      show tupN (knR h.length k (natsD (tupN (own h t)))) = _
      rw [natsD_tupN]
    rw [e0]
    have hkl := ko.len
    refine en_call (ds := [tupN (own h t), hdD k]) (ea_cons (en_var 2 rfl) (ea_cons (en_var 1 rfl) ea_nil)) ⟨own h t, k, rfl, by rw [hkl]; exact ko, by omega, by rw [hkl]; exact own_len, fun o ho => by rw [hkl]; exact own_lt ho⟩ fun d hd => by rw [hd _ _ rfl, hkl]
  · show D.tup _ = D.tup ((afterK _ _ _).map tupN)
    unfold afterK sgL
    rw [List.map_map, List.map_map]
    congr 1
    refine List.map_congr_left fun t ht => ?_
    show tupN (knR h.length k (natsD (tupN (own h t)))) = _
    rw [natsD_tupN]
    rfl
  · injection e with e1 e2
    injection e2 with e2 _
    obtain ⟨rfl, rfl⟩ := webD_inj e1
    rw [hdD_inj e2]
abbrev CAfter (P : Program) (w : World) (K : PySem.W.Frag) (mg : Str → Option Value) (base : Heap) (C : Addr) : Prop := C8.Cal P w K mg base 3 "knowing_after" (spS K (pre_ka C) (S_ka C)) []
theorem sc_knowing_behind : FnScope ["pool", "word", "knowing", "index"] ["pool", "word"] (defScope s_knowing_behind) := ⟨rfl, rfl, rfl, by decide +kernel, rfl, by decide +kernel, by decide +kernel⟩
def S_kb (w : World) (C Cp : Addr) (ds : List D) (d : D) : Prop := ∀ ws word, ds = [poolD w C Cp ws, tupN word] → d = hdD (behindK ws (sizeP ws) word)
theorem fold_take {α β : Type} {f : β → α → β} {l : List α} {i : Nat} {b : β} (h : i < l.length) : (l.take (i + 1)).foldl f b = f ((l.take i).foldl f b) l[i] := by
  rw [show l.take (i + 1) = l.take i ++ [l[i]] from take_one (List.getElem?_eq_getElem h), List.foldl_append]
  rfl
theorem ok_knowing_behind {f : Addr} {fd : FuncData} (Fu : Fun K "knowing_behind" "knowing_behind" s_knowing_behind f fd) (T : TxtP K mg C Cp) (c_knowing_at_first : CFirst P w K mg base C Cp) (c_knowing_after : CAfter P w K mg base C) (p_webs : C8.PrM P w K mg base 1 Cp "webs" (spS K (pre_pool w C Cp) (S_pool w C Cp (wsD C)))) : FnOk P w K mg base CX0 7 f fd ["pool", "word"] (spS K (pre_word w C Cp) (S_kb w C Cp)) := by
  refine fn_pure Fu sc_knowing_behind (fun ds h => by obtain ⟨ws, n, word, rfl, _⟩ := h; rfl) fun cdv A outer s H E hr => ⟨_, (pss_cons (ps_set (i := 2) sc_knowing_behind.nd rfl (by first | exact Or.inl rfl | exact Or.inr rfl) (C8.pe_c c_knowing_at_first hr (by decide) rfl (pa_cons (pv 0) pa_nil))) (pss_cons (ps_for PassesOwn.never rfl (show PI _ _ _ (iSeq K _) from pi_seq (pv 1)) (pg_name (i := 3) sc_knowing_behind.nd rfl (by first | exact Or.inl rfl | exact Or.inr rfl)) (pss_one (ps_set (i := 2) sc_knowing_behind.nd rfl (by first | exact Or.inl rfl | exact Or.inr rfl) (C8.pe_c c_knowing_after hr (by decide) rfl (pa_cons (pe_ix (r := rIx K) ix_seq (C8.pe_prM p_webs hr (by decide) (pv 0)) (pv 3) (fun _ _ => rfl)) (pa_cons (pv 2) pa_nil)))))) (pss_one (ps_ret (pv 2))))), fun F ds hp => ?_⟩
  obtain ⟨ws, n, word, rfl, pk, wo⟩ := hp
  have sz := size_is pk
  refine sq_asg (d := hdD (firstK (sizeP ws))) (en_call (ds := [poolD w C Cp ws]) (ea_cons (en_var 0 rfl) ea_nil) ⟨ws, n, rfl, pk⟩ fun d hd => hd ws rfl) ?_
  refine sg_seq (fun Γ' => ∃ x3, Γ' = [some (poolD w C Cp ws), some (tupN word), some (hdD (behindK ws (sizeP ws) word)), x3]) (sg_for (js := [3]) (T := fun x => x = word.map dN) (it_seq (d := tupN word) (en_var 1 rfl) (.inl rfl)) (fun _ i Γ' => ∃ x3, Γ' = [some (poolD w C Cp ws), some (tupN word), some (hdD (behindK ws (sizeP ws) (word.take i))), x3]) (fun _ _ => ⟨none, rfl⟩) ?_ ?_) ?_
  · rintro xs i d Γ' rfl hd ⟨x3, rfl⟩
    have hi := (List.getElem?_eq_some_iff.mp hd).1
    rw [List.length_map] at hi
    rw [List.getElem?_map, List.getElem?_eq_getElem hi] at hd
    injection hd with hd
    subst hd
    have hl := wo.lt _ (List.getElem_mem hi)
    have hm := at0_mem hl
    refine ⟨_, tg_name 3, sg_asg (d := hdD (behindK ws (sizeP ws) (word.take (i + 1)))) ?_ ⟨_, rfl⟩⟩
    refine en_call (ds := [wD C (at0 ws word[i]), hdD (behindK ws (sizeP ws) (word.take i))]) (ea_cons (en_op1 (en_propN (S := fun d => d = wsD C ws) (en_var 0 rfl) ⟨ws, n, rfl, pk⟩ fun d hd => hd ws rfl) (en_var 3 rfl) (o_ix (d := wD C (at0 ws word[i])) (.inl rfl) (atI_of (by rw [List.getElem?_map, List.getElem?_eq_getElem hl, at0_lt hl]; rfl)))) (ea_cons (en_var 2 rfl) ea_nil)) ⟨_, _, _, rfl, pk.ok _ hm, by rw [pk.sz _ hm, ← sz]; exact behindK_ok _ _ _⟩ fun d hd => ?_
    rw [hd _ _ _ rfl, pk.sz _ hm, ← sz]
    congr 1
    unfold behindK
    rw [fold_take hi]
  · rintro xs Γ' rfl ⟨x3, e⟩
    rw [List.length_map, List.take_length] at e
    exact ⟨x3, e⟩
  · rintro Γ' ⟨x3, rfl⟩
    refine sg_ret (en_var 2 rfl) fun vs wd e => ?_
    injection e with e1 e2
    injection e2 with e2 _
    rw [poolD_inj e1, tupN_inj e2]
abbrev CBehind (P : Program) (w : World) (K : PySem.W.Frag) (mg : Str → Option Value) (base : Heap) (C Cp : Addr) : Prop := C8.Cal P w K mg base 7 "knowing_behind" (spS K (pre_word w C Cp) (S_kb w C Cp)) []
theorem sc_known : FnScope ["pool", "word"] ["pool", "word"] (defScope s_known) := ⟨rfl, rfl, rfl, by decide +kernel, rfl, by decide +kernel, by decide +kernel⟩
theorem ok_known {f : Addr} {fd : FuncData} (Fu : Fun K "known" "known" s_known f fd) (T : TxtP K mg C Cp) (c_check_word : CCheckWord P w K mg base C Cp) (c_knowing_behind : CBehind P w K mg base C Cp) : FnOk P w K mg base CX0 9 f fd ["pool", "word"] (spS K (pre_word w C Cp) (S_kb w C Cp)) := by
  refine fn_pure Fu sc_known (fun ds h => by obtain ⟨ws, n, word, rfl, _⟩ := h; rfl) fun cdv A outer s H E hr => ⟨_, (pss_cons (ps_expr (C8.pe_c c_check_word hr (by decide) rfl (pa_cons (pv 0) (pa_cons (pv 1) pa_nil)))) (pss_one (ps_ret (C8.pe_c c_knowing_behind hr (by decide) rfl (pa_cons (pv 0) (pa_cons (pv 1) pa_nil)))))), fun F ds hp => ?_⟩
  obtain ⟨ws, n, word, rfl, pk, wo⟩ := hp
  refine sg_seq (fun Γ' => Γ' = startG ["pool", "word"] [poolD w C Cp ws, tupN word]) (sg_drop (en_callF (ds := [poolD w C Cp ws, tupN word]) (ea_cons (en_var 0 rfl) (ea_cons (en_var 1 rfl) ea_nil)) ⟨ws, n, word, rfl, pk, wo⟩) rfl) ?_
  rintro Γ' rfl
  exact sg_retN (S := S_kb w C Cp [poolD w C Cp ws, tupN word]) (en_call (ds := [poolD w C Cp ws, tupN word]) (ea_cons (en_var 0 rfl) (ea_cons (en_var 1 rfl) ea_nil)) ⟨ws, n, word, rfl, pk, wo⟩ fun d hd => hd) fun d hd => hd
end
end K03

set_option Elab.async false
set_option linter.all false
set_option maxRecDepth 100000
set_option maxHeartbeats 4000000
set_option autoImplicit false
namespace Tx
open PySem L2
section
variable {K : PySem.W.Frag} {m : Mo} {Γ : G} {te : TE}
/-- all([..]) over data that may come twice -/
theorem en_allD {wi : TI} {g : TG} {vs : List Nat} {xs : List D} {js : List Nat} (p : D → Bool) (hj : ∀ j ∈ js, j ∈ vs) (hi : ItD1 m K wi Γ xs) (hu : xs.length ≤ 100000)
    (hs : ∀ m', Mo.Le m m' → ∀ x, x ∈ xs → ∃ Γ2, TgD m' K g (wipeG Γ vs) x js Γ2 ∧ Ev1 m' K te Γ2 (.bl (p x))) : Ev1 m K (tCB (rAll K) (tCons (tLc wi g tYes te vs) tNil)) Γ (.bl (xs.all p)) := by
  have h := en_lcA (m := m) (K := K) (Γ := Γ) (te := te) (fun x => D.bl (p x)) hj hi hu hs
  rw [show (xs.map fun x => D.bl (p x)) = (xs.map p).map D.bl from by rw [List.map_map]; rfl] at h
  exact Ev1.is (en_cb1 (ea_cons h ea_nil) c_all) (by rw [List.all_map]; rfl)
end
end Tx
namespace K03
open PySem L2 Tx WebM
section
variable {P : Program} {w : World} {K : PySem.W.Frag} {mg : Str → Option Value} {base : Heap} {C Cp : Addr}
theorem sc_known_to_all : FnScope ["knowing", "thread", "each"] ["knowing"] (defScope s_known_to_all) := ⟨rfl, rfl, rfl, by decide +kernel, rfl, by decide +kernel, by decide +kernel⟩
def allK (k : Hd) : List Nat := (List.range k.length).filter fun t => k.all fun r => decide (t ∈ r)
def pre_kta (ds : List D) : Prop := ∃ k : Hd, ds = [hdD k] ∧ k.length ≤ 5
def S_kta (ds : List D) (d : D) : Prop := ∀ k : Hd, ds = [hdD k] → d = tupN (allK k)
theorem ok_known_to_all {f : Addr} {fd : FuncData} (Fu : Fun K "known_to_all" "known_to_all" s_known_to_all f fd) (T : TxtP K mg C Cp) : FnOk P w K mg base CX0 1 f fd ["knowing"] (spS K pre_kta S_kta) := by
  refine fn_pure Fu sc_known_to_all (fun ds h => by obtain ⟨k, rfl, _⟩ := h; rfl) fun cdv A outer s H E hr => ⟨_, (pss_one (ps_ret (pe_callTy (r := rTup K) cr_tup (by rfl) T.tuple (by decide +kernel) (pa_cons (pe_lc (own := [("thread", 1)]) rfl sc_known_to_all.nd (pi_range1 rfl T.range (pa_cons (pe_callB (r := rLenS K) cr_len (by rfl) T.len (by decide +kernel) (pa_cons (pv 0) pa_nil)) pa_nil)) (blkOk_by (by kernel_rfl)) (fun _ _ _ _ _ => (pg_name (i := 1) sc_known_to_all.nd rfl (by first | exact Or.inl rfl | exact Or.inr rfl))) (fun _ _ _ _ _ => (pts_one (pt_val (pe_callB (r := rAll K) (cr_all rfl) (by rfl) T.all (by decide +kernel) (pa_cons (pe_lc (own := [("each", 2)]) rfl sc_known_to_all.nd (show PI _ _ _ (iSeq K _) from pi_seq (pv 0)) (blkOk_by (by kernel_rfl)) (fun _ _ _ _ _ => (pg_name (i := 2) sc_known_to_all.nd rfl (by first | exact Or.inl rfl | exact Or.inr rfl))) (fun _ _ _ _ _ => pts_nil) (fun _ _ _ _ _ => (pe_cmpR (r := rInS K false) (op_inS (hu65 hr)) (pv 1) (pv 2) (by rfl)))) pa_nil))))) (fun _ _ _ _ _ => (pv 1))) pa_nil)))), fun F ds hp => ?_⟩
  obtain ⟨k, rfl, h5⟩ := hp
  refine sg_ret (d := tupN (allK k)) (en_cb1 (ea_cons (en_lcM (xs := List.range k.length) dN (fun t => k.all fun r => decide (t ∈ r)) dN (fun x _ y _ e => dN_inj e) (js := [1]) (by simp) (it_rng (n := k.length) (ea_cons (Ev1.is (en_cb1 (ea_cons (en_var 0 rfl) ea_nil) (c_len (.inl rfl))) (by rw [List.length_map])) ea_nil) (by omega)) (by rw [List.length_range]; omega) fun m' l t ht => ⟨_, tg_name 1, ?_, fun _ => en_var 1 rfl⟩) ea_nil) (c_tuple (.inr (.inl rfl)))) fun k' e => by rw [hdD_inj (List.cons.inj e).1]
  refine et_test (Ev1.is (en_allD (xs := k.map tupN) (fun d => decide (t ∈ natsD d)) (js := [2]) (by simp) (it_seq (d := hdD k) (en_var 0 rfl) (.inl rfl)) (by rw [List.length_map]; omega) fun m'' l' d hd => ?_) ?_)
  · obtain ⟨r, hr', rfl⟩ := List.mem_map.mp hd
    refine ⟨_, tg_name 2, Ev1.is (en_op1 (en_var 1 rfl) (en_var 2 rfl) (o_inN (l := r) (.inl rfl))) (by rw [natsD_tupN])⟩
  · rw [List.all_map]
    congr 1
    exact congrArg k.all (funext fun r => by show decide (t ∈ natsD (tupN r)) = _; rw [natsD_tupN])
abbrev CToAll (P : Program) (w : World) (K : PySem.W.Frag) (mg : Str → Option Value) (base : Heap) : Prop := C8.Cal P w K mg base 1 "known_to_all" (spS K pre_kta S_kta) []
theorem sc_known_by_everyone : FnScope ["pool", "word"] ["pool", "word"] (defScope s_known_by_everyone) := ⟨rfl, rfl, rfl, by decide +kernel, rfl, by decide +kernel, by decide +kernel⟩
def S_kbe (w : World) (C Cp : Addr) (ds : List D) (d : D) : Prop := ∀ ws word, ds = [poolD w C Cp ws, tupN word] → d = tupN (allK (behindK ws (sizeP ws) word))
theorem ok_known_by_everyone {f : Addr} {fd : FuncData} (Fu : Fun K "known_by_everyone" "known_by_everyone" s_known_by_everyone f fd) (T : TxtP K mg C Cp) (c_check_word : CCheckWord P w K mg base C Cp) (c_knowing_behind : CBehind P w K mg base C Cp) (c_known_to_all : CToAll P w K mg base) : FnOk P w K mg base CX0 9 f fd ["pool", "word"] (spS K (pre_word w C Cp) (S_kbe w C Cp)) := by
  refine fn_pure Fu sc_known_by_everyone (fun ds h => by obtain ⟨ws, n, word, rfl, _⟩ := h; rfl) fun cdv A outer s H E hr => ⟨_, (pss_cons (ps_expr (C8.pe_c c_check_word hr (by decide) rfl (pa_cons (pv 0) (pa_cons (pv 1) pa_nil)))) (pss_one (ps_ret (C8.pe_c c_known_to_all hr (by decide) rfl (pa_cons (C8.pe_c c_knowing_behind hr (by decide) rfl (pa_cons (pv 0) (pa_cons (pv 1) pa_nil))) pa_nil))))), fun F ds hp => ?_⟩
  obtain ⟨ws, n, word, rfl, pk, wo⟩ := hp
  have h5 : (behindK ws (sizeP ws) word).length ≤ 5 := by
    rw [(behindK_ok ws (sizeP ws) word).len]
    exact (pk.ok _ (at0_mem (by have := pk.n1; omega))).ok.n5
  refine sg_seq (fun Γ' => Γ' = startG ["pool", "word"] [poolD w C Cp ws, tupN word]) (sg_drop (en_callF (ds := [poolD w C Cp ws, tupN word]) (ea_cons (en_var 0 rfl) (ea_cons (en_var 1 rfl) ea_nil)) ⟨ws, n, word, rfl, pk, wo⟩) rfl) ?_
  rintro Γ' rfl
  refine sg_ret (d := tupN (allK (behindK ws (sizeP ws) word))) (en_call (ds := [hdD (behindK ws (sizeP ws) word)]) (ea_cons (en_call (ds := [poolD w C Cp ws, tupN word]) (S := fun d => d = hdD (behindK ws (sizeP ws) word)) (ea_cons (en_var 0 rfl) (ea_cons (en_var 1 rfl) ea_nil)) ⟨ws, n, word, rfl, pk, wo⟩ fun d hd => hd ws word rfl) ea_nil) ⟨_, rfl, h5⟩ fun d hd => hd _ rfl) fun vs wd e => ?_
  injection e with e1 e2
  injection e2 with e2 _
  rw [poolD_inj e1, tupN_inj e2]
def inK (ws : List WM) (word : List Nat) (t o r : Nat) : Bool := decide (o ∈ rowOf (behindK ws (sizeP ws) (word.take r)) t)
def sinceD (ws : List WM) (word : List Nat) (t o : Nat) : D := match (List.range (word.length + 1)).find? (inK ws word t o) with
  | some r => dN r
  | none => .non
def pre_ks (w : World) (C Cp : Addr) (ds : List D) : Prop := ∃ ws n word t o, ds = [poolD w C Cp ws, tupN word, dN t, dN o] ∧ POk ws n ∧ DOkW ws word ∧ t < n ∧ o < n
def S_ks (w : World) (C Cp : Addr) (ds : List D) (d : D) : Prop := ∀ ws word t o, ds = [poolD w C Cp ws, tupN word, dN t, dN o] → d = sinceD ws word t o
abbrev CCheckThread (P : Program) (w : World) (K : PySem.W.Frag) (mg : Str → Option Value) (base : Heap) (C Cp : Addr) : Prop := C8.Cal P w K mg base 5 "check_thread" (spF K (pre_ct w C Cp) fun _ => .non) []
theorem DOkW.take {ws : List WM} {word : List Nat} (wo : DOkW ws word) (r : Nat) : DOkW ws (word.take r) := ⟨fun i hi => wo.lt i (List.mem_of_mem_take hi), by have := wo.six; rw [List.length_take]; omega⟩
theorem find_first {p : Nat → Bool} {n i : Nat} (hi : i < n) (hp : p i = true) (hb : ∀ j < i, p j = false) : (List.range n).find? p = some i := by
  rw [List.find?_range_eq_some]
  exact ⟨hp, List.mem_range.mpr hi, fun j hj => by rw [hb j hj]; rfl⟩
end
end K03

set_option Elab.async false
set_option linter.all false
set_option maxRecDepth 100000
set_option maxHeartbeats 4000000
set_option autoImplicit false
namespace K03
open PySem L2 Tx WebM
/-! ### those who know a root grow more each round, until all do -/
theorem mem_ownG {h : Hd} {t x : Nat} : x ∈ own h t ↔ x < h.length ∧ (x = t ∨ x ∈ rowOf h t) := by
  unfold own
  rw [List.mem_filter, List.mem_range, Bool.or_eq_true, decide_eq_true_iff, decide_eq_true_iff]
theorem mem_after {n t x : Nat} {h k : Hd} (ht : t < n) : x ∈ rowOf (afterK n h k) t ↔ x < n ∧ ∃ o ∈ own h t, x ∈ rowOf k o := by
  unfold afterK
  rw [row_of_map ht, List.mem_filter, List.mem_range, List.any_eq_true]
  exact and_congr_right fun _ => ⟨fun ⟨o, a, b⟩ => ⟨o, a, of_decide_eq_true b⟩, fun ⟨o, a, b⟩ => ⟨o, a, decide_eq_true b⟩⟩
def knowers (n r : Nat) (k : Hd) : List Nat := (List.range n).filter fun t => decide (r ∈ rowOf k t)
theorem mem_knowers {n r t : Nat} {k : Hd} : t ∈ knowers n r k ↔ t < n ∧ r ∈ rowOf k t := by
  unfold knowers
  rw [List.mem_filter, List.mem_range, decide_eq_true_iff]
theorem after_keeps {n r t : Nat} {h k : Hd} (hl : h.length = n) (ht : t < n) (ko : KOk n k) (q : r ∈ rowOf k t) : r ∈ rowOf (afterK n h k) t :=
  (mem_after ht).mpr ⟨ko.lt t ht r q, t, mem_ownG.mpr ⟨hl.symm ▸ ht, .inl rfl⟩, q⟩
theorem closed_all {h : Hd} {r : Nat} {S : Nat → Prop} (h0 : S r) (hc : ∀ t o, t < h.length → o ∈ rowOf h t → S o → S t) : ∀ {x : Nat}, Rch h r x → S x := fun {x} q => by
  induction q with
  | base => exact h0
  | step a b c ih => exact hc _ _ b c ih
theorem filter_less {α : Type} {p q : α → Bool} : ∀ {l : List α}, (∀ x ∈ l, p x = true → q x = true) → (∃ x ∈ l, q x = true ∧ p x = false) → (l.filter p).length < (l.filter q).length
  | [], _, ⟨x, hx, _⟩ => nomatch hx
  | a :: l, h, ⟨x, hx, hq, hp⟩ => by
    have le : (l.filter p).length ≤ (l.filter q).length := by
      have : ∀ {l : List α}, (∀ x ∈ l, p x = true → q x = true) → (l.filter p).length ≤ (l.filter q).length := fun {l} => by
        induction l with
        | nil => intro _; exact Nat.le_refl _
        | cons b l ih =>
          intro h
          have h1 := ih fun y hy => h y (List.mem_cons_of_mem _ hy)
          have h2 := h b List.mem_cons_self
          rw [List.filter_cons, List.filter_cons]
          cases e1 : p b <;> cases e2 : q b <;> simp <;> first | omega | (rw [e1, e2] at h2; simp at h2)
      exact this fun y hy => h y (List.mem_cons_of_mem _ hy)
    have h2 := h a List.mem_cons_self
    rw [List.filter_cons, List.filter_cons]
    rcases List.mem_cons.mp hx with rfl | hx
    · rw [hq, hp]
      simp
      omega
    · have lt := filter_less (l := l) (fun y hy => h y (List.mem_cons_of_mem _ hy)) ⟨x, hx, hq, hp⟩
      cases e1 : p a <;> cases e2 : q a <;> simp <;> first | omega | (rw [e1, e2] at h2; simp at h2)
theorem root_step {n r : Nat} {h k : Hd} (ok : WebM.Ok h) (hl : h.length = n) (ko : KOk n k) (hr : r ∈ rootsOf h) (rr : r ∈ rowOf k r) : (knowers n r k).length = n ∨ (knowers n r k).length < (knowers n r (afterK n h k)).length := by
  by_cases c : ∃ t o, t < n ∧ o ∈ rowOf h t ∧ r ∈ rowOf k o ∧ r ∉ rowOf k t
  · obtain ⟨t, o, ht, ho, ko', kt⟩ := c
    have on : o < n := hl ▸ (ok.lt t (hl.symm ▸ ht) o ho).1
    refine .inr (filter_less (fun x hx q => ?_) ⟨t, List.mem_range.mpr ht, ?_, decide_eq_false kt⟩)
    · exact decide_eq_true (after_keeps hl (List.mem_range.mp hx) ko (of_decide_eq_true q))
    · exact decide_eq_true ((mem_after ht).mpr ⟨ko.lt o on r ko', o, mem_ownG.mpr ⟨hl.symm ▸ on, .inr ho⟩, ko'⟩)
  · left
    have all : ∀ t < n, r ∈ rowOf k t := fun t ht => by
      have hrt : Rch h r t := by
        have z : (rl h r).length = h.length := of_decide_eq_true (List.mem_filter.mp hr).2
        have mem : t ∈ rl h r := by
          refine Classical.byContradiction fun q => ?_
          have lt : (rl h r).length < h.length := by
            have := (List.nodup_cons.mpr ⟨q, rl_nodup h r⟩).length_le_of_subset (l₂ := List.range h.length) fun y hy => by
              rcases List.mem_cons.mp hy with rfl | hy
              · exact List.mem_range.mpr (hl.symm ▸ ht)
              · exact List.mem_range.mpr (mem_rl.mp hy).1
            rw [List.length_cons, List.length_range] at this
            omega
          omega
        exact (mem_rl.mp mem).2
      have := closed_all (S := fun x => x < n → r ∈ rowOf k x) (fun _ => rr) (fun t o ht' ho q ht2 => Classical.byContradiction fun z => c ⟨t, o, ht2, ho, q (hl ▸ (ok.lt t ht' o ho).1), z⟩) hrt
      exact this ht
    unfold knowers
    rw [List.filter_eq_self.mpr fun t ht => decide_eq_true (all t (List.mem_range.mp ht)), List.length_range]
theorem knowers_le {n r : Nat} {k : Hd} : (knowers n r k).length ≤ n := by
  have := List.length_filter_le (fun t => decide (r ∈ rowOf k t)) (List.range n)
  rw [List.length_range] at this
  exact this
theorem fold_keeps {ws : List WM} {n r t : Nat} (pk : POk ws n) (ht : t < n) : ∀ (v : List Nat) {k : Hd}, KOk n k → (∀ i ∈ v, i < ws.length) → r ∈ rowOf k t → r ∈ rowOf (v.foldl (fun k i => afterK n (at0 ws i).1 k) k) t
  | [], _, _, _, q => q
  | i :: v, k, ko, hv, q => fold_keeps pk ht v (afterK_ok _ _ _) (fun j hj => hv j (List.mem_cons_of_mem _ hj)) (after_keeps (pk.sz _ (at0_mem (hv i List.mem_cons_self))) ht ko q)
theorem fold_roots {ws : List WM} {n r : Nat} (pk : POk ws n) (rn : r < n) : ∀ (v : List Nat) {k : Hd}, KOk n k → (∀ i ∈ v, i < ws.length ∧ r ∈ rootsOf (at0 ws i).1) → r ∈ rowOf k r → (knowers n r (v.foldl (fun k i => afterK n (at0 ws i).1 k) k)).length = n ∨ (knowers n r k).length + v.length ≤ (knowers n r (v.foldl (fun k i => afterK n (at0 ws i).1 k) k)).length
  | [], _, _, _, _ => .inr (Nat.le_refl _)
  | i :: v, k, ko, hv, rr => by
    obtain ⟨hi, hr⟩ := hv i List.mem_cons_self
    have hm := at0_mem hi
    have hl := pk.sz _ hm
    have ih := fold_roots pk rn v (afterK_ok n (at0 ws i).1 k) (fun j hj => hv j (List.mem_cons_of_mem _ hj)) (after_keeps hl rn ko rr)
    show (knowers n r (v.foldl _ (afterK n (at0 ws i).1 k))).length = n ∨ _ ≤ (knowers n r (v.foldl _ (afterK n (at0 ws i).1 k))).length
    rcases root_step (pk.ok _ hm).ok hl ko hr rr with e | lt
    · left
      have all : ∀ t < n, r ∈ rowOf k t := fun t ht => by
        have z : knowers n r k = List.range n := List.filter_eq_self.mpr (List.length_filter_eq_length_iff.mp (by rw [List.length_range]; exact e))
        exact (mem_knowers.mp (z ▸ List.mem_range.mpr ht)).2
      unfold knowers
      rw [List.filter_eq_self.mpr fun t ht => decide_eq_true (fold_keeps pk (List.mem_range.mp ht) v (afterK_ok _ _ _) (fun j hj => (hv j (List.mem_cons_of_mem _ hj)).1) (after_keeps hl (List.mem_range.mp ht) ko (all t (List.mem_range.mp ht)))), List.length_range]
    · rcases ih with e | le
      · exact .inl e
      · right
        rw [List.length_cons]
        omega
/-- knowers behind a word in which web 0, of which r is a root, comes so many times -/
theorem fold_cnt {ws : List WM} {n r : Nat} (pk : POk ws n) (rn : r < n) (hr : r ∈ rootsOf (at0 ws 0).1) : ∀ (v : List Nat) {k : Hd}, KOk n k → (∀ i ∈ v, i < ws.length) → r ∈ rowOf k r → (knowers n r (v.foldl (fun k i => afterK n (at0 ws i).1 k) k)).length = n ∨ (knowers n r k).length + v.count 0 ≤ (knowers n r (v.foldl (fun k i => afterK n (at0 ws i).1 k) k)).length
  | [], _, _, _, _ => .inr (Nat.le_refl _)
  | i :: v, k, ko, hv, rr => by
    have hi := hv i List.mem_cons_self
    have hm := at0_mem hi
    have hl := pk.sz _ hm
    have ih := fold_cnt pk rn hr v (afterK_ok n (at0 ws i).1 k) (fun j hj => hv j (List.mem_cons_of_mem _ hj)) (after_keeps hl rn ko rr)
    have mono : (knowers n r k).length ≤ (knowers n r (afterK n (at0 ws i).1 k)).length := by
      unfold knowers
      rw [← List.countP_eq_length_filter, ← List.countP_eq_length_filter]
      exact List.countP_mono_left fun t ht z => decide_eq_true (after_keeps hl (List.mem_range.mp ht) ko (of_decide_eq_true z))
    show (knowers n r (v.foldl _ (afterK n (at0 ws i).1 k))).length = n ∨ _ ≤ (knowers n r (v.foldl _ (afterK n (at0 ws i).1 k))).length
    by_cases i0 : i = 0
    · subst i0
      rw [List.count_cons_self]
      rcases root_step (pk.ok _ hm).ok hl ko hr rr with e | lt
      · left
        have all : ∀ t < n, r ∈ rowOf k t := fun t ht => by
          have z : knowers n r k = List.range n := List.filter_eq_self.mpr (List.length_filter_eq_length_iff.mp (by rw [List.length_range]; exact e))
          exact (mem_knowers.mp (z ▸ List.mem_range.mpr ht)).2
        unfold knowers
        rw [List.filter_eq_self.mpr fun t ht => decide_eq_true (fold_keeps pk (List.mem_range.mp ht) v (afterK_ok _ _ _) (fun j hj => hv j (List.mem_cons_of_mem _ hj)) (after_keeps hl (List.mem_range.mp ht) ko (all t (List.mem_range.mp ht)))), List.length_range]
      · rcases ih with e | le
        · exact .inl e
        · right
          omega
    · rw [List.count_cons_of_ne i0]
      rcases ih with e | le
      · exact .inl e
      · right
        omega
/-- a root of web 0 is known by everyone behind a word in which it comes size - 1 times -/
theorem root_seen {ws : List WM} {n r : Nat} (pk : POk ws n) (rn : r < n) (hr : r ∈ rootsOf (at0 ws 0).1) {v : List Nat} (hv : ∀ i ∈ v, i < ws.length) (cnt : n - 1 ≤ v.count 0) {t : Nat} (ht : t < n) : r ∈ rowOf (behindK ws n v) t := by
  have h1 : r ∈ rowOf (firstK n) r := by unfold firstK; rw [row_of_map rn]; exact List.mem_singleton.mpr rfl
  have k1 : 1 ≤ (knowers n r (firstK n)).length := List.length_pos_of_mem (mem_knowers.mpr ⟨rn, h1⟩)
  have q := fold_cnt pk rn hr v (firstK_ok n) hv h1
  have e : (knowers n r (behindK ws n v)).length = n := by
    rcases q with e | le
    · exact e
    · exact Nat.le_antisymm knowers_le (by unfold behindK; omega)
  have z : knowers n r (behindK ws n v) = List.range n := List.filter_eq_self.mpr (List.length_filter_eq_length_iff.mp (by rw [List.length_range]; exact e))
  exact (mem_knowers.mp (z ▸ List.mem_range.mpr ht)).2
end K03

set_option Elab.async false
set_option linter.all false
set_option maxRecDepth 100000
set_option maxHeartbeats 4000000
set_option autoImplicit false
namespace K03
open PySem L2 Tx WebM
section
variable {P : Program} {w : World} {K : PySem.W.Frag} {mg : Str → Option Value} {base : Heap} {C : Addr}
theorem sc_law_shuffled : FnScope ["_law_pouch_here", "_law_items", "_law_turn", "_law_left", "_law_found"] ["_law_pouch_here", "_law_items"] (defScope s_law_shuffled) := ⟨rfl, rfl, rfl, by decide +kernel, rfl, by decide +kernel, by decide +kernel⟩
def pre_sh (ds : List D) : Prop := ∃ ns : List Nat, ds = [lstN ns] ∧ ns.length ≤ 900
def S_sh (ds : List D) (d : D) : Prop := ∀ ns : List Nat, ds = [lstN ns] → ∃ ns' : List Nat, d = lstN ns' ∧ ns'.Perm ns
theorem lstN_inj {a b : List Nat} (h : lstN a = lstN b) : a = b := by injection h with h; exact mapN_inj h
theorem erase_map {ns : List Nat} {n : Nat} : (ns.map dN).eraseIdx n = (ns.eraseIdx n).map dN := by
  induction ns generalizing n with
  | nil => rfl
  | cons a ns ih => cases n with
    | zero => rfl
    | succ n => rw [List.map_cons, List.eraseIdx_cons_succ, List.eraseIdx_cons_succ, List.map_cons, ih]
theorem ok_law_shuffled {f : Addr} {fd : FuncData} (Fu : Fun K "_law_shuffled" "_law_shuffled" s_law_shuffled f fd) (T : Txt K mg C) (c__law_coin : C8.Cal P w K mg base 1 "_law_coin" (spP K pre_coin S_coin) []) : FnOk P w K mg base CX0 2 f fd ["_law_pouch_here", "_law_items"] (spP K pre_sh S_sh) := by
  refine fn_pouch Fu sc_law_shuffled (fun ds h => by obtain ⟨n, rfl, _⟩ := h; rfl) fun cdv A outer s H E hr => ⟨_, (pss_cons (ps_par (i := 3) (j := 4) rfl sc_law_shuffled.nd rfl rfl (by decide) rfl rfl (pa_cons (pe_callTy (r := rLst K) cr_lst (by rfl) T.list (by decide +kernel) (pa_cons (pv 1) pa_nil)) (pa_cons (pe_lst pa_nil) pa_nil)) (by rfl)) (pss_cons (ps_for PassesOwn.never rfl (pi_range1 rfl T.range (pa_cons (pe_callB (r := rLenS K) cr_len (by rfl) T.len (by decide +kernel) (pa_cons (pv 3) pa_nil)) pa_nil)) (pg_name (i := 2) sc_law_shuffled.nd rfl (by first | exact Or.inl rfl | exact Or.inr rfl)) (pss_one (ps_expr (pe_bm PySem.F.plainAttrs_list PySem.F.slot_list_append PySem.F.type_list_append mt_append (pv 4) (pa_cons (show PE _ _ (tBM K "list" rPopAt _ _) from pe_bm PySem.F.plainAttrs_list PySem.F.slot_list_pop PySem.F.type_list_pop mt_popAt (pv 3) (pa_cons (C8.pe_c c__law_coin hr (by decide) rfl (pa_cons (pv 0) (pa_cons (pe_callB (r := rLenS K) cr_len (by rfl) T.len (by decide +kernel) (pa_cons (pv 3) pa_nil)) pa_nil))) pa_nil)) pa_nil))))) (pss_one (ps_ret (pv 4))))), fun p F ds hp => ?_⟩
  obtain ⟨ns, rfl, hl⟩ := hp
  have HP := HasP.self p F
  refine sq_two (i := 3) (j := 4) (as := ns.map dN) (el_list (en_var 1 rfl) (.inr (.inl rfl))) fun l k H0 => ?_
  refine sp_seq (fun Γ' as' bs' => ∃ (x2 : Option D) (a b : List Nat), as' = a.map dN ∧ bs' = b.map dN ∧ (b ++ a).Perm ns ∧ a.length = ns.length - ns.length ∧ Γ' = [some (.adr p), some (lstN ns), x2, some (.adr l), some (.adr k)])
    (sp_forR (i := 3) (n := ns.length) rfl (ea_cons (Ev1.is (en_cb1 (ea_cons (en_var 3 rfl) ea_nil) (c_len (.inr (.inl rfl)))) (by rw [List.length_map])) ea_nil) (by omega) (fun i Γ' as' bs' => ∃ (x2 : Option D) (a b : List Nat), as' = a.map dN ∧ bs' = b.map dN ∧ (b ++ a).Perm ns ∧ a.length = ns.length - i ∧ Γ' = [some (.adr p), some (lstN ns), x2, some (.adr l), some (.adr k)]) ⟨none, ns, [], rfl, rfl, List.Perm.refl _, rfl, rfl⟩ ?_ fun Γ' as' bs' w => w) ?_
  · rintro i d Γ' as' bs' hd ⟨x2, a, b, rfl, rfl, pm, ha, rfl⟩
    have hi := (List.getElem?_eq_some_iff.mp hd).1
    rw [List.length_map, List.length_range] at hi
    have lb : b.length + a.length = ns.length := by rw [← List.length_append, pm.length_eq]
    refine ⟨_, _, tg_name 2, sp_pop (i := 3) (j := 4) (S := inI 0 (a.map dN).length) rfl rfl (en_pcall1 (HP.le (Mo.le_ext _ k)) (ds := [.int (a.map dN).length]) (ea_cons (en_var 0 rfl) (ea_cons (en_cb1 (ea_cons (en_var 3 rfl) ea_nil) (c_len (.inr (.inl rfl)))) ea_nil)) ⟨_, rfl, by rw [List.length_map]; omega, by rw [List.length_map]; omega⟩ fun d hd => hd _ rfl) (fun d ⟨x, e, h0, h1⟩ => ⟨x.toNat, by rw [e]; show D.int x = D.int _; rw [Int.toNat_of_nonneg h0], by omega⟩) (by rw [List.length_map]; omega) (by rw [List.length_map]; omega) fun n d hn => ?_⟩
    rw [List.getElem?_map] at hn
    cases e : a[n]? with
    | none => rw [e] at hn; cases hn
    | some x =>
      rw [e] at hn
      injection hn with hn
      subst hn
      obtain ⟨h1, h2⟩ := List.getElem?_eq_some_iff.mp e
      refine ⟨_, a.eraseIdx n, b ++ [x], erase_map, by rw [List.map_append]; rfl, ?_, by rw [List.length_eraseIdx, if_pos h1]; omega, rfl⟩
      refine List.Perm.trans ?_ pm
      rw [List.append_assoc]
      refine List.Perm.append_left b ?_
      rw [← h2]
      exact erase_perm a n _ (List.getElem?_eq_getElem h1)
  · rintro Γ' as' bs' ⟨x2, a, b, rfl, rfl, pm, ha, rfl⟩
    have : a = [] := List.length_eq_zero_iff.mp (by omega)
    subst this
    rw [List.append_nil] at pm
    exact sp_dis (i := 3) (j := 4) rfl rfl (by decide) (sg_ret (d := lstN b) (en_var 4 rfl) fun ns' e => by injection e with e; rw [← lstN_inj e]; exact ⟨b, rfl, pm⟩)
def pre_put (ds : List D) : Prop := ∃ (ns : List Nat) (b : D) (xs : List D), ds = [lstN ns, b] ∧ isSeq b xs ∧ ns.Perm (List.range xs.length) ∧ xs.length ≤ 900
def S_put (ds : List D) (d : D) : Prop := ∀ (ns : List Nat) (b : D) (xs : List D), ds = [lstN ns, b] → isSeq b xs → d = .lst ((List.range xs.length).map fun j => xs.getD (ns.idxOf j) .non)
instance : Inhabited D := ⟨.non⟩
def pre_td (ds : List D) : Prop := ∃ ns h ms, ds = [lstN ns, .tup [hdD h, tupN ms]] ∧ WOk h ms ∧ ns.Perm (List.range h.length)
def S_td (ds : List D) (d : D) : Prop := ∀ ns h ms, ds = [lstN ns, .tup [hdD h, tupN ms]] → d = .tup [hdD (turnH ns h), tupN (turnM ns ms)]
theorem hd_rows (h : Hd) {β : Type} (g : List Nat → β) : h.map g = (List.range h.length).map fun t => g (rowOf h t) := by
  apply List.ext_getElem
  · simp
  · intro i h1 h2
    rw [List.length_map] at h1
    rw [List.getElem_map, List.getElem_map, List.getElem_range, row_iff h1]
theorem getD_map {α : Type} (g : Nat → α) {n j : Nat} (d : α) (hj : j < n) : ((List.range n).map g).getD j d = g j := by
  rw [List.getD_eq_getElem?_getD, List.getElem?_map, List.getElem?_range hj]
  rfl
def pre_bo (ds : List D) : Prop := ∃ h h' b, ds = [hdD h, hdD h', .bl b] ∧ WebM.Ok h ∧ WebM.Ok h' ∧ h'.length = h.length
def bothH (h h' : Hd) (b : Bool) : Hd := if b then joinH h h' else shareH h h'
def S_bo (ds : List D) (d : D) : Prop := ∀ h h' b, ds = [hdD h, hdD h', .bl b] → d = hdD (bothH h h' b)
def bothR (n : Nat) (r r' : List Nat) (b : Bool) : List Nat := (List.range n).filter fun x => (decide (x ∈ r) || decide (x ∈ r')) && (b || (decide (x ∈ r) && decide (x ∈ r')))
theorem both_row {h h' : Hd} {b : Bool} (ok : WebM.Ok h) (ok' : WebM.Ok h') (hl : h'.length = h.length) {t : Nat} (ht : t < h.length) : (bothH h h' b)[t]? = some (bothR h.length (rowOf h t) (rowOf h' t) b) := by
  have n1 : t ∉ rowOf h t := fun z => (ok.lt t ht t z).2 rfl
  have n2 : t ∉ rowOf h' t := fun z => (ok'.lt t (by omega) t z).2 rfl
  unfold bothH bothR
  cases b
  · rw [if_neg (by decide)]
    unfold shareH
    rw [nrm_at ht]
    congr 1
    refine List.filter_congr fun x hx => ?_
    by_cases q : x = t
    · subst q; simp [n1]
    · cases decide (x ∈ rowOf h t) <;> cases decide (x ∈ rowOf h' t) <;> simp [q]
  · rw [if_pos rfl]
    unfold joinH
    rw [nrm_at ht]
    congr 1
    refine List.filter_congr fun x hx => ?_
    by_cases q : x = t
    · subst q; simp [n1, n2]
    · cases decide (x ∈ rowOf h t) <;> cases decide (x ∈ rowOf h' t) <;> simp [q]
theorem both_len {h h' : Hd} {b : Bool} : (bothH h h' b).length = h.length := by
  unfold bothH joinH shareH
  split <;> exact nrm_len
end
end K03

set_option Elab.async false
set_option linter.all false
set_option maxRecDepth 100000
set_option maxHeartbeats 4000000
set_option autoImplicit false
namespace K03
open PySem L2 Tx WebM
section
variable {P : Program} {w : World} {K : PySem.W.Frag} {mg : Str → Option Value} {base : Heap} {C : Addr}
theorem sc_law_led : FnScope ["_law_heard_here", "_law_thread", "_law_found", "_law_turn", "_law_other", "_law_one"] ["_law_heard_here", "_law_thread"] (defScope s_law_led) := ⟨rfl, rfl, rfl, by decide +kernel, rfl, by decide +kernel, by decide +kernel⟩
noncomputable def S_led (ds : List D) (d : D) : Prop := ∀ (h : Hd) (t : Nat), ds = [hdD h, dN t] → d = lstN (rl h t)
theorem ok_law_led {f : Addr} {fd : FuncData} (Fu : Fun K "_law_led" "_law_led" s_law_led f fd) (T : Txt K mg C) : FnOk P w K mg base CX0 1 f fd ["_law_heard_here", "_law_thread"] (spS K pre_threads_reached S_led) := by
  refine fn_pure Fu sc_law_led (fun ds h => by obtain ⟨h, t, rfl, _⟩ := h; rfl) fun cdv A outr s H E hr => ⟨_, (pss_cons (ps_set (i := 2) sc_law_led.nd rfl (by first | exact Or.inl rfl | exact Or.inr rfl) (pe_lst (pa_cons (pv 1) pa_nil))) (pss_cons (ps_for PassesOwn.never rfl (pi_range1 rfl T.range (pa_cons (pe_callB (r := rLenS K) cr_len (by rfl) T.len (by decide +kernel) (pa_cons (pv 0) pa_nil)) pa_nil)) (pg_name (i := 3) sc_law_led.nd rfl (by first | exact Or.inl rfl | exact Or.inr rfl)) (pss_one (ps_for PassesOwn.never rfl (pi_range1 rfl T.range (pa_cons (pe_callB (r := rLenS K) cr_len (by rfl) T.len (by decide +kernel) (pa_cons (pv 0) pa_nil)) pa_nil)) (pg_name (i := 4) sc_law_led.nd rfl (by first | exact Or.inl rfl | exact Or.inr rfl)) (pss_one (ps_if (PW.pt (pw_and (pt_cmpR (r := rInS K true) (op_notInS (hu65 hr)) (pv 4) (pv 2) (by rfl)) (pw_and1 (pt_cmpR (r := rNeD K) (op_neD hr.units) (pe_lc (own := [("_law_one", 5)]) rfl sc_law_led.nd (show PI _ _ _ (iSeq K _) from pi_seq (pe_ix (r := rIx K) ix_seq (pv 0) (pv 4) (fun _ _ => rfl))) (blkOk_by (by kernel_rfl)) (fun _ _ _ _ _ => (pg_name (i := 5) sc_law_led.nd rfl (by first | exact Or.inl rfl | exact Or.inr rfl))) (fun _ _ _ _ _ => (pts_one (pt_cmpR (r := rInS K false) (op_inS (hu65 hr)) (pv 5) (pv 2) (by rfl)))) (fun _ _ _ _ _ => (pv 5))) (pe_lst pa_nil) (nomark _))))) (pss_one (ps_expr (pe_bm PySem.F.plainAttrs_list PySem.F.slot_list_append PySem.F.type_list_append mt_append (pv 2) (pa_cons (pv 4) pa_nil)))) pss_nil))))) (pss_one (ps_ret (pe_callB (r := rSortS K) cr_sortS (by rfl) T.sorted (by decide +kernel) (pa_cons (pv 2) pa_nil)))))), fun F ds hp => ?_⟩
  obtain ⟨h, t, rfl, ok, ht⟩ := hp
  have h5 := ok.n5
  refine sq_newL (ea_cons (en_var 1 rfl) ea_nil) (by simp) (by show 2 < 6; decide) fun l H0 => ?_
  have rng : ∀ (x3 x4 x5 : Option D), ItX ((pureMo F).ext l) K _ [some (hdD h), some (dN t), some (.adr l), x3, x4, x5] ((List.range h.length).map dN) := fun x3 x4 x5 => itx_rng (ea_cons (Ev1.is (en_cb1 (ea_cons (en_var 0 rfl) ea_nil) (c_len (.inl rfl))) (by rw [hdL])) ea_nil) (by omega)
  have getN : ∀ {i : Nat} {d : D}, ((List.range h.length).map dN)[i]? = some d → i < h.length ∧ d = dN i := fun {i d} e => by
    have hi := (List.getElem?_eq_some_iff.mp e).1
    rw [List.length_map, List.length_range] at hi
    rw [List.getElem?_map, List.getElem?_range hi] at e
    injection e with e
    exact ⟨hi, e.symm⟩
  refine so_seq (fun Γ' ds' => ∃ (x3 x4 x5 : Option D), ds' = (outer h [t] h.length).map dN ∧ Γ' = [some (hdD h), some (dN t), some (.adr l), x3, x4, x5]) (so_for (rng none none none) (fun i Γ' ds' => ∃ (x3 x4 x5 : Option D), ds' = (outer h [t] i).map dN ∧ Γ' = [some (hdD h), some (dN t), some (.adr l), x3, x4, x5]) ⟨none, none, none, rfl, rfl⟩ ?_ ?_) ?_
  · rintro i d Γ' ds' hd ⟨x3, x4, x5, rfl, rfl⟩
    obtain ⟨hi, rfl⟩ := getN hd
    refine ⟨_, _, tg_name 3, so_for (rng (some (dN i)) x4 x5) (fun j Γ' ds' => ∃ (x4 x5 : Option D), ds' = (inner h (outer h [t] i) j).map dN ∧ Γ' = [some (hdD h), some (dN t), some (.adr l), some (dN i), x4, x5]) ⟨x4, x5, rfl, rfl⟩ ?_ ?_⟩
    · rintro j d Γ' ds' hd ⟨x4, x5, rfl, rfl⟩
      obtain ⟨hj, rfl⟩ := getN hd
      have iR := ((InvR.one ht).outer i).inner j (by omega)
      have hl := iR.len
      refine ⟨_, _, tg_name 4, so_if (i := 2) (b := oneB h (inner h (outer h [t] i) j) j) rfl ?_ (fun e => ?_) (fun e => ?_)⟩
      · refine et_and (et_test (en_op1 (en_var 4 rfl) (en_var 2 rfl) (o_niN (.inr (.inl rfl))))) fun _ => et_test ?_
        refine Ev1.is (en_op1 (b := .lst []) (en_lcM dN (fun x => decide (x ∈ inner h (outer h [t] i) j)) dN (fun x _ y _ e => dN_inj e) (js := [5]) (by simp) (it_seq (d := tupN (rowOf h j)) (en_op1 (en_var 0 rfl) (en_var 4 rfl) (o_ix (.inl rfl) (atI_of (by rw [List.getElem?_map, row_at hj]; rfl)))) (.inl rfl)) (by have := ok.rowlen hj; omega) fun m' le o ho => ⟨_, tg_name 5, et_test (en_op1 (en_var 5 rfl) (en_var 2 rfl) (o_inN (.inr (.inl rfl)))), fun _ => en_var 5 rfl⟩) (en_lst ea_nil (by decide)) (o_neP (n := 1) (by decide) (pur_lN _) rfl)) ?_
        show D.bl (!PyData.eqv (.list (D.pys _)) (.list [])) = _
        rw [pys_dN]
        cases (rowOf h j).filter fun x => decide (x ∈ inner h (outer h [t] i) j) with
        | nil => rfl
        | cons a r => rfl
      · refine so_app (i := 2) rfl (en_var 4 rfl) (by rw [List.length_map]; omega) ⟨_, _, ?_, rfl⟩
        rw [inner_succ]
        unfold one
        rw [if_pos e, List.map_append]
        rfl
      · refine so_next ⟨_, _, ?_, rfl⟩
        rw [inner_succ]
        unfold one
        rw [if_neg (by rw [e]; decide)]
    · rintro Γ' ds' ⟨x4, x5, e, r⟩
      rw [List.length_map, List.length_range] at e
      exact ⟨_, x4, x5, e, r⟩
  · rintro Γ' ds' ⟨x3, x4, x5, e, r⟩
    rw [List.length_map, List.length_range] at e
    exact ⟨x3, x4, x5, e, r⟩
  · rintro Γ' ds' ⟨x3, x4, x5, rfl, rfl⟩
    have iR := (InvR.one ht).outer h.length
    have hl := iR.len
    refine so_dis (i := 2) rfl (sg_ret (d := lstN (rl h t)) ?_ fun h' t' e => ?_)
    · refine Ev1.is (en_cb1 (ea_cons (en_var 2 rfl) ea_nil) (c_sorted (ns := (outer h [t] h.length).map fun k : Nat => (k : Int)) (.inr (.inl (by rw [← dN_ints]))) (by rw [List.length_map]; omega))) ?_
      rw [iR.srt (outer_closed ht), ← dN_ints]
    · injection e with e1 e2
      injection e2 with e2 _
      rw [hdD_inj e1, dN_inj e2]
theorem sc_law_root_list : FnScope ["_law_heard_here", "_law_thread"] ["_law_heard_here"] (defScope s_law_root_list) := ⟨rfl, rfl, rfl, by decide +kernel, rfl, by decide +kernel, by decide +kernel⟩
noncomputable def S_root_list (ds : List D) (d : D) : Prop := ∀ h : Hd, ds = [hdD h] → d = lstN (rootsOf h)
theorem ok_law_root_list {f : Addr} {fd : FuncData} (Fu : Fun K "_law_root_list" "_law_root_list" s_law_root_list f fd) (T : Txt K mg C) (c__law_led : C8.Cal P w K mg base 1 "_law_led" (spS K pre_threads_reached S_led) []) : FnOk P w K mg base CX0 2 f fd ["_law_heard_here"] (spS K pre_roots_of S_root_list) := by
  refine fn_pure Fu sc_law_root_list (fun ds h => by obtain ⟨h, rfl, _⟩ := h; rfl) fun cdv A outer s H E hr => ⟨_, (pss_one (ps_ret (pe_lc (own := [("_law_thread", 1)]) rfl sc_law_root_list.nd (pi_range1 rfl T.range (pa_cons (pe_callB (r := rLenS K) cr_len (by rfl) T.len (by decide +kernel) (pa_cons (pv 0) pa_nil)) pa_nil)) (blkOk_by (by kernel_rfl)) (fun _ _ _ _ _ => (pg_name (i := 1) sc_law_root_list.nd rfl (by first | exact Or.inl rfl | exact Or.inr rfl))) (fun _ _ _ _ _ => (pts_one (pt_cmpR (r := rEqD K) (op_eqD hr.units) (pe_callB (r := rLenS K) cr_len (by rfl) T.len (by decide +kernel) (pa_cons (C8.pe_c c__law_led hr (by decide) rfl (pa_cons (pv 0) (pa_cons (pv 1) pa_nil))) pa_nil)) (pe_callB (r := rLenS K) cr_len (by rfl) T.len (by decide +kernel) (pa_cons (pv 0) pa_nil)) (nomark _)))) (fun _ _ _ _ _ => (pv 1))))), fun F ds hp => ?_⟩
  obtain ⟨h, rfl, ok⟩ := hp
  have h5 := ok.n5
  refine sg_ret (d := lstN (rootsOf h)) ?_ (fun h' e => by injection e with e1; rw [hdD_inj e1])
  refine en_lcM dN (fun t => decide ((rl h t).length = h.length)) dN (fun x _ y _ e => dN_inj e) (js := [1]) (by simp) (it_rng (n := h.length) (ea_cons (Ev1.is (en_cb1 (ea_cons (en_var 0 rfl) ea_nil) (c_len (.inl rfl))) (by rw [hdL])) ea_nil) (by omega)) (by rw [List.length_range]; omega) fun m' l t ht => ⟨_, tg_name 1, ?_, fun _ => en_var 1 rfl⟩
  rw [List.mem_range] at ht
  refine EvT1.is (et_test (en_op1 (en_cb1 (ea_cons (en_call (S := fun d => d = lstN (rl h t)) (ds := [hdD h, dN t]) (ea_cons (en_var 0 rfl) (ea_cons (en_var 1 rfl) ea_nil)) ⟨h, t, rfl, ok, ht⟩ fun d hd => hd h t rfl) ea_nil) (c_len (.inr (.inl rfl)))) (en_cb1 (ea_cons (en_var 0 rfl) ea_nil) (c_len (.inl rfl))) o_eqI)) ?_
  rw [List.length_map, hdL]
  by_cases q : (rl h t).length = h.length
  · rw [decide_eq_true q, decide_eq_true (by omega)]
  · rw [decide_eq_false q, decide_eq_false (by omega)]
end
end K03

set_option Elab.async false
set_option linter.all false
set_option maxRecDepth 100000
set_option maxHeartbeats 4000000
set_option autoImplicit false
namespace K03
open PySem L2 Tx WebM
/-! ### roots -/
section
variable {h : Hd}
theorem full_iff {t : Nat} : (rl h t).length = h.length ↔ ∀ x, x < h.length → Rch h t x := by
  unfold rl
  constructor
  · intro e x hx
    have e2 : (List.range h.length).filter (rchB h t) = List.range h.length := List.filter_sublist.eq_of_length (by rw [e, List.length_range])
    have := List.filter_eq_self.mp e2 x (List.mem_range.mpr hx)
    exact rchB_iff.mp this
  · intro k
    rw [List.filter_eq_self.mpr fun x hx => rchB_iff.mpr (k x (List.mem_range.mp hx)), List.length_range]
theorem root_iff {t : Nat} : t ∈ rootsOf h ↔ t < h.length ∧ ∀ x, x < h.length → Rch h t x := by
  unfold rootsOf
  rw [List.mem_filter, List.mem_range, decide_eq_true_iff, full_iff]
theorem roots_up (h : Hd) : (rootsOf h).Pairwise (· < ·) := List.pairwise_lt_range.filter _
theorem upp_eq {as bs : List Nat} (ha : as.Pairwise (· < ·)) (hb : bs.Pairwise (· < ·)) (e : ∀ x, x ∈ as ↔ x ∈ bs) : as = bs := by
  have p : as.Perm bs := (List.perm_ext_iff_of_nodup (ha.imp fun {a b} q => Nat.ne_of_lt q) (hb.imp fun {a b} q => Nat.ne_of_lt q)).mpr e
  exact p.eq_of_pairwise (fun a b _ _ x y => absurd (Nat.lt_trans x y) (Nat.lt_irrefl _)) ha hb
end
/-! ### the web of an ordered parting -/
def aheadL : List (List Nat) → List Nat → Nat → List Nat
  | [], acc, _ => acc
  | b :: bs, acc, t => if t ∈ b then acc ++ b else aheadL bs (acc ++ b) t
def bi : List (List Nat) → Nat → Nat
  | [], _ => 0
  | b :: bs, t => if t ∈ b then 0 else bi bs t + 1
theorem mem_ahead : ∀ {bs : List (List Nat)} {acc : List Nat} {t x : Nat}, t ∈ bs.flatten → (x ∈ aheadL bs acc t ↔ x ∈ acc ∨ (x ∈ bs.flatten ∧ bi bs x ≤ bi bs t))
  | [], _, _, _, h => by simp at h
  | b :: bs, acc, t, x, h => by
    unfold aheadL bi
    rw [List.flatten_cons, List.mem_append] at h ⊢
    by_cases tb : t ∈ b
    · rw [if_pos tb, if_pos tb, List.mem_append]
      refine or_congr_right ?_
      by_cases xb : x ∈ b
      · rw [if_pos xb]; exact ⟨fun _ => ⟨.inl xb, Nat.le_refl _⟩, fun _ => xb⟩
      · rw [if_neg xb]; exact ⟨fun z => absurd z xb, fun z => absurd z.2 (by omega)⟩
    · rw [if_neg tb, if_neg tb, mem_ahead (h.resolve_left tb), List.mem_append, or_assoc]
      refine or_congr_right ?_
      by_cases xb : x ∈ b
      · rw [if_pos xb]; exact ⟨fun _ => ⟨.inl xb, Nat.zero_le _⟩, fun _ => .inl xb⟩
      · rw [if_neg xb]
        exact ⟨fun z => z.elim (fun z => absurd z xb) fun z => ⟨.inr z.1, by omega⟩, fun z => .inr ⟨z.1.resolve_left xb, by omega⟩⟩
structure PtOk (bs : List (List Nat)) (n : Nat) : Prop where
  up : ∀ b ∈ bs, b.Pairwise (· < ·)
  ne : ∀ b ∈ bs, b ≠ []
  pm : bs.flatten.Perm (List.range n)
  n1 : 1 ≤ n
  n5 : n ≤ 5
def partH (bs : List (List Nat)) (n : Nat) : Hd := nrm n fun t x => decide (x ∈ aheadL bs [] t)
theorem flatt_len : ∀ {bs : List (List Nat)}, (∀ b ∈ bs, b ≠ []) → bs.length ≤ bs.flatten.length
  | [], _ => Nat.le_refl _
  | b :: bs, h => by
    have h1 := flatt_len (bs := bs) fun c hc => h c (List.mem_cons_of_mem _ hc)
    have h2 := List.length_pos_iff.mpr (h b List.mem_cons_self)
    rw [List.flatten_cons, List.length_append, List.length_cons]
    omega
section
variable {bs : List (List Nat)} {n : Nat}
theorem PtOk.mem (ok : PtOk bs n) {t : Nat} : t ∈ bs.flatten ↔ t < n := by rw [ok.pm.mem_iff, List.mem_range]
theorem PtOk.flen (ok : PtOk bs n) : bs.flatten.length = n := by rw [ok.pm.length_eq, List.length_range]
theorem PtOk.len (ok : PtOk bs n) : bs.length ≤ 5 := Nat.le_trans (flatt_len ok.ne) (by rw [ok.flen]; exact ok.n5)
theorem PtOk.lt (ok : PtOk bs n) {b : List Nat} (hb : b ∈ bs) {t : Nat} (ht : t ∈ b) : t < n := ok.mem.mp (List.mem_flatten.mpr ⟨b, hb, ht⟩)
theorem ahead_iff (ok : PtOk bs n) {t x : Nat} (ht : t < n) : x ∈ aheadL bs [] t ↔ x < n ∧ bi bs x ≤ bi bs t := by
  rw [mem_ahead (ok.mem.mpr ht), ok.mem]
  exact ⟨fun z => z.resolve_left List.not_mem_nil, .inr⟩
theorem part_len : (partH bs n).length = n := nrm_len
theorem part_row (ok : PtOk bs n) {t x : Nat} (ht : t < n) : x ∈ rowOf (partH bs n) t ↔ x < n ∧ bi bs x ≤ bi bs t ∧ x ≠ t := by
  unfold partH
  rw [mem_nrm ht, decide_eq_true_iff, ahead_iff ok ht]
  exact ⟨fun ⟨a, b, c⟩ => ⟨a, b.2, c⟩, fun ⟨a, b, c⟩ => ⟨a, ⟨a, b⟩, c⟩⟩
theorem part_ok (ok : PtOk bs n) : WebM.Ok (partH bs n) := nrm_ok ok.n1 ok.n5
theorem part_roots (ok : PtOk bs n) : rootsOf (partH bs n) = bs.headD [] := by
  cases hb : bs with
  | nil => have z := ok.flen; rw [hb] at z; have := ok.n1; simp at z; omega
  | cons b0 r =>
    subst hb
    have b0m : b0 ∈ b0 :: r := List.mem_cons_self
    refine upp_eq (roots_up _) (ok.up _ b0m) fun x => ?_
    rw [root_iff, part_len]
    show _ ↔ x ∈ b0
    have z0 : ∀ t, bi (b0 :: r) t = 0 ↔ t ∈ b0 := fun t => by
      unfold bi
      by_cases q : t ∈ b0
      · rw [if_pos q]; exact ⟨fun _ => q, fun _ => rfl⟩
      · rw [if_neg q]; exact ⟨fun z => absurd z (by omega), fun z => absurd z q⟩
    constructor
    · rintro ⟨hx, k⟩
      have cl : ∀ y, Rch (partH (b0 :: r) n) x y → bi (b0 :: r) x ≤ bi (b0 :: r) y := fun y q => by
        induction q with
        | base => exact Nat.le_refl _
        | step _ he ho ih => rw [part_len] at he; exact Nat.le_trans ih ((part_row ok he).mp ho).2.1
      obtain ⟨t, ht⟩ := List.exists_mem_of_ne_nil _ (ok.ne _ b0m)
      have := cl t (k t (ok.lt b0m ht))
      rw [(z0 t).mpr ht] at this
      exact (z0 x).mp (by omega)
    · intro hx
      have xn := ok.lt b0m hx
      refine ⟨xn, fun t ht => ?_⟩
      by_cases e : x = t
      · subst e; exact .base
      · exact .step .base (by rw [part_len]; exact ht) ((part_row ok ht).mpr ⟨xn, by rw [(z0 x).mpr hx]; exact Nat.zero_le _, e⟩)
end
/-! ### silent, star, chain -/
def silH (n : Nat) : Hd := List.replicate n []
def starH (n c : Nat) : Hd := (List.range n).map fun t => if t = c then [] else [c]
def chnH (n c : Nat) : Hd := (List.range n).map fun t => if t = c then [] else [(t + n - 1) % n]
theorem row_rng {n t : Nat} {g : Nat → List Nat} (ht : t < n) : rowOf ((List.range n).map g) t = g t := row_of_map ht
theorem rng_len {n : Nat} {g : Nat → List Nat} : ((List.range n).map g).length = n := by rw [List.length_map, List.length_range]
theorem sil_ok {n : Nat} (n1 : 1 ≤ n) (n5 : n ≤ 5) : WebM.Ok (silH n) := by
  have e : ∀ t, t < (silH n).length → rowOf (silH n) t = [] := fun t ht => by
    unfold rowOf silH at *
    rw [List.length_replicate] at ht
    rw [List.getD_eq_getElem?_getD, List.getElem?_replicate, if_pos ht]
    rfl
  exact ⟨by rw [silH, List.length_replicate]; exact n1, by rw [silH, List.length_replicate]; exact n5, fun t ht => by rw [e t ht]; exact .nil, fun t ht o ho => by rw [e t ht] at ho; cases ho⟩
theorem one_ok {n c : Nat} {g : Nat → Nat} (n1 : 1 ≤ n) (n5 : n ≤ 5) (hg : ∀ t, t < n → t ≠ c → g t < n ∧ g t ≠ t) : WebM.Ok ((List.range n).map fun t => if t = c then [] else [g t]) := by
  refine ⟨by rw [rng_len]; exact n1, by rw [rng_len]; exact n5, fun t ht => ?_, fun t ht o ho => ?_⟩
  · rw [rng_len] at ht
    rw [row_rng ht]
    by_cases e : t = c
    · rw [if_pos e]; exact .nil
    · rw [if_neg e]; exact List.pairwise_singleton _ _
  · rw [rng_len] at ht ⊢
    rw [row_rng ht] at ho
    by_cases e : t = c
    · rw [if_pos e] at ho; cases ho
    · rw [if_neg e, List.mem_singleton] at ho
      rw [ho]
      exact hg t ht e
theorem star_ok {n c : Nat} (n5 : n ≤ 5) (hc : c < n) : WebM.Ok (starH n c) := one_ok (g := fun _ => c) (by omega) n5 fun t ht e => ⟨hc, fun z => e z.symm⟩
theorem prev_ok {n t c : Nat} (n5 : n ≤ 5) (hc : c < n) (ht : t < n) (e : t ≠ c) : (t + n - 1) % n < n ∧ (t + n - 1) % n ≠ t := by
  refine ⟨Nat.mod_lt _ (by omega), ?_⟩
  have : n = 2 ∨ n = 3 ∨ n = 4 ∨ n = 5 := by omega
  rcases this with rfl | rfl | rfl | rfl <;> omega
theorem chn_ok {n c : Nat} (n5 : n ≤ 5) (hc : c < n) : WebM.Ok (chnH n c) := one_ok (g := fun t => (t + n - 1) % n) (by omega) n5 fun t ht e => prev_ok n5 hc ht e
/-- who is the only one that hears nobody can only be reached from itself -/
theorem lone_root {h : Hd} {c : Nat} (hc : c < h.length) (e : rowOf h c = []) (all : ∀ x, x < h.length → Rch h c x) : rootsOf h = [c] := by
  refine upp_eq (roots_up _) (List.pairwise_singleton _ _) fun x => ?_
  rw [root_iff, List.mem_singleton]
  constructor
  · rintro ⟨hx, k⟩
    cases k c hc with
    | base => rfl
    | step _ _ ho => rw [e] at ho; cases ho
  · rintro rfl
    exact ⟨hc, all⟩
theorem star_roots {n c : Nat} (hc : c < n) : rootsOf (starH n c) = [c] := by
  have l : (starH n c).length = n := rng_len
  refine lone_root (by rw [l]; exact hc) (by unfold starH; rw [row_rng hc, if_pos rfl]) fun x hx => ?_
  by_cases e : c = x
  · subst e; exact .base
  · refine .step .base hx ?_
    rw [l] at hx
    unfold starH
    rw [row_rng hx, if_neg fun z => e z.symm]
    exact List.mem_singleton.mpr rfl
theorem chn_roots {n c : Nat} (n5 : n ≤ 5) (hc : c < n) : rootsOf (chnH n c) = [c] := by
  have l : (chnH n c).length = n := rng_len
  have go : ∀ k, Rch (chnH n c) c ((c + k) % n) := fun k => by
    induction k with
    | zero => rw [Nat.add_zero, Nat.mod_eq_of_lt hc]; exact .base
    | succ k ih =>
      by_cases e : (c + (k + 1)) % n = c
      · rw [e]; exact .base
      · have hl : (c + (k + 1)) % n < n := Nat.mod_lt _ (by omega)
        refine .step ih (by rw [l]; exact hl) ?_
        unfold chnH
        rw [row_rng hl, if_neg e, List.mem_singleton]
        have : n = 1 ∨ n = 2 ∨ n = 3 ∨ n = 4 ∨ n = 5 := by omega
        rcases this with rfl | rfl | rfl | rfl | rfl <;> omega
  refine lone_root (by rw [l]; exact hc) (by unfold chnH; rw [row_rng hc, if_pos rfl]) fun x hx => ?_
  rw [l] at hx
  have := go (x + n - c)
  rwa [show c + (x + n - c) = x + n by omega, Nat.add_mod_right, Nat.mod_eq_of_lt hx] at this
end K03

set_option Elab.async false
set_option linter.all false
set_option maxRecDepth 100000
set_option maxHeartbeats 2000000
set_option autoImplicit false
/-! Tx: len(set(..)) of different numbers -/
namespace Tx
open PySem PySem.Spec PyProof.Rows L2 PpSet
def rLenSet (w : World) : List V → Hp → VK → Prop := fun vs H Q => ∃ (l : Addr) (S : Int → Bool) (n : Nat) (ns : List Int), vs = [V.ref l] ∧ H l = some (SetO w l S n) ∧ ns.Nodup ∧ (∀ k, S k = true ↔ k ∈ ns) ∧ Q (.int (ns.length : Nat)) H
theorem cr_lenSet {X : Cx} : CallR X (.builtin "len") (rLenSet X.w) := by
  intro pins s σ H vs us Q I r q0
  obtain ⟨l, S, n, ns, rfl, hl, nd, hm, q⟩ := q0
  rw [Vals.ref1 r]
  obtain ⟨o, es, ep, t, ho, hex, hd, _, nd', hS, hb, hf, hn, _, _⟩ := setO_get I hl
  have p : (es.toList.map keyOf).Perm ns := (List.perm_ext_iff_of_nodup nd' nd).mpr fun k => (hS k).symm.trans (hm k)
  have e : es.size = ns.length := by have := p.length_eq; rw [List.length_map, Array.length_toList] at this; exact this
  exact call_len_set ho hex hd hf (by unfold scanBound at hb; omega) ⟨.int (ns.length : Nat), H, I.tok _, ⟨_, by rw [e]⟩, q⟩
section
variable {K : PySem.W.Frag} {m : Mo} {Γ : G} {te : TE} {w : World}
theorem en_lenSet {b : D} {ns : List Int} (h : Ev1 m K te Γ b) (hb : b = .tup (ns.map D.int) ∨ b = .lst (ns.map D.int)) (hu : ns.length < 60) (nd : ns.Nodup) : Ev1 m K (tCB (rLenSet w) (tCons (tCB (rSetU K w) (tCons te tNil)) tNil)) Γ (.int (ns.length : Nat)) := fun σ H e Q q =>
  h σ H e _ fun v d H1 s r1 rv => by
    subst s
    have i1 := m.inv r1 e.i
    have fin : ∀ (l : Addr) (c : Nat), c ≤ ns.length → H1 l = none → (rLenSet w) [V.ref l] (upd H1 l (SetO w l (fun j => decide (j ∈ ns)) c)) Q := fun l c hcn hl =>
      ⟨l, _, c, ns, rfl, upd_same, nd, fun k => decide_eq_true_iff, q _ _ _ rfl (m.trans r1 (m.grow i1 (same_new hl))) (.int _)⟩
    rcases hb with hb | hb
    · subst hb
      obtain ⟨a, vs, rfl, ha, ra⟩ := rv.tupE
      rw [ra.ints] at ha
      exact .inl ⟨a, ns, rfl, ha, hu, fin⟩
    · subst hb
      obtain ⟨a, vs, rfl, ha, ra⟩ := rv.lstE
      rw [ra.ints] at ha
      exact .inr ⟨a, ns, rfl, SqL.of ha, hu, fin⟩
end
/-- powers of greater numbers -/
def CPowW (i j : Int) : Prop := 0 ≤ j ∧ (Builtin.Int.intBits i : Int) * j ≤ 2 ^ 27
theorem op_powW {X : Cx} : OpR X (binaryOp .Pow) (rI CPowW fun i j => .int (i ^ j.toNat)) := opI fun _ _ _ _ _ _ _ hc q => pow_int hc.1 hc.2 q
end Tx

set_option Elab.async false
set_option linter.all false
set_option maxRecDepth 100000
set_option maxHeartbeats 2000000
set_option autoImplicit false
/-! Tx: return [x.pop(e) for .. in ..], x a list of one's own -/
namespace Tx
open PySem L2
theorem perm_out {α : Type} : ∀ {l : List α} {i : Nat} (h : i < l.length), (l[i] :: l.eraseIdx i).Perm l
  | a :: l, 0, _ => List.Perm.refl _
  | a :: l, i + 1, h => by
    have q := perm_out (l := l) (i := i) (by simpa using h)
    exact (List.Perm.swap a (l[i]'(by simpa using h)) (l.eraseIdx i)).symm.symm.trans (q.cons a)
section
variable {K : PySem.W.Frag} {m : Mo} {Γ : G} {te : TE} {ds : List D} {l : Addr} {H0 : Hp} {O : OutO}
theorem so_retPop {i n : Nat} {wi : TI} {g : TG} {vs js : List Nat} {xs : List D} {S : Nat → D → Prop} (hi : Γ[i]? = some (some (.adr l))) (hn : ds.length = n) (hz : n ≤ 1000) (hx : xs.length = n) (hj : ∀ j ∈ js, j ∈ vs) (hit : ItX (m.ext l) K wi Γ xs)
    (hint : ∀ d ∈ xs, ∃ z : Int, d = .int z)
    (hs : ∀ (Dl : Addr) (j : Nat) (d : D) (left : List D), xs[j]? = some d → left.length = n - j → ∃ Γ2, TgD (m.ext2 l Dl) K g (wipeG Γ vs) d js Γ2 ∧ Γ2[i]? = some (some (.adr l)) ∧ EvN (m.ext Dl) K te (Γ2.set i (some (.lst left))) (S left.length)) (hS : ∀ c d, S c d → ∃ k : Nat, d = dN k ∧ k < c)
    (kk : ∀ zs, zs.Perm ds → O.rt (.lst zs)) : SGo m K l H0 (tRet (tLc wi g tYes (tBM K "list" rPopAt (tVar i) (tCons te tNil)) vs)) Γ ds O := fun h0 i0 σ H vs0 r e hl ra E M => by
  refine (show tLc wi g tYes (tBM K "list" rPopAt (tVar i) (tCons te tNil)) vs σ H (fun v H' => E.rt v H') from ?_)
  refine hit σ H e _ fun J H1 r1 wk => fun Dl hD => ?_
  have r01 : m.R H0 H1 := m.trans r r1
  have k0 : H0 Dl = none := Classical.byContradiction fun z => m.had i0 r01 z hD
  have hl1 : H1 l = some (.lst vs0) := m.keep r1 e.i.1 l _ (nFl h0 i0) hl
  have hlk : l ≠ Dl := fun z => by rw [z, hD] at hl1; cases hl1
  have ra1 : RpAll K (m.ext l).F H1 vs0 ds := ra.mv ((m.ext l).keep r1 e.i)
  have e1 := e.mv r1
  have rN : m.R H1 (upd H1 Dl (.lst [])) := m.grow e1.i.1 (same_new hD)
  have eX : ER (m.ext2 l Dl) K Γ σ (upd H1 Dl (.lst [])) := e1.ext hD rN (by rw [upd_same]; exact fun z => nomatch z)
  refine ⟨fun j k H' => k = n - j ∧ j ≤ n ∧ m.R H0 H' ∧ StK (m.ext2 l Dl) H1 H' ∧ ER (m.ext2 l Dl) K Γ σ H' ∧ ∃ (acc left : List D) (av lv : List V), H' Dl = some (.lst av) ∧ H' l = some (.lst lv) ∧ RpAll K (m.ext2 l Dl).F H' av acc ∧ RpAll K (m.ext2 l Dl).F H' lv left ∧ acc.length = j ∧ left.length = n - j ∧ (acc ++ left).Perm ds,
    ⟨_, rfl, Nat.zero_le _, m.trans r01 rN, fun a o q z => by rw [upd_ne (fun y => q (.inr y))]; exact z, eX, [], ds, [], vs0, upd_same, (upd_ne hlk).trans hl1, .nil, ?_, rfl, by omega, List.Perm.refl _⟩, ?_⟩
  · exact Rp.goAll (fun a o q z => ⟨fun y => y.elim q fun y => (by rw [y, hD] at z; cases z), same_new hD a o z⟩) ra1
  rintro j k H' ⟨rfl, hle, r', st, e', acc, left, av, lv, hDl, hl', rac, rle, la, ll, pm⟩
  obtain ⟨go, stop, yld⟩ := wk H' fun a o q z => st a o (fun y => y.elim q fun y => (by rw [y, hD] at z; cases z)) z
  by_cases hlt : j < n
  · refine .inr ⟨go j (by omega), fun H3 => m.R H0 H3 ∧ StK (m.ext2 l Dl) H1 H3 ∧ ER (m.ext2 l Dl) K Γ σ H3 ∧ ∃ (acc left : List D) (av lv : List V), H3 Dl = some (.lst av) ∧ H3 l = some (.lst lv) ∧ RpAll K (m.ext2 l Dl).F H3 av acc ∧ RpAll K (m.ext2 l Dl).F H3 lv left ∧ acc.length = j + 1 ∧ left.length = n - (j + 1) ∧ (acc ++ left).Perm ds, fun H3 q => ⟨n - (j + 1), by omega, rfl, hlt, q⟩, fun x H2 y => ?_⟩
    obtain ⟨e2, d, hd', rx⟩ := yld j x H2 (by omega) y
    subst e2
    obtain ⟨z, rfl⟩ := hint d (List.mem_of_getElem? hd')
    obtain rfl := rx.intE
    obtain ⟨Γ2, tg, hi2, ev⟩ := hs Dl j _ left hd' ll
    refine tg (.int z) (wipe σ vs) H2 (e'.wipe vs) (.int z) _ fun σ3 H3 e3 r3 w3 => ⟨by rw [w3 vs hj, wipe_wipe], ?_⟩
    refine et_yes σ3 H3 e3 _ fun b H4 tb r4 => ?_
    subst tb
    rw [if_pos rfl]
    have e4 := e3.mv r4
    have r24 : m.R H2 H4 := m.trans r3 r4
    have up4 := (m.ext2 l Dl).keep r24 e'.i
    have hl4 : H4 l = some (.lst lv) := m.keep r24 e'.i.1.1 l _ (nFl h0 i0) hl'
    have hD4 : H4 Dl = some (.lst av) := m.keep r24 e'.i.1.1 Dl _ (nFl k0 i0) hDl
    obtain ⟨w, g1, g2⟩ := e4.at_ i _ hi2
    obtain rfl := g2.adrE
    refine ⟨_, g1, .inl ⟨rfl, lv, SqL.of hl4⟩, ?_⟩
    refine ev σ3 H4 (er_disp h0 i0 hlk e4 hi2 hl4 (rle.mv up4)) _ fun v d' H5 s r5 rv => ?_
    obtain ⟨c, rfl, hc⟩ := hS _ d' s
    obtain rfl := rv.intE
    have r25 : m.R H2 H5 := m.trans r24 r5
    have up5 := (m.ext2 l Dl).keep r25 e'.i
    have hl5 : H5 l = some (.lst lv) := m.keep r5 e4.i.1.1 l _ (nFl h0 i0) hl4
    have hD5 : H5 Dl = some (.lst av) := m.keep r5 e4.i.1.1 Dl _ (nFl k0 i0) hD4
    have e5 : ER (m.ext2 l Dl) K Γ σ H5 := e'.mv (m := m.ext2 l Dl) r25
    have lu := rle.len
    have lv' := rac.len
    have hnu : c < lv.length := by omega
    obtain ⟨dx, hdx, rdx⟩ := (rle.mv up5).at (List.getElem?_eq_getElem hnu)
    have rr : m.R H0 (upd H5 l (.lst (lv.eraseIdx c))) := m.chg i0 (m.trans r' r25) h0
    obtain ⟨mv, e6⟩ := sp_keep (o := .lst (lv.eraseIdx c)) (.inl rfl) rr i0 e5
    refine ⟨l, lv, (c : Int), c, lv[c], rfl, rfl, hl5, by omega, by omega, ?_, List.getElem?_eq_getElem hnu, ?_⟩
    · unfold seqIndex?
      simp
      omega
    have hD6 : (upd H5 l (.lst (lv.eraseIdx c))) Dl = some (.lst av) := (upd_ne (Ne.symm hlk)).trans hD5
    have rr2 : m.R H0 (upd (upd H5 l (.lst (lv.eraseIdx c))) Dl (.lst (av ++ [lv[c]]))) := m.chg i0 rr k0
    obtain ⟨mv2, e7⟩ := sp_keep (o := .lst (av ++ [lv[c]])) (.inr rfl) rr2 i0 e6
    have hcl : c < left.length := by omega
    have hdx' : left[c] = dx := by rw [List.getElem?_eq_getElem hcl] at hdx; exact Option.some.inj hdx
    refine ⟨av, hD6, Nat.lt_of_lt_of_le (show av.length < 1001 by omega) (by decide), rr2, fun a o q z => mv2 a o q (mv a o q (up5 a o q (st a o q z))), e7, acc ++ [dx], left.eraseIdx c, _, _, upd_same, (upd_ne hlk).trans upd_same, ((((rac.mv up5).append (.cons rdx .nil)).mv mv)).mv mv2, (((rle.mv up5).eraseN c).mv mv).mv mv2, by rw [List.length_append, la]; rfl, by rw [List.length_eraseIdx, if_pos hcl]; omega, ?_⟩
    have p1 : (left[c] :: left.eraseIdx c).Perm left := perm_out hcl
    rw [hdx'] at p1
    rw [List.append_assoc]
    exact (p1.append_left acc).trans pm
  · have ej : j = n := by omega
    subst ej
    have lnil : left = [] := List.length_eq_zero_iff.mp (by omega)
    subst lnil
    rw [List.append_nil] at pm
    exact .inl ⟨by rw [← hx]; exact stop, M.rt _ _ _ (kk acc pm) r' (.lst (nFl k0 i0) hDl (rac.weak fun a f => .inl (.inl f)))⟩
end
end Tx

set_option Elab.async false
set_option linter.all false
set_option maxRecDepth 100000
set_option maxHeartbeats 2000000
set_option autoImplicit false
/-! Tx: a list of one's own that begins with something drawn; a loop of drawn length over it -/
namespace Tx
open PySem L2
section
variable {K : PySem.W.Frag} {m : Mo} {Γ : G} {ts tw : TS} {ds : List D} {l : Addr} {H0 : Hp} {O : OutO}
theorem sq_newLN {i : Nat} {ta : TA} {T : List D → Prop} {O : Out} (h : EvA m K ta Γ T) (hz : ∀ ds, T ds → ds.length ≤ 100000) (k : ∀ l H0 ds, T ds → SGo m K l H0 tw (Γ.set i (some (.adr l))) ds { nx := fun _ _ => False, rt := O.rt }) : SG m K (tSeq (tAsg (tLst ta) (gName i)) tw) Γ O := fun σ H e E M =>
  h σ H e _ fun vs ds' H1 s r1 rs => ⟨Nat.le_trans (show vs.length ≤ 100000 by have := hz _ s; have := rs.len; omega) (by decide), fun l hl => by
    have e1 := e.mv r1
    have rN : m.R H1 (upd H1 l (.lst vs)) := m.grow e1.i (same_new hl)
    have eX : ER (m.ext l) K Γ σ (upd H1 l (.lst vs)) := e1.ext hl rN (by rw [upd_same]; exact fun z => nomatch z)
    exact k l H1 ds' s hl e1.i _ _ vs rN (eX.set i (.adr l)) upd_same (Rp.goAll (fun a o n q => ⟨fun z => z.elim n fun z => (by rw [z, hl] at q; cases q), same_new hl a o q⟩) rs) E ⟨fun _ _ _ _ _ o => o.elim, fun d v H' o r rv => M.rt d v H' o (m.trans r1 r) rv⟩⟩
/-- for .. in range(e), e drawn -/
theorem so_forRN {ta : TA} {g : TG} {b : Nat} (h : EvA (m.ext l) K ta Γ fun ds => ∃ n : Nat, ds = [dN n] ∧ n < b) (hb : b ≤ 1000) (V : Nat → G → List D → Prop) (hv : V 0 Γ ds)
    (hs : ∀ i Γ' ds', i + 1 < b → V i Γ' ds' → ∃ Γ2 js, TgD (m.ext l) K g Γ' (dN i) js Γ2 ∧ SGo m K l H0 ts Γ2 ds' { nx := V (i + 1), rt := O.rt }) (hd : ∀ i Γ' ds', V i Γ' ds' → O.nx Γ' ds') : SGo m K l H0 (tFor (iRng1 ta) g ts) Γ ds O := fun h0 i0 σ H vs r e hl ra E M => by
  have key : ∀ (n : Nat), n < b → ∀ (σ' : L2.St) (H' : Hp), m.R H0 H' → ER (m.ext l) K Γ σ' H' → H' l = some (.lst vs) → RpAll K (m.ext l).F H' vs ds → MeetsO m K l H0 H' O E → tFor (iRng1 (tCons (tC (.int n)) tNil)) g ts E σ' H' := fun n hn σ' H' r' e' hl' ra' M' =>
    so_for (xs := (List.range n).map dN) (itx_rng (ea_cons (en_int n) ea_nil) (by omega)) V hv (fun i d Γ' ds' hx w => by
      have hi := (List.getElem?_eq_some_iff.mp hx).1
      rw [List.length_map, List.length_range] at hi
      rw [List.getElem?_map, List.getElem?_range hi] at hx
      injection hx with hx
      subst hx
      exact hs i Γ' ds' (by omega) w) (fun Γ' ds' w => hd _ Γ' ds' w) h0 i0 σ' H' vs r' e' hl' ra' E M'
  refine h σ H e _ fun ws ds' H1 ⟨n, s, hn⟩ r1 rs => ?_
  subst s
  cases rs with
  | cons rv rs =>
    cases rs
    obtain rfl := rv.intE
    exact key n hn σ H1 (m.trans r r1) (e.mv r1) (m.keep r1 e.i.1 l _ (nFl h0 i0) hl) (ra.mv ((m.ext l).keep r1 e.i)) (M.mv fun a o n q => (m.ext l).keep r1 e.i a o n q)
end
end Tx

set_option Elab.async false
set_option linter.all false
set_option maxRecDepth 100000
set_option maxHeartbeats 2000000
set_option autoImplicit false
/-! Tx: x[:e] of a list, both drawn; a list times a number -/
namespace Tx
open PySem L2
section
variable {K : PySem.W.Frag} {m : Mo} {Γ : G} {te th ta tb : TE}
theorem en_slLN {b : Nat} {S : List D → Prop} {R : Nat → Prop} (h : EvN m K te Γ fun d => ∃ ds, d = .lst ds ∧ S ds) (hh : EvN m K th Γ fun d => ∃ k : Nat, d = dN k ∧ k ≤ b ∧ R k) (hb : ∀ ds, S ds → b ≤ ds.length) : EvN m K (tSl (rSlL K) te tNoPart (tPart th)) Γ (fun d => ∃ (ds : List D) (k : Nat), d = .lst (ds.take k) ∧ S ds ∧ k ≤ b ∧ R k) := fun σ H e Q q =>
  h σ H e _ fun v d H1 ⟨ds, ed, hS⟩ r1 rv => hh σ H1 (e.mv r1) _ fun u du H2 ⟨k, eu, hk, hR⟩ r2 ru => by
    subst ed; subst eu
    refine ⟨k, ru.intE, ?_⟩
    have i1 := m.inv r1 e.i
    obtain ⟨a, vs, rfl, ha, ra⟩ := (rv.mv (m.keep r2 i1)).lstE
    have len := ra.len
    refine ⟨a, vs, rfl, SqL.of ha, fun p hp => q _ (.lst (ds.take k)) _ ⟨ds, k, rfl, hS, hk, hR⟩ (m.trans r1 (m.trans r2 (m.grow (m.inv r2 i1) (same_new hp)))) (rp_newL (m.inv r2 i1) hp ?_)⟩
    rw [← cutD_to (Nat.le_trans hk (hb ds hS))]
    unfold cutV cutD
    rw [len]
    exact RpAll.takeN _ (RpAll.dropN _ ra)
theorem en_mulLs {n : Nat} {ds : List D} (h : Ev1 m K ta Γ (.lst ds)) (hn : Ev1 m K tb Γ (dN n)) (hz : ds.length * n ≤ 100000) (hn2 : n ≤ 100000) : Ev1 m K (tOp (rMulL K) ta tb) Γ (.lst (List.replicate n ds).flatten) := fun σ H e Q q =>
  h σ H e _ fun v d' H1 s r1 rv => hn σ H1 (e.mv r1) _ fun w dw H2 s2 r2 rw' => by
    subst s; subst s2
    have i1 := m.inv r1 e.i
    have i2 := m.inv r2 i1
    obtain ⟨a, vs, rfl, ha, ra⟩ := (rv.mv (m.keep r2 i1)).lstE
    obtain rfl := rw'.intE
    refine .inr ⟨a, n, vs, rfl, rfl, ha, by omega, by omega, Nat.le_trans (show vs.length * (n : Int).toNat ≤ 100000 by rw [ra.len, Int.toNat_natCast]; exact hz) (by decide), fun p hp => ?_⟩
    rw [Int.toNat_natCast]
    exact q _ _ _ rfl (m.trans r1 (m.trans r2 (m.grow i2 (same_new hp)))) (rp_newL i2 hp (RpAll.repL ra n))
end
end Tx

set_option Elab.async false
set_option linter.all false
set_option maxRecDepth 100000
set_option maxHeartbeats 2000000
set_option autoImplicit false
/-! Tx: repr of a number or None; truth values: their place in a list, sorted ones -/
namespace Tx
open PySem PySem.Spec PyProof.Rows L2
section
variable {X : Cx}
def rRepr : List V → Hp → VK → Prop := fun vs H Q => (∃ i : Int, vs = [V.int i] ∧ i.natAbs.log2 < 1920 ∧ Q (.str (toString i)) H) ∨ (vs = [V.non] ∧ Q (.str "None") H)
theorem cr_repr : CallR X (.builtin "repr") rRepr := by
  intro pins s σ H vs us Q I r h
  cases r with
  | nil => rcases h with ⟨i, e, _⟩ | ⟨e, _⟩ <;> cases e
  | cons r1 r2 =>
    cases r2 with
    | cons _ _ => rcases h with ⟨i, e, _⟩ | ⟨e, _⟩ <;> cases e
    | nil =>
      rcases h with ⟨i, e, hz, q⟩ | ⟨e, q⟩
      · injection e with e _
        subst e
        obtain ⟨t, rfl⟩ := r1
        exact PySem.P.repr_of_int hz ⟨V.str (toString i), H, I.tok _, ⟨_, rfl⟩, q⟩
      · injection e with e _
        subst e
        cases r1
        exact PySem.P.repr_of_none ⟨V.str "None", H, I.tok _, ⟨_, rfl⟩, q⟩
/-- sorted(bs), bs an ascending list of truth values -/
def rSortB (K : PySem.W.Frag) : List V → Hp → VK → Prop := fun vs H Q => ∃ (a : Addr) (bs : List Bool), vs = [V.ref a] ∧ SqL K H a (bs.map V.bl) ∧ bs.Pairwise (fun x y => x = true → y = true) ∧ bs.length < 64 ∧ ∀ p : Addr, H p = none → Q (.ref p) (upd H p (.lst (bs.map V.bl)))
theorem each_bls : ∀ {bs : List Bool} {its : List Value}, Vals (bs.map V.bl) its → PySem.W.EachIs (fun v (b : Bool) => v = Value.bool b) its bs
  | [], _, .nil => .nil
  | _ :: _, _, .cons r t => .cons r (each_bls t)
theorem vals_bls : ∀ {bs : List Bool} {its : List Value}, PySem.W.EachIs (fun v (b : Bool) => v = Value.bool b) its bs → Vals (bs.map V.bl) its
  | _, _, .nil => .nil
  | _, _, .cons r t => .cons r (vals_bls t)
theorem le_bls {a b : Bool} (h : a = true → b = true) : PySem.W.dataLe false PyData.bool a b = true := by
  rw [PySem.W.dataLe_eq]
  cases a <;> cases b <;> first | rfl | exact absurd (h rfl) Bool.false_ne_true
theorem cr_sortB (hu : X.A.units + 65 < cLine) : CallR X (.builtin "sorted") (rSortB X.K) := by
  intro pins s σ H vs us Q I r h
  obtain ⟨a, bs, rfl, hs, up, h64, q⟩ := h
  rw [Vals.ref1 r]
  obtain ⟨its, rv, hl, _⟩ := I.list hs
  have e := each_bls rv
  have hlen : bs.length ≤ sizeLine := small64 h64
  refine PySem.W.sorted_data (enc := PyData.bool) hl.isList e (e.mono fun v b z => ⟨[], by rw [z]; exact .bool b⟩) (PySem.W.AllAlike.of fun b b' => by simp [PySem.W.alike]) (PySem.W.Sortable.others fun b => ⟨nofun, nofun⟩) hlen (fun b _ => by simp only [PyData.depth]; omega) fun out ho eo => ?_
  rw [List.mergeSort_of_pairwise (up.imp fun {a b} z => le_bls z)] at eo
  obtain ⟨ep, he'⟩ := PyProof.Rows.sortedAll_at s.heap its (List.toArray out)
  exact ⟨.ref _, upd H (s.heap.objs.size + 1) (.lst (bs.map V.bl)), I.laid (t' := s.toks) (fun _ _ => PyProof.Rows.sortedAll_old) (Nat.le_succ _) ⟨by rw [List.length_map]; exact hlen, out, ep, vals_bls eo, he'⟩, rfl, q _ (I.hok.fresh (Nat.le_succ _))⟩
end
section
variable {K : PySem.W.Frag} {m : Mo} {Γ : G} {te ta tb : TE}
def rtext : D → Str
  | .int i => toString i
  | _ => "None"
theorem c_repr {d : D} (h : (∃ k : Nat, d = dN k ∧ k < 1000) ∨ d = .non) : Ca1 m K rRepr [d] (.str (rtext d)) := fun vs H I rs Q q => by
  cases rs with
  | cons rv rs =>
    cases rs
    rcases h with ⟨k, rfl, hk⟩ | rfl
    · obtain rfl := rv.intE
      exact .inl ⟨(k : Int), rfl, log_le (by omega), q _ _ H rfl (m.refl H) (.str _)⟩
    · cases rv
      exact .inr ⟨rfl, q _ _ H rfl (m.refl H) (.str _)⟩
theorem c_sortB {bs : List Bool} (up : bs.Pairwise (fun x y => x = true → y = true)) (h : bs.length < 64) : Ca1 m K (rSortB K) [.lst (bs.map D.bl)] (.lst (bs.map D.bl)) := fun vs H I rs Q q => by
  cases rs with
  | cons rv rs =>
    cases rs
    obtain ⟨a, ws, rfl, hs, ra⟩ := rv.lstE
    have e := ra.bls
    subst e
    exact ⟨a, bs, rfl, SqL.of hs, up, h, fun p hp => q _ (.lst (bs.map D.bl)) _ rfl (m.grow I (same_new hp)) (rp_newL I hp ra)⟩
/-- bs.index(True) -/
theorem en_indexB {bs : List Bool} {j : Nat} (ha : Ev1 m K ta Γ (.lst (bs.map D.bl))) (hb : Ev1 m K tb Γ (.bl true)) (hj : bs[j]? = some true) (hno : ∀ i, i < j → bs[i]? = some false) : Ev1 m K (tBM K "list" (rIndex K) ta (tCons tb tNil)) Γ (dN j) := fun σ H e Q q =>
  ha σ H e _ fun v d H1 s r1 rv => by
    subst s
    obtain ⟨a, vs, rfl, hA, rs⟩ := rv.lstE
    refine ⟨.inl ⟨rfl, vs, SqL.of hA⟩, hb σ H1 (e.mv r1) _ fun y dy H2 s r2 ry => ?_⟩
    subst s
    cases ry
    have i1 := m.inv r1 e.i
    have ev := rs.bls
    have hA2 : H2 a = some (.lst vs) := by
      cases rv with
      | lst n h t => exact m.keep r2 i1 a _ n hA
    have at_ : ∀ i : Nat, vs[i]? = (bs[i]?).map V.bl := fun i => by rw [ev, List.getElem?_map]
    refine ⟨a, vs, .bl true, j, .bl true, rfl, rfl, SqL.of hA2, rfl, ?_, ?_, ?_, fun i z hi hz => ?_, q _ _ H2 rfl (m.trans r1 r2) (.int _)⟩
    · rw [ev, List.all_eq_true]
      intro x hx
      obtain ⟨y, _, rfl⟩ := List.mem_map.mp hx
      rfl
    · rw [at_, hj]; rfl
    · rfl
    · rw [at_, hno i hi] at hz
      injection hz with hz
      subst hz
      rfl
end
end Tx

set_option Elab.async false
set_option linter.all false
set_option maxRecDepth 100000
set_option maxHeartbeats 1000000
set_option autoImplicit false
/-! A dict of one's own whose keys are numbers; what reads it while a list is made. -/
namespace Tx
open PySem PySem.Spec PyProof.Rows L2
/-- the keys ks stand in the dict at l, each with what g tells of it -/
def NumAt (K : PySem.W.Frag) (F : Addr → Prop) (g : Nat → D) (l : Addr) (H : Hp) (ks : List Nat) : Prop :=
  ∃ kvs : List (Key × V), H l = some (.dK kvs) ∧ kvs.length ≤ ks.length ∧ ∀ k ∈ ks, ∃ v, valV kvs (.inl (k : Int)) = some v ∧ Rp K F H v (g k)
def numW (m : Mo) (K : PySem.W.Frag) (l : Addr) (g : Nat → D) : OwnW m K l (List Nat) where
  at_ := NumAt K (m.ext l).F g l
  keep := fun a e k => let ⟨kvs, h1, h2, h3⟩ := a; ⟨kvs, e.trans h1, h2, fun i hi => let ⟨v, q1, q2⟩ := h3 i hi; ⟨v, q1, q2.mv k⟩⟩
  view := fun _ => .adr l
  see := fun _ _ => .adr l
  some_ := fun ⟨_, h1, _⟩ => ⟨_, h1⟩
section
variable {K : PySem.W.Frag} {m : Mo} {Γ : G} {te tv tk : TE} {tt : TT} {ts tw : TS} {d : D} {l : Addr} {H0 : Hp} {g : Nat → D} {ks : List Nat}
theorem sq_newN {i : Nat} {O : Out} (g : Nat → D) (kk : ∀ l H0, SGw (numW m K l g) H0 tw (Γ.set i (some (.adr l))) [] { nx := fun _ _ => False, rt := O.rt }) : SG m K (tSeq (tAsg tDNewK (gName i)) tw) Γ O := fun σ H e E M l hl => by
  have rN : m.R H (upd H l (.dK [])) := m.grow e.i (same_new hl)
  have eX : ER (m.ext l) K Γ σ (upd H l (.dK [])) := e.ext hl rN (by rw [upd_same]; exact fun z => nomatch z)
  exact kk l H hl e.i _ _ rN (eX.set i (.adr l)) ⟨[], upd_same, Nat.le_refl _, fun _ h => nomatch h⟩ E ⟨fun _ _ _ _ o => o.elim, fun d v H' o r rv => M.rt d v H' o r rv⟩
/-- d[k] = v -/
theorem sw_putN {i : Nat} {k : Nat} {O : OutW (List Nat)} (hi : Γ[i]? = some (some (.adr l))) (hv : Ev1 (m.ext l) K tv Γ (g k)) (hk : Ev1 (m.ext l) K tk Γ (dN k)) (hz : ks.length < 10000) (kn : O.nx Γ (ks ++ [k])) : SGw (numW m K l g) H0 (tAsg tv (gSub (tVar i) tk rSetD)) Γ ks O := fun h0 i0 σ H r e a E M =>
  hv σ H e _ fun v dv H1 s r1 rv => by
    subst s
    obtain ⟨u, h1, h2⟩ := e.at_ i _ hi
    obtain rfl := h2.adrE
    refine ⟨_, h1, hk σ H1 (e.mv (m := m.ext l) r1) _ fun y dy H2 s2 r2 ry => ?_⟩
    subst s2
    obtain rfl := ry.intE
    have e1 := e.mv (m := m.ext l) r1
    have e2 := e1.mv (m := m.ext l) r2
    have nl := nFl (m := m) h0 i0
    obtain ⟨kvs, q1, q2, q3⟩ := a
    have at2 : H2 l = some (.dK kvs) := m.keep r2 e1.i.1 l _ nl (m.keep r1 e.i.1 l _ nl q1)
    have k12 : ∀ a o, ¬ (m.ext l).F a → H a = some o → H2 a = some o := fun a o n q => (m.ext l).keep r2 e1.i a o n ((m.ext l).keep r1 e.i a o n q)
    have rr := m.trans r (m.trans r1 r2)
    have r3 : m.R H0 (upd H2 l (.dK (putK kvs (.inl (k : Int)) v))) := m.chg i0 rr h0
    have mv : ∀ a o, ¬ (m.ext l).F a → H2 a = some o → (upd H2 l (.dK (putK kvs (.inl (k : Int)) v))) a = some o := fun a o n q => by rw [upd_ne (fun z => n (.inr z))]; exact q
    have rv2 := rv.mv fun a o n q => (m.ext l).keep r2 e1.i a o n q
    have e3 : ER (m.ext l) K Γ σ (upd H2 l (.dK (putK kvs (.inl (k : Int)) v))) := ⟨⟨m.inv r3 i0, by rw [upd_same]; exact fun z => nomatch z⟩, e2.len, fun j d h => let ⟨v, h1, h2⟩ := e2.at_ j d h; ⟨v, h1, h2.go fun a o n q => ⟨n, mv a o n q⟩⟩⟩
    refine ⟨l, _, rfl, DPut.k (k := .inl (k : Int)) at2 (Nat.lt_of_lt_of_le (show kvs.length < 10000 by omega) (by decide)), ?_⟩
    refine M.nx Γ _ σ _ kn r3 (fun a o n q => mv a o n (k12 a o n q)) e3 ⟨_, upd_same, ?_, fun j hj => ?_⟩
    · have := length_putK kvs (.inl (k : Int)) v
      rw [List.length_append, List.length_singleton]
      omega
    · rw [valV_put]
      by_cases z : j = k
      · subst z
        exact ⟨v, by rw [if_pos rfl], rv2.mv mv⟩
      · rw [if_neg (by intro q; injection q with q; omega)]
        rcases List.mem_append.mp hj with q | q
        · obtain ⟨v', a1, a2⟩ := q3 j q
          exact ⟨v', a1, (a2.mv k12).mv mv⟩
        · exact absurd (List.mem_singleton.mp q) z
/-- the dict as it stands, while something is reckoned -/
def numMo (m : Mo) (K : PySem.W.Frag) (l : Addr) (g : Nat → D) (ks : List Nat) (H1 : Hp) (nl : ¬ m.F l) (i1 : m.I H1) : Mo where
  F := (m.ext l).F
  R := m.R
  I := fun H => (m.ext l).I H ∧ m.R H1 H ∧ NumAt K (fun a => (m.ext l).F a ∨ H1 a = none) g l H ks
  refl := m.refl
  trans := m.trans
  keep := fun r i a o n e => (m.ext l).keep r i.1 a o n e
  grow := fun i r => m.grow i.1.1 r
  inv := fun {H H'} r i => ⟨(m.ext l).inv r i.1, m.trans i.2.1 r, by
    obtain ⟨kvs, h1, h2, h3⟩ := i.2.2
    exact ⟨kvs, m.keep r i.1.1 l _ nl h1, h2, fun k hk => let ⟨v, q1, q2⟩ := h3 k hk; ⟨v, q1, q2.mv fun a o n e => (m.ext l).keep r i.1 a o (fun z => n (.inl z)) e⟩⟩⟩
  fa := fun i f => (m.ext l).fa i.1 f
  chg := fun i r h => m.chg i.1.1 r h
  had := fun i r n => m.had i.1.1 r n
/-- what stands behind r leans only on what there was -/
theorem Rp.there {F : Addr → Prop} {H : Hp} {d : D} {v : V} (r : Rp K F H v d) : Rp K (fun a => F a ∨ H a = none) H v d := r.go fun a o n e => ⟨fun z => z.elim n (fun z => by rw [z] at e; cases e), e⟩
theorem sw_read {O : Out} (k : ∀ H1 nl i1, SG (numMo m K l g ks H1 nl i1) K ts Γ { nx := fun _ => False, rt := O.rt }) : SGw (numW m K l g) H0 ts Γ ks { nx := fun _ _ => False, rt := O.rt } := fun h0 i0 σ H r e a E M => by
  have nl := nFl (m := m) h0 i0
  refine k H nl e.i.1 σ H ⟨⟨e.i, m.refl H, ?_⟩, e.len, e.at_⟩ E ⟨fun _ _ _ o => o.elim, fun d v H' o r' rv => M.rt d v H' o (m.trans r r') (rv.weak fun a f => .inl f), fun _ _ _ o => o.elim, fun _ _ _ o => o.elim⟩
  obtain ⟨kvs, h1, h2, h3⟩ := a
  exact ⟨kvs, h1, h2, fun k hk => let ⟨v, q1, q2⟩ := h3 k hk; ⟨v, q1, q2.there⟩⟩
/-- d[k], while a list is made -/
theorem en_getN {H1 : Hp} {nl : ¬ m.F l} {i1 : m.I H1} {Dl : Addr} {i k : Nat} (hD : H1 Dl = none) (hi : Γ[i]? = some (some (.adr l))) (hk : Ev1 ((numMo m K l g ks H1 nl i1).ext Dl) K tk Γ (dN k)) (mem : k ∈ ks) : Ev1 ((numMo m K l g ks H1 nl i1).ext Dl) K (tDGet (tVar i) tk) Γ (g k) := fun σ H e Q q => by
  obtain ⟨u, h1, h2⟩ := e.at_ i _ hi
  obtain rfl := h2.adrE
  refine ⟨_, h1, hk σ H e _ fun y dy H2 s2 r2 ry => ?_⟩
  subst s2
  obtain rfl := ry.intE
  have e2 := e.mv (m := (numMo m K l g ks H1 nl i1).ext Dl) r2
  obtain ⟨kvs, q1, q2, q3⟩ := e2.i.1.2.2
  obtain ⟨v, a1, a2⟩ := q3 k mem
  have dg : DGet H2 l (.int (k : Int)) (some v) := a1 ▸ DGet.k (k := .inl (k : Int)) q1
  exact ⟨l, v, rfl, dg, q v _ H2 rfl r2 (a2.weak fun a f => f.elim .inl fun z => .inr (by rw [z]; exact hD))⟩
/-- a list that is made while J holds of the new list's address -/
theorem en_lcX {wi : TI} {tg : TG} {vs : List Nat} {U : List D → Prop} {T : D → Bool → Prop} {V' : D → D → Prop} {js : List Nat} (hj : ∀ j ∈ js, j ∈ vs) (hi : ItD m K wi Γ U) (hu : ∀ xs, U xs → xs.length ≤ 100000)
    (hs : ∀ Dl, (∃ H, m.I H ∧ H Dl = none) → ∀ xs d, U xs → d ∈ xs → ∃ Γ2, TgD (m.ext Dl) K tg (wipeG Γ vs) d js Γ2 ∧ EvT (m.ext Dl) K tt Γ2 (T d) ∧ (T d true → EvN (m.ext Dl) K te Γ2 (V' d))) : EvN m K (tLc wi tg tt te vs) Γ (fun r => ∃ xs ys, U xs ∧ LcR T V' xs ys ∧ r = .lst ys) := fun σ H e Q q => by
  refine hi σ H e _ fun J xs H1 ht r1 wk => fun Dl hD => ?_
  have e1 := e.mv r1
  have rN : m.R H1 (upd H1 Dl (.lst [])) := m.grow e1.i (same_new hD)
  have nF : ¬ m.F Dl := fun f => m.fa e1.i f hD
  have wkA : ∀ H', m.R H1 H' → (m.ext Dl).I H' → WkD (m.ext Dl) K J H' xs := fun H' r i => wk (m.ext Dl) (m.le_ext Dl) H' i r fun a f n => f.elim (fun f => absurd f n) fun z => z ▸ hD
  refine ⟨fun i k H' => k = xs.length - i ∧ i ≤ xs.length ∧ m.R H1 H' ∧ ∃ acc ys, H' Dl = some (.lst acc) ∧ RpAll K (m.ext Dl).F H' acc ys ∧ LcR T V' (xs.take i) ys, ⟨_, rfl, Nat.zero_le _, rN, [], [], upd_same, .nil, by simpa using LcR.nil⟩, ?_⟩
  rintro i k H' ⟨rfl, hle, r, acc, ys, hacc, ra, lr⟩
  have eX : ER (m.ext Dl) K Γ σ H' := e1.ext hD r (by rw [hacc]; exact fun z => nomatch z)
  have iX := eX.i
  have wkX := wkA H' r iX
  by_cases hlt : i < xs.length
  · refine .inr ⟨wkX.go i H' (m.refl _) hlt, fun H3 => m.R H1 H3 ∧ ∃ acc ys, H3 Dl = some (.lst acc) ∧ RpAll K (m.ext Dl).F H3 acc ys ∧ LcR T V' (xs.take (i + 1)) ys, fun H3 q => ⟨xs.length - (i + 1), by omega, rfl, hlt, q⟩, fun x H2 y => ?_⟩
    obtain ⟨r2, d, hd', rx⟩ := wkX.yld i H' x H2 (m.refl _) hlt y
    obtain ⟨Γ2, tg, tst, el⟩ := hs Dl ⟨H1, e1.i, hD⟩ xs d ht (List.mem_of_getElem? hd')
    have hlen : acc.length < sizeLine := Nat.lt_of_lt_of_le (show acc.length < 100001 by
      have := lr.len; have h2 := ra.len; have h3 := hu xs ht; rw [List.length_take] at this; omega) (by decide)
    have tk : xs.take (i + 1) = xs.take i ++ [d] := by rw [List.take_add_one, hd']; rfl
    have kD : ∀ {Ha Hb : Hp}, (m.ext Dl).I Ha → m.R Ha Hb → Ha Dl = some (.lst acc) → Hb Dl = some (.lst acc) := fun ia r h => m.keep r ia.1 Dl _ nF h
    refine tg x (wipe σ vs) H2 ((eX.mv r2).wipe vs) rx _ fun σ3 H3 e3 r3 w3 => ⟨by rw [w3 vs hj, wipe_wipe], ?_⟩
    refine tst σ3 H3 e3 _ fun b H4 tb' r4 => ?_
    have i3 := e3.i
    have i4 := (m.ext Dl).inv r4 i3
    have rr := m.trans r2 (m.trans r3 r4)
    cases b with
    | false =>
      exact ⟨m.trans r rr, acc, ys, kD iX rr hacc, ra.mv ((m.ext Dl).keep rr iX), by rw [tk]; simpa using lr.append (.no tb' .nil)⟩
    | true =>
      refine el tb' σ3 H4 (e3.mv r4) _ fun w dw H5 sv r5 rw' => ?_
      have i5 := (m.ext Dl).inv r5 i4
      have rr5 := m.trans rr r5
      refine ⟨acc, kD iX rr5 hacc, hlen, m.chg e1.i (m.trans r rr5) hD, acc ++ [w], ys ++ [dw], upd_same, ?_, by rw [tk]; exact lr.append (.yes tb' sv .nil)⟩
      have k5 : ∀ a o, ¬ (m.ext Dl).F a → H5 a = some o → (upd H5 Dl (.lst (acc ++ [w]))) a = some o := fun a o n x => by rw [upd_ne (fun z => n (.inr z))]; exact x
      exact (((ra.mv ((m.ext Dl).keep rr5 iX)).append (.cons rw' .nil)).mv k5)
  · have e0 : i = xs.length := by omega
    subst e0
    exact .inl ⟨wkX.stop H' (m.refl _), q _ _ H' ⟨xs, ys, ht, by simpa using lr, rfl⟩ (m.trans r1 r) (.lst nF hacc (ra.weak fun a f => .inl f))⟩
/-- tuple(range(n)) -/
theorem en_rangeT {n : Nat} {ta : TE} (h : Ev1 m K ta Γ (dN n)) (hn : n ≤ 1000) : Ev1 m K (tTupRg (tRg1 ta)) Γ (tupN (List.range n)) := fun σ H e Q q =>
  h σ H e _ fun v d H1 s r1 rv => by
    subst s
    have i1 := m.inv r1 e.i
    refine ⟨n, rv.intE, RgOk.of_le (by omega) (by omega) (by omega) (by omega), fun p hp => q _ _ _ rfl (m.trans r1 (m.grow i1 (same_new hp))) (rp_new i1 hp ?_)⟩
    have : rgV 0 (n : Int) = (List.range n).map fun i : Nat => V.int (i : Int) := by
      unfold rgV
      have e : ((n : Int) - 0).toNat = n := by omega
      rw [e]
      exact List.map_congr_left fun i _ => by rw [Int.zero_add]
    rw [this]
    exact RpAll.map (f := fun i : Nat => V.int (i : Int)) (g := dN) (fun x => .int _) _
theorem hu1 {k : Nat} {A : Around} (hr : Room k A) : A.units + 1 < cLine := by have := hr.un; omega
theorem it_rngN {K : PySem.W.Frag} {m : Mo} {Γ : G} {ta : TA} {b : Nat} (h : EvA m K ta Γ fun ds => ∃ n : Nat, ds = [dN n] ∧ n < b) (hb : b ≤ 1000) : ItD m K (iRng1 ta) Γ (fun xs => ∃ n, n < b ∧ xs = (List.range n).map dN) := fun σ H e Q q =>
  h σ H e _ fun vs ds H1 ⟨n, s, hn⟩ r1 rs => by
    subst s
    cases rs with
    | cons rv rs =>
      cases rs
      obtain rfl := rv.intE
      refine (show iRng1 (tCons (tC (.int (n : Int))) tNil) σ H1 Q from it_rng (m := m) (K := K) (Γ := Γ) (n := n) (ea_cons (en_int n) ea_nil) (by omega) σ H1 (e.mv r1) Q fun J xs H2 ex r2 wk => ?_)
      exact q J xs H2 ⟨n, hn, ex⟩ (m.trans r1 r2) wk
end
end Tx

set_option Elab.async false
set_option linter.all false
set_option maxRecDepth 100000
set_option maxHeartbeats 4000000
set_option autoImplicit false
namespace K03
open PySem L2 Tx WebM
/-- the web without marks -/
noncomputable abbrev plainW (C : Addr) (h : Hd) : D := webD C h (zeros h)
theorem plain_ok {h : Hd} (ok : WebM.Ok h) : WOk h (zeros h) := ⟨ok, zeros_ok ok⟩
section
variable {P : Program} {w : World} {K : PySem.W.Frag} {mg : Str → Option Value} {base : Heap} {C : Addr}
section
variable {m : Mo} {Γ : G} {te : TE} {E : XK}
/-- Web(heard) -/
theorem ev_web1 {h : Hd} (e : Ev1 m K te Γ (hdD h)) (ok : WebM.Ok h) : Ev1 m K (tMake C (spIS K C pre_Web webNs S_Web) [.non] E (tCons te tNil)) Γ (plainW C h) :=
  EvN.mono (en_makeN (ds := [hdD h]) (dds := [.non]) (ea_cons e ea_nil) (fun _ _ => .cons .non .nil) ⟨h, ok, .inl rfl⟩) fun d ⟨xs, e, s⟩ => by rw [e, (s h).1 rfl]
theorem ev_chk {a b c : Int} {ta tb tc : TE} (ha : Ev1 m K ta Γ (.int a)) (hb : Ev1 m K tb Γ (.int b)) (hc : Ev1 m K tc Γ (.int c)) (h1 : b ≤ a) (h2 : a ≤ c) : Ev1 m K (tCall (spF K pre_check_number fun _ => .non) [] E (tCons ta (tCons tb (tCons tc tNil)))) Γ .non :=
  en_callF (ds := [.int a, .int b, .int c]) (ea_cons ha (ea_cons hb (ea_cons hc ea_nil))) ⟨a, b, c, rfl, h1, h2⟩
end
def pre_sz (ds : List D) : Prop := ∃ n : Nat, ds = [dN n] ∧ 1 ≤ n ∧ n ≤ 5
noncomputable def S_sz (C : Addr) (g : Nat → Hd) (ds : List D) (d : D) : Prop := ∀ n : Nat, ds = [dN n] → d = plainW C (g n)
theorem s_sz {g : Nat → Hd} {n : Nat} : S_sz C g [dN n] (plainW C (g n)) := fun n' e => by injection e with e; rw [dN_inj e]
def pre_sc (ds : List D) : Prop := ∃ n c : Nat, ds = [dN n, dN c] ∧ n ≤ 5 ∧ c < n
noncomputable def S_sc (C : Addr) (g : Nat → Nat → Hd) (ds : List D) (d : D) : Prop := ∀ n c : Nat, ds = [dN n, dN c] → d = plainW C (g n c)
theorem s_sc {g : Nat → Nat → Hd} {n c : Nat} : S_sc C g [dN n, dN c] (plainW C (g n c)) := fun n' c' e => by injection e with e e2; injection e2 with e2; rw [dN_inj e, dN_inj e2]
theorem reps : ∀ k : Nat, (List.replicate k [D.tup []]).flatten = List.replicate k (tupN [])
  | 0 => rfl
  | k + 1 => by rw [List.replicate_succ, List.flatten_cons, reps k]; rfl
/-- ((),) * n -/
theorem ev_sil {m : Mo} {Γ : G} {i n : Nat} (e : Γ[i]? = some (some (dN n))) (n1 : 1 ≤ n) (n5 : n ≤ 5) : Ev1 m K (tOp (rMulU K) (tTup (tCons (tTup tNil) tNil)) (tVar i)) Γ (hdD (silH n)) :=
  Ev1.is (en_op1 (en_tup (ea_cons (en_tup ea_nil (by simp)) ea_nil) (by simp)) (en_var i e) (o_mulT (ds := [.tup []]) (by simp) ⟨by omega, by omega⟩ (by simp))) (by
    show D.tup _ = D.tup ((silH n).map tupN)
    unfold silH
    rw [List.map_replicate, Int.toNat_natCast, reps])
theorem sc_silent_web : FnScope ["size"] ["size"] (defScope s_silent_web) := ⟨rfl, rfl, rfl, by decide +kernel, rfl, by decide +kernel, by decide +kernel⟩
theorem ok_silent_web {f : Addr} {fd : FuncData} (Fu : Fun K "silent_web" "silent_web" s_silent_web f fd) (T : Txt K mg C) (c_check_number : CCheckNum P w K mg base) (k_Web1 : CWeb1 P w K mg base C) : FnOk P w K mg base CX0 7 f fd ["size"] (spS K pre_sz (S_sz C silH)) := by
  refine fn_pure Fu sc_silent_web (fun ds h => by obtain ⟨n, rfl, _⟩ := h; rfl) fun cdv A outer s H E hr => ⟨_, (pss_cons (ps_expr (C8.pe_c c_check_number hr (by decide) rfl (pa_cons (pv 0) (pa_cons pe_int (pa_cons (C8.pe_gc rfl T.k_MAX_THREADS) pa_nil))))) (pss_one (ps_ret (C8.pe_mk k_Web1 hr (by decide) rfl (pa_cons (pe_op (r := rMulU K) op_mulU (pe_tup (pa_cons (pe_tup pa_nil) pa_nil)) (pv 0)) pa_nil))))), fun F ds hp => ?_⟩
  obtain ⟨n, rfl, n1, n5⟩ := hp
  refine sg_seq (fun Γ' => Γ' = startG ["size"] [dN n]) (sg_drop (ev_chk (en_var 0 rfl) (en_int 1) (en_int 5) (by omega) (by omega)) rfl) ?_
  rintro Γ' rfl
  exact sg_ret (ev_web1 (ev_sil (i := 0) rfl n1 n5) (sil_ok n1 n5)) s_sz
theorem sc_star_web : FnScope ["size", "center", "thread"] ["size", "center"] (defScope s_star_web) := ⟨rfl, rfl, rfl, by decide +kernel, rfl, by decide +kernel, by decide +kernel⟩
theorem ok_star_web {f : Addr} {fd : FuncData} (Fu : Fun K "star_web" "star_web" s_star_web f fd) (T : Txt K mg C) (c_check_number : CCheckNum P w K mg base) (k_Web1 : CWeb1 P w K mg base C) : FnOk P w K mg base CX0 7 f fd ["size", "center"] (spS K pre_sc (S_sc C starH)) := by
  refine fn_pure Fu sc_star_web (fun ds h => by obtain ⟨n, c, rfl, _⟩ := h; rfl) fun cdv A outer s H E hr => ⟨_, (pss_cons (ps_expr (C8.pe_c c_check_number hr (by decide) rfl (pa_cons (pv 0) (pa_cons pe_int (pa_cons (C8.pe_gc rfl T.k_MAX_THREADS) pa_nil))))) (pss_cons (ps_expr (C8.pe_c c_check_number hr (by decide) rfl (pa_cons (pv 1) (pa_cons pe_int (pa_cons (pe_op op_sub (pv 0) pe_int) pa_nil))))) (pss_one (ps_ret (C8.pe_mk k_Web1 hr (by decide) rfl (pa_cons (pe_callTy (r := rTup K) cr_tup (by rfl) T.tuple (by decide +kernel) (pa_cons (pe_lc (own := [("thread", 2)]) rfl sc_star_web.nd (pi_range1 rfl T.range (pa_cons (pv 0) pa_nil)) (blkOk_by (by kernel_rfl)) (fun _ _ _ _ _ => (pg_name (i := 2) sc_star_web.nd rfl (by first | exact Or.inl rfl | exact Or.inr rfl))) (fun _ _ _ _ _ => pts_nil) (fun _ _ _ _ _ => (pe_ifExp (pt_cmpR (r := rEqD K) (op_eqD hr.units) (pv 2) (pv 1) (nomark _)) (pe_tup pa_nil) (pe_tup (pa_cons (pv 1) pa_nil))))) pa_nil)) pa_nil)))))), fun F ds hp => ?_⟩
  obtain ⟨n, c, rfl, n5, cn⟩ := hp
  refine sg_seq (fun Γ' => Γ' = startG ["size", "center", "thread"] [dN n, dN c]) (sg_drop (ev_chk (en_var 0 rfl) (en_int 1) (en_int 5) (by omega) (by omega)) rfl) ?_
  rintro Γ' rfl
  refine sg_seq (fun Γ' => Γ' = startG ["size", "center", "thread"] [dN n, dN c]) (sg_drop (ev_chk (c := (n : Int) - 1) (en_var 1 rfl) (en_int 0) (en_op1 (en_var 0 rfl) (en_int 1) o_int) (by omega) (by omega)) rfl) ?_
  rintro Γ' rfl
  refine sg_ret (ev_web1 (h := starH n c) (Ev1.is (en_cb1 (ea_cons (en_lcMA (xs := List.range n) dN (fun t => tupN (if t = c then [] else [c])) (fun x _ y _ e => dN_inj e) (js := [2]) (by simp) (it_rng (n := n) (ea_cons (en_var 0 rfl) ea_nil) (by omega)) (by rw [List.length_range]; omega) fun m' l t ht => ⟨_, tg_name 2, ?_⟩) ea_nil) (c_tuple (.inr (.inl rfl)))) ?_) (star_ok n5 cn)) s_sc
  · refine en_if1 (k := decide ((t : Int) = (c : Int))) (et_test (en_op1 (en_var 2 rfl) (en_var 1 rfl) o_eqI)) (fun e => ?_) (fun e => ?_)
    · rw [if_pos (by have := of_decide_eq_true e; omega)]
      exact en_tup ea_nil (by simp)
    · rw [if_neg (by have := of_decide_eq_false e; omega)]
      exact en_tup (ea_cons (en_var 1 rfl) ea_nil) (by simp)
  · show D.tup _ = D.tup ((starH n c).map tupN)
    unfold starH
    rw [List.map_map]
    rfl
theorem sc_chain_web : FnScope ["size", "first", "thread"] ["size", "first"] (defScope s_chain_web) := ⟨rfl, rfl, rfl, by decide +kernel, rfl, by decide +kernel, by decide +kernel⟩
theorem ok_chain_web {f : Addr} {fd : FuncData} (Fu : Fun K "chain_web" "chain_web" s_chain_web f fd) (T : Txt K mg C) (c_check_number : CCheckNum P w K mg base) (k_Web1 : CWeb1 P w K mg base C) : FnOk P w K mg base CX0 7 f fd ["size", "first"] (spS K pre_sc (S_sc C chnH)) := by
  refine fn_pure Fu sc_chain_web (fun ds h => by obtain ⟨n, c, rfl, _⟩ := h; rfl) fun cdv A outer s H E hr => ⟨_, (pss_cons (ps_expr (C8.pe_c c_check_number hr (by decide) rfl (pa_cons (pv 0) (pa_cons pe_int (pa_cons (C8.pe_gc rfl T.k_MAX_THREADS) pa_nil))))) (pss_cons (ps_expr (C8.pe_c c_check_number hr (by decide) rfl (pa_cons (pv 1) (pa_cons pe_int (pa_cons (pe_op op_sub (pv 0) pe_int) pa_nil))))) (pss_one (ps_ret (C8.pe_mk k_Web1 hr (by decide) rfl (pa_cons (pe_callTy (r := rTup K) cr_tup (by rfl) T.tuple (by decide +kernel) (pa_cons (pe_lc (own := [("thread", 2)]) rfl sc_chain_web.nd (pi_range1 rfl T.range (pa_cons (pv 0) pa_nil)) (blkOk_by (by kernel_rfl)) (fun _ _ _ _ _ => (pg_name (i := 2) sc_chain_web.nd rfl (by first | exact Or.inl rfl | exact Or.inr rfl))) (fun _ _ _ _ _ => pts_nil) (fun _ _ _ _ _ => (pe_ifExp (pt_cmpR (r := rEqD K) (op_eqD hr.units) (pv 2) (pv 1) (nomark _)) (pe_tup pa_nil) (pe_tup (pa_cons (pe_op op_mod (pe_op op_sub (pv 2) pe_int) (pv 0)) pa_nil))))) pa_nil)) pa_nil)))))), fun F ds hp => ?_⟩
  obtain ⟨n, c, rfl, n5, cn⟩ := hp
  refine sg_seq (fun Γ' => Γ' = startG ["size", "first", "thread"] [dN n, dN c]) (sg_drop (ev_chk (en_var 0 rfl) (en_int 1) (en_int 5) (by omega) (by omega)) rfl) ?_
  rintro Γ' rfl
  refine sg_seq (fun Γ' => Γ' = startG ["size", "first", "thread"] [dN n, dN c]) (sg_drop (ev_chk (c := (n : Int) - 1) (en_var 1 rfl) (en_int 0) (en_op1 (en_var 0 rfl) (en_int 1) o_int) (by omega) (by omega)) rfl) ?_
  rintro Γ' rfl
  refine sg_ret (ev_web1 (h := chnH n c) (Ev1.is (en_cb1 (ea_cons (en_lcMA (xs := List.range n) dN (fun t => tupN (if t = c then [] else [(t + n - 1) % n])) (fun x _ y _ e => dN_inj e) (js := [2]) (by simp) (it_rng (n := n) (ea_cons (en_var 0 rfl) ea_nil) (by omega)) (by rw [List.length_range]; omega) fun m' l t ht => ⟨_, tg_name 2, ?_⟩) ea_nil) (c_tuple (.inr (.inl rfl)))) ?_) (chn_ok n5 cn)) s_sc
  · rw [List.mem_range] at ht
    refine en_if1 (k := decide ((t : Int) = (c : Int))) (et_test (en_op1 (en_var 2 rfl) (en_var 1 rfl) o_eqI)) (fun e => ?_) (fun e => ?_)
    · rw [if_pos (by have := of_decide_eq_true e; omega)]
      exact en_tup ea_nil (by simp)
    · rw [if_neg (by have := of_decide_eq_false e; omega)]
      refine Ev1.is (en_tup (ea_cons (en_op1 (en_op1 (en_var 2 rfl) (en_int 1) o_int) (en_var 0 rfl) (o_intC (g := fun i j => i % j) (show (0 : Int) < (n : Int) by omega))) ea_nil) (by simp)) ?_
      show D.tup [D.int _] = D.tup [D.int _]
      congr 3
      have : n = 1 ∨ n = 2 ∨ n = 3 ∨ n = 4 ∨ n = 5 := by omega
      rcases this with rfl | rfl | rfl | rfl | rfl <;> omega
  · show D.tup _ = D.tup ((chnH n c).map tupN)
    unfold chnH
    rw [List.map_map]
    rfl
end
end K03

set_option Elab.async false
set_option linter.all false
set_option maxRecDepth 100000
set_option maxHeartbeats 4000000
set_option autoImplicit false
namespace K03
open PySem L2 Tx WebM
theorem ahead_at : ∀ {bs : List (List Nat)} {acc b : List Nat} {i t : Nat}, bs[i]? = some b → t ∈ b → t ∉ (bs.take i).flatten → aheadL bs acc t = acc ++ (bs.take (i + 1)).flatten
  | [], _, _, _, _, h, _, _ => by simp at h
  | a :: bs, acc, b, 0, t, h, hb, _ => by
    simp at h
    subst h
    rw [aheadL, if_pos hb]
    simp
  | a :: bs, acc, b, i + 1, t, h, hb, hn => by
    rw [List.getElem?_cons_succ] at h
    rw [List.take_succ_cons, List.flatten_cons, List.mem_append] at hn
    rw [aheadL, if_neg fun z => hn (.inl z), ahead_at h hb fun z => hn (.inr z), List.take_succ_cons, List.flatten_cons, List.append_assoc]
theorem ahead_len : ∀ {bs : List (List Nat)} {acc : List Nat} {t : Nat}, (aheadL bs acc t).length ≤ acc.length + bs.flatten.length
  | [], acc, t => by simp [aheadL]
  | b :: bs, acc, t => by
    have ih := ahead_len (bs := bs) (acc := acc ++ b) (t := t)
    rw [List.length_append] at ih
    rw [aheadL, List.flatten_cons, List.length_append]
    split
    · rw [List.length_append]; omega
    · omega
theorem flat_step {bs : List (List Nat)} {b : List Nat} {i : Nat} (h : bs[i]? = some b) : (bs.take (i + 1)).flatten = (bs.take i).flatten ++ b := by
  rw [List.take_add_one, h]
  simp
theorem PtOk.new {bs : List (List Nat)} {n : Nat} (ok : PtOk bs n) {b : List Nat} {i t : Nat} (h : bs[i]? = some b) (hb : t ∈ b) : t ∉ (bs.take i).flatten := fun z => by
  have nd : bs.flatten.Nodup := ok.pm.nodup_iff.mpr List.nodup_range
  have e : bs.flatten = (bs.take i).flatten ++ (bs.drop i).flatten := by rw [← List.flatten_append, List.take_append_drop]
  rw [e, List.nodup_append] at nd
  refine nd.2.2 t z t ?_ rfl
  have hi := (List.getElem?_eq_some_iff.mp h).1
  rw [List.drop_eq_getElem_cons hi, List.flatten_cons, List.mem_append, (List.getElem?_eq_some_iff.mp h).2]
  exact .inl hb
def subT : D → List D
  | .tup xs => xs
  | _ => []
theorem flat_dN : ∀ bs : List (List Nat), (((bs.map tupN).filter fun _ => true).flatMap fun d => ((subT d).filter fun _ => true).map fun x => x) = bs.flatten.map dN
  | [] => rfl
  | b :: bs => by
    have ih := flat_dN bs
    rw [List.filter_eq_self.mpr (fun _ _ => rfl)] at ih ⊢
    rw [List.map_cons, List.flatMap_cons, ih, List.flatten_cons, List.map_append]
    congr 1
    rw [List.filter_eq_self.mpr (fun _ _ => rfl), List.map_id']
    rfl
section
variable {P : Program} {w : World} {K : PySem.W.Frag} {mg : Str → Option Value} {base : Heap} {C : Addr}
theorem sc_is_parting : FnScope ["value", "threads", "block", "thread"] ["value"] (defScope s_is_parting) := ⟨rfl, rfl, rfl, by decide +kernel, rfl, by decide +kernel, by decide +kernel⟩
def pre_pt (ds : List D) : Prop := ∃ bs n, ds = [hdD bs] ∧ PtOk bs n
theorem ok_is_parting {f : Addr} {fd : FuncData} (Fu : Fun K "is_parting" "is_parting" s_is_parting f fd) (T : Txt K mg C) (c_are_ascending : C8.Cal P w K mg base 3 "are_ascending" (spF K pre_are_ascending fun _ => .bl true) []) : FnOk P w K mg base CX0 5 f fd ["value"] (spF K pre_pt fun _ => .bl true) := by
  refine fn_pure Fu sc_is_parting (fun ds h => by obtain ⟨bs, n, rfl, _⟩ := h; rfl) fun cdv A outer s H E hr => ⟨_, (pss_cons (ps_if (PW.pt (pw_or (pt_not (pt_val (pe_callB (r := rIsi K) call_isi (by rfl) T.isinstance (by decide +kernel) (pa_cons (pv 0) (pa_cons (pe_bltn (v := .ty "tuple") rfl T.tuple (by decide +kernel) rfl) pa_nil))))) (pw_or1 (pt_not (pt_chain op_le op_le pe_int (pe_callB (r := rLenS K) cr_len (by rfl) T.len (by decide +kernel) (pa_cons (pv 0) pa_nil)) (C8.pe_gc rfl T.k_MAX_THREADS)))))) (pss_one (ps_ret pe_bl)) pss_nil) (pss_cons (ps_if (pt_not (pt_val (pe_callB (r := rAll K) (cr_all rfl) (by rfl) T.all (by decide +kernel) (pa_cons (pe_lc (own := [("block", 2)]) rfl sc_is_parting.nd (show PI _ _ _ (iSeq K _) from pi_seq (pv 0)) (blkOk_by (by kernel_rfl)) (fun _ _ _ _ _ => (pg_name (i := 2) sc_is_parting.nd rfl (by first | exact Or.inl rfl | exact Or.inr rfl))) (fun _ _ _ _ _ => pts_nil) (fun _ _ _ _ _ => (pe_and (C8.pe_c c_are_ascending hr (by decide) rfl (pa_cons (pv 2) (pa_cons pe_int (pa_cons (pe_op op_sub (C8.pe_gc rfl T.k_MAX_THREADS) pe_int) pa_nil)))) (pe_one (pe_cmpR op_gt (pe_callB (r := rLenS K) cr_len (by rfl) T.len (by decide +kernel) (pa_cons (pv 2) pa_nil)) pe_int (nomark _)))))) pa_nil)))) (pss_one (ps_ret pe_bl)) pss_nil) (pss_cons (ps_set (i := 1) sc_is_parting.nd rfl (by first | exact Or.inl rfl | exact Or.inr rfl) (pe_callB (r := rSortS K) cr_sortS (by rfl) T.sorted (by decide +kernel) (pa_cons (pe_lc2 (own := [("block", 2), ("thread", 3)]) (vs1 := [3]) rfl sc_is_parting.nd (show PI _ _ _ (iSeq K _) from pi_seq (pv 0)) (blkOk_by (by kernel_rfl)) (by decide) (fun _ _ _ _ _ => (pg_name (i := 2) sc_is_parting.nd rfl (by first | exact Or.inl rfl | exact Or.inr rfl))) (fun _ _ _ _ _ => pts_nil) (fun _ _ _ _ _ => (show PI _ _ _ (iSeq K _) from pi_seq (pv 2))) (fun _ _ _ _ _ => (pg_name (i := 3) sc_is_parting.nd rfl (by first | exact Or.inl rfl | exact Or.inr rfl))) (fun _ _ _ _ _ => pts_nil) (fun _ _ _ _ _ => (pv 3))) pa_nil))) (pss_one (ps_ret (pe_cmpR (r := rEqD K) (op_eqD hr.units) (pv 1) (pe_listRg rfl rfl T.list (prg_1 rfl T.range (pe_callB (r := rLenS K) cr_len (by rfl) T.len (by decide +kernel) (pa_cons (pv 1) pa_nil)))) (nomark _))))))), fun F ds hp => ?_⟩
  obtain ⟨bs, n, rfl, ok⟩ := hp
  have b5 := ok.len
  have n1 := ok.n1
  have n5 := ok.n5
  have fl := ok.flen
  have b1 : 1 ≤ bs.length := by
    cases bs with
    | nil => simp at fl; omega
    | cons b r => simp
  have hlen : ((bs.map tupN).length : Int) = (bs.length : Int) := by rw [List.length_map]
  refine sg_seqIf (b := false) ?_ (fun e => nomatch e) fun _ => ?_
  · refine EvT1.is (et_or (et_not (et_B (en_isTup (en_var 0 rfl) rfl))) fun _ => et_not (et_test (en_chain (en_int 1) (en_cb1 (ea_cons (en_var 0 rfl) ea_nil) (c_len (.inl rfl))) (fun _ => en_int 5) o_bl fun _ => o_bl))) ?_
    rw [hlen]
    have e1 : decide ((1 : Int) ≤ (bs.length : Int)) = true := decide_eq_true (by omega)
    have e2 : decide ((bs.length : Int) ≤ 5) = true := decide_eq_true (by omega)
    rw [e1, e2]
    rfl
  refine sg_seqIf (b := false) ?_ (fun e => nomatch e) fun _ => ?_
  · refine EvT1.is (et_not (et_B (en_allM (xs := bs) tupN (fun _ => true) (fun x _ y _ e => tupN_inj e) (js := [2]) (by simp) (it_seq (en_var 0 rfl) (.inl rfl)) (by omega) fun m' l b hb => ⟨_, tg_name 2, ?_⟩))) (by rw [List.all_eq_true.mpr (fun _ _ => rfl)]; rfl)
    have bl : b.length ≤ n := by
      have q : b.Sublist bs.flatten := List.sublist_flatten_of_mem hb
      have := q.length_le
      omega
    refine Ev1.is (en_and (p := true) (k := true) (en_callF (ds := [tupN b, .int 0, .int 4]) (ea_cons (en_var 2 rfl) (ea_cons (en_int 0) (ea_cons (en_op1 (en_int 5) (en_int 1) o_int) ea_nil))) ⟨b, 4, rfl, by omega, ok.up b hb, fun x hx => by have := ok.lt hb hx; omega⟩) fun _ => ?_) rfl
    refine Ev1.is (en_op1 (en_cb1 (ea_cons (en_var 2 rfl) ea_nil) (c_len (.inl rfl))) (en_int 0) o_bl) ?_
    have := List.length_pos_iff.mpr (ok.ne b hb)
    rw [List.length_map]
    exact congrArg D.bl (decide_eq_true (by omega))
  refine sq_asg (d := lstN (List.range n)) ?_ ?_
  · refine Ev1.is (en_cb1 (ea_cons (en_lc2 (xs := bs.map tupN) (js := [2]) (js1 := [3]) (fun _ => true) subT (fun _ _ => true) (fun _ x => x) (by simp) (by simp) (by simp) (it_seq (en_var 0 rfl) (.inl rfl)) 5 (fun d hd => ?_) (by rw [List.length_map]; omega) fun m' l d hd => ?_) ea_nil) (c_sorted (ns := bs.flatten.map fun k : Nat => (k : Int)) (.inr (.inl (by rw [flat_dN, ← dN_ints]))) (by rw [List.length_map]; omega))) ?_
    · obtain ⟨b, hb, rfl⟩ := List.mem_map.mp hd
      show (b.map dN).length ≤ 5
      have q : b.Sublist bs.flatten := List.sublist_flatten_of_mem hb
      have := q.length_le
      rw [List.length_map]
      omega
    · obtain ⟨b, hb, rfl⟩ := List.mem_map.mp hd
      refine ⟨_, tg_name 2, et_yes, fun _ => ⟨itx_seq (en_var 2 rfl) (.inl rfl), fun d1 hd1 => ⟨_, tg_name 3, et_yes, fun _ => ?_⟩⟩⟩
      exact en_var 3 rfl
    · rw [← srt_of (ok.pm.symm.map _) (List.pairwise_map.mpr (List.pairwise_lt_range.imp fun {a b} q => by omega)), ← dN_ints]
  · refine sg_ret (d := .bl true) (en_op1 (a := lstN (List.range n)) (b := lstN (List.range n)) (en_var 1 rfl) (en_rangeL (n := n) (Ev1.is (en_cb1 (ea_cons (en_var 1 rfl) ea_nil) (c_len (.inr (.inl rfl)))) (by rw [List.length_map, List.length_range])) (by omega)) (o_eqS (n := 1) (by decide) ?_)) rfl
    exact pur_lst fun x hx => by obtain ⟨k, _, rfl⟩ := List.mem_map.mp hx; rfl
theorem sc_parting_web : FnScope ["blocks", "hearing", "ahead", "block", "thread"] ["blocks"] (defScope s_parting_web) := ⟨rfl, rfl, rfl, by decide +kernel, rfl, by decide +kernel, by decide +kernel⟩
noncomputable def S_pw (C : Addr) (ds : List D) (d : D) : Prop := ∀ bs n, ds = [hdD bs] → PtOk bs n → d = plainW C (partH bs n)
def gA (bs : List (List Nat)) (t : Nat) : D := lstN (aheadL bs [] t)
def gI (bs : List (List Nat)) : D → D
  | .int k => gA bs k.toNat
  | _ => .non
theorem ok_parting_web {f : Addr} {fd : FuncData} (Fu : Fun K "parting_web" "parting_web" s_parting_web f fd) (T : Txt K mg C) (c_is_parting : C8.Cal P w K mg base 5 "is_parting" (spF K pre_pt fun _ => .bl true) []) (c_web_of : CWebOf P w K mg base C) : FnOk P w K mg base CX0 9 f fd ["blocks"] (spS K pre_pt (S_pw C)) := by
  refine fn_pure Fu sc_parting_web (fun ds h => by obtain ⟨bs, n, rfl, _⟩ := h; rfl) fun cdv A outer s H E hr => ⟨_, (pss_cons (ps_if (pt_not (pt_val (C8.pe_c c_is_parting hr (by decide) rfl (pa_cons (pv 0) pa_nil)))) (pss_one ps_never) pss_nil) (pss_cons (ps_set (i := 1) sc_parting_web.nd rfl (by first | exact Or.inl rfl | exact Or.inr rfl) pe_dnewK) (pss_cons (ps_set (i := 2) sc_parting_web.nd rfl (by first | exact Or.inl rfl | exact Or.inr rfl) (pe_lst pa_nil)) (pss_cons (ps_for PassesOwn.never rfl (show PI _ _ _ (iSeq K _) from pi_seq (pv 0)) (pg_name (i := 3) sc_parting_web.nd rfl (by first | exact Or.inl rfl | exact Or.inr rfl)) (pss_cons (ps_set (i := 2) sc_parting_web.nd rfl (by first | exact Or.inl rfl | exact Or.inr rfl) (pe_lst (show PA _ _ (StX.tStar K _ _) from StX.pa_star (pv 2) (show PA _ _ (StX.tStar K _ _) from StX.pa_star (pv 3) pa_nil)))) (pss_one (ps_for PassesOwn.never rfl (show PI _ _ _ (iSeq K _) from pi_seq (pv 3)) (pg_name (i := 4) sc_parting_web.nd rfl (by first | exact Or.inl rfl | exact Or.inr rfl)) (pss_one (ps_asg (pv 2) (pg_sub (pv 1) (pv 4) (set_dict (hu1 hr))))))))) (pss_one (ps_ret (C8.pe_c c_web_of hr (by decide) rfl (pa_cons (pe_lc (own := [("thread", 4)]) rfl sc_parting_web.nd (pi_range1 rfl T.range (pa_cons (pe_callB (r := rLenS K) cr_len (by rfl) T.len (by decide +kernel) (pa_cons (pv 2) pa_nil)) pa_nil)) (blkOk_by (by kernel_rfl)) (fun _ _ _ _ _ => (pg_name (i := 4) sc_parting_web.nd rfl (by first | exact Or.inl rfl | exact Or.inr rfl))) (fun _ _ _ _ _ => pts_nil) (fun _ _ _ _ _ => (pe_dget (hu1 hr) (pv 1) (pv 4) (fun _ _ => rfl)))) (pa_cons pe_non pa_nil))))))))), fun F ds hp => ?_⟩
  obtain ⟨bs, n, rfl, ok⟩ := hp
  have n1 := ok.n1
  have n5 := ok.n5
  have fl := ok.flen
  have b5 := ok.len
  refine sg_seqIf (b := false) (EvT1.is (et_not (et_B (en_callF (ds := [hdD bs]) (ea_cons (en_var 0 rfl) ea_nil) ⟨bs, n, rfl, ok⟩))) rfl) (fun e => nomatch e) fun _ => ?_
  refine sq_newN (gA bs) fun l H0 => ?_
  refine sw_seq (fun Γ' ks' => Γ' = [some (hdD bs), some (.adr l), some (lstN []), none, none] ∧ ks' = []) (sw_asg (d := lstN []) (en_lst ea_nil (by simp)) ⟨rfl, rfl⟩) ?_
  rintro _ _ ⟨rfl, rfl⟩
  refine sw_seq (fun Γ' ks' => ∃ x3 x4 : Option D, Γ' = [some (hdD bs), some (.adr l), some (lstN bs.flatten), x3, x4] ∧ ks' = bs.flatten) (sw_for (xs := bs.map tupN) (itx_seq (en_var 0 rfl) (.inl rfl)) (fun i Γ' ks' => ∃ x3 x4 : Option D, Γ' = [some (hdD bs), some (.adr l), some (lstN (bs.take i).flatten), x3, x4] ∧ ks' = (bs.take i).flatten) ⟨none, none, rfl, rfl⟩ ?_ ?_) ?_
  · rintro i d Γ' ks' hd ⟨x3, x4, rfl, rfl⟩
    rw [List.getElem?_map] at hd
    obtain ⟨b, hb, rfl⟩ := Option.map_eq_some_iff.mp hd
    have hbm : b ∈ bs := List.mem_of_getElem? hb
    have hst := flat_step hb
    have tl : (bs.take (i + 1)).flatten.length ≤ n := by
      have q : (bs.take (i + 1)).flatten.length + (bs.drop (i + 1)).flatten.length = bs.flatten.length := by rw [← List.length_append, ← List.flatten_append, List.take_append_drop]
      omega
    refine ⟨_, _, tg_name 3, ?_⟩
    refine sw_seq (fun Γ' ks' => Γ' = [some (hdD bs), some (.adr l), some (lstN (bs.take (i + 1)).flatten), some (tupN b), x4] ∧ ks' = (bs.take i).flatten) (sw_asg (d := lstN (bs.take (i + 1)).flatten) (Ev1.is (en_lst (ea_star (en_var 2 rfl) (.inr rfl) (ea_star (en_var 3 rfl) (.inl rfl) ea_nil)) (by rw [hst, List.length_append] at tl; simp only [List.length_append, List.length_map, List.length_nil]; omega)) (by rw [List.append_nil, ← List.map_append, hst])) ⟨rfl, rfl⟩) ?_
    rintro _ _ ⟨rfl, rfl⟩
    refine sw_for (xs := b.map dN) (itx_seq (en_var 3 rfl) (.inl rfl)) (fun j Γ' ks' => ∃ x4 : Option D, Γ' = [some (hdD bs), some (.adr l), some (lstN (bs.take (i + 1)).flatten), some (tupN b), x4] ∧ ks' = (bs.take i).flatten ++ b.take j) ⟨x4, rfl, by simp⟩ ?_ ?_
    · rintro j d Γ' ks' hd2 ⟨x4, rfl, rfl⟩
      rw [List.getElem?_map] at hd2
      obtain ⟨t, ht, rfl⟩ := Option.map_eq_some_iff.mp hd2
      have htb : t ∈ b := List.mem_of_getElem? ht
      refine ⟨_, _, tg_name 4, sw_putN (k := t) rfl (Ev1.is (en_var 2 rfl) ?_) (en_var 4 rfl) ?_ ⟨_, rfl, ?_⟩⟩
      · rw [gA, ahead_at hb htb (ok.new hb htb), List.nil_append]
      · have h1 : (b.take j).length ≤ b.length := by rw [List.length_take]; omega
        have h2 : (bs.take (i + 1)).flatten.length = (bs.take i).flatten.length + b.length := by rw [hst, List.length_append]
        rw [List.length_append]
        omega
      · rw [List.append_assoc, List.take_add_one, ht]
        rfl
    · rintro Γ' ks' ⟨x4, rfl, rfl⟩
      exact ⟨_, _, rfl, by rw [List.length_map, List.take_length, ← hst]⟩
  · rintro Γ' ks' ⟨x3, x4, rfl, rfl⟩
    exact ⟨x3, x4, by rw [List.length_map, List.take_length], by rw [List.length_map, List.take_length]⟩
  · rintro _ _ ⟨x3, x4, rfl, rfl⟩
    refine sw_read fun H1 nl i1 => ?_
    let rs : List (Bool × List Nat) := (List.range n).map fun t => (false, aheadL bs [] t)
    have rl : rs.length = n := by show ((List.range n).map _).length = n; rw [List.length_map, List.length_range]
    refine sg_ret (d := plainW C (partH bs n)) (en_call (S := fun d => d = plainW C (partH bs n)) (ds := [.lst (rs.map rwD), .non]) (ea_cons (EvN.mono (en_lcX (U := fun x => x = (List.range n).map dN) (T := fun _ b => b = true) (V' := fun d y => y = gI bs d) (js := [4]) (by simp) (it_rng (n := n) (ea_cons (Ev1.is (en_cb1 (ea_cons (en_var 2 rfl) ea_nil) (c_len (.inr (.inl rfl)))) (by rw [List.length_map, fl])) ea_nil) (by omega)) (fun xs e => by rw [e, List.length_map, List.length_range]; omega) fun Dl hDl xs d e hd => ?_) ?_) (ea_cons en_non ea_nil)) ⟨rs, rfl, ⟨by omega, by omega⟩, fun p hp => ?_⟩ fun d hd => ?_) ?_
    · subst e
      obtain ⟨t, ht, rfl⟩ := List.mem_map.mp hd
      rw [List.mem_range] at ht
      obtain ⟨H, iH, hH⟩ := hDl
      have h1 : H1 Dl = none := by
        cases q : H1 Dl with
        | none => rfl
        | some o => exact absurd hH ((pureMo F).had i1 iH.2.1 (by rw [q]; exact fun z => nomatch z))
      refine ⟨_, tg_name 4, et_yes, fun _ => Ev1.is (en_getN (k := t) h1 rfl (en_var 4 rfl) (ok.mem.mpr ht)) ?_⟩
      show gA bs t = gA bs (Int.toNat (t : Int))
      rw [Int.toNat_natCast]
    · rintro _ ⟨xs, ys, e, lr, rfl⟩
      subst e
      rw [LcR.fn (t := fun _ => true) (f := gI bs) lr (fun x _ b q => q) (fun x _ y q => q), List.filter_eq_self.mpr (fun _ _ => rfl), List.map_map]
      show D.lst _ = D.lst (((List.range n).map _).map rwD)
      rw [List.map_map]
      congr 1
    · obtain ⟨t, ht, rfl⟩ := List.mem_map.mp hp
      rw [List.mem_range] at ht
      refine ⟨Nat.lt_of_le_of_lt ahead_len (by rw [fl]; simp only [List.length_nil]; omega), fun x hx => ?_⟩
      rw [rl]
      exact ((ahead_iff ok ht).mp hx).1
    · rw [hd rs rfl, rl]
      have e : nrm n (fun t x => decide (x ∈ rowN rs t)) = partH bs n := nrm_congr fun t x ht hx hne => by
        have : rowN rs t = aheadL bs [] t := by
          unfold rowN
          show ((((List.range n).map _).map _).getD t []) = _
          rw [List.map_map, List.getD_eq_getElem?_getD, List.getElem?_map, List.getElem?_range ht]
          rfl
        rw [this]
      rw [e]
      unfold plainW zeros
      rw [part_len]
    · intro bs' n' e ok'
      injection e with e
      have e2 := hdD_inj e
      subst e2
      rw [← ok.flen, ok'.flen]
theorem sc_full_web : FnScope ["size"] ["size"] (defScope s_full_web) := ⟨rfl, rfl, rfl, by decide +kernel, rfl, by decide +kernel, by decide +kernel⟩
def fullH (n : Nat) : Hd := partH [List.range n] n
theorem full_pt {n : Nat} (n1 : 1 ≤ n) (n5 : n ≤ 5) : PtOk [List.range n] n := ⟨fun b hb => by rw [List.mem_singleton.mp hb]; exact List.pairwise_lt_range, fun b hb => by rw [List.mem_singleton.mp hb]; intro z; have := congrArg List.length z; rw [List.length_range] at this; simp at this; omega, by simp, n1, n5⟩
theorem ok_full_web {f : Addr} {fd : FuncData} (Fu : Fun K "full_web" "full_web" s_full_web f fd) (T : Txt K mg C) (c_check_number : CCheckNum P w K mg base) (c_parting_web : C8.Cal P w K mg base 9 "parting_web" (spS K pre_pt (S_pw C)) []) : FnOk P w K mg base CX0 10 f fd ["size"] (spS K pre_sz (S_sz C fullH)) := by
  refine fn_pure Fu sc_full_web (fun ds h => by obtain ⟨n, rfl, _⟩ := h; rfl) fun cdv A outer s H E hr => ⟨_, (pss_cons (ps_expr (C8.pe_c c_check_number hr (by decide) rfl (pa_cons (pv 0) (pa_cons pe_int (pa_cons (C8.pe_gc rfl T.k_MAX_THREADS) pa_nil))))) (pss_one (ps_ret (C8.pe_c c_parting_web hr (by decide) rfl (pa_cons (pe_tup (pa_cons (pe_tupRg rfl rfl T.tuple (prg_1 rfl T.range (pv 0))) pa_nil)) pa_nil))))), fun F ds hp => ?_⟩
  obtain ⟨n, rfl, n1, n5⟩ := hp
  refine sg_seq (fun Γ' => Γ' = startG ["size"] [dN n]) (sg_drop (ev_chk (en_var 0 rfl) (en_int 1) (en_int 5) (by omega) (by omega)) rfl) ?_
  rintro Γ' rfl
  have ok := full_pt n1 n5
  exact sg_ret (en_call (S := fun d => d = plainW C (fullH n)) (ds := [hdD [List.range n]]) (ea_cons (en_tup (ea_cons (en_rangeT (n := n) (en_var 0 rfl) (by omega)) ea_nil) (by simp)) ea_nil) ⟨_, n, rfl, ok⟩ fun d hd => hd _ n rfl ok) s_sz
end
end K03

set_option Elab.async false
set_option linter.all false
set_option maxRecDepth 100000
set_option maxHeartbeats 4000000
set_option autoImplicit false
namespace Tx
open PySem PySem.Spec PyProof.Rows L2
theorem en_slL {K : PySem.W.Frag} {m : Mo} {Γ : G} {te : TE} {ds : List D} {tl th : TO} {lo hi : Option Int} (h : Ev1 m K te Γ (.lst ds)) (hl : EvO m K tl Γ lo) (hh : EvO m K th Γ hi) : Ev1 m K (tSl (rSlL K) te tl th) Γ (.lst (cutD ds lo hi)) := fun σ H e Q q =>
  h σ H e _ fun v d' H1 s r1 rv => hl σ H1 (e.mv r1) _ fun H2 r2 => hh σ H2 ((e.mv r1).mv r2) _ fun H3 r3 => by
    subst s
    have i1 := m.inv r1 e.i
    have i3 := m.inv r3 (m.inv r2 i1)
    have rv3 : Rp K m.F H3 v (.lst ds) := rv.mv fun a o n x => m.keep r3 (m.inv r2 i1) a o n (m.keep r2 i1 a o n x)
    have rr := m.trans r1 (m.trans r2 r3)
    obtain ⟨a, vs, rfl, ha, ra⟩ := rv3.lstE
    have len := ra.len
    refine ⟨a, vs, rfl, SqL.of ha, fun p hp => q _ _ _ rfl (m.trans rr (m.grow i3 (same_new hp))) (rp_newL i3 hp ?_)⟩
    unfold cutV cutD
    rw [len]
    exact RpAll.takeN _ (RpAll.dropN _ ra)
end Tx
namespace K03
open PySem L2 Tx WebM
theorem put_count {ns : List Nat} {a k : Nat} : ns.count 0 ≤ (ns.take a ++ k :: ns.drop a).count 0 := by
  have e : ns.count 0 = (ns.take a).count 0 + (ns.drop a).count 0 := by rw [← List.count_append, List.take_append_drop]
  rw [List.count_append, List.count_cons]
  omega
section
variable {P : Program} {w : World} {K : PySem.W.Frag} {mg : Str → Option Value} {base : Heap} {C : Addr}
abbrev CCoin (P : Program) (w : World) (K : PySem.W.Frag) (mg : Str → Option Value) (base : Heap) : Prop := C8.Cal P w K mg base 1 "_law_coin" (spP K pre_coin S_coin) []
/-- a drawn number -/
theorem ev_coin {m : Mo} {Γ : G} {p : Addr} {i : Nat} {te : TE} {E : XK} {k : Nat} (q : HasP m p) (e1 : Γ[i]? = some (some (.adr p))) (et : Ev1 m K te Γ (dN k)) (h0 : 0 < k) (h1 : k < 1000) : EvN m K (tCall (spP K pre_coin S_coin) [] E (tCons (tVar i) (tCons te tNil))) Γ (fun d => ∃ r : Nat, d = dN r ∧ r < k) :=
  en_pcall1 q (ds := [.int k]) (ea_cons (en_var i e1) (ea_cons et ea_nil)) ⟨k, rfl, by omega, by omega⟩ fun d hd => by
    obtain ⟨x, rfl, x0, x1⟩ := hd k rfl
    exact ⟨x.toNat, by show D.int _ = D.int _; rw [Int.toNat_of_nonneg x0], by omega⟩
theorem sc_law_word : FnScope ["_law_pouch_here", "_law_many", "_law_size", "_law_found", "_law_turn", "_law_at"] ["_law_pouch_here", "_law_many", "_law_size"] (defScope s_law_word) := ⟨rfl, rfl, rfl, by decide +kernel, rfl, by decide +kernel, by decide +kernel⟩
def pre_w (ds : List D) : Prop := ∃ many n : Nat, ds = [dN many, dN n] ∧ 1 ≤ many ∧ many ≤ 60 ∧ 1 ≤ n ∧ n ≤ 5
def S_w (ds : List D) (d : D) : Prop := ∀ many n : Nat, ds = [dN many, dN n] → ∃ v : List Nat, d = tupN v ∧ v.length ≤ 6 ∧ (∀ i ∈ v, i < many) ∧ n - 1 ≤ v.count 0
theorem ok_law_word {f : Addr} {fd : FuncData} (Fu : Fun K "_law_word" "_law_word" s_law_word f fd) (T : Txt K mg C) (c__law_coin : CCoin P w K mg base) : FnOk P w K mg base CX0 2 f fd ["_law_pouch_here", "_law_many", "_law_size"] (spP K pre_w S_w) := by
  refine fn_pouch Fu sc_law_word (fun ds h => by obtain ⟨many, n, rfl, _⟩ := h; rfl) fun cdv A outer s H E hr => ⟨_, (pss_cons (ps_set (i := 3) sc_law_word.nd rfl (by first | exact Or.inl rfl | exact Or.inr rfl) (pe_op (r := rMulL K) op_mulL (pe_lst (pa_cons pe_int pa_nil)) (pe_op op_sub (pv 2) pe_int))) (pss_cons (ps_for PassesOwn.never rfl (pi_range1 rfl T.range (pa_cons (C8.pe_c c__law_coin hr (by decide) rfl (pa_cons (pv 0) (pa_cons (pe_op op_sub pe_int (pv 2)) pa_nil))) pa_nil)) (pg_name (i := 4) sc_law_word.nd rfl (by first | exact Or.inl rfl | exact Or.inr rfl)) (pss_cons (ps_set (i := 5) sc_law_word.nd rfl (by first | exact Or.inl rfl | exact Or.inr rfl) (C8.pe_c c__law_coin hr (by decide) rfl (pa_cons (pv 0) (pa_cons (pe_op (r := rAddU K) op_addU (pe_callB (r := rLenS K) cr_len (by rfl) T.len (by decide +kernel) (pa_cons (pv 3) pa_nil)) pe_int) pa_nil)))) (pss_one (ps_set (i := 3) sc_law_word.nd rfl (by first | exact Or.inl rfl | exact Or.inr rfl) (pe_op (r := rAddU K) op_addU (pe_op (r := rAddU K) op_addU (pe_slice (r := rSlL K) sl_list (pv 3) po_none (po_some (pv 5))) (pe_lst (pa_cons (C8.pe_c c__law_coin hr (by decide) rfl (pa_cons (pv 0) (pa_cons (pv 1) pa_nil))) pa_nil))) (pe_slice (r := rSlL K) sl_list (pv 3) (po_some (pv 5)) po_none)))))) (pss_one (ps_ret (pe_callTy (r := rTup K) cr_tup (by rfl) T.tuple (by decide +kernel) (pa_cons (pv 3) pa_nil)))))), fun p F ds hp => ?_⟩
  obtain ⟨many, n, rfl, m1, m60, n1, n5⟩ := hp
  have HP := HasP.self p F
  have rep : ∀ k : Nat, (List.replicate k [D.int 0]).flatten = (List.replicate k 0).map dN := fun k => by
    induction k with
    | zero => rfl
    | succ k ih => rw [List.replicate_succ, List.flatten_cons, ih]; rfl
  refine sq_asg (d := lstN (List.replicate (n - 1) 0)) (Ev1.is (en_mulLs (n := n - 1) (ds := [.int 0]) (en_lst (ea_cons (en_int 0) ea_nil) (by simp)) (Ev1.is (en_op1 (en_var 2 rfl) (en_int 1) o_int) (by show D.int _ = D.int _; congr 1; omega)) (by simp only [List.length_singleton]; omega) (by omega)) (by rw [rep])) ?_
  let Inv : Nat → G → Prop := fun i Γ' => ∃ (ns : List Nat) (x4 x5 : Option D), Γ' = [some (.adr p), some (dN many), some (dN n), some (lstN ns), x4, x5] ∧ ns.length = n - 1 + i ∧ (∀ k ∈ ns, k < many) ∧ n - 1 ≤ ns.count 0
  refine sg_seq (fun Γ' => ∃ i, i < 8 - n ∧ Inv i Γ') (sg_for (js := [4]) (it_rngN (b := 8 - n) (ea_consN (T := fun ds => ds = []) (ev_coin HP rfl (Ev1.is (en_op1 (en_int 8) (en_var 2 rfl) o_int) (by show D.int _ = D.int _; congr 1; omega)) (by omega) (by omega)) ea_nil fun d ds ⟨r, e, h⟩ e2 => ⟨r, by rw [e, e2], h⟩) (by omega)) (fun _ i Γ' => Inv i Γ') (fun xs _ => ⟨_, none, none, rfl, by rw [List.length_replicate]; rfl, fun k hk => by rw [(List.mem_replicate.mp hk).2]; omega, by rw [List.count_replicate_self]; exact Nat.le_refl _⟩) ?_ ?_) ?_
  · rintro xs i d Γ' ⟨k, hk, rfl⟩ hd ⟨ns, x4, x5, rfl, nl, nm, nc⟩
    have hi := (List.getElem?_eq_some_iff.mp hd).1
    rw [List.length_map, List.length_range] at hi
    refine ⟨_, tg_name 4, ?_⟩
    refine sq_asgN (ev_coin (k := ns.length + 1) HP rfl (Ev1.is (en_op1 (en_cb1 (ea_cons (en_var 3 rfl) ea_nil) (c_len (.inr (.inl rfl)))) (en_int 1) o_addI) (by rw [List.length_map]; rfl)) (by omega) (by omega)) ?_
    rintro _ ⟨a, rfl, ha⟩
    have al : a ≤ ns.length := by omega
    refine sg_asgN (S := fun d => ∃ k : Nat, k < many ∧ d = lstN (ns.take a ++ k :: ns.drop a)) (en_op (Sa := fun d => ∃ k : Nat, k < many ∧ d = lstN (ns.take a ++ [k])) (Sb := fun d => d = lstN (ns.drop a)) (en_op (Sa := fun d => d = lstN (ns.take a)) (Sb := fun d => ∃ k : Nat, k < many ∧ d = lstN [k]) (Ev1.is (en_slL (en_var 3 rfl) eo_none (eo_some (en_var 5 rfl))) ?_) ?_ ?_) (Ev1.is (en_slL (en_var 3 rfl) (eo_some (en_var 5 rfl)) eo_none) ?_) ?_) ?_
    · rw [cutD_to (by rw [List.length_map]; exact al), ← List.map_take]
    · exact EvN.mono (en_lstN (T := fun ds => ∃ k : Nat, ds = [dN k] ∧ k < many) (ea_consN (T := fun ds => ds = []) (ev_coin HP rfl (en_var 1 rfl) (by omega) (by omega)) ea_nil fun d ds ⟨r, e, h⟩ e2 => ⟨r, by rw [e, e2], h⟩) fun ds ⟨k, e, _⟩ => by rw [e]; simp) fun d ⟨ds, e, k, e2, h⟩ => ⟨k, h, by rw [e, e2]; rfl⟩
    · rintro _ _ rfl ⟨k, hk, rfl⟩
      exact OpN.mono (o_addL (by rw [List.length_map, List.length_map, List.length_take, List.length_singleton]; omega)) fun d e => ⟨k, hk, by rw [e, ← List.map_append]⟩
    · rw [cutD_from (by rw [List.length_map]; exact al), ← List.map_drop]
    · rintro _ _ ⟨k, hk, rfl⟩ rfl
      exact OpN.mono (o_addL (by rw [List.length_map, List.length_map, List.length_append, List.length_take, List.length_drop, List.length_singleton]; omega)) fun d e => ⟨k, hk, by rw [e, ← List.map_append, List.append_assoc]; rfl⟩
    · rintro _ ⟨k, hk, rfl⟩
      refine ⟨_, _, _, rfl, ?_, fun z hz => ?_, Nat.le_trans nc put_count⟩
      · rw [List.length_append, List.length_cons, List.length_take, List.length_drop]
        omega
      · rcases List.mem_append.mp hz with q | q
        · exact nm z (List.mem_of_mem_take q)
        · rcases List.mem_cons.mp q with q | q
          · rw [q]; exact hk
          · exact nm z (List.mem_of_mem_drop q)
  · rintro xs Γ' ⟨k, hk, rfl⟩ w
    rw [List.length_map, List.length_range] at w
    exact ⟨k, hk, w⟩
  · rintro Γ' ⟨i, hi, ns, x4, x5, rfl, nl, nm, nc⟩
    refine sg_ret (d := tupN ns) (en_cb1 (ea_cons (en_var 3 rfl) ea_nil) (c_tuple (.inr (.inl rfl)))) fun many' n' e => ?_
    injection e with e e2
    injection e2 with e2
    obtain rfl := dN_inj e
    obtain rfl := dN_inj e2
    exact ⟨ns, rfl, by omega, nm, nc⟩
end
end K03

set_option Elab.async false
set_option linter.all false
set_option maxRecDepth 100000
set_option maxHeartbeats 4000000
set_option autoImplicit false
namespace K03
open PySem L2 Tx WebM
theorem so_asgN {K : PySem.W.Frag} {m : Mo} {Γ : G} {te : TE} {ds : List D} {l : Addr} {H0 : Hp} {O : OutO} {i : Nat} {S : D → Prop} (h : EvN (m.ext l) K te Γ S) (k : ∀ d, S d → O.nx (Γ.set i (some d)) ds) : SGo m K l H0 (tAsg te (gName i)) Γ ds O := fun h0 i0 σ H us r e hl ra E M =>
  h σ H e _ fun v d H1 s r1 rv => M.nx _ ds _ H1 us (k d s) (m.trans r r1) (fun a o n q => (m.ext l).keep r1 e.i a o n q) ((e.mv (m := m.ext l) r1).set i rv) (m.keep r1 e.i.1 l _ (nFl h0 i0) hl) (ra.mv ((m.ext l).keep r1 e.i))
theorem pys_mem {x : D} : ∀ {l : List D}, x ∈ l → x.py ∈ D.pys l
  | [], h => nomatch h
  | y :: l, h => by
    rw [D.pys]
    rcases List.mem_cons.mp h with rfl | h
    · exact List.mem_cons_self
    · exact List.mem_cons_of_mem _ (pys_mem h)
theorem pur_key (p : WM) : pur 3 (keyD p) = true := pur_tup fun x hx => by
  simp only [List.mem_cons, List.not_mem_nil, or_false] at hx
  rcases hx with rfl | rfl
  · exact pur_tup fun y hy => by obtain ⟨r, _, rfl⟩ := List.mem_map.mp hy; exact pur_N r
  · exact pur_up (n := 1) (by decide) (pur_N p.2)
def knownB (ws : List WM) (p : WM) : Bool := !((D.pys (ws.map keyD)).any fun z => PyData.eqv z (keyD p).py)
theorem knownB_new {ws : List WM} {p : WM} (h : knownB ws p = true) : p ∉ ws := fun z => by
  have q : ((D.pys (ws.map keyD)).any fun z => PyData.eqv z (keyD p).py) = true := List.any_eq_true.mpr ⟨_, pys_mem (List.mem_map.mpr ⟨p, z, rfl⟩), eqv_self (pur_key p)⟩
  unfold knownB at h
  rw [q] at h
  cases h
def plainsD (ws : List WM) : D := .lst (ws.map keyD)
theorem plains_inj {ws vs : List WM} (e : plainsD ws = plainsD vs) : ws = vs := by
  injection e with e
  have go : ∀ {as bs : List WM}, as.map keyD = bs.map keyD → as = bs := fun {as} => by
    induction as with
    | nil => intro bs e; cases bs with | nil => rfl | cons b bs => cases e
    | cons a as ih =>
      intro bs e
      cases bs with
      | nil => cases e
      | cons b bs => injection e with e1 e2; rw [keyD_inj e1, ih e2]
  exact go e
/-- different webs of one size, perhaps none -/
structure PQ (ws : List WM) (n : Nat) : Prop where
  ok : ∀ p ∈ ws, WOk p.1 p.2
  sz : ∀ p ∈ ws, p.1.length = n
  nd : ws.Nodup
theorem PQ.nil {n : Nat} : PQ [] n := ⟨fun _ h => (nomatch h), fun _ h => (nomatch h), List.nodup_nil⟩
theorem PQ.more {ws : List WM} {n : Nat} (k : PQ ws n) {q : WM} (a1 : WOk q.1 q.2) (a2 : q.1.length = n) (e : q ∉ ws) : PQ (ws ++ [q]) n := by
  refine ⟨fun p' hp' => ?_, fun p' hp' => ?_, ?_⟩
  · rcases List.mem_append.mp hp' with z | z
    · exact k.ok p' z
    · rw [List.mem_singleton.mp z]; exact a1
  · rcases List.mem_append.mp hp' with z | z
    · exact k.sz p' z
    · rw [List.mem_singleton.mp z]; exact a2
  · rw [List.nodup_append]
    exact ⟨k.nd, by simp, fun a ha c hc z => e (by rw [← List.mem_singleton.mp hc, ← z]; exact ha)⟩
theorem PQ.filter {ws : List WM} {n : Nat} (k : PQ ws n) (f : WM → Bool) : PQ (ws.filter f) n := ⟨fun p hp => k.ok p (List.mem_filter.mp hp).1, fun p hp => k.sz p (List.mem_filter.mp hp).1, k.nd.filter f⟩
theorem PQ.pool {ws : List WM} {n : Nat} (k : PQ ws n) (h1 : 1 ≤ ws.length) (h2 : ws.length ≤ 80) : POk ws n := ⟨k.ok, k.sz, h1, h2, k.nd⟩
section
variable {P : Program} {w : World} {K : PySem.W.Frag} {mg : Str → Option Value} {base : Heap} {C Cp : Addr}
theorem sc_law_plain_pool : FnScope ["_law_pouch_here", "_law_size", "_law_most", "_law_found", "_law_turn", "_law_web"] ["_law_pouch_here", "_law_size", "_law_most"] (defScope s_law_plain_pool) := ⟨rfl, rfl, rfl, by decide +kernel, rfl, by decide +kernel, by decide +kernel⟩
def pre_pp (ds : List D) : Prop := ∃ n most : Nat, ds = [dN n, dN most] ∧ 1 ≤ n ∧ n ≤ 5 ∧ 1 ≤ most ∧ most ≤ 70
def S_pp (ds : List D) (d : D) : Prop := ∀ n most : Nat, ds = [dN n, dN most] → ∃ ws : List WM, d = plainsD ws ∧ PQ ws n ∧ ws.length ≤ most
theorem ok_law_plain_pool {f : Addr} {fd : FuncData} (Fu : Fun K "_law_plain_pool" "_law_plain_pool" s_law_plain_pool f fd) (T : Txt K mg C) (c__law_coin : CCoin P w K mg base) (c__law_plain_web : C8.Cal P w K mg base 4 "_law_plain_web" (spP K pre_heard S_plain) []) : FnOk P w K mg base CX0 6 f fd ["_law_pouch_here", "_law_size", "_law_most"] (spP K pre_pp S_pp) := by
  refine fn_pouch Fu sc_law_plain_pool (fun ds h => by obtain ⟨n, most, rfl, _⟩ := h; rfl) fun cdv A outer s H E hr => ⟨_, (pss_cons (ps_set (i := 3) sc_law_plain_pool.nd rfl (by first | exact Or.inl rfl | exact Or.inr rfl) (pe_lst pa_nil)) (pss_cons (ps_for PassesOwn.never rfl (pi_range1 rfl T.range (pa_cons (pe_op (r := rAddU K) op_addU pe_int (C8.pe_c c__law_coin hr (by decide) rfl (pa_cons (pv 0) (pa_cons (pv 2) pa_nil)))) pa_nil)) (pg_name (i := 4) sc_law_plain_pool.nd rfl (by first | exact Or.inl rfl | exact Or.inr rfl)) (pss_cons (ps_set (i := 5) sc_law_plain_pool.nd rfl (by first | exact Or.inl rfl | exact Or.inr rfl) (C8.pe_c c__law_plain_web hr (by decide) rfl (pa_cons (pv 0) (pa_cons (pv 1) pa_nil)))) (pss_one (ps_if (pt_cmpR (r := rInS K true) (op_notInS (hu65 hr)) (pv 5) (pv 3) (by rfl)) (pss_one (ps_expr (pe_bm PySem.F.plainAttrs_list PySem.F.slot_list_append PySem.F.type_list_append mt_append (pv 3) (pa_cons (pv 5) pa_nil)))) pss_nil)))) (pss_one (ps_ret (pv 3))))), fun p F ds hp => ?_⟩
  obtain ⟨n, most, rfl, n1, n5, m1, m70⟩ := hp
  have HP := HasP.self p F
  refine sq_newL ea_nil (by simp) (by show 3 < 6; decide) fun l H0 => ?_
  have HPl := HP.le (Mo.le_ext _ l)
  let V : Nat → G → List D → Prop := fun i Γ' ds' => ∃ (ws : List WM) (x4 x5 : Option D), ds' = ws.map keyD ∧ PQ ws n ∧ ws.length ≤ i ∧ i ≤ most ∧ Γ' = [some (.adr p), some (dN n), some (dN most), some (.adr l), x4, x5]
  refine so_seq (fun Γ' ds' => ∃ i, V i Γ' ds') (so_forRN (b := most + 1) (ea_consN (S := fun d => ∃ k : Nat, d = dN k ∧ k < most + 1) (T := fun x => x = []) (en_op (Sa := fun d => d = .int 1) (en_int 1) (ev_coin HPl rfl (en_var 2 rfl) (by omega) (by omega)) fun a b ea ⟨r, eb, hr⟩ => by subst ea; subst eb; exact OpN.mono o_addI fun d e => ⟨1 + r, by rw [e]; show D.int _ = D.int _; congr 1, by omega⟩) ea_nil fun d ds ⟨k, e, h⟩ e2 => ⟨k, by rw [e, e2], h⟩) (by omega) V ⟨[], none, none, rfl, .nil, Nat.le_refl _, Nat.zero_le _, rfl⟩ ?_ fun i Γ' ds' v => ⟨i, v⟩) ?_
  · rintro i Γ' ds' hi ⟨ws, x4, x5, rfl, pk, hw, _, rfl⟩
    refine ⟨_, _, tg_name 4, so_seq (fun Γ3 ds3 => ∃ q : WM, ds3 = ws.map keyD ∧ WOk q.1 q.2 ∧ q.1.length = n ∧ Γ3 = [some (.adr p), some (dN n), some (dN most), some (.adr l), some (dN i), some (keyD q)]) (so_asgN (S := fun d => ∃ q : WM, d = keyD q ∧ WOk q.1 q.2 ∧ q.1.length = n) (en_pcall1 HPl (ds := [dN n]) (ea_cons (en_var 0 rfl) (ea_cons (en_var 1 rfl) ea_nil)) ⟨n, rfl, n1, n5⟩ fun d hd => by obtain ⟨h, ms, e, a, b⟩ := hd n rfl; exact ⟨(h, ms), e, a, b⟩) fun d ⟨q, e, a1, a2⟩ => ⟨q, rfl, a1, a2, by rw [e]; rfl⟩) ?_⟩
    rintro Γ3 ds3 ⟨q, rfl, a1, a2, rfl⟩
    refine so_if (i := 3) (b := knownB ws q) rfl (et_test (en_op1 (en_var 5 rfl) (en_var 3 rfl) (o_inP (neg := true) (n := 3) (by decide) (.inr (.inl rfl)) (pur_key q) fun x hx => by obtain ⟨y, _, rfl⟩ := List.mem_map.mp hx; exact pur_key y))) (fun e => ?_) fun _ => so_next ⟨ws, _, _, rfl, pk, by omega, by omega, rfl⟩
    exact so_app (i := 3) rfl (en_var 5 rfl) (by rw [List.length_map]; omega) ⟨ws ++ [q], _, _, by rw [List.map_append]; rfl, pk.more a1 a2 (knownB_new e), by rw [List.length_append]; show ws.length + 1 ≤ i + 1; omega, by omega, rfl⟩
  · rintro Γ' ds' ⟨i, ws, x4, x5, rfl, pk, hw, him, rfl⟩
    refine so_dis (i := 3) rfl (sg_ret (en_var 3 rfl) fun n' most' e => ?_)
    injection e with e e2
    injection e2 with e2 _
    rw [← dN_inj e, ← dN_inj e2]
    exact ⟨ws, rfl, pk, by omega⟩
theorem sc_law_pool_of : FnScope ["_law_plains", "_law_one"] ["_law_plains"] (defScope s_law_pool_of) := ⟨rfl, rfl, rfl, by decide +kernel, rfl, by decide +kernel, by decide +kernel⟩
def pre_made (ds : List D) : Prop := ∃ (ws : List WM) (n : Nat), ds = [plainsD ws] ∧ POk ws n
def S_made (w : World) (C Cp : Addr) (ds : List D) (d : D) : Prop := ∀ ws : List WM, ds = [plainsD ws] → d = poolD w C Cp ws
theorem ok_law_pool_of {f : Addr} {fd : FuncData} (Fu : Fun K "_law_pool_of" "_law_pool_of" s_law_pool_of f fd) (T : TxtP K mg C Cp) (k_Web2 : CWeb2 P w K mg base C) (k_Pool1 : CPool P w K mg base C Cp) : FnOk P w K mg base CX0 9 f fd ["_law_plains"] (spS K pre_made (S_made w C Cp)) := by
  refine fn_pure Fu sc_law_pool_of (fun ds h => by obtain ⟨ws, n, rfl, _⟩ := h; rfl) fun cdv A outer s H E hr => ⟨_, (pss_one (ps_ret (C8.pe_mk k_Pool1 hr (by decide) rfl (pa_cons (pe_callTy (r := rTup K) cr_tup (by rfl) T.tuple (by decide +kernel) (pa_cons (pe_lc (own := [("_law_one", 1)]) rfl sc_law_pool_of.nd (show PI _ _ _ (iSeq K _) from pi_seq (pv 0)) (blkOk_by (by kernel_rfl)) (fun _ _ _ _ _ => (pg_name (i := 1) sc_law_pool_of.nd rfl (by first | exact Or.inl rfl | exact Or.inr rfl))) (fun _ _ _ _ _ => pts_nil) (fun _ _ _ _ _ => (C8.pe_mk k_Web2 hr (by decide) rfl (pa_cons (pe_ix (r := rIx K) ix_seq (pv 1) pe_int (fun _ _ => rfl)) (pa_cons (pe_ix (r := rIx K) ix_seq (pv 1) pe_int (fun _ _ => rfl)) pa_nil))))) pa_nil)) pa_nil)))), fun F ds hp => ?_⟩
  obtain ⟨ws, n, rfl, pk⟩ := hp
  have n80 := pk.n80
  refine sg_retN (S := fun d => d = poolD w C Cp ws) (EvN.mono (en_makeN (ds := [wsD C ws]) (dds := []) (ea_cons (Ev1.is (en_cb1 (ea_cons (en_lcMA (xs := ws) keyD (wD C) (fun x _ y _ e => keyD_inj e) (js := [1]) (by simp) (it_seq (d := plainsD ws) (en_var 0 rfl) (.inr (.inl rfl))) (by omega) fun m' l p hp => ⟨_, tg_name 1, EvN.mono (en_makeN (ds := [hdD p.1, tupN p.2]) (dds := []) (ea_cons (en_op1 (en_var 1 rfl) (en_int 0) (o_ix (d := hdD p.1) (i := 0) (.inl rfl) (atI_of (i := 0) rfl))) (ea_cons (en_op1 (en_var 1 rfl) (en_int 1) (o_ix (d := tupN p.2) (i := 1) (.inl rfl) (atI_of (i := 1) rfl))) ea_nil)) (fun _ _ => .nil) (pre_web (pk.ok p hp))) fun d k => s_web k⟩) ea_nil) (c_tuple (.inr (.inl rfl)))) rfl) ea_nil) (fun _ _ => .nil) ⟨_, n, rfl, pk⟩) fun d k => ?_) fun d e vs e2 => ?_
  · obtain ⟨xs, e, s⟩ := k
    rw [e, s _ rfl]
  · rw [e, plains_inj (List.cons.inj e2).1]
end
end K03

set_option Elab.async false
set_option linter.all false
set_option maxRecDepth 100000
set_option maxHeartbeats 4000000
set_option autoImplicit false
namespace K03
open PySem L2 Tx WebM
def restH (n : Nat) : Hd := (List.range n).map fun t => (List.range n).filter fun x => decide (x ≠ t)
theorem full_rest (n : Nat) : fullH n = restH n := by
  unfold fullH partH nrm restH
  refine List.map_congr_left fun t ht => List.filter_congr fun x hx => ?_
  have e : aheadL [List.range n] [] t = List.range n := by simp only [aheadL]; rw [if_pos ht, List.nil_append]
  show (decide (x ∈ aheadL [List.range n] [] t) && decide (x ≠ t)) = decide (x ≠ t)
  rw [e, decide_eq_true hx]
  rfl
section
variable {P : Program} {w : World} {K : PySem.W.Frag} {mg : Str → Option Value} {base : Heap} {C : Addr}
section
variable {m : Mo} {Γ : G} {te tm to : TE} {E : XK}
theorem eqW_self (h : Hd) (ms : List Nat) : eqW h ms h ms = true := by
  unfold eqW
  rw [eqv_self (pur_hd h), eqv_self (pur_N ms)]
  rfl
theorem o_neW {h : Hd} {ms : List Nat} (wk : WOk h ms) : Op1 m K (rNeU K C (spE K C)) (webD C h ms) (webD C h ms) (.bl false) := by
  have := o_neOS (m := m) (K := K) (C := C) (ns := webNs) (xs := webXs h ms) (x := webD C h ms) (pre := pre_eq C) (Sf := S_eq C) (b := eqW h ms h ms) (.inl ⟨_, _, rfl⟩) ⟨h, ms, _, rfl, wk, .inl ⟨h, ms, rfl, wk⟩⟩ fun d hd => hd.1 _ _ _ _ rfl
  rw [eqW_self] at this
  exact this
theorem o_neUS {sp : Sp} {n : Nat} {a : D} (hn : n ≤ 60) (ha : pur n a = true) : Op1 m K (rNeU K C sp) a a (.bl false) := fun x y H I rx ry Q q => .inl (o_neS hn ha x y H I rx ry Q q)
theorem o_neUI {sp : Sp} {i j : Int} : Op1 m K (rNeU K C sp) (.int i) (.int j) (.bl (!decide (i = j))) := fun x y H I rx ry Q q => .inl (o_neI x y H I rx ry Q q)
theorem ev_self {nm : Str} {n : Nat} {g : Hd → List Nat → D} {h : Hd} {ms : List Nat} (a : Ev1 m K te Γ (webD C h ms)) (wk : WOk h ms) : Ev1 m K (tProp C (spS K (pre_self C) (S_self C g)) [] E te) Γ (g h ms) :=
  en_propN (S := fun d => d = g h ms) a ⟨h, ms, rfl, wk⟩ fun d hd => hd h ms rfl
theorem ev_maker {g : Nat → Hd} {n : Nat} (e : Ev1 m K te Γ (dN n)) (n1 : 1 ≤ n) (n5 : n ≤ 5) : Ev1 m K (tCall (spS K pre_sz (S_sz C g)) [] E (tCons te tNil)) Γ (plainW C (g n)) :=
  en_call (ds := [dN n]) (S := fun d => d = plainW C (g n)) (ea_cons e ea_nil) ⟨n, rfl, n1, n5⟩ fun d hd => hd n rfl
theorem ev_maker2 {g : Nat → Nat → Hd} {n c : Nat} (e : Ev1 m K te Γ (dN n)) (e2 : Ev1 m K tm Γ (dN c)) (n5 : n ≤ 5) (hc : c < n) : Ev1 m K (tCall (spS K pre_sc (S_sc C g)) [] E (tCons te (tCons tm tNil))) Γ (plainW C (g n c)) :=
  en_call (ds := [dN n, dN c]) (S := fun d => d = plainW C (g n c)) (ea_cons e (ea_cons e2 ea_nil)) ⟨n, c, rfl, n5, hc⟩ fun d hd => hd n c rfl
end
abbrev PRoots (P : Program) (w : World) (K : PySem.W.Frag) (mg : Str → Option Value) (base : Heap) (C : Addr) : Prop := C8.PrM P w K mg base 1 C "roots" (spS K (pre_self C) (S_self C fun h _ => tupN (rootsOf h)))
theorem sc_law_makers_right : FnScope ["_law_size", "_law_center", "_law_rest", "_law_star", "_law_chain", "_law_thread", "_law_other"] ["_law_size", "_law_center"] (defScope s_law_makers_right) := ⟨rfl, rfl, rfl, by decide +kernel, rfl, by decide +kernel, by decide +kernel⟩
def pre_mr (ds : List D) : Prop := ∃ n c : Nat, ds = [dN n, dN c] ∧ n ≤ 5 ∧ c < n
theorem ok_law_makers_right {f : Addr} {fd : FuncData} (Fu : Fun K "_law_makers_right" "_law_makers_right" s_law_makers_right f fd) (T : Txt K mg C)
    (c_silent_web : C8.Cal P w K mg base 7 "silent_web" (spS K pre_sz (S_sz C silH)) []) (c_full_web : C8.Cal P w K mg base 10 "full_web" (spS K pre_sz (S_sz C fullH)) [])
    (c_star_web : C8.Cal P w K mg base 7 "star_web" (spS K pre_sc (S_sc C starH)) []) (c_chain_web : C8.Cal P w K mg base 7 "chain_web" (spS K pre_sc (S_sc C chnH)) [])
    (k_Web1 : CWeb1 P w K mg base C) (p_roots : PRoots P w K mg base C) (O_eq : OwnK P w K mg base C "__eq__" 1 (spE K C)) (O_ne : NeC K C) :
    FnOk P w K mg base CX0 12 f fd ["_law_size", "_law_center"] (spF K pre_mr fun _ => .bl true) := by
  refine fn_pure Fu sc_law_makers_right (fun ds h => by obtain ⟨n, c, rfl, _⟩ := h; rfl) fun cdv A outer s H E hr => ⟨_, (pss_cons (ps_setLc (i := 2) (own := [("_law_thread", 5)]) rfl sc_law_makers_right.nd rfl rfl (sw_true rfl rfl rfl (by decide +kernel)) (pi_range1 rfl T.range (pa_cons (pv 0) pa_nil)) (blkOk_by (by kernel_rfl)) (fun _ _ _ _ _ => (pg_name (i := 5) sc_law_makers_right.nd rfl (by first | exact Or.inl rfl | exact Or.inr rfl))) (fun _ _ _ _ _ => pts_nil) (fun _ _ _ _ _ => (pe_callTy (r := rTup K) cr_tup (by rfl) T.tuple (by decide +kernel) (pa_cons (pe_lc (own := [("_law_other", 6)]) rfl sc_law_makers_right.nd (pi_range1 rfl T.range (pa_cons (pv 0) pa_nil)) (blkOk_by (by kernel_rfl)) (fun _ _ _ _ _ => (pg_name (i := 6) sc_law_makers_right.nd rfl (by first | exact Or.inl rfl | exact Or.inr rfl))) (fun _ _ _ _ _ => (pts_one (pt_cmpR (r := rNeU K C (spE K C)) (op_neK O_eq O_ne hr (by decide) hr.units) (pv 6) (pv 5) (nomark _)))) (fun _ _ _ _ _ => (pv 6))) pa_nil)))) (pss_cons (ps_setLc (i := 3) (own := [("_law_thread", 5)]) rfl sc_law_makers_right.nd rfl rfl (sw_true rfl rfl rfl (by decide +kernel)) (pi_range1 rfl T.range (pa_cons (pv 0) pa_nil)) (blkOk_by (by kernel_rfl)) (fun _ _ _ _ _ => (pg_name (i := 5) sc_law_makers_right.nd rfl (by first | exact Or.inl rfl | exact Or.inr rfl))) (fun _ _ _ _ _ => pts_nil) (fun _ _ _ _ _ => (pe_ifExp (pt_cmpR (r := rEqD K) (op_eqD hr.units) (pv 5) (pv 1) (nomark _)) (pe_tup pa_nil) (pe_tup (pa_cons (pv 1) pa_nil))))) (pss_cons (ps_setLc (i := 4) (own := [("_law_thread", 5)]) rfl sc_law_makers_right.nd rfl rfl (sw_true rfl rfl rfl (by decide +kernel)) (pi_range1 rfl T.range (pa_cons (pv 0) pa_nil)) (blkOk_by (by kernel_rfl)) (fun _ _ _ _ _ => (pg_name (i := 5) sc_law_makers_right.nd rfl (by first | exact Or.inl rfl | exact Or.inr rfl))) (fun _ _ _ _ _ => pts_nil) (fun _ _ _ _ _ => (pe_ifExp (pt_cmpR (r := rEqD K) (op_eqD hr.units) (pv 5) (pv 1) (nomark _)) (pe_tup pa_nil) (pe_tup (pa_cons (pe_op op_mod (pe_op op_sub (pe_op (r := rAddU K) op_addU (pv 5) (pv 0)) pe_int) (pv 0)) pa_nil))))) (pss_cons (ps_if (PW.pt (pw_or (pt_cmpR (r := rNeU K C (spE K C)) (op_neK O_eq O_ne hr (by decide) hr.units) (C8.pe_c c_silent_web hr (by decide) rfl (pa_cons (pv 0) pa_nil)) (C8.pe_mk k_Web1 hr (by decide) rfl (pa_cons (pe_op (r := rMulU K) op_mulU (pe_tup (pa_cons (pe_tup pa_nil) pa_nil)) (pv 0)) pa_nil)) (nomark _)) (pw_or1 (pt_cmpR (r := rNeU K C (spE K C)) (op_neK O_eq O_ne hr (by decide) hr.units) (C8.pe_c c_full_web hr (by decide) rfl (pa_cons (pv 0) pa_nil)) (C8.pe_mk k_Web1 hr (by decide) rfl (pa_cons (pe_callTy (r := rTup K) cr_tup (by rfl) T.tuple (by decide +kernel) (pa_cons (pv 2) pa_nil)) pa_nil)) (nomark _))))) (pss_one (ps_ret pe_bl)) pss_nil) (pss_cons (ps_if (PW.pt (pw_or (pt_cmpR (r := rNeU K C (spE K C)) (op_neK O_eq O_ne hr (by decide) hr.units) (C8.pe_c c_star_web hr (by decide) rfl (pa_cons (pv 0) (pa_cons (pv 1) pa_nil))) (C8.pe_mk k_Web1 hr (by decide) rfl (pa_cons (pe_callTy (r := rTup K) cr_tup (by rfl) T.tuple (by decide +kernel) (pa_cons (pv 3) pa_nil)) pa_nil)) (nomark _)) (pw_or1 (pt_cmpR (r := rNeU K C (spE K C)) (op_neK O_eq O_ne hr (by decide) hr.units) (C8.pe_c c_chain_web hr (by decide) rfl (pa_cons (pv 0) (pa_cons (pv 1) pa_nil))) (C8.pe_mk k_Web1 hr (by decide) rfl (pa_cons (pe_callTy (r := rTup K) cr_tup (by rfl) T.tuple (by decide +kernel) (pa_cons (pv 4) pa_nil)) pa_nil)) (nomark _))))) (pss_one (ps_ret pe_bl)) pss_nil) (pss_one (ps_ret (pe_chain (r := rEqD K) (r' := rEqD K) (op_eqD hr.units) (op_eqD hr.units) (C8.pe_prM p_roots hr (by decide) (C8.pe_c c_star_web hr (by decide) rfl (pa_cons (pv 0) (pa_cons (pv 1) pa_nil)))) (pe_tup (pa_cons (pv 1) pa_nil)) (C8.pe_prM p_roots hr (by decide) (C8.pe_c c_chain_web hr (by decide) rfl (pa_cons (pv 0) (pa_cons (pv 1) pa_nil)))))))))))), fun F ds hp => ?_⟩
  obtain ⟨n, c, rfl, n5, hc⟩ := hp
  have n1 : 1 ≤ n := by omega
  refine sq_asg (d := .lst ((restH n).map tupN)) (Ev1.is (en_lcMA (xs := List.range n) dN (fun t => tupN ((List.range n).filter fun x => decide (x ≠ t))) (fun x _ y _ e => dN_inj e) (js := [5]) (by simp) (it_rng (n := n) (ea_cons (en_var 0 rfl) ea_nil) (by omega)) (by rw [List.length_range]; omega) fun m' l t ht => ⟨_, tg_name 5, ?_⟩) (by unfold restH; rw [List.map_map]; rfl)) ?_
  · refine en_cb1 (ea_cons (en_lcM dN (fun x => decide (x ≠ t)) dN (fun x _ y _ e => dN_inj e) (js := [6]) (by simp) (it_rng (n := n) (ea_cons (en_var 0 rfl) ea_nil) (by omega)) (by rw [List.length_range]; omega) fun m' l x hx => ⟨_, tg_name 6, ?_, fun _ => en_var 6 rfl⟩) ea_nil) (c_tuple (.inr (.inl rfl)))
    refine EvT1.is (et_test (en_op1 (en_var 6 rfl) (en_var 5 rfl) (o_neUI (C := C)))) ?_
    by_cases z : x = t
    · subst z; simp
    · have : ¬ ((x : Int) = (t : Int)) := by omega
      simp [z, this]
  refine sq_asg (d := .lst ((starH n c).map tupN)) (Ev1.is (en_lcMA (xs := List.range n) dN (fun t => tupN (if t = c then [] else [c])) (fun x _ y _ e => dN_inj e) (js := [5]) (by simp) (it_rng (n := n) (ea_cons (en_var 0 rfl) ea_nil) (by omega)) (by rw [List.length_range]; omega) fun m' l t ht => ⟨_, tg_name 5, ?_⟩) (by unfold starH; rw [List.map_map]; rfl)) ?_
  · refine en_if1 (k := decide ((t : Int) = (c : Int))) (et_test (en_op1 (en_var 5 rfl) (en_var 1 rfl) o_eqI)) (fun e => ?_) (fun e => ?_)
    · rw [if_pos (by have := of_decide_eq_true e; omega)]
      exact en_tup ea_nil (by simp)
    · rw [if_neg (by have := of_decide_eq_false e; omega)]
      exact en_tup (ea_cons (en_var 1 rfl) ea_nil) (by simp)
  refine sq_asg (d := .lst ((chnH n c).map tupN)) (Ev1.is (en_lcMA (xs := List.range n) dN (fun t => tupN (if t = c then [] else [(t + n - 1) % n])) (fun x _ y _ e => dN_inj e) (js := [5]) (by simp) (it_rng (n := n) (ea_cons (en_var 0 rfl) ea_nil) (by omega)) (by rw [List.length_range]; omega) fun m' l t ht => ⟨_, tg_name 5, ?_⟩) (by unfold chnH; rw [List.map_map]; rfl)) ?_
  · rw [List.mem_range] at ht
    refine en_if1 (k := decide ((t : Int) = (c : Int))) (et_test (en_op1 (en_var 5 rfl) (en_var 1 rfl) o_eqI)) (fun e => ?_) (fun e => ?_)
    · rw [if_pos (by have := of_decide_eq_true e; omega)]
      exact en_tup ea_nil (by simp)
    · rw [if_neg (by have := of_decide_eq_false e; omega)]
      refine Ev1.is (en_tup (ea_cons (en_op1 (en_op1 (en_op1 (en_var 5 rfl) (en_var 0 rfl) o_addI) (en_int 1) o_int) (en_var 0 rfl) (o_intC (g := fun i j => i % j) (show (0 : Int) < (n : Int) by omega))) ea_nil) (by simp)) ?_
      show D.tup [D.int _] = D.tup [D.int _]
      congr 3
      have : n = 1 ∨ n = 2 ∨ n = 3 ∨ n = 4 ∨ n = 5 := by omega
      rcases this with rfl | rfl | rfl | rfl | rfl <;> omega
  have wS := plain_ok (sil_ok n1 n5)
  have wF : WOk (fullH n) (zeros (fullH n)) := plain_ok (part_ok (full_pt n1 n5))
  have wT := plain_ok (star_ok n5 hc)
  have wC := plain_ok (chn_ok n5 hc)
  have made : ∀ {m' : Mo} {Γ : G} {E : XK} {i : Nat} {h : Hd}, Γ[i]? = some (some (.lst (h.map tupN))) → WebM.Ok h → Ev1 m' K (tMake C (spIS K C pre_Web webNs S_Web) [.non] E (tCons (tCB (rTup K) (tCons (tVar i) tNil)) tNil)) Γ (plainW C h) := fun e ok => ev_web1 (en_cb1 (ea_cons (en_var _ e) ea_nil) (c_tuple (.inr (.inl rfl)))) ok
  refine sg_seqIf (b := false) (EvT1.is (et_or (p := false) (k := false) (et_test (en_op1 (ev_maker (g := silH) (en_var 0 rfl) n1 n5) (ev_web1 (ev_sil (i := 0) rfl n1 n5) (sil_ok n1 n5)) (o_neW wS))) fun _ => et_test (en_op1 (ev_maker (g := fullH) (en_var 0 rfl) n1 n5) (Ev1.is (made (h := restH n) rfl (full_rest n ▸ part_ok (full_pt n1 n5))) (by rw [← full_rest])) (o_neW wF))) rfl) (fun e => nomatch e) fun _ => ?_
  refine sg_seqIf (b := false) (EvT1.is (et_or (p := false) (k := false) (et_test (en_op1 (ev_maker2 (g := starH) (en_var 0 rfl) (en_var 1 rfl) n5 hc) (made (h := starH n c) rfl (star_ok n5 hc)) (o_neW wT))) fun _ => et_test (en_op1 (ev_maker2 (g := chnH) (en_var 0 rfl) (en_var 1 rfl) n5 hc) (made (h := chnH n c) rfl (chn_ok n5 hc)) (o_neW wC))) rfl) (fun e => nomatch e) fun _ => ?_
  refine sg_ret (d := .bl true) (Ev1.is (en_chain (k1 := true) (k2 := true) (a := tupN [c]) (b := tupN [c]) (c := tupN [c]) (Ev1.is (ev_self (nm := "roots") (n := 1) (g := fun h _ => tupN (rootsOf h)) (ev_maker2 (g := starH) (en_var 0 rfl) (en_var 1 rfl) n5 hc) wT) (by show tupN (rootsOf (starH n c)) = _; rw [star_roots hc])) (en_tup (ea_cons (en_var 1 rfl) ea_nil) (by simp)) (fun _ => Ev1.is (ev_self (nm := "roots") (n := 1) (g := fun h _ => tupN (rootsOf h)) (ev_maker2 (g := chnH) (en_var 0 rfl) (en_var 1 rfl) n5 hc) wC) (by show tupN (rootsOf (chnH n c)) = _; rw [chn_roots n5 hc])) (o_eqS (n := 1) (by decide) (pur_N [c])) fun _ => o_eqS (n := 1) (by decide) (pur_N [c])) rfl) rfl
end
end K03

set_option Elab.async false
set_option linter.all false
set_option maxRecDepth 100000
set_option maxHeartbeats 4000000
set_option autoImplicit false
namespace K03
open PySem L2 Tx WebM
/-- whether a web has roots -/
noncomputable def rootB (h : Hd) : Bool := !(rootsOf h).isEmpty
noncomputable def tB (d : D) : Bool := @decide (∃ p : WM, d = keyD p ∧ rootB p.1 = true) (Classical.propDecidable _)
theorem tB_is (p : WM) : tB (keyD p) = rootB p.1 := by
  unfold tB
  by_cases e : rootB p.1 = true
  · rw [e]; exact @decide_eq_true _ (Classical.propDecidable _) ⟨p, rfl, e⟩
  · have e2 : rootB p.1 = false := by cases q : rootB p.1 with | true => exact absurd q e | false => rfl
    rw [e2]
    exact @decide_eq_false _ (Classical.propDecidable _) fun ⟨q, a, b⟩ => e (by rw [keyD_inj a]; exact b)
theorem ne_nil : ∀ l : List Nat, (!PyData.eqv (lstN l).py (D.lst []).py) = !l.isEmpty
  | [] => rfl
  | _ :: _ => rfl
theorem eq_nilK (k : List (List Nat)) : PyData.eqv (D.lst (k.map tupN)).py (D.lst []).py = k.isEmpty := by
  cases k with
  | nil => rfl
  | cons a r => rfl
def kB (ws : List WM) (d : D) : Bool := !((D.pys (ws.map keyD)).any fun z => PyData.eqv z d.py)
theorem rep0 : ∀ k : Nat, (List.replicate k [D.int 0]).flatten = (List.replicate k 0).map dN
  | 0 => rfl
  | k + 1 => by rw [List.replicate_succ, List.flatten_cons, rep0 k]; rfl
/-- the webs that are used: those with roots, and one more that is new -/
noncomputable def usedL (ws : List WM) (q : WM) : List WM := (ws.filter fun p => rootB p.1) ++ if knownB (ws.filter fun p => rootB p.1) q = true then [q] else []
theorem used_ok {ws : List WM} {n : Nat} {q : WM} (k : PQ ws n) (a1 : WOk q.1 q.2) (a2 : q.1.length = n) (hl : ws.length ≤ 3) : POk (usedL ws q) n ∧ (usedL ws q).length ≤ 4 := by
  have k' := k.filter fun p => rootB p.1
  have l' : (ws.filter fun p => rootB p.1).length ≤ 3 := Nat.le_trans (List.length_filter_le _ _) hl
  unfold usedL
  generalize ws.filter (fun p => rootB p.1) = us at k' l'
  by_cases e : knownB us q = true
  · rw [if_pos e]
    have h4 : (us ++ [q]).length ≤ 4 := by rw [List.length_append, List.length_singleton]; omega
    exact ⟨(k'.more a1 a2 (knownB_new e)).pool (by rw [List.length_append, List.length_singleton]; omega) (by omega), h4⟩
  · rw [if_neg e, List.append_nil]
    refine ⟨k'.pool ?_ (by omega), by omega⟩
    cases us with
    | nil => exact absurd rfl e
    | cons a r => rw [List.length_cons]; omega
section
variable {P : Program} {w : World} {K : PySem.W.Frag} {mg : Str → Option Value} {base : Heap} {C Cp : Addr}
abbrev CKnown (P : Program) (w : World) (K : PySem.W.Frag) (mg : Str → Option Value) (base : Heap) (C Cp : Addr) : Prop := C8.Cal P w K mg base 9 "known" (spS K (pre_word w C Cp) (S_kb w C Cp)) []
abbrev CKbe (P : Program) (w : World) (K : PySem.W.Frag) (mg : Str → Option Value) (base : Heap) (C Cp : Addr) : Prop := C8.Cal P w K mg base 9 "known_by_everyone" (spS K (pre_word w C Cp) (S_kbe w C Cp)) []
theorem sc_law_known_right : FnScope ["_law_pouch_here", "_law_size", "_law_webs_here", "_law_plain", "_law_told", "_law_rows", "_law_pool", "_law_word_here", "_law_one", "_law_root", "_law_thread", "_law_row"] ["_law_pouch_here", "_law_size"] (defScope s_law_known_right) := ⟨rfl, rfl, rfl, by decide +kernel, rfl, by decide +kernel, by decide +kernel⟩
theorem ok_law_known_right {f : Addr} {fd : FuncData} (Fu : Fun K "_law_known_right" "_law_known_right" s_law_known_right f fd) (T : TxtP K mg C Cp)
    (c__law_plain_pool : C8.Cal P w K mg base 6 "_law_plain_pool" (spP K pre_pp S_pp) [])
    (c__law_root_list : C8.Cal P w K mg base 2 "_law_root_list" (spS K pre_roots_of S_root_list) [])
    (c__law_heard : C8.Cal P w K mg base 2 "_law_heard" (spP K pre_heard S_heard) [])
    (c__law_pool_of : C8.Cal P w K mg base 9 "_law_pool_of" (spS K pre_made (S_made w C Cp)) [])
    (c__law_word : C8.Cal P w K mg base 2 "_law_word" (spP K pre_w S_w) [])
    (c_known : CKnown P w K mg base C Cp) (c_known_by_everyone : CKbe P w K mg base C Cp) :
    FnOk P w K mg base CX0 11 f fd ["_law_pouch_here", "_law_size"] (spP K pre_heard fun _ d => d = .bl true) := by
  refine fn_pouch Fu sc_law_known_right (fun ds h => by obtain ⟨n, rfl, _⟩ := h; rfl) fun cdv A outer s H E hr => ⟨_, (pss_cons (ps_set (i := 2) sc_law_known_right.nd rfl (by first | exact Or.inl rfl | exact Or.inr rfl) (pe_lc (own := [("_law_one", 8)]) rfl sc_law_known_right.nd (show PI _ _ _ (iSeq K _) from pi_seq (C8.pe_c c__law_plain_pool hr (by decide) rfl (pa_cons (pv 0) (pa_cons (pv 1) (pa_cons pe_int pa_nil))))) (blkOk_by (by kernel_rfl)) (fun _ _ _ _ _ => (pg_name (i := 8) sc_law_known_right.nd rfl (by first | exact Or.inl rfl | exact Or.inr rfl))) (fun _ _ _ _ _ => (pts_one (pt_cmpR (r := rNeD K) (op_neD hr.units) (C8.pe_c c__law_root_list hr (by decide) rfl (pa_cons (pe_ix (r := rIx K) ix_seq (pv 8) pe_int (fun _ _ => rfl)) pa_nil)) (pe_lst pa_nil) (nomark _)))) (fun _ _ _ _ _ => (pv 8)))) (pss_cons (ps_set (i := 2) sc_law_known_right.nd rfl (by first | exact Or.inl rfl | exact Or.inr rfl) (pe_op (r := rAddU K) op_addU (pv 2) (pe_lc (own := [("_law_one", 8)]) rfl sc_law_known_right.nd (show PI _ _ _ (iSeq K _) from pi_seq (pe_lst (pa_cons (pe_tup (pa_cons (C8.pe_c c__law_heard hr (by decide) rfl (pa_cons (pv 0) (pa_cons (pv 1) pa_nil))) (pa_cons (pe_op (r := rMulU K) op_mulU (pe_tup (pa_cons pe_int pa_nil)) (pv 1)) pa_nil))) pa_nil))) (blkOk_by (by kernel_rfl)) (fun _ _ _ _ _ => (pg_name (i := 8) sc_law_known_right.nd rfl (by first | exact Or.inl rfl | exact Or.inr rfl))) (fun _ _ _ _ _ => (pts_one (pt_cmpR (r := rInS K true) (op_notInS (hu65 hr)) (pv 8) (pv 2) (by rfl)))) (fun _ _ _ _ _ => (pv 8))))) (pss_cons (ps_set (i := 3) sc_law_known_right.nd rfl (by first | exact Or.inl rfl | exact Or.inr rfl) (pe_ix (r := rIx K) ix_seq (pv 2) pe_int (fun _ _ => rfl))) (pss_cons (ps_par (i := 6) (j := 7) rfl sc_law_known_right.nd rfl rfl (by decide) rfl rfl (pa_cons (C8.pe_c c__law_pool_of hr (by decide) rfl (pa_cons (pv 2) pa_nil)) (pa_cons (C8.pe_c c__law_word hr (by decide) rfl (pa_cons (pv 0) (pa_cons (pe_callB (r := rLenS K) cr_len (by rfl) T.len (by decide +kernel) (pa_cons (pv 2) pa_nil)) (pa_cons (pv 1) pa_nil)))) pa_nil)) (by rfl)) (pss_cons (ps_set (i := 4) sc_law_known_right.nd rfl (by first | exact Or.inl rfl | exact Or.inr rfl) (C8.pe_c c_known_by_everyone hr (by decide) rfl (pa_cons (pv 6) (pa_cons (pv 7) pa_nil)))) (pss_cons (ps_if (pt_cmpR (r := rNeD K) (op_neD hr.units) (pe_lc (own := [("_law_root", 9)]) rfl sc_law_known_right.nd (show PI _ _ _ (iSeq K _) from pi_seq (C8.pe_c c__law_root_list hr (by decide) rfl (pa_cons (pe_ix (r := rIx K) ix_seq (pv 3) pe_int (fun _ _ => rfl)) pa_nil))) (blkOk_by (by kernel_rfl)) (fun _ _ _ _ _ => (pg_name (i := 9) sc_law_known_right.nd rfl (by first | exact Or.inl rfl | exact Or.inr rfl))) (fun _ _ _ _ _ => (pts_one (pt_cmpR (r := rInS K true) (op_notInS (hu65 hr)) (pv 9) (pv 4) (by rfl)))) (fun _ _ _ _ _ => (pv 9))) (pe_lst pa_nil) (nomark _)) (pss_one (ps_ret pe_bl)) pss_nil) (pss_cons (ps_set (i := 5) sc_law_known_right.nd rfl (by first | exact Or.inl rfl | exact Or.inr rfl) (C8.pe_c c_known hr (by decide) rfl (pa_cons (pv 6) (pa_cons (pv 7) pa_nil)))) (pss_one (ps_ret (pe_cmpR (r := rEqD K) (op_eqD hr.units) (pv 4) (pe_callTy (r := rTup K) cr_tup (by rfl) T.tuple (by decide +kernel) (pa_cons (pe_lc (own := [("_law_thread", 10)]) rfl sc_law_known_right.nd (pi_range1 rfl T.range (pa_cons (pv 1) pa_nil)) (blkOk_by (by kernel_rfl)) (fun _ _ _ _ _ => (pg_name (i := 10) sc_law_known_right.nd rfl (by first | exact Or.inl rfl | exact Or.inr rfl))) (fun _ _ _ _ _ => (pts_one (pt_cmpR (r := rEqD K) (op_eqD hr.units) (pe_lc (own := [("_law_row", 11)]) rfl sc_law_known_right.nd (show PI _ _ _ (iSeq K _) from pi_seq (pv 5)) (blkOk_by (by kernel_rfl)) (fun _ _ _ _ _ => (pg_name (i := 11) sc_law_known_right.nd rfl (by first | exact Or.inl rfl | exact Or.inr rfl))) (fun _ _ _ _ _ => (pts_one (pt_cmpR (r := rInS K true) (op_notInS (hu65 hr)) (pv 10) (pv 11) (by rfl)))) (fun _ _ _ _ _ => (pv 11))) (pe_lst pa_nil) (nomark _)))) (fun _ _ _ _ _ => (pv 10))) pa_nil)) (nomark _))))))))))), fun p F ds hp => ?_⟩
  obtain ⟨n, rfl, n1, n5⟩ := hp
  have HP := HasP.self p F
  have rts : ∀ {m' : Mo} {Γ : G} {te : TE} {E : XK} {h : Hd}, Ev1 m' K te Γ (hdD h) → WebM.Ok h → Ev1 m' K (tCall (spS K pre_roots_of S_root_list) [] E (tCons te tNil)) Γ (lstN (rootsOf h)) := fun {m' Γ te E h} e ok => en_call (S := fun d => d = lstN (rootsOf h)) (ds := [hdD h]) (ea_cons e ea_nil) ⟨h, rfl, ok⟩ fun d hd => hd h rfl
  have pl : ∀ l : List Nat, pur 1 (lstN l) = true := fun l => pur_lst fun x hx => by obtain ⟨k, _, rfl⟩ := List.mem_map.mp hx; rfl
  -- the webs with roots
  refine sq_asgN (S := fun d => ∃ ws : List WM, d = plainsD (ws.filter fun p => rootB p.1) ∧ PQ ws n ∧ ws.length ≤ 3) (EvN.mono (en_lc (U := fun xs => ∃ ws : List WM, xs = ws.map keyD ∧ PQ ws n ∧ ws.length ≤ 3) (T := fun d b => b = tB d) (V' := fun d y => y = d) (js := [8]) (by simp) (it_seqN (S := fun d => ∃ ws : List WM, d = plainsD ws ∧ PQ ws n ∧ ws.length ≤ 3) (en_pcall1 HP (ds := [dN n, dN 3]) (ea_cons (en_var 0 rfl) (ea_cons (en_var 1 rfl) (ea_cons (en_int 3) ea_nil))) ⟨n, 3, rfl, n1, n5, by decide, by decide⟩ fun d hd => hd n 3 rfl) fun d ⟨ws, e, a, b⟩ => ⟨_, .inr (.inl e), ws, rfl, a, b⟩) (fun xs ⟨ws, e, _, b⟩ => by rw [e, List.length_map]; omega) fun m' le xs d hU hd => ?_) fun d hd => ?_) ?_
  · obtain ⟨ws, rfl, pq, _⟩ := hU
    obtain ⟨q, hq, rfl⟩ := List.mem_map.mp hd
    refine ⟨_, tg_name 8, ?_, fun _ => en_var 8 rfl⟩
    refine EvT1.is (et_test (en_op1 (rts (h := q.1) (en_op1 (en_var 8 rfl) (en_int 0) (o_ix (d := hdD q.1) (i := 0) (.inl rfl) (atI_of (i := 0) rfl))) (pq.ok q hq).ok) (en_lst ea_nil (by simp)) (o_neP (n := 1) (by decide) (pl _) rfl))) ?_
    rw [ne_nil, tB_is]
    rfl
  · obtain ⟨xs, ys, ⟨ws, rfl, pq, h3⟩, lr, rfl⟩ := hd
    refine ⟨ws, ?_, pq, h3⟩
    rw [LcR.fn (t := tB) (f := fun d => d) lr (fun x _ b q => q) (fun x _ y q => q), List.map_id', List.filter_map]
    unfold plainsD
    congr 2
    exact List.filter_congr fun p _ => tB_is p
  rintro _ ⟨ws, rfl, pq, h3⟩
  -- and one more
  refine sq_asgN (S := fun d => ∃ us : List WM, d = plainsD us ∧ POk us n ∧ us.length ≤ 4) (en_op (Sa := fun d => d = plainsD (ws.filter fun p => rootB p.1)) (Sb := fun d => ∃ q : WM, d = .lst ([keyD q].filter (kB (ws.filter fun p => rootB p.1))) ∧ WOk q.1 q.2 ∧ q.1.length = n) (en_var 2 rfl) (EvN.mono (en_lc (U := fun xs => ∃ q : WM, xs = [keyD q] ∧ WOk q.1 q.2 ∧ q.1.length = n) (T := fun d b => b = kB (ws.filter fun p => rootB p.1) d) (V' := fun d y => y = d) (js := [8]) (by simp) (it_seqN (S := fun d => ∃ q : WM, d = .lst [keyD q] ∧ WOk q.1 q.2 ∧ q.1.length = n) (EvN.mono (en_lstN (T := fun ds => ∃ q : WM, ds = [keyD q] ∧ WOk q.1 q.2 ∧ q.1.length = n) (ea_consN (S := fun d => ∃ q : WM, d = keyD q ∧ WOk q.1 q.2 ∧ q.1.length = n) (T := fun ds => ds = []) (EvN.mono (en_tupN (T := fun ds => ∃ h : Hd, ds = [hdD h, tupN (List.replicate n 0)] ∧ h.length = n ∧ WebM.Ok h) (ea_consN (S := fun d => ∃ h : Hd, d = hdD h ∧ h.length = n ∧ WebM.Ok h) (T := fun ds => ds = [tupN (List.replicate n 0)]) (en_pcall1 HP (ds := [dN n]) (ea_cons (en_var 0 rfl) (ea_cons (en_var 1 rfl) ea_nil)) ⟨n, rfl, n1, n5⟩ fun d hd => hd n rfl) (ea_cons (Ev1.is (en_op1 (en_tup (ea_cons (en_int 0) ea_nil) (by simp)) (en_var 1 rfl) (o_mulT (ds := [.int 0]) (by simp) ⟨by omega, by omega⟩ (by simp))) (by rw [Int.toNat_natCast, rep0])) ea_nil) fun d ds ⟨h, e, a, b⟩ e2 => ⟨h, by rw [e, e2], a, b⟩) fun ds ⟨h, e, _⟩ => by rw [e]; simp) fun d ⟨ds, e, h, e2, a, b⟩ => ⟨(h, List.replicate n 0), by rw [e, e2]; rfl, ⟨b, by rw [← a]; exact zeros_ok b⟩, a⟩) ea_nil fun d ds ⟨q, e, a⟩ e2 => ⟨q, by rw [e, e2], a⟩) fun ds ⟨q, e, _⟩ => by rw [e]; simp) fun d ⟨ds, e, q, e2, a⟩ => ⟨q, by rw [e, e2], a⟩) fun d ⟨q, e, a⟩ => ⟨_, .inr (.inl e), q, rfl, a⟩) (fun xs ⟨q, e, _⟩ => by rw [e]; simp) fun m' le xs d hU hd => ?_) fun d hd => ?_) ?_) ?_
  · obtain ⟨q, rfl, _⟩ := hU
    rw [List.mem_singleton] at hd
    subst hd
    exact ⟨_, tg_name 8, et_test (en_op1 (en_var 8 rfl) (en_var 2 rfl) (o_inP (neg := true) (n := 3) (by decide) (.inr (.inl rfl)) (pur_key q) fun x hx => by obtain ⟨y, _, rfl⟩ := List.mem_map.mp hx; exact pur_key y)), fun _ => en_var 8 rfl⟩
  · obtain ⟨xs, ys, ⟨q, rfl, a⟩, lr, rfl⟩ := hd
    exact ⟨q, by rw [LcR.fn (t := kB (ws.filter fun p => rootB p.1)) (f := fun d => d) lr (fun x _ b q => q) (fun x _ y q => q), List.map_id'], a⟩
  · rintro _ _ rfl ⟨q, rfl, a1, a2⟩
    obtain ⟨u1, u2⟩ := used_ok pq a1 a2 h3
    refine OpN.mono (o_addL ?_) fun d e => ⟨usedL ws q, ?_, u1, u2⟩
    · have h1 : ([keyD q].filter (kB (ws.filter fun p => rootB p.1))).length ≤ 1 := List.length_filter_le _ _
      have h2 := List.length_filter_le (fun p : WM => rootB p.1) ws
      rw [List.length_map]
      omega
    · rw [e]
      unfold plainsD usedL
      rw [List.map_append]
      congr 2
      show [keyD q].filter (kB _) = _
      rw [List.filter_cons]
      show (if knownB (ws.filter fun p => rootB p.1) q = true then _ else _) = _
      split
      · rfl
      · rfl
  rintro _ ⟨us, rfl, pk, u4⟩
  have u1 := pk.n1
  have h0 : 0 < us.length := by omega
  have ok0 := (pk.ok _ (at0_mem h0)).ok
  have l0 := pk.sz _ (at0_mem h0)
  refine sq_asg (d := keyD (at0 us 0)) (en_op1 (en_var 2 rfl) (en_int 0) (o_ix (d := keyD (at0 us 0)) (i := 0) (.inr (.inl rfl)) (atI_of (i := 0) (by rw [List.getElem?_map, List.getElem?_eq_getElem h0, at0_lt h0]; rfl)))) ?_
  refine sq_par (T := fun ds => ∃ v : List Nat, ds = [poolD w C Cp us, tupN v] ∧ DOkW us v ∧ n - 1 ≤ v.count 0) (ea_consN (S := fun d => d = poolD w C Cp us) (T := fun ds => ∃ v : List Nat, ds = [tupN v] ∧ DOkW us v ∧ n - 1 ≤ v.count 0) (en_call (S := fun d => d = poolD w C Cp us) (ds := [plainsD us]) (ea_cons (en_var 2 rfl) ea_nil) ⟨us, n, rfl, pk⟩ fun d hd => hd us rfl) (ea_consN (S := fun d => ∃ v : List Nat, d = tupN v ∧ DOkW us v ∧ n - 1 ≤ v.count 0) (T := fun ds => ds = []) (en_pcall1 HP (ds := [dN us.length, dN n]) (ea_cons (en_var 0 rfl) (ea_cons (Ev1.is (en_cb1 (ea_cons (en_var 2 rfl) ea_nil) (c_len (.inr (.inl rfl)))) (by rw [List.length_map])) (ea_cons (en_var 1 rfl) ea_nil))) ⟨us.length, n, rfl, by omega, by omega, n1, n5⟩ fun d hd => by
    obtain ⟨v, e, l6, lt, c⟩ := hd us.length n rfl
    exact ⟨v, e, ⟨lt, l6⟩, c⟩) ea_nil fun d ds ⟨v, e, a⟩ e2 => ⟨v, by rw [e, e2], a⟩) fun d ds e ⟨v, e2, a⟩ => ⟨v, by rw [e, e2], a⟩) ?_
  rintro _ ⟨v, rfl, wo, cnt⟩
  refine ⟨_, _, rfl, ?_⟩
  have sz := size_is pk
  have ko := behindK_ok us n v
  refine sq_asg (d := tupN (allK (behindK us n v))) (en_call (ds := [poolD w C Cp us, tupN v]) (S := fun d => d = tupN (allK (behindK us n v))) (ea_cons (en_var 6 rfl) (ea_cons (en_var 7 rfl) ea_nil)) ⟨us, n, v, rfl, pk, wo⟩ fun d hd => by rw [hd us v rfl, sz]) ?_
  have row_mem : ∀ r ∈ behindK us n v, ∃ t < n, r = rowOf (behindK us n v) t := fun r hr => by
    obtain ⟨t, ht, e⟩ := List.getElem_of_mem hr
    rw [ko.len] at ht
    exact ⟨t, ht, by have := row_at (h := behindK us n v) (t := t) (by rw [ko.len]; exact ht); rw [List.getElem?_eq_getElem (by rw [ko.len]; exact ht)] at this; rw [← e]; exact Option.some.inj this⟩
  have seen : ∀ r ∈ rootsOf (at0 us 0).1, r ∈ allK (behindK us n v) := fun r hr => by
    have rn : r < n := by have := (root_iff.mp hr).1; omega
    refine List.mem_filter.mpr ⟨List.mem_range.mpr (by rw [ko.len]; exact rn), List.all_eq_true.mpr fun x hx => ?_⟩
    obtain ⟨t, ht, rfl⟩ := row_mem x hx
    exact decide_eq_true (root_seen pk rn hr wo.lt cnt ht)
  have rlen : (rootsOf (at0 us 0).1).length ≤ 5 := by
    have := List.length_filter_le (fun t => decide ((rl (at0 us 0).1 t).length = (at0 us 0).1.length)) (List.range (at0 us 0).1.length)
    rw [List.length_range] at this
    exact Nat.le_trans this ok0.n5
  refine sg_seqIf (b := false) (et_test (en_op1 (a := .lst []) (b := .lst []) (Ev1.is (en_lcM (xs := rootsOf (at0 us 0).1) dN (fun r => !decide (r ∈ allK (behindK us n v))) dN (fun x _ y _ e => dN_inj e) (js := [9]) (by simp) (it_seq (rts (h := (at0 us 0).1) (en_op1 (en_var 3 rfl) (en_int 0) (o_ix (d := hdD (at0 us 0).1) (i := 0) (.inl rfl) (atI_of (i := 0) rfl))) ok0) (.inr (.inl rfl))) (by omega) fun m' l r hr => ⟨_, tg_name 9, et_test (en_op1 (en_var 9 rfl) (en_var 4 rfl) (o_niN (.inl rfl))), fun _ => en_var 9 rfl⟩) (by rw [List.filter_eq_nil_iff.mpr fun r hr => by rw [decide_eq_true (seen r hr)]; decide]; rfl)) (en_lst ea_nil (by simp)) (o_neS (n := 1) (by decide) rfl))) (fun e => nomatch e) fun _ => ?_
  refine sq_asg (d := hdD (behindK us n v)) (en_call (ds := [poolD w C Cp us, tupN v]) (S := fun d => d = hdD (behindK us n v)) (ea_cons (en_var 6 rfl) (ea_cons (en_var 7 rfl) ea_nil)) ⟨us, n, v, rfl, pk, wo⟩ fun d hd => by rw [hd us v rfl, sz]) ?_
  refine sg_ret (d := .bl true) (en_op1 (a := tupN (allK (behindK us n v))) (b := tupN (allK (behindK us n v))) (en_var 4 rfl) (Ev1.is (en_cb1 (ea_cons (en_lcM (xs := List.range n) dN (fun t => ((behindK us n v).filter fun r => !decide (t ∈ r)).isEmpty) dN (fun x _ y _ e => dN_inj e) (js := [10]) (by simp) (it_rng (n := n) (ea_cons (en_var 1 rfl) ea_nil) (by omega)) (by rw [List.length_range]; omega) fun m' l t ht => ⟨_, tg_name 10, ?_, fun _ => en_var 10 rfl⟩) ea_nil) (c_tuple (.inr (.inl rfl)))) ?_) (o_eqS (n := 1) (by decide) (pur_N _))) rfl
  · have h5 : (behindK us n v).length ≤ 100000 := by rw [ko.len]; omega
    refine EvT1.is (et_test (en_op1 (en_lcM (xs := behindK us n v) tupN (fun r => !decide (t ∈ r)) tupN (fun x _ y _ e => tupN_inj e) (js := [11]) (by simp) (it_seq (d := hdD (behindK us n v)) (en_var 5 rfl) (.inl rfl)) h5 fun m'' l' r hr => ⟨_, tg_name 11, ?_, fun _ => ?_⟩) (en_lst ea_nil (by simp)) (o_eqP (n := 2) (by decide) (pur_lst fun x hx => by obtain ⟨r, _, rfl⟩ := List.mem_map.mp hx; exact pur_N r) rfl))) ?_
    · exact et_test (en_op1 (en_var 10 rfl) (en_var 11 rfl) (o_niN (.inl rfl)))
    · exact en_var 11 rfl
    rw [eq_nilK]
  · show tupN ((List.range n).filter _) = tupN (allK _)
    unfold allK
    rw [ko.len]
    congr 1
    refine List.filter_congr fun t ht => ?_
    rw [Bool.eq_iff_iff, List.isEmpty_iff, List.filter_eq_nil_iff, List.all_eq_true]
    refine forall_congr' fun r => forall_congr' fun hr => ?_
    cases decide (t ∈ r) <;> simp
end
end K03

set_option Elab.async false
set_option linter.all false
set_option maxRecDepth 100000
set_option maxHeartbeats 1000000
set_option autoImplicit false
/-! A list of lists of one's own: the last of them grows, a new one may be put behind it. -/
namespace Tx
open PySem PySem.Spec PyProof.Rows L2
def F2 (m : Mo) (c l : Addr) : Addr → Prop := fun a => m.F a ∨ a = c ∨ a = l
/-- ys: the earlier lists; zs: what the last one holds; B: ahead of the loop -/
def NsAt (m mm : Mo) (K : PySem.W.Frag) (l : Addr) (H0 B H : Hp) (ys zs : List D) : Prop :=
  ∃ (bs : List V) (c : Addr) (cs : List V), H l = some (.lst (bs ++ [.ref c])) ∧ c ≠ l ∧ H0 c = none ∧ (mm.F c ∨ B c = none) ∧ H c = some (.lst cs) ∧ RpAll K (F2 m c l) H cs zs ∧ RpAll K (F2 m c l) H bs ys
structure NJ (m : Mo) (K : PySem.W.Frag) (a0 l : Addr) (H0 B : Hp) (Γ : G) (σ : L2.St) (H : Hp) (ys zs : List D) : Prop where
  h0 : H0 l = none
  i0 : m.I H0
  r : m.R H0 H
  st : StK ((m.ext a0).ext l) B H
  er : ER ((m.ext a0).ext l) K Γ σ H
  ns : NsAt m ((m.ext a0).ext l) K l H0 B H ys zs
theorem atI_last {α : Type} (bs : List α) (c : α) : atI (bs ++ [c]) (-1) = some c := by
  have e : ixN (bs ++ [c]).length (-1) = some bs.length := by
    unfold ixN
    rw [if_neg (by decide), List.length_append, List.length_singleton, if_pos (by omega)]
    congr 1
    omega
  unfold atI
  rw [e]
  simp
def flatG (Γ : G) : Prop := ∀ (j : Nat) (d : D), Γ[j]? = some (some d) → (∃ i, d = .int i) ∨ ∃ a, d = .adr a
section
variable {K : PySem.W.Frag} {m : Mo} {Γ : G} {te : TE} {a0 l : Addr} {H0 B H H' : Hp} {σ : L2.St} {ys zs : List D}
theorem flat_er {mm : Mo} (f : flatG Γ) (e : ER mm K Γ σ H) (i : mm.I H') : ER mm K Γ σ H' := ⟨i, e.len, fun j d h => by
  obtain ⟨v, h1, h2⟩ := e.at_ j d h
  rcases f j d h with ⟨k, rfl⟩ | ⟨a, rfl⟩
  · exact ⟨v, h1, by obtain rfl := h2.intE; exact .int _⟩
  · exact ⟨v, h1, by obtain rfl := h2.adrE; exact .adr _⟩⟩
theorem NJ.mv (J : NJ m K a0 l H0 B Γ σ H ys zs) (r : m.R H H') : NJ m K a0 l H0 B Γ σ H' ys zs := by
  obtain ⟨bs, c, cs, h1, h2, h3, h4, h5, h6, h7⟩ := J.ns
  have iH : m.I H := J.er.i.1.1
  have k : ∀ a o, ¬ m.F a → H a = some o → H' a = some o := m.keep r iH
  have nF : ∀ {a}, H0 a = none → ¬ m.F a := fun h f => m.fa J.i0 f h
  exact ⟨J.h0, J.i0, m.trans J.r r, fun a o n q => ((m.ext a0).ext l).keep r J.er.i a o n (J.st a o n q), J.er.mv (m := (m.ext a0).ext l) r, bs, c, cs, k l _ (nF J.h0) h1, h2, h3, h4, k c _ (nF h3) h5, h6.mv fun a o n q => k a o (fun z => n (.inl z)) q, h7.mv fun a o n q => k a o (fun z => n (.inl z)) q⟩
theorem NJ.view (J : NJ m K a0 l H0 B Γ σ H ys zs) : Rp K m.F H (.ref l) (.lst (ys ++ [.lst zs])) := by
  obtain ⟨bs, c, cs, h1, h2, h3, h4, h5, h6, h7⟩ := J.ns
  have nF : ∀ {a}, H0 a = none → ¬ m.F a := fun h f => m.fa J.i0 f h
  exact .lst (nF J.h0) h1 ((h7.weak fun a f => .inl f).append (.cons (.lst (nF h3) h5 (h6.weak fun a f => .inl f)) .nil))
theorem NJ.see (J : NJ m K a0 l H0 B Γ σ H ys zs) {i : Nat} (hi : Γ[i]? = some (some (.adr l))) : ER m K (Γ.set i (some (.lst (ys ++ [.lst zs])))) σ H := by
  refine ⟨J.er.i.1.1, by rw [List.length_set, J.er.len], fun j d h => ?_⟩
  by_cases z : i = j
  · subst z
    rw [List.getElem?_set_self (List.getElem?_eq_some_iff.mp hi).1] at h
    injection h with h; injection h with h; subst h
    obtain ⟨v, h1, h2⟩ := J.er.at_ i _ hi
    obtain rfl := h2.adrE
    exact ⟨_, h1, J.view⟩
  · rw [List.getElem?_set_ne z] at h
    obtain ⟨v, h1, h2⟩ := J.er.at_ j d h
    exact ⟨v, h1, h2.weak fun a f => .inl (.inl f)⟩
theorem NJ.test (J : NJ m K a0 l H0 B Γ σ H ys zs) {i : Nat} (hi : Γ[i]? = some (some (.adr l))) {tt : TT} {T : Bool → Prop} (h : EvT m K tt (Γ.set i (some (.lst (ys ++ [.lst zs])))) T) {Q : Bool → Hp → Prop} (q : ∀ b H', T b → NJ m K a0 l H0 B Γ σ H' ys zs → Q b H') : tt σ H Q :=
  h σ H (J.see hi) Q fun b H' s r => q b H' s (J.mv r)
/-- found.append([]) -/
theorem NJ.push (J : NJ m K a0 l H0 B Γ σ H ys zs) (f : flatG Γ) {i : Nat} (hi : Γ[i]? = some (some (.adr l))) (hz : ys.length ≤ 1000) {Q : VK} (q : ∀ v H', NJ m K a0 l H0 B Γ σ H' (ys ++ [.lst zs]) [] → Q v H') : tBM K "list" rAppend (tVar i) (tCons (tLst tNil) tNil) σ H Q := by
  obtain ⟨bs, c, cs, h1, h2, h3, h4, h5, h6, h7⟩ := J.ns
  have nF : ∀ {a}, H0 a = none → ¬ m.F a := fun h f => m.fa J.i0 f h
  obtain ⟨w, e1, e2⟩ := J.er.at_ i _ hi
  obtain rfl := e2.adrE
  refine ⟨_, e1, .inl ⟨rfl, _, SqL.of h1⟩, ?_⟩
  refine ⟨Nat.zero_le _, fun p hp => ?_⟩
  have pl : p ≠ l := fun z => by rw [z, h1] at hp; cases hp
  have pc : p ≠ c := fun z => by rw [z, h5] at hp; cases hp
  have pa : p ≠ a0 := fun z => J.er.i.1.2 (z ▸ hp)
  have hp0 : H0 p = none := by
    cases z : H0 p with
    | none => rfl
    | some o => exact absurd hp (m.had J.i0 J.r (by rw [z]; exact fun z => nomatch z))
  have u1 : (upd H p (.lst [])) l = some (.lst (bs ++ [.ref c])) := by rw [upd_ne (fun z => pl z.symm)]; exact h1
  refine ⟨l, bs ++ [.ref c], .ref p, rfl, rfl, u1, Nat.lt_of_lt_of_le (show (bs ++ [V.ref c]).length < 1002 by have := h7.len; rw [List.length_append, List.length_singleton]; omega) (by decide), ?_⟩
  have r1 : m.R H0 (upd H p (.lst [])) := m.chg J.i0 J.r hp0
  have r2 : m.R H0 (upd (upd H p (.lst [])) l (.lst (bs ++ [.ref c] ++ [.ref p]))) := m.chg J.i0 r1 J.h0
  have kp : ∀ a, a ≠ p → a ≠ l → (upd (upd H p (.lst [])) l (.lst (bs ++ [.ref c] ++ [.ref p]))) a = H a := fun a n1 n2 => by rw [upd_ne n2, upd_ne n1]
  refine q _ _ ⟨J.h0, J.i0, r2, fun a o n z => ?_, flat_er f J.er ⟨⟨m.inv r2 J.i0, ?_⟩, by rw [upd_same]; exact fun z => nomatch z⟩, bs ++ [.ref c], p, [], by rw [upd_same], pl, hp0, .inr ?_, ?_, .nil, ?_⟩
  · have z2 := J.st a o n z
    rw [kp a (fun e => by rw [e, hp] at z2; cases z2) (fun e => n (.inr e))]
    exact z2
  · by_cases al : a0 = l
    · rw [al, upd_same]; exact fun z => nomatch z
    · rw [kp a0 (fun z => pa z.symm) al]; exact J.er.i.1.2
  · cases z : B p with
    | none => rfl
    | some o =>
      by_cases fp : ((m.ext a0).ext l).F p
      · exact absurd hp (((m.ext a0).ext l).fa J.er.i fp)
      · have := J.st p o fp z
        rw [hp] at this; cases this
  · rw [upd_ne pl, upd_same]
  · refine RpAll.append ?_ (.cons (.lst (fun z => ?_) (by rw [kp c (fun z => pc z.symm) h2]; exact h5) ?_) .nil)
    · refine Rp.goAll (fun a o n e => ⟨fun z => ?_, ?_⟩) h7
      · rcases z with z | z | z
        · exact n (.inl z)
        · rw [z, hp] at e; cases e
        · exact n (.inr (.inr z))
      · rw [kp a (fun z => by rw [z, hp] at e; cases e) (fun z => n (.inr (.inr z)))]; exact e
    · rcases z with z | z | z
      · exact nF h3 z
      · exact pc z.symm
      · exact h2 z
    · refine Rp.goAll (fun a o n e => ⟨fun z => ?_, ?_⟩) h6
      · rcases z with z | z | z
        · exact n (.inl z)
        · rw [z, hp] at e; cases e
        · exact n (.inr (.inr z))
      · rw [kp a (fun z => by rw [z, hp] at e; cases e) (fun z => n (.inr (.inr z)))]; exact e
/-- found[-1].append(x), x a number -/
theorem NJ.app (J : NJ m K a0 l H0 B Γ σ H ys zs) (f : flatG Γ) {i j : Nat} {k : Int} (hi : Γ[i]? = some (some (.adr l))) (hj : Γ[j]? = some (some (.int k))) (hz : zs.length ≤ 1000) {Q : VK} (q : ∀ v H', NJ m K a0 l H0 B Γ σ H' ys (zs ++ [.int k]) → Q v H') : tBM K "list" rAppend (tOp (rIx K) (tVar i) (tUn (rU fun i => .int (-i)) (tC (.int 1)))) (tCons (tVar j) tNil) σ H Q := by
  obtain ⟨bs, c, cs, h1, h2, h3, h4, h5, h6, h7⟩ := J.ns
  have nF : ∀ {a}, H0 a = none → ¬ m.F a := fun h f => m.fa J.i0 f h
  obtain ⟨w, e1, e2⟩ := J.er.at_ i _ hi
  obtain rfl := e2.adrE
  obtain ⟨u, g1, g2⟩ := J.er.at_ j _ hj
  obtain rfl := g2.intE
  have atl : atI (bs ++ [V.ref c]) (-1) = some (.ref c) := atI_last bs _
  refine ⟨_, e1, 1, rfl, .inl ⟨l, _, -1, .ref c, rfl, rfl, SqL.of h1, atl, ?_⟩⟩
  refine ⟨.inl ⟨rfl, _, SqL.of h5⟩, _, g1, ?_⟩
  refine ⟨c, cs, .int k, rfl, rfl, h5, Nat.lt_of_lt_of_le (show cs.length < 1001 by have := h6.len; omega) (by decide), ?_⟩
  have r2 : m.R H0 (upd H c (.lst (cs ++ [.int k]))) := m.chg J.i0 J.r h3
  have kp : ∀ a, a ≠ c → (upd H c (.lst (cs ++ [.int k]))) a = H a := fun a n => upd_ne n
  refine q _ _ ⟨J.h0, J.i0, r2, fun a o n z => ?_, flat_er f J.er ⟨⟨m.inv r2 J.i0, ?_⟩, by rw [kp l (fun z => h2 z.symm), h1]; exact fun z => nomatch z⟩, bs, c, cs ++ [.int k], by rw [kp l (fun z => h2 z.symm)]; exact h1, h2, h3, h4, upd_same, ?_, ?_⟩
  · have z2 := J.st a o n z
    rw [kp a (fun e => ?_)]
    · exact z2
    · rcases h4 with h4 | h4
      · exact n (e ▸ h4)
      · rw [e, h4] at z; cases z
  · by_cases ac : a0 = c
    · rw [ac, upd_same]; exact fun z => nomatch z
    · rw [kp a0 ac]; exact J.er.i.1.2
  · exact (h6.mv fun a o n e => by rw [kp a (fun z => n (.inr (.inl z)))]; exact e).append (.cons (.int _) .nil)
  · exact h7.mv fun a o n e => by rw [kp a (fun z => n (.inr (.inl z)))]; exact e
theorem itx_seqN {S : D → Prop} {T : List D → Prop} (h : EvN m K te Γ S) (hd : ∀ d, S d → ∃ ds, isSeq d ds ∧ T ds) : ∀ σ H, ER m K Γ σ H → ∀ Q : It → Hp → Prop, (∀ (J : It) xs H1, T xs → m.R H H1 → (∀ H2, StK m H1 H2 →
  (∀ i, i < xs.length → J.go i H2) ∧ J.stop xs.length H2 ∧ ∀ i x H', i < xs.length → J.yld i H2 x H' → H' = H2 ∧ ∃ d, xs[i]? = some d ∧ Rp K m.F H2 x d) → Q J H1) → (iSeq K te) σ H Q := fun σ H e Q q =>
  h σ H e _ fun v d H1 s r1 rv => by
    obtain ⟨ds, hsq, ht⟩ := hd d s
    obtain ⟨a, vs, rfl, ra, hs⟩ := seq_standsX rv hsq
    have hl := ra.len
    have i1 := m.inv r1 e.i
    refine ⟨a, rfl, ?_⟩
    rcases hs with hs | hs
    · refine .inl ⟨⟨vs, hs H1 fun _ _ _ e => e⟩, q _ ds H1 ht r1 fun H2 st => ⟨fun i hi => ⟨vs, vs[i], hs H2 st, by simp [hl, hi]⟩, ⟨vs, hs H2 st, by omega⟩, fun i x H' hi y => ?_⟩⟩
      obtain ⟨e, y⟩ := y
      subst e
      obtain ⟨d, hd, rd⟩ := ra.at (y vs (hs H' st))
      exact ⟨rfl, d, hd, rd.go fun a o n e => ⟨n, st a o n e⟩⟩
    · refine .inr ⟨⟨vs, hs H1 fun _ _ _ e => e⟩, q _ ds H1 ht r1 fun H2 st => ⟨fun i hi => ⟨vs, vs[i], hs H2 st, by simp [hl, hi]⟩, ⟨vs, hs H2 st, by omega⟩, fun i x H' hi y => ?_⟩⟩
      obtain ⟨e, y⟩ := y
      subst e
      obtain ⟨d, hd, rd⟩ := ra.at (y vs (hs H' st))
      exact ⟨rfl, d, hd, rd.go fun a o n e => ⟨n, st a o n e⟩⟩
/-- found = [[]], a loop that changes it, and what comes behind -/
theorem sg_nest {i : Nat} {g : TG} {tb tw : TS} {S : D → Prop} {U : List D → Prop} {O : Out} (fl : ∀ l, flatG (Γ.set i (some (.adr l)))) (hi : i < Γ.length)
    (hte : ∀ a0 l, EvN ((m.ext a0).ext l) K te (Γ.set i (some (.adr l))) S) (hd : ∀ d, S d → ∃ ds, isSeq d ds ∧ U ds) (W : Addr → List D → Nat → G → List D → List D → Prop)
    (w0 : ∀ l xs, U xs → W l xs 0 (Γ.set i (some (.adr l))) [] []) (wi : ∀ l xs k Γ' ys zs, W l xs k Γ' ys zs → Γ'[i]? = some (some (.adr l)))
    (hs : ∀ a0 l H0 B xs k d Γ' ys zs, U xs → xs[k]? = some d → W l xs k Γ' ys zs → ∃ Γ2 js, TgD ((m.ext a0).ext l) K g Γ' d js Γ2 ∧ ∀ σ H, NJ m K a0 l H0 B Γ2 σ H ys zs → ∀ E : Ends, (∀ Γ3 σ' H' ys' zs', W l xs (k + 1) Γ3 ys' zs' → NJ m K a0 l H0 B Γ3 σ' H' ys' zs' → E.nx σ' H') → tb E σ H)
    (hw : ∀ l xs Γ' ys zs, U xs → W l xs xs.length Γ' ys zs → SG m K tw (Γ'.set i (some (.lst (ys ++ [.lst zs])))) { nx := fun _ => False, rt := O.rt }) :
    SG m K (tSeq (tAsg (tLst (tCons (tLst tNil) tNil)) (gName i)) (tSeq (tFor (iSeq K te) g tb) tw)) Γ O := fun σ H e E M => by
  refine ⟨Nat.zero_le _, fun a0 ha0 => ⟨(show 1 ≤ sizeLine by decide), fun l hl => ?_⟩⟩
  have al : a0 ≠ l := fun z => by rw [z, upd_same] at hl; cases hl
  have hl0 : H l = none := by rw [upd_ne (fun z => al z.symm)] at hl; exact hl
  have r1 : m.R H (upd H a0 (.lst [])) := m.grow e.i (same_new ha0)
  have r2 : m.R H (upd (upd H a0 (.lst [])) l (.lst [.ref a0])) := m.chg e.i r1 hl0
  have e1 : ER (m.ext a0) K Γ σ (upd H a0 (.lst [])) := e.ext ha0 r1 (by rw [upd_same]; exact fun z => nomatch z)
  have e2 : ER ((m.ext a0).ext l) K Γ σ (upd (upd H a0 (.lst [])) l (.lst [.ref a0])) := e1.ext hl (m.grow e1.i.1 (same_new hl)) (by rw [upd_same]; exact fun z => nomatch z)
  have e3 := e2.set i (.adr l : Rp K ((m.ext a0).ext l).F _ (.ref l) (.adr l))
  change tSeq (tFor (iSeq K te) g tb) tw E (σ.set i (some (.ref l))) (upd (upd H a0 (.lst [])) l (.lst [.ref a0]))
  unfold tSeq tFor
  refine itx_seqN (hte a0 l) hd _ _ e3 _ fun J xs H1 ht rr wk => ?_
  have r3 : m.R H H1 := m.trans r2 rr
  have kp : ∀ a o, ¬ m.F a → (upd (upd H a0 (.lst [])) l (.lst [.ref a0])) a = some o → H1 a = some o := m.keep rr e2.i.1.1
  have nF : ∀ {a}, H a = none → ¬ m.F a := fun h f => m.fa e.i f h
  have J0 : NJ m K a0 l H H1 (Γ.set i (some (.adr l))) (σ.set i (some (.ref l))) H1 [] [] := ⟨hl0, e.i, r3, fun _ _ _ e => e, e3.mv (m := (m.ext a0).ext l) rr, [], a0, [], kp l _ (nF hl0) upd_same, al, ha0, .inl (.inl (.inr rfl)), kp a0 _ (nF ha0) (by rw [upd_ne al, upd_same]), .nil, .nil⟩
  refine ⟨fun k mm σ' H' => mm = xs.length - k ∧ k ≤ xs.length ∧ ∃ Γ' ys zs, W l xs k Γ' ys zs ∧ NJ m K a0 l H H1 Γ' σ' H' ys zs, ⟨_, rfl, Nat.zero_le _, _, [], [], w0 l xs ht, J0⟩, ?_⟩
  rintro k mm σ' H' ⟨rfl, hle, Γ', ys, zs, w, J'⟩
  obtain ⟨go, stop, yld⟩ := wk H' J'.st
  by_cases hlt : k < xs.length
  · refine .inr ⟨go k hlt, fun σ3 H3 => ∃ Γ3 y3 z3, W l xs (k + 1) Γ3 y3 z3 ∧ NJ m K a0 l H H1 Γ3 σ3 H3 y3 z3, fun σ3 H3 q => ⟨xs.length - (k + 1), by omega, rfl, hlt, q⟩, fun y H2 yy => ?_⟩
    obtain ⟨e2, d, hd', rx⟩ := yld k y H2 hlt yy
    subst e2
    obtain ⟨Γ2, js, tg, body⟩ := hs a0 l H H1 xs k d Γ' ys zs ht hd' w
    refine tg y σ' H2 J'.er rx _ fun σ3 H3 e3' r3' _ => ?_
    have J3 := J'.mv (H' := H3) r3'
    exact body σ3 H3 ⟨J3.h0, J3.i0, J3.r, J3.st, e3', J3.ns⟩ _ fun Γ4 σ4 H4 y4 z4 o j4 => ⟨Γ4, y4, z4, o, j4⟩
  · have e0 : k = xs.length := by omega
    subst e0
    refine .inl ⟨stop, ?_⟩
    exact hw l xs Γ' ys zs ht w σ' H' (J'.see (wi _ _ _ _ _ _ w)) E ⟨fun _ _ _ o => o.elim, fun d v H2 o r' rv => M.rt d v H2 o (m.trans J'.r r') rv, fun _ _ _ o => o.elim, fun _ _ _ o => o.elim⟩
end
end Tx

set_option Elab.async false
set_option linter.all false
set_option maxRecDepth 100000
set_option maxHeartbeats 4000000
set_option autoImplicit false
namespace K03
open PySem L2 Tx WebM
/-- a block, sorted -/
def sN (y : List Nat) : List Nat := (srt (y.map fun k : Nat => (k : Int))).map Int.toNat
theorem sN_int (y : List Nat) : (srt (y.map fun k : Nat => (k : Int))).map D.int = (sN y).map dN := by
  unfold sN
  rw [List.map_map]
  refine List.map_congr_left fun i hi => ?_
  obtain ⟨k, _, rfl⟩ := List.mem_map.mp ((srt_perm _).mem_iff.mp hi)
  rfl
theorem sN_perm (y : List Nat) : (sN y).Perm y := by
  have h := (srt_perm (y.map fun k : Nat => (k : Int))).map Int.toNat
  rw [List.map_map] at h
  have e : y.map (Int.toNat ∘ fun k : Nat => (k : Int)) = y := by
    conv => rhs; rw [← List.map_id y]
    exact List.map_congr_left fun k _ => Int.toNat_natCast k
  rw [e] at h
  exact h
theorem sN_up {y : List Nat} (nd : y.Nodup) : (sN y).Pairwise (· < ·) := by
  have h1 : (sN y).Pairwise (· ≤ ·) := List.pairwise_map.mpr ((srt_up _).imp fun {a b} q => Int.toNat_le_toNat q)
  have h2 : (sN y).Nodup := (sN_perm y).nodup_iff.mpr nd
  exact h1.imp₂ (fun a b x z => Nat.lt_of_le_of_ne x z) h2
theorem sN_flat : ∀ L : List (List Nat), (L.map sN).flatten.Perm L.flatten
  | [] => .nil
  | y :: L => by
    rw [List.map_cons, List.flatten_cons, List.flatten_cons]
    exact (sN_perm y).append (sN_flat L)
theorem sN_ok {L : List (List Nat)} {n : Nat} {ns : List Nat} (e : L.flatten = ns) (pm : ns.Perm (List.range n)) (ne : ∀ y ∈ L, y ≠ []) (n1 : 1 ≤ n) (n5 : n ≤ 5) : PtOk (L.map sN) n where
  up := fun b hb => by
    obtain ⟨y, hy, rfl⟩ := List.mem_map.mp hb
    refine sN_up (List.Nodup.sublist (List.sublist_flatten_of_mem hy) ?_)
    rw [e]
    exact pm.nodup_iff.mpr List.nodup_range
  ne := fun b hb => by
    obtain ⟨y, hy, rfl⟩ := List.mem_map.mp hb
    intro z
    have := (sN_perm y).length_eq
    rw [z] at this
    exact ne y hy (List.length_eq_zero_iff.mp this.symm)
  pm := (sN_flat L).trans (by rw [e]; exact pm)
  n1 := n1
  n5 := n5
section
variable {P : Program} {w : World} {K : PySem.W.Frag} {mg : Str → Option Value} {base : Heap} {C : Addr}
theorem sc_law_blocks : FnScope ["_law_pouch_here", "_law_size", "_law_found", "_law_thread", "_law_block"] ["_law_pouch_here", "_law_size"] (defScope s_law_blocks) := ⟨rfl, rfl, rfl, by decide +kernel, rfl, by decide +kernel, by decide +kernel⟩
def S_bk (ds : List D) (d : D) : Prop := ∀ n : Nat, ds = [dN n] → ∃ bs : List (List Nat), d = .lst (bs.map lstN) ∧ PtOk bs n
theorem ok_law_blocks {f : Addr} {fd : FuncData} (Fu : Fun K "_law_blocks" "_law_blocks" s_law_blocks f fd) (T : Txt K mg C) (c__law_coin : CCoin P w K mg base) (c__law_shuffled : C8.Cal P w K mg base 2 "_law_shuffled" (spP K pre_sh S_sh) []) : FnOk P w K mg base CX0 4 f fd ["_law_pouch_here", "_law_size"] (spP K pre_heard S_bk) := by
  refine fn_pouch Fu sc_law_blocks (fun ds h => by obtain ⟨n, rfl, _⟩ := h; rfl) fun cdv A outer s H E hr => ⟨_, (pss_cons (ps_set (i := 2) sc_law_blocks.nd rfl (by first | exact Or.inl rfl | exact Or.inr rfl) (pe_lst (pa_cons (pe_lst pa_nil) pa_nil))) (pss_cons (ps_for PassesOwn.never rfl (show PI _ _ _ (iSeq K _) from pi_seq (C8.pe_c c__law_shuffled hr (by decide) rfl (pa_cons (pv 0) (pa_cons (pe_listRg rfl rfl T.list (prg_1 rfl T.range (pv 1))) pa_nil)))) (pg_name (i := 3) sc_law_blocks.nd rfl (by first | exact Or.inl rfl | exact Or.inr rfl)) (pss_cons (ps_if (PW.pt (pw_and (pt_cmpR (r := rNeD K) (op_neD hr.units) (pe_ix (r := rIx K) ix_seq (pv 2) (pe_un un_neg pe_int) (fun _ _ => rfl)) (pe_lst pa_nil) (nomark _)) (pw_and1 (pt_cmpR (r := rEqD K) (op_eqD hr.units) (C8.pe_c c__law_coin hr (by decide) rfl (pa_cons (pv 0) (pa_cons pe_int pa_nil))) pe_int (nomark _))))) (pss_one (ps_expr (pe_bm PySem.F.plainAttrs_list PySem.F.slot_list_append PySem.F.type_list_append mt_append (pv 2) (pa_cons (pe_lst pa_nil) pa_nil)))) pss_nil) (pss_one (ps_expr (pe_bm PySem.F.plainAttrs_list PySem.F.slot_list_append PySem.F.type_list_append mt_append (pe_ix (r := rIx K) ix_seq (pv 2) (pe_un un_neg pe_int) (fun _ _ => rfl)) (pa_cons (pv 3) pa_nil)))))) (pss_one (ps_ret (pe_lc (own := [("_law_block", 4)]) rfl sc_law_blocks.nd (show PI _ _ _ (iSeq K _) from pi_seq (pv 2)) (blkOk_by (by kernel_rfl)) (fun _ _ _ _ _ => (pg_name (i := 4) sc_law_blocks.nd rfl (by first | exact Or.inl rfl | exact Or.inr rfl))) (fun _ _ _ _ _ => pts_nil) (fun _ _ _ _ _ => (pe_callB (r := rSortS K) cr_sortS (by rfl) T.sorted (by decide +kernel) (pa_cons (pv 4) pa_nil)))))))), fun p F ds hp => ?_⟩
  obtain ⟨n, rfl, n1, n5⟩ := hp
  have HP := HasP.self p F
  let U : List D → Prop := fun xs => ∃ ns : List Nat, xs = ns.map dN ∧ ns.Perm (List.range n)
  let W : Addr → List D → Nat → G → List D → List D → Prop := fun l xs k Γ' ys zs => ∃ (ns : List Nat) (yss : List (List Nat)) (z : List Nat) (x3 : Option D), xs = ns.map dN ∧ ns.Perm (List.range n) ∧ Γ' = [some (.adr p), some (dN n), some (.adr l), x3, none] ∧ (x3 = none ∨ ∃ t : Nat, x3 = some (dN t)) ∧ ys = yss.map lstN ∧ zs = z.map dN ∧ (yss ++ [z]).flatten = ns.take k ∧ (∀ y ∈ yss, y ≠ []) ∧ (0 < k → z ≠ [])
  have flat : ∀ (l : Addr) (x3 : Option D), (x3 = none ∨ ∃ t : Nat, x3 = some (dN t)) → flatG [some (.adr p), some (dN n), some (.adr l), x3, none] := fun l x3 h j d e => by
    match j, e with
    | 0, e => injection e with e; injection e with e; exact .inr ⟨_, e.symm⟩
    | 1, e => injection e with e; injection e with e; exact .inl ⟨_, e.symm⟩
    | 2, e => injection e with e; injection e with e; exact .inr ⟨_, e.symm⟩
    | 3, e =>
      injection e with e
      rcases h with h | ⟨t, h⟩
      · rw [h] at e; cases e
      · rw [h] at e; injection e with e; exact .inl ⟨_, e.symm⟩
    | 4, e => injection e with e; cases e
    | j + 5, e => simp at e
  refine sg_nest (i := 2) (S := fun d => ∃ ns : List Nat, d = lstN ns ∧ ns.Perm (List.range n)) (U := U) (fun l => flat l none (.inl rfl)) (by show 2 < 5; decide) (fun a0 l => en_pcall1 (HP.le ((Mo.le_ext _ a0).trans (Mo.le_ext _ l))) (ds := [lstN (List.range n)]) (ea_cons (en_var 0 rfl) (ea_cons (en_rangeL (en_var 1 rfl) (by omega)) ea_nil)) ⟨_, rfl, by rw [List.length_range]; omega⟩ fun d hd => hd _ rfl) (fun d ⟨ns, e, pm⟩ => ⟨_, .inr (.inl e), ns, rfl, pm⟩) W (fun l xs ⟨ns, e, pm⟩ => ⟨ns, [], [], none, e, pm, rfl, .inl rfl, rfl, rfl, rfl, (fun y h => nomatch h), fun h => absurd h (by decide)⟩) (fun l xs k Γ' ys zs ⟨_, _, _, _, _, _, e, _⟩ => by rw [e]; rfl) ?_ ?_
  · rintro a0 l H0 B xs k d Γ' ys zs hU hd ⟨ns, yss, z, x3, rfl, pm, rfl, hx3, rfl, rfl, fe, hne, hz⟩
    rw [List.getElem?_map] at hd
    obtain ⟨t, ht, rfl⟩ := Option.map_eq_some_iff.mp hd
    have nl : ns.length = n := by rw [pm.length_eq, List.length_range]
    have kl : k < n := by rw [← nl]; exact (List.getElem?_eq_some_iff.mp ht).1
    have fl2 := congrArg List.length fe
    rw [List.flatten_append, List.length_append, List.length_take] at fl2
    have yl : yss.length ≤ n := Nat.le_trans (flatt_len hne) (by omega)
    have zl : z.length ≤ n := by
      have : (([z] : List (List Nat)).flatten).length = z.length := by simp
      omega
    refine ⟨_, _, tg_name 3, fun σ H J E kE => ?_⟩
    have hi : ([some (.adr p), some (dN n), some (.adr l), some (dN t), none] : G)[2]? = some (some (.adr l)) := rfl
    have ff := flat l (some (dN t)) (.inr ⟨t, rfl⟩)
    unfold tSeq tIfS
    refine NJ.test (i := 2) (T := fun b => b = true → z ≠ []) J hi ?_ fun b H1 hT J1 => ?_
    · refine et_andN (p := !z.isEmpty) (EvT1.is (et_test (en_op1 (en_op1 (en_var 2 rfl) (en_neg (en_int 1)) (o_ix (d := lstN z) (i := -1) (.inr (.inl rfl)) (Tx.atI_last _ _))) (en_lst ea_nil (by simp)) (o_neP (n := 1) (by decide) (pur_lst fun x hx => by obtain ⟨k, _, rfl⟩ := List.mem_map.mp hx; rfl) rfl))) (ne_nil z)) (fun e => ?_) fun e h => nomatch h
      refine et_testN (en_op (Sa := fun d => ∃ r : Nat, d = dN r ∧ r < 2) (Sb := fun d => d = .int 0) (ev_coin HP rfl (en_int 2) (by decide) (by decide)) (en_int 0) fun a b ⟨r, ea, _⟩ eb => by
        subst ea; subst eb
        exact OpN.mono o_eqI fun d e2 => ⟨_, e2, fun _ z0 => by rw [z0] at e; exact nomatch e⟩)
    · cases b with
      | false =>
        refine NJ.app (i := 2) (j := 3) J1 ff hi rfl (by rw [List.length_map]; omega) fun v H2 J2 => kE _ σ H2 _ _ ⟨ns, yss, z ++ [t], some (dN t), rfl, pm, rfl, .inr ⟨t, rfl⟩, rfl, by rw [List.map_append]; rfl, ?_, hne, fun _ => by simp⟩ J2
        rw [List.take_add_one, ht, ← fe]
        simp
      | true =>
        refine NJ.push (i := 2) J1 ff hi (by rw [List.length_map]; omega) fun v H2 J2 => ?_
        refine NJ.app (i := 2) (j := 3) J2 ff hi rfl (by simp) fun v H3 J3 => kE _ σ H3 _ _ ⟨ns, yss ++ [z], [t], some (dN t), rfl, pm, rfl, .inr ⟨t, rfl⟩, by rw [List.map_append]; rfl, rfl, ?_, fun y hy => ?_, fun _ => by simp⟩ J3
        · rw [List.take_add_one, ht, ← fe]
          simp
        · rcases List.mem_append.mp hy with q | q
          · exact hne y q
          · rw [List.mem_singleton.mp q]; exact hT rfl
  · rintro l xs Γ' ys zs hU ⟨ns, yss, z, x3, rfl, pm, rfl, hx3, rfl, rfl, fe, hne, hz⟩
    have nl : ns.length = n := by rw [pm.length_eq, List.length_range]
    rw [List.length_map, nl] at hz fe
    rw [List.take_of_length_le (by omega)] at fe
    have ne2 : ∀ y ∈ yss ++ [z], y ≠ [] := fun y hy => (List.mem_append.mp hy).elim (hne y) fun q => by rw [List.mem_singleton.mp q]; exact hz (by omega)
    have ok := sN_ok fe pm ne2 n1 n5
    have lens : ∀ y ∈ yss ++ [z], y.length ≤ 5 := fun y hy => by
      have := (List.sublist_flatten_of_mem hy).length_le
      rw [fe, nl] at this
      omega
    have l5 : (yss ++ [z]).length ≤ 5 := by have := ok.len; rwa [List.length_map] at this
    refine sg_ret (d := .lst (((yss ++ [z]).map sN).map lstN)) (Ev1.is (en_lcMA (xs := yss ++ [z]) lstN (fun y => lstN (sN y)) (fun x _ y _ e => lstN_inj e) (js := [4]) (by simp) (it_seq (d := .lst ((yss ++ [z]).map lstN)) (Ev1.is (en_var 2 rfl) (by rw [List.map_append]; rfl)) (.inr (.inl rfl))) (by omega) fun m' l' y hy => ⟨_, tg_name 4, Ev1.is (en_cb1 (ea_cons (en_var 4 rfl) ea_nil) (c_sorted (ns := y.map fun k : Nat => (k : Int)) (.inr (.inl (by rw [← dN_ints]))) (by rw [List.length_map]; have := lens y hy; omega))) (by rw [sN_int])⟩) (by rw [List.map_map]; rfl)) fun n' e => ?_
    injection e with e
    rw [← dN_inj e]
    exact ⟨_, rfl, ok⟩
end
end K03

set_option Elab.async false
set_option linter.all false
set_option maxRecDepth 100000
set_option maxHeartbeats 4000000
set_option autoImplicit false
namespace Tx
open PySem PySem.Spec PyProof.Rows L2
section
variable {K : PySem.W.Frag} {m : Mo} {Γ : G} {tw ts : TS} {l : Addr} {H0 : Hp} {ds : List D}
/-- x, y = e, [] ; rest -/
theorem sq_parL {i j : Nat} {te : TE} {S : D → Prop} {O : Out} (h : EvN m K te Γ S) (k : ∀ l H0 d, S d → SGo m K l H0 tw ((Γ.set i (some d)).set j (some (.adr l))) [] { nx := fun _ _ => False, rt := O.rt }) : SG m K (tSeq (tPar i j (tCons te (tCons (tLst tNil) tNil))) tw) Γ O := fun σ H e E M =>
  h σ H e _ fun v d H1 s r1 rv => ⟨Nat.zero_le _, fun l hl => by
    have e1 := e.mv r1
    have rN : m.R H1 (upd H1 l (.lst [])) := m.grow e1.i (same_new hl)
    have eX : ER (m.ext l) K Γ σ (upd H1 l (.lst [])) := e1.ext hl rN (by rw [upd_same]; exact fun z => nomatch z)
    have rv' : Rp K (m.ext l).F (upd H1 l (.lst [])) v d := rv.go fun a o n q => ⟨fun z => z.elim n fun z => (by rw [z, hl] at q; cases q), same_new hl a o q⟩
    exact ⟨_, _, rfl, k l H1 d s hl e1.i _ _ [] rN ((eX.set i rv').set j (.adr l)) upd_same .nil E ⟨fun _ _ _ _ _ o => o.elim, fun d v H' o r rv => M.rt d v H' o (m.trans r1 r) rv⟩⟩⟩
/-- a statement that doesn't touch the list -/
theorem so_lift {N : G → Prop} {O : OutO} (h : SG (m.ext l) K ts Γ { nx := N, rt := fun _ => False }) (k : ∀ Γ', N Γ' → O.nx Γ' ds) : SGo m K l H0 ts Γ ds O := fun h0 i0 σ H vs r e hl ra E M =>
  h σ H e E ⟨fun Γ' σ' H' o r' e' => M.nx Γ' ds σ' H' vs (k Γ' o) (m.trans r r') (fun a o n q => (m.ext l).keep r' e.i a o n q) e' (m.keep r' e.i.1 l _ (nFl h0 i0) hl) (ra.mv ((m.ext l).keep r' e.i)), fun _ _ _ o => o.elim, fun _ _ _ o => o.elim, fun _ _ _ o => o.elim⟩
theorem sg_break {O : Out} (h : O.bk Γ) : SG m K tBreak Γ O := fun σ H e E M => M.bk Γ σ H h (m.refl H) e
end
end Tx
namespace K03
open PySem L2 Tx WebM
theorem ahead_nd : ∀ {bs : List (List Nat)} {acc : List Nat} {t : Nat}, (acc ++ bs.flatten).Nodup → (aheadL bs acc t).Nodup
  | [], acc, t, h => by simpa [aheadL] using h
  | b :: bs, acc, t, h => by
    rw [List.flatten_cons, ← List.append_assoc] at h
    unfold aheadL
    split
    · exact (List.nodup_append.mp h).1
    · exact ahead_nd h
/-- a row of what is heard, as the law writes it -/
def rowX (bs : List (List Nat)) (t : Nat) : List Nat := (sN (aheadL bs [] t)).filter fun x => decide (x ≠ t)
section
variable {bs : List (List Nat)} {n : Nat}
theorem rowX_is (ok : PtOk bs n) {t : Nat} (ht : t < n) : rowX bs t = (List.range n).filter fun x => decide (x ∈ aheadL bs [] t) && decide (x ≠ t) := by
  have nd : (aheadL bs [] t).Nodup := ahead_nd (by rw [List.nil_append]; exact ok.pm.nodup_iff.mpr List.nodup_range)
  refine upp_eq ((sN_up nd).filter _) (List.pairwise_lt_range.filter _) fun x => ?_
  unfold rowX
  rw [List.mem_filter, List.mem_filter, (sN_perm _).mem_iff, List.mem_range, Bool.and_eq_true, decide_eq_true_iff, decide_eq_true_iff]
  exact ⟨fun ⟨a, b⟩ => ⟨((ahead_iff ok ht).mp a).1, a, b⟩, fun ⟨_, a, b⟩ => ⟨a, b⟩⟩
theorem rows_part (ok : PtOk bs n) : ((List.range n).map fun t => tupN (rowX bs t)) = (partH bs n).map tupN := by
  unfold partH nrm
  rw [List.map_map]
  exact List.map_congr_left fun t ht => congrArg tupN (rowX_is ok (List.mem_range.mp ht))
end
section
variable {P : Program} {w : World} {K : PySem.W.Frag} {mg : Str → Option Value} {base : Heap} {C : Addr}
theorem sc_law_parting_right : FnScope ["_law_pouch_here", "_law_size", "_law_thread", "_law_web", "_law_one", "_law_blocks_here", "_law_heard_here", "_law_ahead", "_law_block", "_law_other"] ["_law_pouch_here", "_law_size"] (defScope s_law_parting_right) := ⟨rfl, rfl, rfl, by decide +kernel, rfl, by decide +kernel, by decide +kernel⟩
theorem ok_law_parting_right {f : Addr} {fd : FuncData} (Fu : Fun K "_law_parting_right" "_law_parting_right" s_law_parting_right f fd) (T : Txt K mg C)
    (c__law_blocks : C8.Cal P w K mg base 4 "_law_blocks" (spP K pre_heard S_bk) []) (c_parting_web : C8.Cal P w K mg base 9 "parting_web" (spS K pre_pt (S_pw C)) [])
    (k_Web1 : CWeb1 P w K mg base C) (p_roots : PRoots P w K mg base C) (m_hears : CHears P w K mg base C) (O_eq : OwnK P w K mg base C "__eq__" 1 (spE K C)) (O_ne : NeC K C) :
    FnOk P w K mg base CX0 11 f fd ["_law_pouch_here", "_law_size"] (spP K pre_heard fun _ d => d = .bl true) := by
  refine fn_pouch Fu sc_law_parting_right (fun ds h => by obtain ⟨n, rfl, _⟩ := h; rfl) fun cdv A outer s H E hr => ⟨_, (pss_cons (ps_par (i := 5) (j := 6) rfl sc_law_parting_right.nd rfl rfl (by decide) rfl rfl (pa_cons (C8.pe_c c__law_blocks hr (by decide) rfl (pa_cons (pv 0) (pa_cons (pv 1) pa_nil))) (pa_cons (pe_lst pa_nil) pa_nil)) (by rfl)) (pss_cons (ps_for PassesOwn.never rfl (pi_range1 rfl T.range (pa_cons (pv 1) pa_nil)) (pg_name (i := 2) sc_law_parting_right.nd rfl (by first | exact Or.inl rfl | exact Or.inr rfl)) (pss_cons (ps_set (i := 7) sc_law_parting_right.nd rfl (by first | exact Or.inl rfl | exact Or.inr rfl) (pe_lst pa_nil)) (pss_cons (ps_for PassesOwn.never rfl (show PI _ _ _ (iSeq K _) from pi_seq (pv 5)) (pg_name (i := 8) sc_law_parting_right.nd rfl (by first | exact Or.inl rfl | exact Or.inr rfl)) (pss_cons (ps_set (i := 7) sc_law_parting_right.nd rfl (by first | exact Or.inl rfl | exact Or.inr rfl) (pe_op (r := rAddU K) op_addU (pv 7) (pv 8))) (pss_one (ps_if (pt_cmpR (r := rInS K false) (op_inS (hu65 hr)) (pv 2) (pv 8) (by rfl)) (pss_one ps_break) pss_nil)))) (pss_one (ps_expr (pe_bm PySem.F.plainAttrs_list PySem.F.slot_list_append PySem.F.type_list_append mt_append (pv 6) (pa_cons (pe_callTy (r := rTup K) cr_tup (by rfl) T.tuple (by decide +kernel) (pa_cons (pe_lc (own := [("_law_one", 4)]) rfl sc_law_parting_right.nd (show PI _ _ _ (iSeq K _) from pi_seq (pe_callB (r := rSortS K) cr_sortS (by rfl) T.sorted (by decide +kernel) (pa_cons (pv 7) pa_nil))) (blkOk_by (by kernel_rfl)) (fun _ _ _ _ _ => (pg_name (i := 4) sc_law_parting_right.nd rfl (by first | exact Or.inl rfl | exact Or.inr rfl))) (fun _ _ _ _ _ => (pts_one (pt_cmpR (r := rNeU K C (spE K C)) (op_neK O_eq O_ne hr (by decide) hr.units) (pv 4) (pv 2) (nomark _)))) (fun _ _ _ _ _ => (pv 4))) pa_nil)) pa_nil))))))) (pss_cons (ps_set (i := 3) sc_law_parting_right.nd rfl (by first | exact Or.inl rfl | exact Or.inr rfl) (C8.pe_c c_parting_web hr (by decide) rfl (pa_cons (pe_callTy (r := rTup K) cr_tup (by rfl) T.tuple (by decide +kernel) (pa_cons (pe_lc (own := [("_law_block", 8)]) rfl sc_law_parting_right.nd (show PI _ _ _ (iSeq K _) from pi_seq (pv 5)) (blkOk_by (by kernel_rfl)) (fun _ _ _ _ _ => (pg_name (i := 8) sc_law_parting_right.nd rfl (by first | exact Or.inl rfl | exact Or.inr rfl))) (fun _ _ _ _ _ => pts_nil) (fun _ _ _ _ _ => (pe_callTy (r := rTup K) cr_tup (by rfl) T.tuple (by decide +kernel) (pa_cons (pv 8) pa_nil)))) pa_nil)) pa_nil))) (pss_cons (ps_if (PW.pt (pw_or (pt_cmpR (r := rNeU K C (spE K C)) (op_neK O_eq O_ne hr (by decide) hr.units) (pv 3) (C8.pe_mk k_Web1 hr (by decide) rfl (pa_cons (pe_callTy (r := rTup K) cr_tup (by rfl) T.tuple (by decide +kernel) (pa_cons (pv 6) pa_nil)) pa_nil)) (nomark _)) (pw_or1 (pt_cmpR (r := rNeU K C (spE K C)) (op_neK O_eq O_ne hr (by decide) hr.units) (C8.pe_prM p_roots hr (by decide) (pv 3)) (pe_callTy (r := rTup K) cr_tup (by rfl) T.tuple (by decide +kernel) (pa_cons (pe_ix (r := rIx K) ix_seq (pv 5) pe_int (fun _ _ => rfl)) pa_nil)) (nomark _))))) (pss_one (ps_ret pe_bl)) pss_nil) (pss_cons (ps_for PassesOwn.never rfl (pi_range1 rfl T.range (pa_cons (pv 1) pa_nil)) (pg_name (i := 4) sc_law_parting_right.nd rfl (by first | exact Or.inl rfl | exact Or.inr rfl)) (pss_one (ps_if (pt_cmpR (r := rNeU K C (spE K C)) (op_neK O_eq O_ne hr (by decide) hr.units) (pe_lc (own := [("_law_other", 9)]) rfl sc_law_parting_right.nd (pi_range1 rfl T.range (pa_cons (pv 1) pa_nil)) (blkOk_by (by kernel_rfl)) (fun _ _ _ _ _ => (pg_name (i := 9) sc_law_parting_right.nd rfl (by first | exact Or.inl rfl | exact Or.inr rfl))) (fun _ _ _ _ _ => (pts_one (PW.pt (pw_and (pt_cmpR (r := rInS K true) (op_notInS (hu65 hr)) (pv 4) (C8.pe_mt m_hears hr (by decide) (pv 3) (pa_cons (pv 9) pa_nil)) (by rfl)) (pw_and1 (pt_cmpR (r := rInS K true) (op_notInS (hu65 hr)) (pv 9) (C8.pe_mt m_hears hr (by decide) (pv 3) (pa_cons (pv 4) pa_nil)) (by rfl))))))) (fun _ _ _ _ _ => (pv 9))) (pe_lst pa_nil) (nomark _)) (pss_one (ps_ret pe_bl)) pss_nil))) (pss_one (ps_ret pe_bl))))))), fun p F ds hp => ?_⟩
  obtain ⟨n, rfl, n1, n5⟩ := hp
  have HP := HasP.self p F
  refine sq_parL (S := fun d => ∃ bs : List (List Nat), d = .lst (bs.map lstN) ∧ PtOk bs n) (en_pcall1 HP (ds := [dN n]) (ea_cons (en_var 0 rfl) (ea_cons (en_var 1 rfl) ea_nil)) ⟨n, rfl, n1, n5⟩ fun d hd => hd n rfl) ?_
  rintro l H0 _ ⟨bs, rfl, ok⟩
  have fl := ok.flen
  have b5 := ok.len
  let Γs : Option D → Option D → Option D → Option D → Option D → G := fun x2 x4 x6 x7 x8 => [some (.adr p), some (dN n), x2, none, x4, some (.lst (bs.map lstN)), x6, x7, x8, none]
  have al : ∀ t, (aheadL bs [] t).length ≤ 5 := fun t => by have := ahead_len (bs := bs) (acc := []) (t := t); rw [fl] at this; simp only [List.length_nil] at this; omega
  refine so_seq (fun Γ' ds' => ∃ x2 x7 x8, Γ' = Γs x2 none (some (.adr l)) x7 x8 ∧ ds' = (List.range n).map fun t => tupN (rowX bs t)) (so_for (xs := (List.range n).map dN) (itx_rng (ea_cons (en_var 1 rfl) ea_nil) (by omega)) (fun i Γ' ds' => ∃ x2 x7 x8, Γ' = Γs x2 none (some (.adr l)) x7 x8 ∧ ds' = ((List.range n).take i).map fun t => tupN (rowX bs t)) ⟨none, none, none, rfl, by rw [List.take_zero]; rfl⟩ ?_ ?_) ?_
  · rintro i d Γ' ds' hd ⟨x2, x7, x8, rfl, rfl⟩
    rw [List.getElem?_map] at hd
    obtain ⟨t, ht, rfl⟩ := Option.map_eq_some_iff.mp hd
    have hi : i < n := by have := (List.getElem?_eq_some_iff.mp ht).1; rwa [List.length_range] at this
    rw [List.getElem?_range hi] at ht
    injection ht with ht
    subst ht
    refine ⟨_, _, tg_name 2, so_seq (fun Γ3 ds3 => Γ3 = Γs (some (dN i)) none (some (.adr l)) (some (lstN [])) x8 ∧ ds3 = ((List.range n).take i).map fun t => tupN (rowX bs t)) (so_asgN (S := fun d => d = lstN []) (en_lst ea_nil (by simp)) fun d e => ⟨by rw [e]; rfl, rfl⟩) ?_⟩
    rintro _ _ ⟨rfl, rfl⟩
    refine so_seq (fun Γ3 ds3 => ∃ x8, Γ3 = Γs (some (dN i)) none (some (.adr l)) (some (lstN (aheadL bs [] i))) x8 ∧ ds3 = ((List.range n).take i).map fun t => tupN (rowX bs t)) (so_lift (N := fun Γ3 => ∃ x8, Γ3 = Γs (some (dN i)) none (some (.adr l)) (some (lstN (aheadL bs [] i))) x8) (sg_for (js := [8]) (T := fun x => x = bs.map lstN) (it_seq (en_var 5 rfl) (.inr (.inl rfl))) (fun _ k Γ' => ∃ x8, Γ' = Γs (some (dN i)) none (some (.adr l)) (some (lstN (bs.take k).flatten)) x8 ∧ i ∉ (bs.take k).flatten) (fun _ _ => ⟨x8, rfl, by simp⟩) ?_ ?_) fun Γ' ⟨x8, e⟩ => ⟨x8, e, rfl⟩) ?_
    · rintro xs k d Γ' rfl hd ⟨x8, rfl, hn⟩
      rw [List.getElem?_map] at hd
      obtain ⟨b, hb, rfl⟩ := Option.map_eq_some_iff.mp hd
      have hst := flat_step hb
      have tl : (bs.take (k + 1)).flatten.length ≤ n := by
        have q : (bs.take (k + 1)).flatten.length + (bs.drop (k + 1)).flatten.length = bs.flatten.length := by rw [← List.length_append, ← List.flatten_append, List.take_append_drop]
        omega
      refine ⟨_, tg_name 8, sq_asg (d := lstN (bs.take (k + 1)).flatten) (Ev1.is (en_op1 (en_var 7 rfl) (en_var 8 rfl) (o_addL (by rw [hst, List.length_append] at tl; rw [List.length_map, List.length_map]; omega))) (by rw [← List.map_append, hst])) ?_⟩
      refine sg_if (b := decide (i ∈ b)) (et_test (en_op1 (en_var 2 rfl) (en_var 8 rfl) (o_inN (.inr (.inl rfl))))) (fun e => sg_break ⟨some (lstN b), ?_⟩) fun e => sg_next ⟨some (lstN b), rfl, ?_⟩
      · rw [ahead_at hb (of_decide_eq_true e) hn, List.nil_append]
        rfl
      · rw [hst, List.mem_append]
        exact fun z => z.elim hn (of_decide_eq_false e)
    · rintro xs Γ' rfl ⟨x8, rfl, hn⟩
      rw [List.length_map, List.take_length] at hn
      exact absurd (ok.mem.mpr hi) hn
    · rintro _ _ ⟨x8, rfl, rfl⟩
      refine so_app (i := 6) (d := tupN (rowX bs i)) rfl (en_cb1 (ea_cons (en_lcM (xs := sN (aheadL bs [] i)) dN (fun x => decide (x ≠ i)) dN (fun x _ y _ e => dN_inj e) (js := [4]) (by simp) (it_seq (d := lstN (sN (aheadL bs [] i))) (Ev1.is (en_cb1 (ea_cons (en_var 7 rfl) ea_nil) (c_sorted (ns := (aheadL bs [] i).map fun k : Nat => (k : Int)) (.inr (.inl (by rw [← dN_ints]))) (by rw [List.length_map]; have := al i; omega))) (by rw [sN_int])) (.inr (.inl rfl))) (by rw [(sN_perm _).length_eq]; have := al i; omega) fun m' l' x hx => ⟨_, tg_name 4, ?_, fun _ => en_var 4 rfl⟩) ea_nil) (c_tuple (.inr (.inl rfl)))) (by rw [List.length_map, List.length_take, List.length_range]; omega) ⟨_, _, _, rfl, ?_⟩
      · refine EvT1.is (et_test (en_op1 (en_var 4 rfl) (en_var 2 rfl) (o_neUI (C := C)))) ?_
        by_cases z : x = i
        · subst z; simp
        · have : ¬ ((x : Int) = (i : Int)) := by omega
          simp [z, this]
      · rw [List.take_add_one, List.getElem?_range hi, List.map_append]
        rfl
  · rintro Γ' ds' ⟨x2, x7, x8, rfl, e⟩
    rw [List.length_map, List.length_range, List.take_of_length_le (by rw [List.length_range]; exact Nat.le_refl _)] at e
    exact ⟨x2, x7, x8, rfl, e⟩
  · rintro _ _ ⟨x2, x7, x8, rfl, rfl⟩
    refine so_dis (i := 6) rfl ?_
    rw [rows_part ok]
    have pok := part_ok ok
    have wP : WOk (partH bs n) (zeros (partH bs n)) := plain_ok pok
    have pl : (partH bs n).length = n := part_len
    refine sq_asg (d := plainW C (partH bs n)) (en_call (S := fun d => d = plainW C (partH bs n)) (ds := [hdD bs]) (ea_cons (en_cb1 (ea_cons (en_lcMA (xs := bs) lstN (fun b => tupN b) (fun x _ y _ e => lstN_inj e) (js := [8]) (by simp) (it_seq (d := .lst (bs.map lstN)) (en_var 5 rfl) (.inr (.inl rfl))) (by omega) fun m' l' b hb => ⟨_, tg_name 8, en_cb1 (ea_cons (en_var 8 rfl) ea_nil) (c_tuple (.inr (.inl rfl)))⟩) ea_nil) (c_tuple (.inr (.inl rfl)))) ea_nil) ⟨bs, n, rfl, ok⟩ fun d hd => hd bs n rfl ok) ?_
    obtain ⟨b0, r, hb⟩ : ∃ b0 r, bs = b0 :: r := by
      cases hq : bs with
      | nil => rw [hq] at fl; simp at fl; omega
      | cons b0 r => exact ⟨b0, r, rfl⟩
    refine sg_seqIf (b := false) (EvT1.is (et_or (p := false) (k := false) (et_test (en_op1 (a := plainW C (partH bs n)) (en_var 3 rfl) (ev_web1 (h := partH bs n) (en_cb1 (ea_cons (en_var 6 rfl) ea_nil) (c_tuple (.inr (.inl rfl)))) pok) (o_neW wP))) fun _ => et_test (en_op1 (a := tupN b0) (b := tupN b0) (Ev1.is (ev_self (nm := "roots") (n := 1) (g := fun h _ => tupN (rootsOf h)) (en_var 3 rfl) wP) (by show tupN (rootsOf (partH bs n)) = _; rw [part_roots ok, hb]; rfl)) (en_cb1 (ea_cons (en_op1 (en_var 5 rfl) (en_int 0) (o_ix (d := lstN b0) (i := 0) (.inr (.inl rfl)) (atI_of (i := 0) (by rw [hb]; rfl)))) ea_nil) (c_tuple (.inr (.inl rfl)))) (o_neUS (n := 1) (by decide) (pur_N b0)))) rfl) (fun e => nomatch e) fun _ => ?_
    let Inv : G → Prop := fun Γ' => ∃ x4, Γ' = (Γs x2 x4 (some (.lst ((partH bs n).map tupN))) x7 x8).set 3 (some (plainW C (partH bs n)))
    refine sg_seq Inv (sg_for (js := [4]) (T := fun x => x = (List.range n).map dN) (it_rng (n := n) (ea_cons (en_var 1 rfl) ea_nil) (by omega)) (fun _ _ Γ' => Inv Γ') (fun _ _ => ⟨none, rfl⟩) ?_ (fun xs Γ' _ q => q)) ?_
    · rintro xs i d Γ' rfl hd ⟨x4, rfl⟩
      rw [List.getElem?_map] at hd
      obtain ⟨t, ht, rfl⟩ := Option.map_eq_some_iff.mp hd
      have hi : i < n := by have := (List.getElem?_eq_some_iff.mp ht).1; rwa [List.length_range] at this
      rw [List.getElem?_range hi] at ht
      injection ht with ht
      subst ht
      have emp : (List.range n).filter (fun x => !decide (i ∈ own (partH bs n) x) && !decide (x ∈ own (partH bs n) i)) = [] := List.filter_eq_nil_iff.mpr fun x hx => by
        have hx' := List.mem_range.mp hx
        have tot : i ∈ own (partH bs n) x ∨ x ∈ own (partH bs n) i := by
          by_cases e : i = x
          · exact .inl (mem_ownG.mpr ⟨by rw [pl]; exact hi, .inl e⟩)
          · rcases Nat.le_total (bi bs i) (bi bs x) with q | q
            · exact .inl (mem_ownG.mpr ⟨by rw [pl]; exact hi, .inr ((part_row ok hx').mpr ⟨hi, q, e⟩)⟩)
            · exact .inr (mem_ownG.mpr ⟨by rw [pl]; exact hx', .inr ((part_row ok hi).mpr ⟨hx', q, fun z => e z.symm⟩)⟩)
        rcases tot with q | q
        · rw [decide_eq_true q]; simp
        · rw [decide_eq_true q]; simp
      refine ⟨_, tg_name 4, sg_if (b := false) (et_test (en_op1 (a := .lst []) (b := .lst []) (Ev1.is (en_lcM (xs := List.range n) dN (fun x => !decide (i ∈ own (partH bs n) x) && !decide (x ∈ own (partH bs n) i)) dN (fun x _ y _ e => dN_inj e) (js := [9]) (by simp) (it_rng (n := n) (ea_cons (en_var 1 rfl) ea_nil) (by omega)) (by rw [List.length_range]; omega) fun m' l' x hx => ⟨_, tg_name 9, et_and (et_test (en_op1 (en_var 4 rfl) (ev_hears (en_var 3 rfl) (en_var 9 rfl) wP (by rw [pl]; exact List.mem_range.mp hx)) (o_niN (.inl rfl)))) fun _ => et_test (en_op1 (en_var 9 rfl) (ev_hears (en_var 3 rfl) (en_var 4 rfl) wP (by rw [pl]; exact hi)) (o_niN (.inl rfl))), fun _ => en_var 9 rfl⟩) (by rw [emp]; rfl)) (en_lst ea_nil (by simp)) (o_neUS (n := 1) (by decide) rfl))) (fun e => nomatch e) fun _ => sg_next ⟨_, rfl⟩⟩
    · rintro Γ' ⟨x4, rfl⟩
      exact sg_ret (d := .bl true) (en_bl true) rfl
end
end K03

set_option Elab.async false
set_option linter.all false
set_option maxRecDepth 100000
set_option maxHeartbeats 4000000
set_option autoImplicit false
namespace K03
open PySem L2 Tx WebM
theorem last_pt : PtOk [[1], [0, 2]] 3 := ⟨by decide, by decide, by decide, by decide, by decide⟩
theorem last_part : partH [[1], [0, 2]] 3 = [[1, 2], [], [0, 1]] := by decide
theorem last_chn : chnH 3 1 = [[2], [], [1]] := by decide
section
variable {P : Program} {w : World} {K : PySem.W.Frag} {mg : Str → Option Value} {base : Heap} {C Cp : Addr}
theorem sc_law : FnScope ["_law_script", "_law_at", "_law_pouch_here", "_law_turn", "_law_size"] ["_law_script"] (defScope s_law) := ⟨rfl, rfl, rfl, by decide +kernel, rfl, by decide +kernel, by decide +kernel⟩
def pre_law (ds : List D) : Prop := ∃ xs : List Int, ds = [.frl (xs.map D.int)] ∧ xs.length ≤ 63
theorem ok_law {f : Addr} {fd : FuncData} (Fu : Fun K "law" "law" s_law f fd) (T : TxtP K mg C Cp)
    (c__law_pouch : C8.Cal P w K mg base 1 "_law_pouch" (spNew K pre_pouch) []) (c__law_coin : CCoin P w K mg base)
    (c__law_parting_right : C8.Cal P w K mg base 11 "_law_parting_right" (spP K pre_heard fun _ d => d = .bl true) [])
    (c__law_makers_right : C8.Cal P w K mg base 12 "_law_makers_right" (spF K pre_mr fun _ => .bl true) [])
    (c__law_known_right : C8.Cal P w K mg base 11 "_law_known_right" (spP K pre_heard fun _ d => d = .bl true) [])
    (c_parting_web : C8.Cal P w K mg base 9 "parting_web" (spS K pre_pt (S_pw C)) []) (c_chain_web : C8.Cal P w K mg base 7 "chain_web" (spS K pre_sc (S_sc C chnH)) [])
    (p_heard : C8.PrM P w K mg base 1 C "heard" (spS K (pre_self C) (S_self C (fun h _ => hdD h)))) :
    FnOk P w K mg base CX0 15 f fd ["_law_script"] (spS K pre_law fun _ d => d = .bl true) := by
  refine fn_pure Fu sc_law (fun ds h => by obtain ⟨xs, rfl, _⟩ := h; rfl) fun cdv A outer s H E hr => ⟨_, (pss_cons (ps_for PassesOwn.never rfl (pi_range1 rfl T.range (pa_cons (pe_callB (r := rMaxU K) (cr_maxU rfl hr.units) (by rfl) T.max (by decide +kernel) (pa_cons pe_int (pa_cons (pe_callB (cr_min2 rfl) (by rfl) T.min (by decide +kernel) (pa_cons pe_int (pa_cons (pe_callB (r := rLenS K) cr_len (by rfl) T.len (by decide +kernel) (pa_cons (pv 0) pa_nil)) pa_nil))) pa_nil))) pa_nil)) (pg_name (i := 1) sc_law.nd rfl (by first | exact Or.inl rfl | exact Or.inr rfl)) (pss_cons (ps_set (i := 2) sc_law.nd rfl (by first | exact Or.inl rfl | exact Or.inr rfl) (C8.pe_c c__law_pouch hr (by decide) rfl (pa_cons (pv 0) (pa_cons (pv 1) pa_nil)))) (pss_one (ps_for PassesOwn.never rfl (pi_range1 rfl T.range (pa_cons pe_int pa_nil)) (pg_name (i := 3) sc_law.nd rfl (by first | exact Or.inl rfl | exact Or.inr rfl)) (pss_cons (ps_set (i := 4) sc_law.nd rfl (by first | exact Or.inl rfl | exact Or.inr rfl) (pe_op (r := rAddU K) op_addU pe_int (C8.pe_c c__law_coin hr (by decide) rfl (pa_cons (pv 2) (pa_cons pe_int pa_nil))))) (pss_cons (ps_if (PW.pt (pw_or (pt_not (pt_val (C8.pe_c c__law_parting_right hr (by decide) rfl (pa_cons (pv 2) (pa_cons (pv 4) pa_nil))))) (pw_or1 (pt_not (pt_val (C8.pe_c c__law_makers_right hr (by decide) rfl (pa_cons (pv 4) (pa_cons (C8.pe_c c__law_coin hr (by decide) rfl (pa_cons (pv 2) (pa_cons (pv 4) pa_nil))) pa_nil)))))))) (pss_one (ps_ret pe_bl)) pss_nil) (pss_one (ps_if (pt_not (pt_val (C8.pe_c c__law_known_right hr (by decide) rfl (pa_cons (pv 2) (pa_cons (pv 4) pa_nil))))) (pss_one (ps_ret pe_bl)) pss_nil)))))))) (pss_one (ps_ret (pe_and (pe_cmpR (r := rEqD K) (op_eqD hr.units) (C8.pe_prM p_heard hr (by decide) (C8.pe_c c_parting_web hr (by decide) rfl (pa_cons (pe_tup (pa_cons (pe_tup (pa_cons pe_int pa_nil)) (pa_cons (pe_tup (pa_cons pe_int (pa_cons pe_int pa_nil))) pa_nil))) pa_nil))) (pe_tup (pa_cons (pe_tup (pa_cons pe_int (pa_cons pe_int pa_nil))) (pa_cons (pe_tup pa_nil) (pa_cons (pe_tup (pa_cons pe_int (pa_cons pe_int pa_nil))) pa_nil)))) (nomark _)) (pe_one (pe_cmpR (r := rEqD K) (op_eqD hr.units) (C8.pe_prM p_heard hr (by decide) (C8.pe_c c_chain_web hr (by decide) rfl (pa_cons pe_int (pa_cons pe_int pa_nil)))) (pe_tup (pa_cons (pe_tup (pa_cons pe_int pa_nil)) (pa_cons (pe_tup pa_nil) (pa_cons (pe_tup (pa_cons pe_int pa_nil)) pa_nil)))) (nomark _))))))), fun F ds hp => ?_⟩
  obtain ⟨xs, rfl, hx⟩ := hp
  have hN : ∃ n : Nat, n ≤ 3 ∧ (if (if ((xs.map D.int).length : Int) < 3 then ((xs.map D.int).length : Int) else 3) > 1 then (if ((xs.map D.int).length : Int) < 3 then ((xs.map D.int).length : Int) else 3) else 1) = (n : Int) := by
    generalize (xs.map D.int).length = k
    by_cases h1 : (k : Int) < 3
    · rw [if_pos h1]
      by_cases h2 : (k : Int) > 1
      · exact ⟨k, by omega, by rw [if_pos h2]⟩
      · exact ⟨1, by omega, by rw [if_neg h2]; rfl⟩
    · rw [if_neg h1]
      exact ⟨3, by omega, by rfl⟩
  obtain ⟨n, n3, en⟩ := hN
  refine sg_seq (fun Γ' => ∃ x1 x2 x3 x4 : Option D, Γ' = [some (.frl (xs.map D.int)), x1, x2, x3, x4]) (sg_for (js := [1]) (T := fun x => x = (List.range n).map dN) (it_rng (n := n) (ea_cons (Ev1.is (en_cb1 (ea_cons (en_int 1) (ea_cons (en_cb1 (ea_cons (en_int 3) (ea_cons (en_cb1 (ea_cons (en_var 0 rfl) ea_nil) (c_len (.inr (.inr rfl)))) ea_nil)) c_min2) ea_nil)) c_max2) (by rw [en])) ea_nil) (by omega)) (fun _ _ Γ' => ∃ x1 x2 x3 x4 : Option D, Γ' = [some (.frl (xs.map D.int)), x1, x2, x3, x4]) (fun _ _ => ⟨none, none, none, none, rfl⟩) ?_ (fun _ Γ' _ w => w)) ?_
  · rintro ys i d Γ' rfl hd ⟨x1, x2, x3, x4, rfl⟩
    have hi := (List.getElem?_eq_some_iff.mp hd).1
    rw [List.length_map, List.length_range] at hi
    rw [List.getElem?_map, List.getElem?_range hi] at hd
    injection hd with hd
    subst hd
    refine ⟨_, tg_name 1, sq_pouch (en_newcall (pre := pre_pouch) (xs := xs) (i := i) (ea_cons (en_var 0 rfl) (ea_cons (en_var 1 rfl) ea_nil)) ⟨i, rfl, by omega⟩) fun p => ?_⟩
    have HP := HasP.self p F
    refine sg_for (js := [3]) (T := fun x => x = (List.range 3).map dN) (it_rng (n := 3) (ea_cons (en_int 3) ea_nil) (by decide)) (fun _ _ Γ' => ∃ x3 x4 : Option D, Γ' = [some (.frl (xs.map D.int)), some (dN i), some (.adr p), x3, x4]) (fun _ _ => ⟨x3, x4, rfl⟩) ?_ (fun _ Γ' _ ⟨x3, x4, e⟩ => ⟨_, _, x3, x4, e⟩)
    rintro ys j d Γ' rfl hd ⟨x3, x4, rfl⟩
    refine ⟨_, tg_name 3, ?_⟩
    refine sq_asgN (S := fun d => ∃ n : Nat, d = dN n ∧ 1 ≤ n ∧ n ≤ 5) (en_op (Sa := fun d => d = .int 1) (en_int 1) (ev_coin (k := 5) HP rfl (en_int 5) (by decide) (by decide)) fun a b ea ⟨r, eb, hr⟩ => by subst ea; subst eb; exact OpN.mono o_addI fun d e => ⟨1 + r, by rw [e]; show D.int _ = D.int _; congr 1, by omega, by omega⟩) ?_
    rintro _ ⟨k, rfl, k1, k5⟩
    refine sg_seqIf (b := false) (EvT1.is (et_or (p := false) (k := false) (EvT1.is (et_not (et_B (en_pcall1 (S := fun d => d = .bl true) HP (ds := [dN k]) (ea_cons (en_var 2 rfl) (ea_cons (en_var 4 rfl) ea_nil)) ⟨k, rfl, k1, k5⟩ fun d hd => hd))) rfl) fun _ => EvT1.is (et_not (et_B (en_callN (S := fun d => d = .bl true) (T := fun ds => ∃ c : Nat, ds = [dN k, dN c] ∧ c < k) (dds := []) (ea_consN (S := fun d => d = dN k) (T := fun ds => ∃ c : Nat, ds = [dN c] ∧ c < k) (en_var 4 rfl) (ea_consN (T := fun ds => ds = []) (ev_coin HP rfl (en_var 4 rfl) (by omega) (by omega)) ea_nil fun d ds ⟨r, e, h⟩ e2 => ⟨r, by rw [e, e2], h⟩) fun d ds e ⟨r, e2, h⟩ => ⟨r, by rw [e, e2], h⟩) (fun _ _ => .nil) (fun ds ⟨c, e, h⟩ => by rw [e]; exact ⟨k, c, rfl, k5, h⟩) fun ds d _ e => e))) rfl) rfl) (fun e => nomatch e) fun _ => ?_
    exact sg_if (b := false) (EvT1.is (et_not (et_B (en_pcall1 (S := fun d => d = .bl true) HP (ds := [dN k]) (ea_cons (en_var 2 rfl) (ea_cons (en_var 4 rfl) ea_nil)) ⟨k, rfl, k1, k5⟩ fun d hd => hd))) rfl) (fun e => nomatch e) fun _ => sg_next ⟨_, _, rfl⟩
  · rintro Γ' ⟨x1, x2, x3, x4, rfl⟩
    have hh : ∀ {m' : Mo} {Γ : G} {te : TE} {E : XK} {h : Hd}, Ev1 m' K te Γ (plainW C h) → WebM.Ok h → Ev1 m' K (tProp C (spS K (pre_self C) (S_self C fun h _ => hdD h)) [] E te) Γ (hdD h) := fun e ok => ev_self (nm := "heard") (n := 1) (g := fun h _ => hdD h) e (plain_ok ok)
    refine sg_ret (d := .bl true) (Ev1.is (en_and (p := true) (k := true) (en_op1 (a := hdD [[1, 2], [], [0, 1]]) (b := hdD [[1, 2], [], [0, 1]]) (Ev1.is (hh (h := partH [[1], [0, 2]] 3) (en_call (S := fun d => d = plainW C (partH [[1], [0, 2]] 3)) (ds := [hdD [[1], [0, 2]]]) (ea_cons (en_tup (ea_cons (en_tup (ea_cons (en_int 1) ea_nil) (by simp)) (ea_cons (en_tup (ea_cons (en_int 0) (ea_cons (en_int 2) ea_nil)) (by simp)) ea_nil)) (by simp)) ea_nil) ⟨_, 3, rfl, last_pt⟩ fun d hd => hd _ 3 rfl last_pt) (part_ok last_pt)) (by rw [last_part])) (en_tup (ea_cons (en_tup (ea_cons (en_int 1) (ea_cons (en_int 2) ea_nil)) (by simp)) (ea_cons (en_tup ea_nil (by simp)) (ea_cons (en_tup (ea_cons (en_int 0) (ea_cons (en_int 1) ea_nil)) (by simp)) ea_nil))) (by simp)) (o_eqS (n := 2) (by decide) (pur_hd _))) fun _ => ?_) rfl) rfl
    exact en_op1 (a := hdD [[2], [], [1]]) (b := hdD [[2], [], [1]]) (Ev1.is (hh (h := chnH 3 1) (ev_maker2 (g := chnH) (en_int 3) (en_int 1) (by decide) (by decide)) (chn_ok (by decide) (by decide))) (by rw [last_chn])) (en_tup (ea_cons (en_tup (ea_cons (en_int 2) ea_nil) (by simp)) (ea_cons (en_tup ea_nil (by simp)) (ea_cons (en_tup (ea_cons (en_int 1) ea_nil) (by simp)) ea_nil))) (by simp)) (o_eqS (n := 2) (by decide) (pur_hd _))
theorem law_sp {H : Hp} {a : Addr} {ns : List Int} (hl : ns.length ≤ 63) (hO : Only H) (hS : SqL K H a (ns.map V.int)) : spS K pre_law (fun _ d => d = .bl true) [.ref a] H (fun v _ => v = .bl true) fun _ _ _ => False := by
  have allI : ∀ (ns : List Int), RpAll K (fun _ => False) H (ns.map V.int) (ns.map D.int) := fun ns => by
    induction ns with
    | nil => exact .nil
    | cons n ns ih => exact .cons (.int _) ih
  refine ⟨fun _ => False, [.frl (ns.map D.int)], fun a f => f.elim, .cons ?_ .nil, ⟨ns, rfl, hl⟩, fun v d H' e _ rv => by subst e; exact rv.blE⟩
  rcases hS with (h | ⟨o, h⟩) | h
  · rcases hO a with e | ⟨o, xs, e⟩
    · rw [e] at h; cases h
    · rw [e] at h; cases h
  · exact .frl (fun z => z) h (allI ns)
  · exact .kfrl h (allI ns)
end
end K03

set_option Elab.async false
set_option linter.all false
set_option maxRecDepth 100000
set_option maxHeartbeats 4000000
set_option autoImplicit false
namespace K03
open PySem PySem.Spec PyProof.Rows L2 Tx WebM
theorem funD_mk {K : PySem.W.Frag} {x qual : Str} {st : Stmt} {f T : Addr} {oc ocT : Value} {od an odT : Option Addr} {osl oslT : Array (Option Value)} {kV doc pm cdv ct : Value} {nT : Nat} (l : K.lookup f = some ⟨oc, od, .func (PySem.W.fnOf x qual (defArgs st) (defBody st) (defScope st) (.ref T) kV doc pm an cdv ct), osl⟩)
    (c : PySem.W.codeIn K cdv qual = true) (k : PySem.W.keepIn K (.ref f) = true) (d : K.lookup T = some ⟨ocT, odT, .seq [Value.none].toArray nT, oslT⟩) : FunD K x qual (defArgs st) (defBody st) (defScope st) [.non] [] f (PySem.W.fnOf x qual (defArgs st) (defBody st) (defScope st) (.ref T) kV doc pm an cdv ct) :=
  ⟨⟨oc, od, .ref T, kV, doc, pm, an, cdv, ct, osl, rfl, l, c, .inr ⟨by simp, T, _, [Value.none], nT, rfl, d, rfl, .cons rfl .nil⟩, .inl rfl⟩, k⟩
theorem funD0_mk {K : PySem.W.Frag} {x qual : Str} {st : Stmt} {f : Addr} {oc : Value} {od an : Option Addr} {osl : Array (Option Value)} {kV doc pm cdv ct : Value} (l : K.lookup f = some ⟨oc, od, .func (PySem.W.fnOf x qual (defArgs st) (defBody st) (defScope st) .none kV doc pm an cdv ct), osl⟩)
    (c : PySem.W.codeIn K cdv qual = true) (k : PySem.W.keepIn K (.ref f) = true) : FunD K x qual (defArgs st) (defBody st) (defScope st) [] [] f (PySem.W.fnOf x qual (defArgs st) (defBody st) (defScope st) .none kV doc pm an cdv ct) :=
  ⟨⟨oc, od, .none, kV, doc, pm, an, cdv, ct, osl, rfl, l, c, .inl ⟨rfl, rfl⟩, .inl rfl⟩, k⟩
theorem all_mk {l : PySem.W.OpenLaw} {w : World} {K : PySem.W.Frag} {h : Heap} {mg : Str → Option Value} {fa : Addr} {C Cp : Addr} {u5 u9 u80 u6 : Value} {fA_law_pouch : Addr} {fd_law_pouch : FuncData} {fA_law_coin : Addr} {fd_law_coin : FuncData} {fA_law_shuffled : Addr} {fd_law_shuffled : FuncData} {fA_law_blocks : Addr} {fd_law_blocks : FuncData} {fA_are_numbers : Addr} {fd_are_numbers : FuncData} {fA_is_climbing : Addr} {fd_is_climbing : FuncData} {fA_are_ascending : Addr} {fd_are_ascending : FuncData} {fA_is_parting : Addr} {fd_is_parting : FuncData} {fA_are_others : Addr} {fd_are_others : FuncData} {fA_is_hearing : Addr} {fd_is_hearing : FuncData} {fA_is_marking : Addr} {fd_is_marking : FuncData} {fA_knowing_masks : Addr} {fd_knowing_masks : FuncData} {fA_roots_of : Addr} {fd_roots_of : FuncData} {fA_Web_init : Addr} {fd_Web_init : FuncData} {fA_web_of : Addr} {fd_web_of : FuncData} {fA_parting_web : Addr} {fd_parting_web : FuncData} {fA_Web_roots : Addr} {fd_Web_roots : FuncData} {p_Web_roots_ : Addr} {r_Web_roots_ : List Value} {fA_is_number : Addr} {fd_is_number : FuncData} {fA_check_number : Addr} {fd_check_number : FuncData} {fA_Web_size : Addr} {fd_Web_size : FuncData} {p_Web_size_ : Addr} {r_Web_size_ : List Value} {fA_Web_signal : Addr} {fd_Web_signal : FuncData} {fA_Web_hears : Addr} {fd_Web_hears : FuncData} {fA_Web_eq : Addr} {fd_Web_eq : FuncData} {fA_law_parting_right : Addr} {fd_law_parting_right : FuncData} {fA_silent_web : Addr} {fd_silent_web : FuncData} {fA_full_web : Addr} {fd_full_web : FuncData} {fA_star_web : Addr} {fd_star_web : FuncData} {fA_chain_web : Addr} {fd_chain_web : FuncData} {fA_law_makers_right : Addr} {fd_law_makers_right : FuncData} {fA_law_heard : Addr} {fd_law_heard : FuncData} {fA_law_any : Addr} {fd_law_any : FuncData} {fA_law_marks : Addr} {fd_law_marks : FuncData} {fA_law_plain_web : Addr} {fd_law_plain_web : FuncData} {fA_law_plain_pool : Addr} {fd_law_plain_pool : FuncData} {fA_law_led : Addr} {fd_law_led : FuncData} {fA_law_root_list : Addr} {fd_law_root_list : FuncData} {fA_is_web_tuple : Addr} {fd_is_web_tuple : FuncData} {fA_Web_heard : Addr} {fd_Web_heard : FuncData} {p_Web_heard_ : Addr} {r_Web_heard_ : List Value} {fA_Web_marks : Addr} {fd_Web_marks : FuncData} {p_Web_marks_ : Addr} {r_Web_marks_ : List Value} {fA_places_of : Addr} {fd_places_of : FuncData} {fA_Pool_init : Addr} {fd_Pool_init : FuncData} {fA_law_pool_of : Addr} {fd_law_pool_of : FuncData} {fA_law_word : Addr} {fd_law_word : FuncData} {fA_check_pool : Addr} {fd_check_pool : FuncData} {fA_Pool_len : Addr} {fd_Pool_len : FuncData} {fA_is_word : Addr} {fd_is_word : FuncData} {fA_check_word : Addr} {fd_check_word : FuncData} {fA_Pool_size : Addr} {fd_Pool_size : FuncData} {p_Pool_size_ : Addr} {r_Pool_size_ : List Value} {fA_knowing_at_first : Addr} {fd_knowing_at_first : FuncData} {fA_Web_signals : Addr} {fd_Web_signals : FuncData} {p_Web_signals_ : Addr} {r_Web_signals_ : List Value} {fA_known_together : Addr} {fd_known_together : FuncData} {fA_knowing_after : Addr} {fd_knowing_after : FuncData} {fA_Pool_webs : Addr} {fd_Pool_webs : FuncData} {p_Pool_webs_ : Addr} {r_Pool_webs_ : List Value} {fA_knowing_behind : Addr} {fd_knowing_behind : FuncData} {fA_known : Addr} {fd_known : FuncData} {fA_known_to_all : Addr} {fd_known_to_all : FuncData} {fA_known_by_everyone : Addr} {fd_known_by_everyone : FuncData} {fA_law_known_right : Addr} {fd_law_known_right : FuncData} {fA_law : Addr} {fd_law : FuncData} (X : K.In h) (G : h.Ns mainGlobals mg) (hfa : mg "law" = some (.ref fa)) (r5 : RelV (.int 5) u5) (r9 : RelV (.int 9999) u9) (r80 : RelV (.int 80) u80) (r6 : RelV (.int 6) u6)
    (aC : PySem.W.nsIn K mainGlobals "Web" = some (some (.ref C)))
    (aCp : PySem.W.nsIn K mainGlobals "Pool" = some (some (.ref Cp)))
    (a_u5 : PySem.W.nsIn K mainGlobals "MAX_THREADS" = some (some u5))
    (a_u9 : PySem.W.nsIn K mainGlobals "MAX_MARK" = some (some u9))
    (a_u80 : PySem.W.nsIn K mainGlobals "MAX_WEBS" = some (some u80))
    (a_u6 : PySem.W.nsIn K mainGlobals "MAX_ROUNDS" = some (some u6))
    (pg : PySem.W.plainGet K C Str.empty = true)
    (hd : PySem.W.hasDictIn K C = true)
    (po : PySem.W.plainOver K C = true)
    (sa : PySem.W.findIn K (.ref C) "__setattr__" = some (some (.builtin "object.__setattr__")))
    (mk : PySem.W.makesIn K C = true)
    (kc : PySem.W.keepIn K (.ref C) = true)
    (ha : PySem.W.findIn K (.ref C) "__class__" = some (some (.builtin "object.__class__")))
    (hm : PySem.W.mroIn K C (.type "object") = some true)
    (pgp : PySem.W.plainGet K Cp Str.empty = true)
    (hdp : PySem.W.hasDictIn K Cp = true)
    (pop : PySem.W.plainOver K Cp = true)
    (sap : PySem.W.findIn K (.ref Cp) "__setattr__" = some (some (.builtin "object.__setattr__")))
    (mkp : PySem.W.makesIn K Cp = true)
    (kcp : PySem.W.keepIn K (.ref Cp) = true)
    (hap : PySem.W.findIn K (.ref Cp) "__class__" = some (some (.builtin "object.__class__")))
    (hmp : PySem.W.mroIn K Cp (.type "object") = some true)
    (hn : PySem.W.specialIn K (.builtin "object.__class__") "__get__" = some (some (.builtin "getset_descriptor.__get__")))
    (htk : PySem.W.takesIn K (.builtin "object.__class__") = some true)
    (icl : PySem.W.isClsIn K C = true)
    (ity : PySem.W.typeIn K (.ref C) = some (.type "type"))
    (ist : PySem.W.subIn K (.type "tuple") (.ref C) = some false)
    (hne : PySem.W.findIn K (.ref C) "__ne__" = some (some (.builtin "object.__ne__")))
    (n_heard : PySem.W.findIn K (.ref C) "_heard" = some none)
    (n_marks : PySem.W.findIn K (.ref C) "_marks" = some none)
    (n_signals : PySem.W.findIn K (.ref C) "_signals" = some none)
    (n_roots : PySem.W.findIn K (.ref C) "_roots" = some none)
    (n_webs : PySem.W.findIn K (.ref Cp) "_webs" = some none)
    (n_places : PySem.W.findIn K (.ref Cp) "_places" = some none)
    (z_isinstance : PySem.W.nsIn K mainGlobals "isinstance" = some none)
    (z_int : PySem.W.nsIn K mainGlobals "int" = some none)
    (z_bool : PySem.W.nsIn K mainGlobals "bool" = some none)
    (z_tuple : PySem.W.nsIn K mainGlobals "tuple" = some none)
    (z_list : PySem.W.nsIn K mainGlobals "list" = some none)
    (z_str : PySem.W.nsIn K mainGlobals "str" = some none)
    (z_all : PySem.W.nsIn K mainGlobals "all" = some none)
    (z_any : PySem.W.nsIn K mainGlobals "any" = some none)
    (z_len : PySem.W.nsIn K mainGlobals "len" = some none)
    (z_range : PySem.W.nsIn K mainGlobals "range" = some none)
    (z_enumerate : PySem.W.nsIn K mainGlobals "enumerate" = some none)
    (z_set : PySem.W.nsIn K mainGlobals "set" = some none)
    (z_zip : PySem.W.nsIn K mainGlobals "zip" = some none)
    (z_sorted : PySem.W.nsIn K mainGlobals "sorted" = some none)
    (z_sum : PySem.W.nsIn K mainGlobals "sum" = some none)
    (z_max : PySem.W.nsIn K mainGlobals "max" = some none)
    (z_min : PySem.W.nsIn K mainGlobals "min" = some none)
    (z_abs : PySem.W.nsIn K mainGlobals "abs" = some none)
    (z_repr : PySem.W.nsIn K mainGlobals "repr" = some none)
    (a_law_pouch : PySem.W.nsIn K mainGlobals "_law_pouch" = some (some (.ref fA_law_pouch)))
    (F_law_pouch : Fun K "_law_pouch" "_law_pouch" s_law_pouch fA_law_pouch fd_law_pouch)
    (a_law_coin : PySem.W.nsIn K mainGlobals "_law_coin" = some (some (.ref fA_law_coin)))
    (F_law_coin : Fun K "_law_coin" "_law_coin" s_law_coin fA_law_coin fd_law_coin)
    (a_law_shuffled : PySem.W.nsIn K mainGlobals "_law_shuffled" = some (some (.ref fA_law_shuffled)))
    (F_law_shuffled : Fun K "_law_shuffled" "_law_shuffled" s_law_shuffled fA_law_shuffled fd_law_shuffled)
    (a_law_blocks : PySem.W.nsIn K mainGlobals "_law_blocks" = some (some (.ref fA_law_blocks)))
    (F_law_blocks : Fun K "_law_blocks" "_law_blocks" s_law_blocks fA_law_blocks fd_law_blocks)
    (a_are_numbers : PySem.W.nsIn K mainGlobals "are_numbers" = some (some (.ref fA_are_numbers)))
    (F_are_numbers : Fun K "are_numbers" "are_numbers" s_are_numbers fA_are_numbers fd_are_numbers)
    (a_is_climbing : PySem.W.nsIn K mainGlobals "is_climbing" = some (some (.ref fA_is_climbing)))
    (F_is_climbing : Fun K "is_climbing" "is_climbing" s_is_climbing fA_is_climbing fd_is_climbing)
    (a_are_ascending : PySem.W.nsIn K mainGlobals "are_ascending" = some (some (.ref fA_are_ascending)))
    (F_are_ascending : Fun K "are_ascending" "are_ascending" s_are_ascending fA_are_ascending fd_are_ascending)
    (a_is_parting : PySem.W.nsIn K mainGlobals "is_parting" = some (some (.ref fA_is_parting)))
    (F_is_parting : Fun K "is_parting" "is_parting" s_is_parting fA_is_parting fd_is_parting)
    (a_are_others : PySem.W.nsIn K mainGlobals "are_others" = some (some (.ref fA_are_others)))
    (F_are_others : Fun K "are_others" "are_others" s_are_others fA_are_others fd_are_others)
    (a_is_hearing : PySem.W.nsIn K mainGlobals "is_hearing" = some (some (.ref fA_is_hearing)))
    (F_is_hearing : Fun K "is_hearing" "is_hearing" s_is_hearing fA_is_hearing fd_is_hearing)
    (a_is_marking : PySem.W.nsIn K mainGlobals "is_marking" = some (some (.ref fA_is_marking)))
    (F_is_marking : Fun K "is_marking" "is_marking" s_is_marking fA_is_marking fd_is_marking)
    (a_knowing_masks : PySem.W.nsIn K mainGlobals "knowing_masks" = some (some (.ref fA_knowing_masks)))
    (F_knowing_masks : Fun K "knowing_masks" "knowing_masks" s_knowing_masks fA_knowing_masks fd_knowing_masks)
    (a_roots_of : PySem.W.nsIn K mainGlobals "roots_of" = some (some (.ref fA_roots_of)))
    (F_roots_of : Fun K "roots_of" "roots_of" s_roots_of fA_roots_of fd_roots_of)
    (a_Web_init : PySem.W.findIn K (.ref C) "__init__" = some (some (.ref fA_Web_init)))
    (i_Web_init : PySem.W.isFn K (.ref fA_Web_init) = true)
    (F_Web_init : FunD K "__init__" "Web.__init__" (defArgs s_Web___init) (defBody s_Web___init) (defScope s_Web___init) [.non] [] fA_Web_init fd_Web_init)
    (a_web_of : PySem.W.nsIn K mainGlobals "web_of" = some (some (.ref fA_web_of)))
    (F_web_of : Fun K "web_of" "web_of" s_web_of fA_web_of fd_web_of)
    (a_parting_web : PySem.W.nsIn K mainGlobals "parting_web" = some (some (.ref fA_parting_web)))
    (F_parting_web : Fun K "parting_web" "parting_web" s_parting_web fA_parting_web fd_parting_web)
    (a_Web_roots : PySem.W.findIn K (.ref C) "roots" = some (some (.ref p_Web_roots_)))
    (g_Web_roots : PySem.W.specialIn K (.ref p_Web_roots_) "__get__" = some (some (.builtin "property.__get__")))
    (t_Web_roots : PySem.W.takesIn K (.ref p_Web_roots_) = some true)
    (r_Web_roots : PySem.W.recIn K p_Web_roots_ "property" = some (.ref fA_Web_roots :: r_Web_roots_))
    (F_Web_roots : Fun K "roots" "Web.roots" s_Web_roots fA_Web_roots fd_Web_roots)
    (a_is_number : PySem.W.nsIn K mainGlobals "is_number" = some (some (.ref fA_is_number)))
    (F_is_number : Fun K "is_number" "is_number" s_is_number fA_is_number fd_is_number)
    (a_check_number : PySem.W.nsIn K mainGlobals "check_number" = some (some (.ref fA_check_number)))
    (F_check_number : Fun K "check_number" "check_number" s_check_number fA_check_number fd_check_number)
    (a_Web_size : PySem.W.findIn K (.ref C) "size" = some (some (.ref p_Web_size_)))
    (g_Web_size : PySem.W.specialIn K (.ref p_Web_size_) "__get__" = some (some (.builtin "property.__get__")))
    (t_Web_size : PySem.W.takesIn K (.ref p_Web_size_) = some true)
    (r_Web_size : PySem.W.recIn K p_Web_size_ "property" = some (.ref fA_Web_size :: r_Web_size_))
    (F_Web_size : Fun K "size" "Web.size" s_Web_size fA_Web_size fd_Web_size)
    (a_Web_signal : PySem.W.findIn K (.ref C) "signal" = some (some (.ref fA_Web_signal)))
    (i_Web_signal : PySem.W.isFn K (.ref fA_Web_signal) = true)
    (F_Web_signal : Fun K "signal" "Web.signal" s_Web_signal fA_Web_signal fd_Web_signal)
    (a_Web_hears : PySem.W.findIn K (.ref C) "hears" = some (some (.ref fA_Web_hears)))
    (i_Web_hears : PySem.W.isFn K (.ref fA_Web_hears) = true)
    (F_Web_hears : Fun K "hears" "Web.hears" s_Web_hears fA_Web_hears fd_Web_hears)
    (a_Web_eq : PySem.W.findIn K (.ref C) "__eq__" = some (some (.ref fA_Web_eq)))
    (i_Web_eq : PySem.W.isFn K (.ref fA_Web_eq) = true)
    (F_Web_eq : Fun K "__eq__" "Web.__eq__" s_Web___eq fA_Web_eq fd_Web_eq)
    (a_law_parting_right : PySem.W.nsIn K mainGlobals "_law_parting_right" = some (some (.ref fA_law_parting_right)))
    (F_law_parting_right : Fun K "_law_parting_right" "_law_parting_right" s_law_parting_right fA_law_parting_right fd_law_parting_right)
    (a_silent_web : PySem.W.nsIn K mainGlobals "silent_web" = some (some (.ref fA_silent_web)))
    (F_silent_web : Fun K "silent_web" "silent_web" s_silent_web fA_silent_web fd_silent_web)
    (a_full_web : PySem.W.nsIn K mainGlobals "full_web" = some (some (.ref fA_full_web)))
    (F_full_web : Fun K "full_web" "full_web" s_full_web fA_full_web fd_full_web)
    (a_star_web : PySem.W.nsIn K mainGlobals "star_web" = some (some (.ref fA_star_web)))
    (F_star_web : Fun K "star_web" "star_web" s_star_web fA_star_web fd_star_web)
    (a_chain_web : PySem.W.nsIn K mainGlobals "chain_web" = some (some (.ref fA_chain_web)))
    (F_chain_web : Fun K "chain_web" "chain_web" s_chain_web fA_chain_web fd_chain_web)
    (a_law_makers_right : PySem.W.nsIn K mainGlobals "_law_makers_right" = some (some (.ref fA_law_makers_right)))
    (F_law_makers_right : Fun K "_law_makers_right" "_law_makers_right" s_law_makers_right fA_law_makers_right fd_law_makers_right)
    (a_law_heard : PySem.W.nsIn K mainGlobals "_law_heard" = some (some (.ref fA_law_heard)))
    (F_law_heard : Fun K "_law_heard" "_law_heard" s_law_heard fA_law_heard fd_law_heard)
    (a_law_any : PySem.W.nsIn K mainGlobals "_law_any" = some (some (.ref fA_law_any)))
    (F_law_any : Fun K "_law_any" "_law_any" s_law_any fA_law_any fd_law_any)
    (a_law_marks : PySem.W.nsIn K mainGlobals "_law_marks" = some (some (.ref fA_law_marks)))
    (F_law_marks : Fun K "_law_marks" "_law_marks" s_law_marks fA_law_marks fd_law_marks)
    (a_law_plain_web : PySem.W.nsIn K mainGlobals "_law_plain_web" = some (some (.ref fA_law_plain_web)))
    (F_law_plain_web : Fun K "_law_plain_web" "_law_plain_web" s_law_plain_web fA_law_plain_web fd_law_plain_web)
    (a_law_plain_pool : PySem.W.nsIn K mainGlobals "_law_plain_pool" = some (some (.ref fA_law_plain_pool)))
    (F_law_plain_pool : Fun K "_law_plain_pool" "_law_plain_pool" s_law_plain_pool fA_law_plain_pool fd_law_plain_pool)
    (a_law_led : PySem.W.nsIn K mainGlobals "_law_led" = some (some (.ref fA_law_led)))
    (F_law_led : Fun K "_law_led" "_law_led" s_law_led fA_law_led fd_law_led)
    (a_law_root_list : PySem.W.nsIn K mainGlobals "_law_root_list" = some (some (.ref fA_law_root_list)))
    (F_law_root_list : Fun K "_law_root_list" "_law_root_list" s_law_root_list fA_law_root_list fd_law_root_list)
    (a_is_web_tuple : PySem.W.nsIn K mainGlobals "is_web_tuple" = some (some (.ref fA_is_web_tuple)))
    (F_is_web_tuple : Fun K "is_web_tuple" "is_web_tuple" s_is_web_tuple fA_is_web_tuple fd_is_web_tuple)
    (a_Web_heard : PySem.W.findIn K (.ref C) "heard" = some (some (.ref p_Web_heard_)))
    (g_Web_heard : PySem.W.specialIn K (.ref p_Web_heard_) "__get__" = some (some (.builtin "property.__get__")))
    (t_Web_heard : PySem.W.takesIn K (.ref p_Web_heard_) = some true)
    (r_Web_heard : PySem.W.recIn K p_Web_heard_ "property" = some (.ref fA_Web_heard :: r_Web_heard_))
    (F_Web_heard : Fun K "heard" "Web.heard" s_Web_heard fA_Web_heard fd_Web_heard)
    (a_Web_marks : PySem.W.findIn K (.ref C) "marks" = some (some (.ref p_Web_marks_)))
    (g_Web_marks : PySem.W.specialIn K (.ref p_Web_marks_) "__get__" = some (some (.builtin "property.__get__")))
    (t_Web_marks : PySem.W.takesIn K (.ref p_Web_marks_) = some true)
    (r_Web_marks : PySem.W.recIn K p_Web_marks_ "property" = some (.ref fA_Web_marks :: r_Web_marks_))
    (F_Web_marks : Fun K "marks" "Web.marks" s_Web_marks fA_Web_marks fd_Web_marks)
    (a_places_of : PySem.W.nsIn K mainGlobals "places_of" = some (some (.ref fA_places_of)))
    (F_places_of : Fun K "places_of" "places_of" s_places_of fA_places_of fd_places_of)
    (a_Pool_init : PySem.W.findIn K (.ref Cp) "__init__" = some (some (.ref fA_Pool_init)))
    (i_Pool_init : PySem.W.isFn K (.ref fA_Pool_init) = true)
    (F_Pool_init : FunD K "__init__" "Pool.__init__" (defArgs s_Pool___init) (defBody s_Pool___init) (defScope s_Pool___init) [] [] fA_Pool_init fd_Pool_init)
    (a_law_pool_of : PySem.W.nsIn K mainGlobals "_law_pool_of" = some (some (.ref fA_law_pool_of)))
    (F_law_pool_of : Fun K "_law_pool_of" "_law_pool_of" s_law_pool_of fA_law_pool_of fd_law_pool_of)
    (a_law_word : PySem.W.nsIn K mainGlobals "_law_word" = some (some (.ref fA_law_word)))
    (F_law_word : Fun K "_law_word" "_law_word" s_law_word fA_law_word fd_law_word)
    (a_check_pool : PySem.W.nsIn K mainGlobals "check_pool" = some (some (.ref fA_check_pool)))
    (F_check_pool : Fun K "check_pool" "check_pool" s_check_pool fA_check_pool fd_check_pool)
    (a_Pool_len : PySem.W.findIn K (.ref Cp) "__len__" = some (some (.ref fA_Pool_len)))
    (i_Pool_len : PySem.W.isFn K (.ref fA_Pool_len) = true)
    (F_Pool_len : Fun K "__len__" "Pool.__len__" s_Pool___len fA_Pool_len fd_Pool_len)
    (a_is_word : PySem.W.nsIn K mainGlobals "is_word" = some (some (.ref fA_is_word)))
    (F_is_word : Fun K "is_word" "is_word" s_is_word fA_is_word fd_is_word)
    (a_check_word : PySem.W.nsIn K mainGlobals "check_word" = some (some (.ref fA_check_word)))
    (F_check_word : Fun K "check_word" "check_word" s_check_word fA_check_word fd_check_word)
    (a_Pool_size : PySem.W.findIn K (.ref Cp) "size" = some (some (.ref p_Pool_size_)))
    (g_Pool_size : PySem.W.specialIn K (.ref p_Pool_size_) "__get__" = some (some (.builtin "property.__get__")))
    (t_Pool_size : PySem.W.takesIn K (.ref p_Pool_size_) = some true)
    (r_Pool_size : PySem.W.recIn K p_Pool_size_ "property" = some (.ref fA_Pool_size :: r_Pool_size_))
    (F_Pool_size : Fun K "size" "Pool.size" s_Pool_size fA_Pool_size fd_Pool_size)
    (a_knowing_at_first : PySem.W.nsIn K mainGlobals "knowing_at_first" = some (some (.ref fA_knowing_at_first)))
    (F_knowing_at_first : Fun K "knowing_at_first" "knowing_at_first" s_knowing_at_first fA_knowing_at_first fd_knowing_at_first)
    (a_Web_signals : PySem.W.findIn K (.ref C) "signals" = some (some (.ref p_Web_signals_)))
    (g_Web_signals : PySem.W.specialIn K (.ref p_Web_signals_) "__get__" = some (some (.builtin "property.__get__")))
    (t_Web_signals : PySem.W.takesIn K (.ref p_Web_signals_) = some true)
    (r_Web_signals : PySem.W.recIn K p_Web_signals_ "property" = some (.ref fA_Web_signals :: r_Web_signals_))
    (F_Web_signals : Fun K "signals" "Web.signals" s_Web_signals fA_Web_signals fd_Web_signals)
    (a_known_together : PySem.W.nsIn K mainGlobals "known_together" = some (some (.ref fA_known_together)))
    (F_known_together : Fun K "known_together" "known_together" s_known_together fA_known_together fd_known_together)
    (a_knowing_after : PySem.W.nsIn K mainGlobals "knowing_after" = some (some (.ref fA_knowing_after)))
    (F_knowing_after : Fun K "knowing_after" "knowing_after" s_knowing_after fA_knowing_after fd_knowing_after)
    (a_Pool_webs : PySem.W.findIn K (.ref Cp) "webs" = some (some (.ref p_Pool_webs_)))
    (g_Pool_webs : PySem.W.specialIn K (.ref p_Pool_webs_) "__get__" = some (some (.builtin "property.__get__")))
    (t_Pool_webs : PySem.W.takesIn K (.ref p_Pool_webs_) = some true)
    (r_Pool_webs : PySem.W.recIn K p_Pool_webs_ "property" = some (.ref fA_Pool_webs :: r_Pool_webs_))
    (F_Pool_webs : Fun K "webs" "Pool.webs" s_Pool_webs fA_Pool_webs fd_Pool_webs)
    (a_knowing_behind : PySem.W.nsIn K mainGlobals "knowing_behind" = some (some (.ref fA_knowing_behind)))
    (F_knowing_behind : Fun K "knowing_behind" "knowing_behind" s_knowing_behind fA_knowing_behind fd_knowing_behind)
    (a_known : PySem.W.nsIn K mainGlobals "known" = some (some (.ref fA_known)))
    (F_known : Fun K "known" "known" s_known fA_known fd_known)
    (a_known_to_all : PySem.W.nsIn K mainGlobals "known_to_all" = some (some (.ref fA_known_to_all)))
    (F_known_to_all : Fun K "known_to_all" "known_to_all" s_known_to_all fA_known_to_all fd_known_to_all)
    (a_known_by_everyone : PySem.W.nsIn K mainGlobals "known_by_everyone" = some (some (.ref fA_known_by_everyone)))
    (F_known_by_everyone : Fun K "known_by_everyone" "known_by_everyone" s_known_by_everyone fA_known_by_everyone fd_known_by_everyone)
    (a_law_known_right : PySem.W.nsIn K mainGlobals "_law_known_right" = some (some (.ref fA_law_known_right)))
    (F_law_known_right : Fun K "_law_known_right" "_law_known_right" s_law_known_right fA_law_known_right fd_law_known_right)
    (a_law : PySem.W.nsIn K mainGlobals "law" = some (some (.ref fA_law)))
    (F_law : Fun K "law" "law" s_law fA_law fd_law) :
    ∃ fd : FuncData, (∀ (s : Shared) (v : Value), BindsTo s fd ⟨[v], []⟩ [("_law_script", v)]) ∧ ∀ base : Heap, K.In base → base.Ns mainGlobals mg → FnOk l.prog w K mg base CX0 15 fa fd ["_law_script"] (spS K pre_law fun _ d => d = .bl true) := by
  have e := hfa.symm.trans (PySem.W.mg_of X G a_law)
  cases e
  have T : TxtP K mg C Cp := ⟨⟨PySem.W.mg_none_of X G z_isinstance, PySem.W.mg_none_of X G z_int, PySem.W.mg_none_of X G z_bool, PySem.W.mg_none_of X G z_tuple, PySem.W.mg_none_of X G z_list, PySem.W.mg_none_of X G z_str, PySem.W.mg_none_of X G z_all, PySem.W.mg_none_of X G z_any, PySem.W.mg_none_of X G z_len, PySem.W.mg_none_of X G z_range, PySem.W.mg_none_of X G z_enumerate, PySem.W.mg_none_of X G z_set, PySem.W.mg_none_of X G z_zip, PySem.W.mg_none_of X G z_sorted, PySem.W.mg_none_of X G z_sum, PySem.W.mg_none_of X G z_max, PySem.W.mg_none_of X G z_min, PySem.W.mg_none_of X G z_abs, ⟨_, PySem.W.mg_of X G a_u5, r5⟩, ⟨_, PySem.W.mg_of X G a_u9, r9⟩, PySem.W.mg_of X G aC⟩, PySem.W.mg_of X G aCp, ⟨_, PySem.W.mg_of X G a_u80, r80⟩, PySem.W.mg_none_of X G z_repr, ⟨_, PySem.W.mg_of X G a_u6, r6⟩⟩
  have cl : Cls K C := ⟨pg, hd, po, sa⟩
  have clp : Cls K Cp := ⟨pgp, hdp, pop, sap⟩
  have W : WebC K C := ⟨cl, n_heard, n_marks, n_signals, n_roots⟩
  have Wp : PoolC K Cp := ⟨clp, n_webs, n_places⟩
  have ic : C8.InsC K C := ⟨cl, ha, hn, htk, hm, by unfold PySem.W.kitOne; rw [if_pos (by simp)]⟩
  have icp : C8.InsC K Cp := ⟨clp, hap, hn, htk, hmp, by unfold PySem.W.kitOne; rw [if_pos (by simp)]⟩
  have O_ne : NeC K C := ⟨hne, hm⟩
  have nt : PySem.W.kitOne K (.type "tuple") (.ref C) = some false := by
    unfold PySem.W.kitOne
    rw [if_neg (by intro z; cases z)]
    show (if ((PySem.W.clsIn K C).isSome && PySem.W.typeIn K (.ref C) == some (.type "type")) = true then PySem.W.subIn K (.type "tuple") (.ref C) else none) = some false
    have icl' : (PySem.W.clsIn K C).isSome = true := icl
    rw [icl', ity, if_pos (by simp)]
    exact ist
  have B_law_pouch := F_law_pouch.binds (ps := ["_law_script", "_law_at"]) fun _ _ _ _ _ _ us hl => match us, hl with | [_, _], _ => rfl
  have B_law_coin := F_law_coin.binds (ps := ["_law_pouch_here", "_law_total"]) fun _ _ _ _ _ _ us hl => match us, hl with | [_, _], _ => rfl
  have B_law_shuffled := F_law_shuffled.binds (ps := ["_law_pouch_here", "_law_items"]) fun _ _ _ _ _ _ us hl => match us, hl with | [_, _], _ => rfl
  have B_law_blocks := F_law_blocks.binds (ps := ["_law_pouch_here", "_law_size"]) fun _ _ _ _ _ _ us hl => match us, hl with | [_, _], _ => rfl
  have B_are_numbers := F_are_numbers.binds (ps := ["value", "low", "high"]) fun _ _ _ _ _ _ us hl => match us, hl with | [_, _, _], _ => rfl
  have B_is_climbing := F_is_climbing.binds (ps := ["parts"]) fun _ _ _ _ _ _ us hl => match us, hl with | [_], _ => rfl
  have B_are_ascending := F_are_ascending.binds (ps := ["value", "low", "high"]) fun _ _ _ _ _ _ us hl => match us, hl with | [_, _, _], _ => rfl
  have B_is_parting := F_is_parting.binds (ps := ["value"]) fun _ _ _ _ _ _ us hl => match us, hl with | [_], _ => rfl
  have B_are_others := F_are_others.binds (ps := ["value", "thread", "last"]) fun _ _ _ _ _ _ us hl => match us, hl with | [_, _, _], _ => rfl
  have B_is_hearing := F_is_hearing.binds (ps := ["value"]) fun _ _ _ _ _ _ us hl => match us, hl with | [_], _ => rfl
  have B_is_marking := F_is_marking.binds (ps := ["value", "size"]) fun _ _ _ _ _ _ us hl => match us, hl with | [_, _], _ => rfl
  have B_knowing_masks := F_knowing_masks.binds (ps := ["heard"]) fun _ _ _ _ _ _ us hl => match us, hl with | [_], _ => rfl
  have B_roots_of := F_roots_of.binds (ps := ["heard"]) fun _ _ _ _ _ _ us hl => match us, hl with | [_], _ => rfl
  obtain ⟨ds2, V2, B2⟩ := F_Web_init.binds1 (ps := ["self", "heard", "marks"]) 3 1 (by simp) rfl fun _ _ _ _ _ _ _ us its hu hi => match us, its, hu, hi with | [_, _, _], [_], _, _ => ⟨_, rfl, rfl⟩
  obtain ⟨ds1, V1, B1⟩ := F_Web_init.binds1 (ps := ["self", "heard", "marks"]) 2 0 (by simp) rfl fun _ _ _ _ _ _ _ us its hu hi => match us, its, hu, hi with | [_, _], [_], _, _ => ⟨_, rfl, rfl⟩
  have B_web_of := F_web_of.binds (ps := ["hearing", "marks"]) fun _ _ _ _ _ _ us hl => match us, hl with | [_, _], _ => rfl
  have B_parting_web := F_parting_web.binds (ps := ["blocks"]) fun _ _ _ _ _ _ us hl => match us, hl with | [_], _ => rfl
  have B_Web_roots := F_Web_roots.binds (ps := ["self"]) fun _ _ _ _ _ _ us hl => match us, hl with | [_], _ => rfl
  have B_is_number := F_is_number.binds (ps := ["value", "low", "high"]) fun _ _ _ _ _ _ us hl => match us, hl with | [_, _, _], _ => rfl
  have B_check_number := F_check_number.binds (ps := ["value", "low", "high"]) fun _ _ _ _ _ _ us hl => match us, hl with | [_, _, _], _ => rfl
  have B_Web_size := F_Web_size.binds (ps := ["self"]) fun _ _ _ _ _ _ us hl => match us, hl with | [_], _ => rfl
  have B_Web_signal := F_Web_signal.binds (ps := ["self", "thread"]) fun _ _ _ _ _ _ us hl => match us, hl with | [_, _], _ => rfl
  have B_Web_hears := F_Web_hears.binds (ps := ["self", "thread"]) fun _ _ _ _ _ _ us hl => match us, hl with | [_, _], _ => rfl
  have B_Web_eq := F_Web_eq.binds (ps := ["self", "other"]) fun _ _ _ _ _ _ us hl => match us, hl with | [_, _], _ => rfl
  have B_law_parting_right := F_law_parting_right.binds (ps := ["_law_pouch_here", "_law_size"]) fun _ _ _ _ _ _ us hl => match us, hl with | [_, _], _ => rfl
  have B_silent_web := F_silent_web.binds (ps := ["size"]) fun _ _ _ _ _ _ us hl => match us, hl with | [_], _ => rfl
  have B_full_web := F_full_web.binds (ps := ["size"]) fun _ _ _ _ _ _ us hl => match us, hl with | [_], _ => rfl
  have B_star_web := F_star_web.binds (ps := ["size", "center"]) fun _ _ _ _ _ _ us hl => match us, hl with | [_, _], _ => rfl
  have B_chain_web := F_chain_web.binds (ps := ["size", "first"]) fun _ _ _ _ _ _ us hl => match us, hl with | [_, _], _ => rfl
  have B_law_makers_right := F_law_makers_right.binds (ps := ["_law_size", "_law_center"]) fun _ _ _ _ _ _ us hl => match us, hl with | [_, _], _ => rfl
  have B_law_heard := F_law_heard.binds (ps := ["_law_pouch_here", "_law_size"]) fun _ _ _ _ _ _ us hl => match us, hl with | [_, _], _ => rfl
  have B_law_any := F_law_any.binds (ps := ["_law_pouch_here", "_law_items"]) fun _ _ _ _ _ _ us hl => match us, hl with | [_, _], _ => rfl
  have B_law_marks := F_law_marks.binds (ps := ["_law_pouch_here", "_law_size"]) fun _ _ _ _ _ _ us hl => match us, hl with | [_, _], _ => rfl
  have B_law_plain_web := F_law_plain_web.binds (ps := ["_law_pouch_here", "_law_size"]) fun _ _ _ _ _ _ us hl => match us, hl with | [_, _], _ => rfl
  have B_law_plain_pool := F_law_plain_pool.binds (ps := ["_law_pouch_here", "_law_size", "_law_most"]) fun _ _ _ _ _ _ us hl => match us, hl with | [_, _, _], _ => rfl
  have B_law_led := F_law_led.binds (ps := ["_law_heard_here", "_law_thread"]) fun _ _ _ _ _ _ us hl => match us, hl with | [_, _], _ => rfl
  have B_law_root_list := F_law_root_list.binds (ps := ["_law_heard_here"]) fun _ _ _ _ _ _ us hl => match us, hl with | [_], _ => rfl
  have B_is_web_tuple := F_is_web_tuple.binds (ps := ["value"]) fun _ _ _ _ _ _ us hl => match us, hl with | [_], _ => rfl
  have B_Web_heard := F_Web_heard.binds (ps := ["self"]) fun _ _ _ _ _ _ us hl => match us, hl with | [_], _ => rfl
  have B_Web_marks := F_Web_marks.binds (ps := ["self"]) fun _ _ _ _ _ _ us hl => match us, hl with | [_], _ => rfl
  have B_places_of := F_places_of.binds (ps := ["webs"]) fun _ _ _ _ _ _ us hl => match us, hl with | [_], _ => rfl
  have B_Pool_init := F_Pool_init.bindsN (ps := ["self", "webs"]) fun _ _ _ _ _ _ us hl => match us, hl with | [_, _], _ => rfl
  have B_law_pool_of := F_law_pool_of.binds (ps := ["_law_plains"]) fun _ _ _ _ _ _ us hl => match us, hl with | [_], _ => rfl
  have B_law_word := F_law_word.binds (ps := ["_law_pouch_here", "_law_many", "_law_size"]) fun _ _ _ _ _ _ us hl => match us, hl with | [_, _, _], _ => rfl
  have B_check_pool := F_check_pool.binds (ps := ["pool"]) fun _ _ _ _ _ _ us hl => match us, hl with | [_], _ => rfl
  have B_Pool_len := F_Pool_len.binds (ps := ["self"]) fun _ _ _ _ _ _ us hl => match us, hl with | [_], _ => rfl
  have B_is_word := F_is_word.binds (ps := ["pool", "value"]) fun _ _ _ _ _ _ us hl => match us, hl with | [_, _], _ => rfl
  have B_check_word := F_check_word.binds (ps := ["pool", "word"]) fun _ _ _ _ _ _ us hl => match us, hl with | [_, _], _ => rfl
  have B_Pool_size := F_Pool_size.binds (ps := ["self"]) fun _ _ _ _ _ _ us hl => match us, hl with | [_], _ => rfl
  have B_knowing_at_first := F_knowing_at_first.binds (ps := ["pool"]) fun _ _ _ _ _ _ us hl => match us, hl with | [_], _ => rfl
  have B_Web_signals := F_Web_signals.binds (ps := ["self"]) fun _ _ _ _ _ _ us hl => match us, hl with | [_], _ => rfl
  have B_known_together := F_known_together.binds (ps := ["heard", "earlier"]) fun _ _ _ _ _ _ us hl => match us, hl with | [_, _], _ => rfl
  have B_knowing_after := F_knowing_after.binds (ps := ["web", "earlier"]) fun _ _ _ _ _ _ us hl => match us, hl with | [_, _], _ => rfl
  have B_Pool_webs := F_Pool_webs.binds (ps := ["self"]) fun _ _ _ _ _ _ us hl => match us, hl with | [_], _ => rfl
  have B_knowing_behind := F_knowing_behind.binds (ps := ["pool", "word"]) fun _ _ _ _ _ _ us hl => match us, hl with | [_, _], _ => rfl
  have B_known := F_known.binds (ps := ["pool", "word"]) fun _ _ _ _ _ _ us hl => match us, hl with | [_, _], _ => rfl
  have B_known_to_all := F_known_to_all.binds (ps := ["knowing"]) fun _ _ _ _ _ _ us hl => match us, hl with | [_], _ => rfl
  have B_known_by_everyone := F_known_by_everyone.binds (ps := ["pool", "word"]) fun _ _ _ _ _ _ us hl => match us, hl with | [_, _], _ => rfl
  have B_law_known_right := F_law_known_right.binds (ps := ["_law_pouch_here", "_law_size"]) fun _ _ _ _ _ _ us hl => match us, hl with | [_, _], _ => rfl
  refine ⟨fd_law, fun s v => ?_, fun base _ _ => ?_⟩
  · obtain ⟨oc, od, kV, doc, pm, an, cdv, ct, osl, rfl, lk, hcd⟩ := F_law.ex
    exact .of_eq rfl
  have c__law_pouch : C8.Cal l.prog w K mg base 1 "_law_pouch" (spNew K pre_pouch) [] := ⟨⟨_, _, _, _, ok_law_pouch F_law_pouch T.toTxt, PySem.W.mg_of X G a_law_pouch, F_law_pouch.kp, B_law_pouch, .nil⟩⟩
  have c__law_coin : C8.Cal l.prog w K mg base 1 "_law_coin" (spP K pre_coin S_coin) [] := ⟨⟨_, _, _, _, ok_law_coin F_law_coin T.toTxt, PySem.W.mg_of X G a_law_coin, F_law_coin.kp, B_law_coin, .nil⟩⟩
  have c__law_shuffled : C8.Cal l.prog w K mg base 2 "_law_shuffled" (spP K pre_sh S_sh) [] := ⟨⟨_, _, _, _, ok_law_shuffled F_law_shuffled T.toTxt c__law_coin, PySem.W.mg_of X G a_law_shuffled, F_law_shuffled.kp, B_law_shuffled, .nil⟩⟩
  have c__law_blocks : C8.Cal l.prog w K mg base 4 "_law_blocks" (spP K pre_heard S_bk) [] := ⟨⟨_, _, _, _, ok_law_blocks F_law_blocks T.toTxt c__law_coin c__law_shuffled, PySem.W.mg_of X G a_law_blocks, F_law_blocks.kp, B_law_blocks, .nil⟩⟩
  have c_are_numbers : C8.Cal l.prog w K mg base 2 "are_numbers" (spF K pre_are_numbers f_are_numbers) [] := ⟨⟨_, _, _, _, ok_are_numbers F_are_numbers T.toTxt, PySem.W.mg_of X G a_are_numbers, F_are_numbers.kp, B_are_numbers, .nil⟩⟩
  have c_is_climbing : C8.Cal l.prog w K mg base 1 "is_climbing" (spS K pre_is_climbing S_is_climbing) [] := ⟨⟨_, _, _, _, ok_is_climbing F_is_climbing T.toTxt, PySem.W.mg_of X G a_is_climbing, F_is_climbing.kp, B_is_climbing, .nil⟩⟩
  have c_are_ascending : C8.Cal l.prog w K mg base 3 "are_ascending" (spF K pre_are_ascending fun _ => .bl true) [] := ⟨⟨_, _, _, _, ok_are_ascending F_are_ascending T.toTxt c_are_numbers c_is_climbing, PySem.W.mg_of X G a_are_ascending, F_are_ascending.kp, B_are_ascending, .nil⟩⟩
  have c_is_parting : C8.Cal l.prog w K mg base 5 "is_parting" (spF K pre_pt fun _ => .bl true) [] := ⟨⟨_, _, _, _, ok_is_parting F_is_parting T.toTxt c_are_ascending, PySem.W.mg_of X G a_is_parting, F_is_parting.kp, B_is_parting, .nil⟩⟩
  have c_are_others : C8.Cal l.prog w K mg base 3 "are_others" (spF K pre_are_others fun _ => .bl true) [] := ⟨⟨_, _, _, _, ok_are_others F_are_others T.toTxt, PySem.W.mg_of X G a_are_others, F_are_others.kp, B_are_others, .nil⟩⟩
  have c_is_hearing : C8.Cal l.prog w K mg base 4 "is_hearing" (spF K pre_is_hearing fun _ => .bl true) [] := ⟨⟨_, _, _, _, ok_is_hearing F_is_hearing T.toTxt c_are_others, PySem.W.mg_of X G a_is_hearing, F_is_hearing.kp, B_is_hearing, .nil⟩⟩
  have c_is_marking : C8.Cal l.prog w K mg base 3 "is_marking" (spF K pre_is_marking fun _ => .bl true) [] := ⟨⟨_, _, _, _, ok_is_marking F_is_marking T.toTxt c_are_numbers, PySem.W.mg_of X G a_is_marking, F_is_marking.kp, B_is_marking, .nil⟩⟩
  have c_knowing_masks : C8.Cal l.prog w K mg base 1 "knowing_masks" (spS K pre_roots_of S_knowing_masks) [] := ⟨⟨_, _, _, _, ok_knowing_masks F_knowing_masks T.toTxt, PySem.W.mg_of X G a_knowing_masks, F_knowing_masks.kp, B_knowing_masks, .nil⟩⟩
  have c_roots_of : C8.Cal l.prog w K mg base 2 "roots_of" (spS K pre_roots_of S_roots_of) [] := ⟨⟨_, _, _, _, ok_roots_of F_roots_of T.toTxt c_knowing_masks, PySem.W.mg_of X G a_roots_of, F_roots_of.kp, B_roots_of, .nil⟩⟩
  have k_Web2 : C8.Mak l.prog w K mg base 5 "Web" C (spIS K C pre_Web webNs S_Web) [] := ⟨⟨_, _, _, _, ⟨mk, a_Web_init, i_Web_init, kc⟩, ok_Web_init F_Web_init T.toTxt W c_is_hearing c_is_marking c_roots_of, PySem.W.mg_of X G aC, B2, V2⟩⟩
  have k_Web1 : C8.Mak l.prog w K mg base 5 "Web" C (spIS K C pre_Web webNs S_Web) [.non] := ⟨⟨_, _, _, _, ⟨mk, a_Web_init, i_Web_init, kc⟩, ok_Web_init F_Web_init T.toTxt W c_is_hearing c_is_marking c_roots_of, PySem.W.mg_of X G aC, B1, V1⟩⟩
  have c_web_of : C8.Cal l.prog w K mg base 7 "web_of" (spS K pre_wo (S_wo C)) [] := ⟨⟨_, _, _, _, ok_web_of F_web_of T.toTxt k_Web2, PySem.W.mg_of X G a_web_of, F_web_of.kp, B_web_of, .nil⟩⟩
  have c_parting_web : C8.Cal l.prog w K mg base 9 "parting_web" (spS K pre_pt (S_pw C)) [] := ⟨⟨_, _, _, _, ok_parting_web F_parting_web T.toTxt c_is_parting c_web_of, PySem.W.mg_of X G a_parting_web, F_parting_web.kp, B_parting_web, .nil⟩⟩
  have p_roots : C8.PrM l.prog w K mg base 1 C "roots" (spS K (pre_self C) (S_self C (fun h _ => tupN (rootsOf h)))) := ⟨⟨_, _, _, _, W.cl, ⟨a_Web_roots, g_Web_roots, t_Web_roots, _, r_Web_roots⟩, ok_Web_roots F_Web_roots T.toTxt W, B_Web_roots⟩⟩
  have c_is_number : C8.Cal l.prog w K mg base 1 "is_number" (spF K pre_is_number f_is_number) [] := ⟨⟨_, _, _, _, ok_is_number F_is_number T.toTxt, PySem.W.mg_of X G a_is_number, F_is_number.kp, B_is_number, .nil⟩⟩
  have c_check_number : C8.Cal l.prog w K mg base 2 "check_number" (spF K pre_check_number fun _ => .non) [] := ⟨⟨_, _, _, _, ok_check_number F_check_number T.toTxt c_is_number, PySem.W.mg_of X G a_check_number, F_check_number.kp, B_check_number, .nil⟩⟩
  have p_size : C8.PrM l.prog w K mg base 1 C "size" (spS K (pre_self C) (S_self C fun h _ => dN h.length)) := ⟨⟨_, _, _, _, W.cl, ⟨a_Web_size, g_Web_size, t_Web_size, _, r_Web_size⟩, ok_Web_size F_Web_size T.toTxt W, B_Web_size⟩⟩
  have m_signal : C8.Met l.prog w K mg base 3 C "signal" (spS K (pre_th C) (S_th C sgAt)) [] := ⟨⟨_, _, _, _, W.cl, ⟨a_Web_signal, i_Web_signal, F_Web_signal.kp⟩, ok_Web_signal F_Web_signal T.toTxt W c_check_number p_size, B_Web_signal, .nil⟩⟩
  have m_hears : C8.Met l.prog w K mg base 4 C "hears" (spS K (pre_th C) (S_th C fun h _ t => tupN (own h t))) [] := ⟨⟨_, _, _, _, W.cl, ⟨a_Web_hears, i_Web_hears, F_Web_hears.kp⟩, ok_Web_hears F_Web_hears T.toTxt W m_signal, B_Web_hears, .nil⟩⟩
  have O_eq : OwnK l.prog w K mg base C "__eq__" 1 (spS K (pre_eq C) (S_eq C)) := ⟨⟨_, a_Web_eq, i_Web_eq, _, _, ok_Web_eq F_Web_eq T.toTxt W ic nt, B_Web_eq⟩⟩
  have c__law_parting_right : C8.Cal l.prog w K mg base 11 "_law_parting_right" (spP K pre_heard fun _ d => d = .bl true) [] := ⟨⟨_, _, _, _, ok_law_parting_right F_law_parting_right T.toTxt c__law_blocks c_parting_web k_Web1 p_roots m_hears O_eq O_ne, PySem.W.mg_of X G a_law_parting_right, F_law_parting_right.kp, B_law_parting_right, .nil⟩⟩
  have c_silent_web : C8.Cal l.prog w K mg base 7 "silent_web" (spS K pre_sz (S_sz C silH)) [] := ⟨⟨_, _, _, _, ok_silent_web F_silent_web T.toTxt c_check_number k_Web1, PySem.W.mg_of X G a_silent_web, F_silent_web.kp, B_silent_web, .nil⟩⟩
  have c_full_web : C8.Cal l.prog w K mg base 10 "full_web" (spS K pre_sz (S_sz C fullH)) [] := ⟨⟨_, _, _, _, ok_full_web F_full_web T.toTxt c_check_number c_parting_web, PySem.W.mg_of X G a_full_web, F_full_web.kp, B_full_web, .nil⟩⟩
  have c_star_web : C8.Cal l.prog w K mg base 7 "star_web" (spS K pre_sc (S_sc C starH)) [] := ⟨⟨_, _, _, _, ok_star_web F_star_web T.toTxt c_check_number k_Web1, PySem.W.mg_of X G a_star_web, F_star_web.kp, B_star_web, .nil⟩⟩
  have c_chain_web : C8.Cal l.prog w K mg base 7 "chain_web" (spS K pre_sc (S_sc C chnH)) [] := ⟨⟨_, _, _, _, ok_chain_web F_chain_web T.toTxt c_check_number k_Web1, PySem.W.mg_of X G a_chain_web, F_chain_web.kp, B_chain_web, .nil⟩⟩
  have c__law_makers_right : C8.Cal l.prog w K mg base 12 "_law_makers_right" (spF K pre_mr fun _ => .bl true) [] := ⟨⟨_, _, _, _, ok_law_makers_right F_law_makers_right T.toTxt c_silent_web c_full_web c_star_web c_chain_web k_Web1 p_roots O_eq O_ne, PySem.W.mg_of X G a_law_makers_right, F_law_makers_right.kp, B_law_makers_right, .nil⟩⟩
  have c__law_heard : C8.Cal l.prog w K mg base 2 "_law_heard" (spP K pre_heard S_heard) [] := ⟨⟨_, _, _, _, ok_law_heard F_law_heard T.toTxt c__law_coin, PySem.W.mg_of X G a_law_heard, F_law_heard.kp, B_law_heard, .nil⟩⟩
  have c__law_any : C8.Cal l.prog w K mg base 2 "_law_any" (spP K pre_any S_any) [] := ⟨⟨_, _, _, _, ok_law_any F_law_any T.toTxt c__law_coin, PySem.W.mg_of X G a_law_any, F_law_any.kp, B_law_any, .nil⟩⟩
  have c__law_marks : C8.Cal l.prog w K mg base 3 "_law_marks" (spP K pre_heard S_marks) [] := ⟨⟨_, _, _, _, ok_law_marks F_law_marks T.toTxt c__law_coin c__law_any, PySem.W.mg_of X G a_law_marks, F_law_marks.kp, B_law_marks, .nil⟩⟩
  have c__law_plain_web : C8.Cal l.prog w K mg base 4 "_law_plain_web" (spP K pre_heard S_plain) [] := ⟨⟨_, _, _, _, ok_law_plain_web F_law_plain_web T.toTxt c__law_heard c__law_marks, PySem.W.mg_of X G a_law_plain_web, F_law_plain_web.kp, B_law_plain_web, .nil⟩⟩
  have c__law_plain_pool : C8.Cal l.prog w K mg base 6 "_law_plain_pool" (spP K pre_pp S_pp) [] := ⟨⟨_, _, _, _, ok_law_plain_pool F_law_plain_pool T.toTxt c__law_coin c__law_plain_web, PySem.W.mg_of X G a_law_plain_pool, F_law_plain_pool.kp, B_law_plain_pool, .nil⟩⟩
  have c__law_led : C8.Cal l.prog w K mg base 1 "_law_led" (spS K pre_threads_reached S_led) [] := ⟨⟨_, _, _, _, ok_law_led F_law_led T.toTxt, PySem.W.mg_of X G a_law_led, F_law_led.kp, B_law_led, .nil⟩⟩
  have c__law_root_list : C8.Cal l.prog w K mg base 2 "_law_root_list" (spS K pre_roots_of S_root_list) [] := ⟨⟨_, _, _, _, ok_law_root_list F_law_root_list T.toTxt c__law_led, PySem.W.mg_of X G a_law_root_list, F_law_root_list.kp, B_law_root_list, .nil⟩⟩
  have c_is_web_tuple : C8.Cal l.prog w K mg base 3 "is_web_tuple" (spF K (pre_wt C) fun _ => .bl true) [] := ⟨⟨_, _, _, _, ok_is_web_tuple F_is_web_tuple T ic p_size, PySem.W.mg_of X G a_is_web_tuple, F_is_web_tuple.kp, B_is_web_tuple, .nil⟩⟩
  have p_heard : C8.PrM l.prog w K mg base 1 C "heard" (spS K (pre_self C) (S_self C (fun h _ => hdD h))) := ⟨⟨_, _, _, _, W.cl, ⟨a_Web_heard, g_Web_heard, t_Web_heard, _, r_Web_heard⟩, ok_Web_heard F_Web_heard T.toTxt W, B_Web_heard⟩⟩
  have p_marks : C8.PrM l.prog w K mg base 1 C "marks" (spS K (pre_self C) (S_self C (fun _ ms => tupN ms))) := ⟨⟨_, _, _, _, W.cl, ⟨a_Web_marks, g_Web_marks, t_Web_marks, _, r_Web_marks⟩, ok_Web_marks F_Web_marks T.toTxt W, B_Web_marks⟩⟩
  have c_places_of : C8.Cal l.prog w K mg base 5 "places_of" (spS K (pre_wt C) (S_places w C)) [] := ⟨⟨_, _, _, _, ok_places_of F_places_of T p_heard p_marks, PySem.W.mg_of X G a_places_of, F_places_of.kp, B_places_of, .nil⟩⟩
  have k_Pool1 : C8.Mak l.prog w K mg base 7 "Pool" Cp (spIS K Cp (pre_Pool C) poolNs (S_Pool w C)) [] := ⟨⟨_, _, _, _, ⟨mkp, a_Pool_init, i_Pool_init, kcp⟩, ok_Pool_init F_Pool_init T Wp c_is_web_tuple c_places_of, PySem.W.mg_of X G aCp, B_Pool_init, .nil⟩⟩
  have c__law_pool_of : C8.Cal l.prog w K mg base 9 "_law_pool_of" (spS K pre_made (S_made w C Cp)) [] := ⟨⟨_, _, _, _, ok_law_pool_of F_law_pool_of T k_Web2 k_Pool1, PySem.W.mg_of X G a_law_pool_of, F_law_pool_of.kp, B_law_pool_of, .nil⟩⟩
  have c__law_word : C8.Cal l.prog w K mg base 2 "_law_word" (spP K pre_w S_w) [] := ⟨⟨_, _, _, _, ok_law_word F_law_word T.toTxt c__law_coin, PySem.W.mg_of X G a_law_word, F_law_word.kp, B_law_word, .nil⟩⟩
  have c_check_pool : C8.Cal l.prog w K mg base 1 "check_pool" (spF K (pre_pool w C Cp) fun _ => .non) [] := ⟨⟨_, _, _, _, ok_check_pool F_check_pool T icp, PySem.W.mg_of X G a_check_pool, F_check_pool.kp, B_check_pool, .nil⟩⟩
  have O_plen : OwnK l.prog w K mg base Cp "__len__" 1 (spPL K w C Cp) := ⟨⟨_, a_Pool_len, i_Pool_len, _, _, ok_Pool_len F_Pool_len T Wp, B_Pool_len⟩⟩
  have c_is_word : C8.Cal l.prog w K mg base 4 "is_word" (spF K (pre_word w C Cp) fun _ => .bl true) [] := ⟨⟨_, _, _, _, ok_is_word F_is_word T c_check_pool c_are_numbers O_plen, PySem.W.mg_of X G a_is_word, F_is_word.kp, B_is_word, .nil⟩⟩
  have c_check_word : C8.Cal l.prog w K mg base 6 "check_word" (spF K (pre_word w C Cp) fun _ => .non) [] := ⟨⟨_, _, _, _, ok_check_word F_check_word T c_is_word, PySem.W.mg_of X G a_check_word, F_check_word.kp, B_check_word, .nil⟩⟩
  have pp_size : C8.PrM l.prog w K mg base 3 Cp "size" (spS K (pre_pool w C Cp) (S_pool w C Cp fun ws => dN (sizeP ws))) := ⟨⟨_, _, _, _, Wp.cl, ⟨a_Pool_size, g_Pool_size, t_Pool_size, _, r_Pool_size⟩, ok_Pool_size F_Pool_size T Wp p_size, B_Pool_size⟩⟩
  have c_knowing_at_first : C8.Cal l.prog w K mg base 5 "knowing_at_first" (spS K (pre_pool w C Cp) (S_pool w C Cp fun ws => hdD (firstK (sizeP ws)))) [] := ⟨⟨_, _, _, _, ok_knowing_at_first F_knowing_at_first T pp_size, PySem.W.mg_of X G a_knowing_at_first, F_knowing_at_first.kp, B_knowing_at_first, .nil⟩⟩
  have p_signals : C8.PrM l.prog w K mg base 1 C "signals" (spS K (pre_self C) (S_self C (fun h ms => .tup (sgL h ms)))) := ⟨⟨_, _, _, _, W.cl, ⟨a_Web_signals, g_Web_signals, t_Web_signals, _, r_Web_signals⟩, ok_Web_signals F_Web_signals T.toTxt W, B_Web_signals⟩⟩
  have c_known_together : C8.Cal l.prog w K mg base 1 "known_together" (spS K pre_kt S_kt) [] := ⟨⟨_, _, _, _, ok_known_together F_known_together T, PySem.W.mg_of X G a_known_together, F_known_together.kp, B_known_together, .nil⟩⟩
  have c_knowing_after : C8.Cal l.prog w K mg base 3 "knowing_after" (spS K (pre_ka C) (S_ka C)) [] := ⟨⟨_, _, _, _, ok_knowing_after F_knowing_after T W p_signals c_known_together, PySem.W.mg_of X G a_knowing_after, F_knowing_after.kp, B_knowing_after, .nil⟩⟩
  have pp_webs : C8.PrM l.prog w K mg base 1 Cp "webs" (spS K (pre_pool w C Cp) (S_pool w C Cp (wsD C))) := ⟨⟨_, _, _, _, Wp.cl, ⟨a_Pool_webs, g_Pool_webs, t_Pool_webs, _, r_Pool_webs⟩, ok_Pool_webs F_Pool_webs T Wp, B_Pool_webs⟩⟩
  have c_knowing_behind : C8.Cal l.prog w K mg base 7 "knowing_behind" (spS K (pre_word w C Cp) (S_kb w C Cp)) [] := ⟨⟨_, _, _, _, ok_knowing_behind F_knowing_behind T c_knowing_at_first c_knowing_after pp_webs, PySem.W.mg_of X G a_knowing_behind, F_knowing_behind.kp, B_knowing_behind, .nil⟩⟩
  have c_known : C8.Cal l.prog w K mg base 9 "known" (spS K (pre_word w C Cp) (S_kb w C Cp)) [] := ⟨⟨_, _, _, _, ok_known F_known T c_check_word c_knowing_behind, PySem.W.mg_of X G a_known, F_known.kp, B_known, .nil⟩⟩
  have c_known_to_all : C8.Cal l.prog w K mg base 1 "known_to_all" (spS K pre_kta S_kta) [] := ⟨⟨_, _, _, _, ok_known_to_all F_known_to_all T, PySem.W.mg_of X G a_known_to_all, F_known_to_all.kp, B_known_to_all, .nil⟩⟩
  have c_known_by_everyone : C8.Cal l.prog w K mg base 9 "known_by_everyone" (spS K (pre_word w C Cp) (S_kbe w C Cp)) [] := ⟨⟨_, _, _, _, ok_known_by_everyone F_known_by_everyone T c_check_word c_knowing_behind c_known_to_all, PySem.W.mg_of X G a_known_by_everyone, F_known_by_everyone.kp, B_known_by_everyone, .nil⟩⟩
  have c__law_known_right : C8.Cal l.prog w K mg base 11 "_law_known_right" (spP K pre_heard fun _ d => d = .bl true) [] := ⟨⟨_, _, _, _, ok_law_known_right F_law_known_right T c__law_plain_pool c__law_root_list c__law_heard c__law_pool_of c__law_word c_known c_known_by_everyone, PySem.W.mg_of X G a_law_known_right, F_law_known_right.kp, B_law_known_right, .nil⟩⟩
  exact ok_law F_law T c__law_pouch c__law_coin c__law_parting_right c__law_makers_right c__law_known_right c_parting_web c_chain_web p_heard
theorem walk {l : PySem.W.OpenLaw} {q : Program} {loose : List Str} {XP : (Str → Option Value) → Heap → Prop} {YP : World → Heap → Prop} {d : DefRec} {K : Params → PySem.W.Frag} (hn : l.most = some 63) (hdf : d.params.defaults = [])
    (hY : ∀ (w : World) (h : Heap), YP w h → (K w.params).In h)
    (F : ∀ (w : World) (mg : Str → Option Value) (fa : Addr) (h : Heap), (K w.params).In h → h.Ns mainGlobals mg → mg d.name = some (.ref fa) →
      ∃ fd : FuncData, (∀ (s : Shared) (u : Value), BindsTo s fd ⟨[u], []⟩ [("_law_script", u)]) ∧ ∀ base : Heap, (K w.params).In base → base.Ns mainGlobals mg → FnOk l.prog w (K w.params) mg base CX0 15 fa fd ["_law_script"] (spS (K w.params) pre_law fun _ d => d = .bl true)) :
    PySem.W.WalkO q loose XP YP l.row.toRowW d [] (fun f vs => PySem.call f vs) :=
  L2.walk_of (n := 63) (k := 15) (x := "_law_script") (CX := fun _ => CX0) (sp := fun w => spS (K w.params) pre_law fun _ d => d = .bl true) hn (by decide) hdf ⟨rfl, by decide, by decide⟩ hY F (fun _ H a ns hl hO hS => law_sp hl hO hS) fun _ _ _ _ _ z => z
end K03

open PySem PySem.W PyProof.Rows
set_option Elab.async false
set_option maxRecDepth 100000 in
set_option maxHeartbeats 0 in
theorem PySem.Challenge.cw_poolmaps_k03_whole_made_webs_and_roots_holds : PySem.Challenge.rw_poolmaps_k03_whole_made_webs_and_roots.Holds := by
  w_on; o_law; k_head; (case hw => w_witness2)
  k_fill
  refine K03.walk (l := PySem.Challenge.rw_poolmaps_k03_whole_made_webs_and_roots) rfl rfl (fun w h Y => PySem.W.kIn_of Y) ?F
  case F =>
    intro w mg fa h KX G hmg
    refine' K03.all_mk KX G hmg ?r5 ?r9 ?r80 ?r6 ?aC ?aCp ?a_u5 ?a_u9 ?a_u80 ?a_u6 ?pg ?hd ?po ?sa ?mk ?kc ?ha ?hm ?pgp ?hdp ?pop ?sap ?mkp ?kcp ?hap ?hmp ?hn ?htk ?icl ?ity ?ist ?hne ?n_heard ?n_marks ?n_signals ?n_roots ?n_webs ?n_places ?z_isinstance ?z_int ?z_bool ?z_tuple ?z_list ?z_str ?z_all ?z_any ?z_len ?z_range ?z_enumerate ?z_set ?z_zip ?z_sorted ?z_sum ?z_max ?z_min ?z_abs ?z_repr ?a_law_pouch (L2.fun_mk ?l_law_pouch ?c_law_pouch ?k_law_pouch) ?a_law_coin (L2.fun_mk ?l_law_coin ?c_law_coin ?k_law_coin) ?a_law_shuffled (L2.fun_mk ?l_law_shuffled ?c_law_shuffled ?k_law_shuffled) ?a_law_blocks (L2.fun_mk ?l_law_blocks ?c_law_blocks ?k_law_blocks) ?a_are_numbers (L2.fun_mk ?l_are_numbers ?c_are_numbers ?k_are_numbers) ?a_is_climbing (L2.fun_mk ?l_is_climbing ?c_is_climbing ?k_is_climbing) ?a_are_ascending (L2.fun_mk ?l_are_ascending ?c_are_ascending ?k_are_ascending) ?a_is_parting (L2.fun_mk ?l_is_parting ?c_is_parting ?k_is_parting) ?a_are_others (L2.fun_mk ?l_are_others ?c_are_others ?k_are_others) ?a_is_hearing (L2.fun_mk ?l_is_hearing ?c_is_hearing ?k_is_hearing) ?a_is_marking (L2.fun_mk ?l_is_marking ?c_is_marking ?k_is_marking) ?a_knowing_masks (L2.fun_mk ?l_knowing_masks ?c_knowing_masks ?k_knowing_masks) ?a_roots_of (L2.fun_mk ?l_roots_of ?c_roots_of ?k_roots_of) ?a_Web_init ?i_Web_init (K03.funD_mk ?l_Web_init ?c_Web_init ?k_Web_init ?d_Web_init) ?a_web_of (L2.fun_mk ?l_web_of ?c_web_of ?k_web_of) ?a_parting_web (L2.fun_mk ?l_parting_web ?c_parting_web ?k_parting_web) ?a_Web_roots ?g_Web_roots ?t_Web_roots ?r_Web_roots (L2.fun_mk ?l_Web_roots ?c_Web_roots ?k_Web_roots) ?a_is_number (L2.fun_mk ?l_is_number ?c_is_number ?k_is_number) ?a_check_number (L2.fun_mk ?l_check_number ?c_check_number ?k_check_number) ?a_Web_size ?g_Web_size ?t_Web_size ?r_Web_size (L2.fun_mk ?l_Web_size ?c_Web_size ?k_Web_size) ?a_Web_signal ?i_Web_signal (L2.fun_mk ?l_Web_signal ?c_Web_signal ?k_Web_signal) ?a_Web_hears ?i_Web_hears (L2.fun_mk ?l_Web_hears ?c_Web_hears ?k_Web_hears) ?a_Web_eq ?i_Web_eq (L2.fun_mk ?l_Web_eq ?c_Web_eq ?k_Web_eq) ?a_law_parting_right (L2.fun_mk ?l_law_parting_right ?c_law_parting_right ?k_law_parting_right) ?a_silent_web (L2.fun_mk ?l_silent_web ?c_silent_web ?k_silent_web) ?a_full_web (L2.fun_mk ?l_full_web ?c_full_web ?k_full_web) ?a_star_web (L2.fun_mk ?l_star_web ?c_star_web ?k_star_web) ?a_chain_web (L2.fun_mk ?l_chain_web ?c_chain_web ?k_chain_web) ?a_law_makers_right (L2.fun_mk ?l_law_makers_right ?c_law_makers_right ?k_law_makers_right) ?a_law_heard (L2.fun_mk ?l_law_heard ?c_law_heard ?k_law_heard) ?a_law_any (L2.fun_mk ?l_law_any ?c_law_any ?k_law_any) ?a_law_marks (L2.fun_mk ?l_law_marks ?c_law_marks ?k_law_marks) ?a_law_plain_web (L2.fun_mk ?l_law_plain_web ?c_law_plain_web ?k_law_plain_web) ?a_law_plain_pool (L2.fun_mk ?l_law_plain_pool ?c_law_plain_pool ?k_law_plain_pool) ?a_law_led (L2.fun_mk ?l_law_led ?c_law_led ?k_law_led) ?a_law_root_list (L2.fun_mk ?l_law_root_list ?c_law_root_list ?k_law_root_list) ?a_is_web_tuple (L2.fun_mk ?l_is_web_tuple ?c_is_web_tuple ?k_is_web_tuple) ?a_Web_heard ?g_Web_heard ?t_Web_heard ?r_Web_heard (L2.fun_mk ?l_Web_heard ?c_Web_heard ?k_Web_heard) ?a_Web_marks ?g_Web_marks ?t_Web_marks ?r_Web_marks (L2.fun_mk ?l_Web_marks ?c_Web_marks ?k_Web_marks) ?a_places_of (L2.fun_mk ?l_places_of ?c_places_of ?k_places_of) ?a_Pool_init ?i_Pool_init (K03.funD0_mk ?l_Pool_init ?c_Pool_init ?k_Pool_init) ?a_law_pool_of (L2.fun_mk ?l_law_pool_of ?c_law_pool_of ?k_law_pool_of) ?a_law_word (L2.fun_mk ?l_law_word ?c_law_word ?k_law_word) ?a_check_pool (L2.fun_mk ?l_check_pool ?c_check_pool ?k_check_pool) ?a_Pool_len ?i_Pool_len (L2.fun_mk ?l_Pool_len ?c_Pool_len ?k_Pool_len) ?a_is_word (L2.fun_mk ?l_is_word ?c_is_word ?k_is_word) ?a_check_word (L2.fun_mk ?l_check_word ?c_check_word ?k_check_word) ?a_Pool_size ?g_Pool_size ?t_Pool_size ?r_Pool_size (L2.fun_mk ?l_Pool_size ?c_Pool_size ?k_Pool_size) ?a_knowing_at_first (L2.fun_mk ?l_knowing_at_first ?c_knowing_at_first ?k_knowing_at_first) ?a_Web_signals ?g_Web_signals ?t_Web_signals ?r_Web_signals (L2.fun_mk ?l_Web_signals ?c_Web_signals ?k_Web_signals) ?a_known_together (L2.fun_mk ?l_known_together ?c_known_together ?k_known_together) ?a_knowing_after (L2.fun_mk ?l_knowing_after ?c_knowing_after ?k_knowing_after) ?a_Pool_webs ?g_Pool_webs ?t_Pool_webs ?r_Pool_webs (L2.fun_mk ?l_Pool_webs ?c_Pool_webs ?k_Pool_webs) ?a_knowing_behind (L2.fun_mk ?l_knowing_behind ?c_knowing_behind ?k_knowing_behind) ?a_known (L2.fun_mk ?l_known ?c_known ?k_known) ?a_known_to_all (L2.fun_mk ?l_known_to_all ?c_known_to_all ?k_known_to_all) ?a_known_by_everyone (L2.fun_mk ?l_known_by_everyone ?c_known_by_everyone ?k_known_by_everyone) ?a_law_known_right (L2.fun_mk ?l_law_known_right ?c_law_known_right ?k_law_known_right) ?a_law (L2.fun_mk ?l_law ?c_law ?k_law)
    (case aC => k_is)
    (case aCp => k_is)
    (case a_u5 => k_is)
    (case a_u9 => k_is)
    (case a_u80 => k_is)
    (case a_u6 => k_is)
    (case pg => k_is)
    (case hd => k_is)
    (case po => k_is)
    (case sa => k_is)
    (case mk => k_is)
    (case kc => k_is)
    (case ha => k_is)
    (case hm => k_is)
    (case pgp => k_is)
    (case hdp => k_is)
    (case pop => k_is)
    (case sap => k_is)
    (case mkp => k_is)
    (case kcp => k_is)
    (case hap => k_is)
    (case hmp => k_is)
    (case hn => k_is)
    (case htk => k_is)
    (case icl => k_is)
    (case ity => k_is)
    (case ist => k_is)
    (case hne => k_is)
    (case n_heard => k_is)
    (case n_marks => k_is)
    (case n_signals => k_is)
    (case n_roots => k_is)
    (case n_webs => k_is)
    (case n_places => k_is)
    (case z_isinstance => k_is)
    (case z_int => k_is)
    (case z_bool => k_is)
    (case z_tuple => k_is)
    (case z_list => k_is)
    (case z_str => k_is)
    (case z_all => k_is)
    (case z_any => k_is)
    (case z_len => k_is)
    (case z_range => k_is)
    (case z_enumerate => k_is)
    (case z_set => k_is)
    (case z_zip => k_is)
    (case z_sorted => k_is)
    (case z_sum => k_is)
    (case z_max => k_is)
    (case z_min => k_is)
    (case z_abs => k_is)
    (case z_repr => k_is)
    (case a_law_pouch => k_is)
    (case l_law_pouch => k_is)
    (case c_law_pouch => k_is)
    (case k_law_pouch => k_is)
    (case a_law_coin => k_is)
    (case l_law_coin => k_is)
    (case c_law_coin => k_is)
    (case k_law_coin => k_is)
    (case a_law_shuffled => k_is)
    (case l_law_shuffled => k_is)
    (case c_law_shuffled => k_is)
    (case k_law_shuffled => k_is)
    (case a_law_blocks => k_is)
    (case l_law_blocks => k_is)
    (case c_law_blocks => k_is)
    (case k_law_blocks => k_is)
    (case a_are_numbers => k_is)
    (case l_are_numbers => k_is)
    (case c_are_numbers => k_is)
    (case k_are_numbers => k_is)
    (case a_is_climbing => k_is)
    (case l_is_climbing => k_is)
    (case c_is_climbing => k_is)
    (case k_is_climbing => k_is)
    (case a_are_ascending => k_is)
    (case l_are_ascending => k_is)
    (case c_are_ascending => k_is)
    (case k_are_ascending => k_is)
    (case a_is_parting => k_is)
    (case l_is_parting => k_is)
    (case c_is_parting => k_is)
    (case k_is_parting => k_is)
    (case a_are_others => k_is)
    (case l_are_others => k_is)
    (case c_are_others => k_is)
    (case k_are_others => k_is)
    (case a_is_hearing => k_is)
    (case l_is_hearing => k_is)
    (case c_is_hearing => k_is)
    (case k_is_hearing => k_is)
    (case a_is_marking => k_is)
    (case l_is_marking => k_is)
    (case c_is_marking => k_is)
    (case k_is_marking => k_is)
    (case a_knowing_masks => k_is)
    (case l_knowing_masks => k_is)
    (case c_knowing_masks => k_is)
    (case k_knowing_masks => k_is)
    (case a_roots_of => k_is)
    (case l_roots_of => k_is)
    (case c_roots_of => k_is)
    (case k_roots_of => k_is)
    (case a_Web_init => k_is)
    (case i_Web_init => k_is)
    (case l_Web_init => k_is)
    (case c_Web_init => k_is)
    (case k_Web_init => k_is)
    (case d_Web_init => k_is)
    (case a_web_of => k_is)
    (case l_web_of => k_is)
    (case c_web_of => k_is)
    (case k_web_of => k_is)
    (case a_parting_web => k_is)
    (case l_parting_web => k_is)
    (case c_parting_web => k_is)
    (case k_parting_web => k_is)
    (case a_Web_roots => k_is)
    (case g_Web_roots => k_is)
    (case t_Web_roots => k_is)
    (case r_Web_roots => k_is)
    (case l_Web_roots => k_is)
    (case c_Web_roots => k_is)
    (case k_Web_roots => k_is)
    (case a_is_number => k_is)
    (case l_is_number => k_is)
    (case c_is_number => k_is)
    (case k_is_number => k_is)
    (case a_check_number => k_is)
    (case l_check_number => k_is)
    (case c_check_number => k_is)
    (case k_check_number => k_is)
    (case a_Web_size => k_is)
    (case g_Web_size => k_is)
    (case t_Web_size => k_is)
    (case r_Web_size => k_is)
    (case l_Web_size => k_is)
    (case c_Web_size => k_is)
    (case k_Web_size => k_is)
    (case a_Web_signal => k_is)
    (case i_Web_signal => k_is)
    (case l_Web_signal => k_is)
    (case c_Web_signal => k_is)
    (case k_Web_signal => k_is)
    (case a_Web_hears => k_is)
    (case i_Web_hears => k_is)
    (case l_Web_hears => k_is)
    (case c_Web_hears => k_is)
    (case k_Web_hears => k_is)
    (case a_Web_eq => k_is)
    (case i_Web_eq => k_is)
    (case l_Web_eq => k_is)
    (case c_Web_eq => k_is)
    (case k_Web_eq => k_is)
    (case a_law_parting_right => k_is)
    (case l_law_parting_right => k_is)
    (case c_law_parting_right => k_is)
    (case k_law_parting_right => k_is)
    (case a_silent_web => k_is)
    (case l_silent_web => k_is)
    (case c_silent_web => k_is)
    (case k_silent_web => k_is)
    (case a_full_web => k_is)
    (case l_full_web => k_is)
    (case c_full_web => k_is)
    (case k_full_web => k_is)
    (case a_star_web => k_is)
    (case l_star_web => k_is)
    (case c_star_web => k_is)
    (case k_star_web => k_is)
    (case a_chain_web => k_is)
    (case l_chain_web => k_is)
    (case c_chain_web => k_is)
    (case k_chain_web => k_is)
    (case a_law_makers_right => k_is)
    (case l_law_makers_right => k_is)
    (case c_law_makers_right => k_is)
    (case k_law_makers_right => k_is)
    (case a_law_heard => k_is)
    (case l_law_heard => k_is)
    (case c_law_heard => k_is)
    (case k_law_heard => k_is)
    (case a_law_any => k_is)
    (case l_law_any => k_is)
    (case c_law_any => k_is)
    (case k_law_any => k_is)
    (case a_law_marks => k_is)
    (case l_law_marks => k_is)
    (case c_law_marks => k_is)
    (case k_law_marks => k_is)
    (case a_law_plain_web => k_is)
    (case l_law_plain_web => k_is)
    (case c_law_plain_web => k_is)
    (case k_law_plain_web => k_is)
    (case a_law_plain_pool => k_is)
    (case l_law_plain_pool => k_is)
    (case c_law_plain_pool => k_is)
    (case k_law_plain_pool => k_is)
    (case a_law_led => k_is)
    (case l_law_led => k_is)
    (case c_law_led => k_is)
    (case k_law_led => k_is)
    (case a_law_root_list => k_is)
    (case l_law_root_list => k_is)
    (case c_law_root_list => k_is)
    (case k_law_root_list => k_is)
    (case a_is_web_tuple => k_is)
    (case l_is_web_tuple => k_is)
    (case c_is_web_tuple => k_is)
    (case k_is_web_tuple => k_is)
    (case a_Web_heard => k_is)
    (case g_Web_heard => k_is)
    (case t_Web_heard => k_is)
    (case r_Web_heard => k_is)
    (case l_Web_heard => k_is)
    (case c_Web_heard => k_is)
    (case k_Web_heard => k_is)
    (case a_Web_marks => k_is)
    (case g_Web_marks => k_is)
    (case t_Web_marks => k_is)
    (case r_Web_marks => k_is)
    (case l_Web_marks => k_is)
    (case c_Web_marks => k_is)
    (case k_Web_marks => k_is)
    (case a_places_of => k_is)
    (case l_places_of => k_is)
    (case c_places_of => k_is)
    (case k_places_of => k_is)
    (case a_Pool_init => k_is)
    (case i_Pool_init => k_is)
    (case l_Pool_init => k_is)
    (case c_Pool_init => k_is)
    (case k_Pool_init => k_is)
    (case a_law_pool_of => k_is)
    (case l_law_pool_of => k_is)
    (case c_law_pool_of => k_is)
    (case k_law_pool_of => k_is)
    (case a_law_word => k_is)
    (case l_law_word => k_is)
    (case c_law_word => k_is)
    (case k_law_word => k_is)
    (case a_check_pool => k_is)
    (case l_check_pool => k_is)
    (case c_check_pool => k_is)
    (case k_check_pool => k_is)
    (case a_Pool_len => k_is)
    (case i_Pool_len => k_is)
    (case l_Pool_len => k_is)
    (case c_Pool_len => k_is)
    (case k_Pool_len => k_is)
    (case a_is_word => k_is)
    (case l_is_word => k_is)
    (case c_is_word => k_is)
    (case k_is_word => k_is)
    (case a_check_word => k_is)
    (case l_check_word => k_is)
    (case c_check_word => k_is)
    (case k_check_word => k_is)
    (case a_Pool_size => k_is)
    (case g_Pool_size => k_is)
    (case t_Pool_size => k_is)
    (case r_Pool_size => k_is)
    (case l_Pool_size => k_is)
    (case c_Pool_size => k_is)
    (case k_Pool_size => k_is)
    (case a_knowing_at_first => k_is)
    (case l_knowing_at_first => k_is)
    (case c_knowing_at_first => k_is)
    (case k_knowing_at_first => k_is)
    (case a_Web_signals => k_is)
    (case g_Web_signals => k_is)
    (case t_Web_signals => k_is)
    (case r_Web_signals => k_is)
    (case l_Web_signals => k_is)
    (case c_Web_signals => k_is)
    (case k_Web_signals => k_is)
    (case a_known_together => k_is)
    (case l_known_together => k_is)
    (case c_known_together => k_is)
    (case k_known_together => k_is)
    (case a_knowing_after => k_is)
    (case l_knowing_after => k_is)
    (case c_knowing_after => k_is)
    (case k_knowing_after => k_is)
    (case a_Pool_webs => k_is)
    (case g_Pool_webs => k_is)
    (case t_Pool_webs => k_is)
    (case r_Pool_webs => k_is)
    (case l_Pool_webs => k_is)
    (case c_Pool_webs => k_is)
    (case k_Pool_webs => k_is)
    (case a_knowing_behind => k_is)
    (case l_knowing_behind => k_is)
    (case c_knowing_behind => k_is)
    (case k_knowing_behind => k_is)
    (case a_known => k_is)
    (case l_known => k_is)
    (case c_known => k_is)
    (case k_known => k_is)
    (case a_known_to_all => k_is)
    (case l_known_to_all => k_is)
    (case c_known_to_all => k_is)
    (case k_known_to_all => k_is)
    (case a_known_by_everyone => k_is)
    (case l_known_by_everyone => k_is)
    (case c_known_by_everyone => k_is)
    (case k_known_by_everyone => k_is)
    (case a_law_known_right => k_is)
    (case l_law_known_right => k_is)
    (case c_law_known_right => k_is)
    (case k_law_known_right => k_is)
    (case a_law => k_is)
    (case l_law => k_is)
    (case c_law => k_is)
    (case k_law => k_is)
    (case r5 => exact ⟨_, rfl⟩); (case r9 => exact ⟨_, rfl⟩); (case r80 => exact ⟨_, rfl⟩); (case r6 => exact ⟨_, rfl⟩)
#print axioms PySem.Challenge.cw_poolmaps_k03_whole_made_webs_and_roots_holds
