import PyProof.Rows.All
import Wide.All
import OpenK.AllK
import Wide.FinOn
import HandS.ForMost
import HandS.Walk
import HandS.IsInst
import HandS.Property
import HandS.FStr
import HandS.Star
import HandS.TupAny
import HandS.Conv
import HandS.Flow
import HandS.Evl
import KE.GoesMore
import KE.GoesEnum
import KE.DataMinMax
import KE.DataAny
import KE.DataCmp
import KE.SortData
import KE.KSortedM
import HandS.TupMul
import HandS.Deep
import OpenK.KOps
import KE.KCallOwn
import HandS.Codes
import HandS.Wide
import HandS.Defaults
import PyProof.InstNe
import PyProof.FactsAll.object_1
import PyProof.FactsAll.object_2
import HandS.Strs
import HandS.SetBool
import HandS.SetFor
import HandS.Zip
import PyProof.SumWalkG
import PyProof.ListOps
import PyProof.WalksS
import KE.KeyNested
import KE.KDictSum
import KE.KDictCopyH
import PyProof.DictMoreH
import HandS.DictComp
import HandS.Small
import OpenK.KMeth
import HandS.More
import HandS.TupSets
import PySem.Challenge.RW_poolmaps_k63_whole_telling_plans_of_kind
set_option Elab.async false
set_option linter.all false
set_option maxRecDepth 100000
set_option autoImplicit false
/-! Tx: data behind values, judgements of readings by data. -/
namespace Tx
open PySem L2

/-- data behind a value -/
inductive D where
  | non | bl (b : Bool) | int (i : Int) | str (s : Str)
  | lst (xs : List D) | tup (xs : List D)
  | obj (C : Addr) (ns : List Str) (xs : List D)
  | adr (a : Addr) | dic | frl (xs : List D)
  | ftp (xs : List D)
  | dct (hs : List Int) (ks vs : List D)

/-- a tuple of the written part -/
def KTup (K : PySem.W.Frag) (a : Addr) (xs : List V) : Prop := ∃ (o : Obj) (its : Array Value) (n : Nat), K.lookup a = some o ∧ o.cls = .type "tuple" ∧ o.data = .seq its n ∧ its.size ≤ sizeLine ∧ Vals xs its.toList
/-- a list of the written part -/
def KLst (K : PySem.W.Frag) (a : Addr) (xs : List V) : Prop := ∃ (o : Obj) (its : Array Value) (n : Nat), K.lookup a = some o ∧ o.cls = .type "list" ∧ o.dict = none ∧ o.data = .seq its n ∧ its.size ≤ sizeLine ∧ Vals xs its.toList
/-- the object at a is a dict of these entries: hash, key, value -/
def isDict (a : Addr) (es : List (Int × V × V)) : Heap → Prop := fun h => ∃ o ents ep, h.get? a = some o ∧ o.ExactDict ∧ o.data = .dict ents ep ∧ (a == sysModules) = false ∧ es.length ≤ 10000 ∧ Paired (fun (e : Int × V × V) (x : DictEntry) => x.hash = e.1 ∧ RelV e.2.1 x.key ∧ RelV e.2.2 x.val) es ents.toList
mutual
inductive Rp (K : PySem.W.Frag) (F : Addr → Prop) (H : Hp) : V → D → Prop
  | non : Rp K F H .non .non
  | bl (b : Bool) : Rp K F H (.bl b) (.bl b)
  | int (i : Int) : Rp K F H (.int i) (.int i)
  | str (s : Str) : Rp K F H (.str s) (.str s)
  | lst {a : Addr} {vs : List V} {ds : List D} : ¬ F a → H a = some (.lst vs) → RpAll K F H vs ds → Rp K F H (.ref a) (.lst ds)
  | tup {a : Addr} {vs : List V} {ds : List D} : ¬ F a → Rd H a (.tup vs) → RpAll K F H vs ds → Rp K F H (.ref a) (.tup ds)
  | ktup {a : Addr} {vs : List V} {ds : List D} : KTup K a vs → RpAll K F H vs ds → Rp K F H (.ref a) (.tup ds)
  | frl {a : Addr} {o : Obj} {vs : List V} {ds : List D} : ¬ F a → H a = some (.frz o (.lst vs)) → RpAll K F H vs ds → Rp K F H (.ref a) (.frl ds)
  | kfrl {a : Addr} {vs : List V} {ds : List D} : KLst K a vs → RpAll K F H vs ds → Rp K F H (.ref a) (.frl ds)
  | ftp {a : Addr} {o : Obj} {vs : List V} {ds : List D} : ¬ F a → H a = some (.frz o (.tup vs)) → o.cls = .type "tuple" → o.dict = none → RpAll K F H vs ds → Rp K F H (.ref a) (.ftp ds)
  | obj {a C dx : Addr} {ns : List Str} {vs : List V} {ds : List D} : ¬ F a → H a = some (.ins C dx (ns.zip vs)) → ns.length = vs.length → RpAll K F H vs ds → Rp K F H (.ref a) (.obj C ns ds)
  | adr (a : Addr) : Rp K F H (.ref a) (.adr a)
  | dic {a : Addr} : ¬ F a → H a = some (.dK []) → Rp K F H (.ref a) .dic
  | dct {a : Addr} {es : List (Int × V × V)} {hs : List Int} {ks vs : List D} : ¬ F a → H a = some (.ext (isDict a es)) → es.map (·.1) = hs → RpAll K F H (es.map (·.2.1)) ks → RpAll K F H (es.map (·.2.2)) vs → Rp K F H (.ref a) (.dct hs ks vs)
inductive RpAll (K : PySem.W.Frag) (F : Addr → Prop) (H : Hp) : List V → List D → Prop
  | nil : RpAll K F H [] []
  | cons {v : V} {vs : List V} {d : D} {ds : List D} : Rp K F H v d → RpAll K F H vs ds → RpAll K F H (v :: vs) (d :: ds)
end

section
variable {K : PySem.W.Frag} {F F' : Addr → Prop} {H H' : Hp}
theorem RpAll.len : ∀ {vs : List V} {ds : List D}, RpAll K F H vs ds → vs.length = ds.length
  | _, _, .nil => rfl
  | _, _, .cons _ t => by rw [List.length_cons, List.length_cons, t.len]
theorem RpAll.get : ∀ {vs : List V} {ds : List D} {i : Nat} {d : D}, RpAll K F H vs ds → ds[i]? = some d → ∃ v, vs[i]? = some v ∧ Rp K F H v d
  | _, _, _, _, .nil, e => by simp at e
  | _, _, 0, _, .cons r _, e => by simp at e; subst e; exact ⟨_, rfl, r⟩
  | _, _, i + 1, _, .cons _ t, e => by
    obtain ⟨v, h1, h2⟩ := RpAll.get (i := i) t (by simpa using e)
    exact ⟨v, by simpa using h1, h2⟩
theorem RpAll.at : ∀ {vs : List V} {ds : List D} {i : Nat} {v : V}, RpAll K F H vs ds → vs[i]? = some v → ∃ d, ds[i]? = some d ∧ Rp K F H v d
  | _, _, _, _, .nil, e => by simp at e
  | _, _, 0, _, .cons r _, e => by simp at e; subst e; exact ⟨_, rfl, r⟩
  | _, _, i + 1, _, .cons _ t, e => by
    obtain ⟨v, h1, h2⟩ := RpAll.at (i := i) t (by simpa using e)
    exact ⟨v, by simpa using h1, h2⟩
theorem RpAll.append : ∀ {vs ws : List V} {ds es : List D}, RpAll K F H vs ds → RpAll K F H ws es → RpAll K F H (vs ++ ws) (ds ++ es)
  | _, _, _, _, .nil, s => s
  | _, _, _, _, .cons r t, s => .cons r (t.append s)
theorem RpAll.take : ∀ {vs : List V} {ds : List D} (n : Nat), RpAll K F H vs ds → RpAll K F H (vs.take n) (ds.take n)
  | _, _, 0, _ => by simpa using RpAll.nil
  | _, _, _ + 1, .nil => by simpa using RpAll.nil
  | _, _, n + 1, .cons r t => by simpa using RpAll.cons r (RpAll.take n t)
theorem RpAll.drop : ∀ {vs : List V} {ds : List D} (n : Nat), RpAll K F H vs ds → RpAll K F H (vs.drop n) (ds.drop n)
  | _, _, 0, r => by simpa using r
  | _, _, _ + 1, .nil => by simpa using RpAll.nil
  | _, _, n + 1, .cons _ t => by simpa using RpAll.drop n t
theorem RpAll.set {v : V} {d : D} (r : Rp K F H v d) : ∀ {vs : List V} {ds : List D} (i : Nat), RpAll K F H vs ds → RpAll K F H (vs.set i v) (ds.set i d)
  | _, _, _, .nil => .nil
  | _, _, 0, .cons _ t => .cons r t
  | _, _, i + 1, .cons q t => .cons q (RpAll.set r i t)
theorem RpAll.rep {v : V} {d : D} (r : Rp K F H v d) : ∀ n : Nat, RpAll K F H (List.replicate n v) (List.replicate n d)
  | 0 => .nil
  | n + 1 => .cons r (RpAll.rep r n)
theorem RpAll.map {α : Type} {f : α → V} {g : α → D} (h : ∀ x, Rp K F H (f x) (g x)) : ∀ l : List α, RpAll K F H (l.map f) (l.map g)
  | [] => .nil
  | x :: l => .cons (h x) (RpAll.map h l)
theorem rd_up {a : Addr} {u : HO} (h : Rd H a u) (e : ∀ o, H a = some o → H' a = some o) : Rd H' a u := h.elim (fun h => .inl (e _ h)) fun ⟨o, h⟩ => .inr ⟨o, e _ h⟩
mutual
theorem Rp.go (k : ∀ a o, ¬ F a → H a = some o → ¬ F' a ∧ H' a = some o) : ∀ {d : D} {v : V}, Rp K F H v d → Rp K F' H' v d
  | .non, _, .non => .non
  | .bl _, _, .bl b => .bl b
  | .int _, _, .int i => .int i
  | .str _, _, .str s => .str s
  | .lst _, _, .lst n h t => .lst (k _ _ n h).1 (k _ _ n h).2 (Rp.goAll k t)
  | .tup _, _, .tup n h t => .tup (h.elim (fun h => (k _ _ n h).1) fun ⟨_, h⟩ => (k _ _ n h).1) (rd_up h fun o e => (k _ o n e).2) (Rp.goAll k t)
  | .tup _, _, .ktup h t => .ktup h (Rp.goAll k t)
  | .obj _ _ _, _, .obj n h l t => .obj (k _ _ n h).1 (k _ _ n h).2 l (Rp.goAll k t)
  | .adr _, _, .adr a => .adr a
  | .dic, _, .dic n h => .dic (k _ _ n h).1 (k _ _ n h).2
  | .dct _ _ _, _, .dct n h e a b => .dct (k _ _ n h).1 (k _ _ n h).2 e (Rp.goAll k a) (Rp.goAll k b)
  | .frl _, _, .frl n h t => .frl (k _ _ n h).1 (k _ _ n h).2 (Rp.goAll k t)
  | .frl _, _, .kfrl h t => .kfrl h (Rp.goAll k t)
  | .ftp _, _, .ftp n h c e t => .ftp (k _ _ n h).1 (k _ _ n h).2 c e (Rp.goAll k t)
theorem Rp.goAll (k : ∀ a o, ¬ F a → H a = some o → ¬ F' a ∧ H' a = some o) : ∀ {ds : List D} {vs : List V}, RpAll K F H vs ds → RpAll K F' H' vs ds
  | [], _, .nil => .nil
  | _ :: _, _, .cons r t => .cons (Rp.go k r) (Rp.goAll k t)
end
theorem Rp.mv (k : ∀ a o, ¬ F a → H a = some o → H' a = some o) {d : D} {v : V} (r : Rp K F H v d) : Rp K F H' v d := r.go fun a o n e => ⟨n, k a o n e⟩
theorem RpAll.mv (k : ∀ a o, ¬ F a → H a = some o → H' a = some o) {ds : List D} {vs : List V} (r : RpAll K F H vs ds) : RpAll K F H' vs ds := Rp.goAll (fun a o n e => ⟨n, k a o n e⟩) r
theorem Rp.sqt {a : Addr} {ds : List D} (r : Rp K F H (.ref a) (.tup ds)) : ∃ vs, SqT K H a vs ∧ RpAll K F H vs ds := by
  cases r with
  | tup n h t => exact ⟨_, .inl h, t⟩
  | ktup h t => exact ⟨_, .inr h, t⟩
theorem Rp.tupE {v : V} {ds : List D} (r : Rp K F H v (.tup ds)) : ∃ a vs, v = .ref a ∧ SqT K H a vs ∧ RpAll K F H vs ds := by
  cases r with
  | tup n h t => exact ⟨_, _, rfl, .inl h, t⟩
  | ktup h t => exact ⟨_, _, rfl, .inr h, t⟩
theorem Rp.lstE {v : V} {ds : List D} (r : Rp K F H v (.lst ds)) : ∃ a vs, v = .ref a ∧ H a = some (.lst vs) ∧ RpAll K F H vs ds := by
  cases r with
  | lst n h t => exact ⟨_, _, rfl, h, t⟩
theorem Rp.intE {v : V} {i : Int} (r : Rp K F H v (.int i)) : v = .int i := by cases r; rfl
theorem Rp.blE {v : V} {i : Bool} (r : Rp K F H v (.bl i)) : v = .bl i := by cases r; rfl
theorem Rp.strE {v : V} {i : Str} (r : Rp K F H v (.str i)) : v = .str i := by cases r; rfl
theorem Rp.adrE {v : V} {a : Addr} (r : Rp K F H v (.adr a)) : v = .ref a := by cases r; rfl
theorem RpAll.ints : ∀ {l : List Int} {vs : List V}, RpAll K F H vs (l.map D.int) → vs = l.map V.int
  | [], _, .nil => rfl
  | _ :: _, _, .cons r t => by rw [r.intE, RpAll.ints t] <;> rfl
theorem RpAll.bls : ∀ {l : List Bool} {vs : List V}, RpAll K F H vs (l.map D.bl) → vs = l.map V.bl
  | [], _, .nil => rfl
  | _ :: _, _, .cons r t => by rw [r.blE, RpAll.bls t] <;> rfl
theorem RpAll.strs : ∀ {l : List Str} {vs : List V}, RpAll K F H vs (l.map D.str) → vs = l.map V.str
  | [], _, .nil => rfl
  | _ :: _, _, .cons r t => by rw [r.strE, RpAll.strs t] <;> rfl
end

/-! ### plain data -/
mutual
def D.py : D → PyData
  | .non => .none | .bl b => .bool b | .int i => .int i | .str s => .str s
  | .lst xs => .list (D.pys xs) | .tup xs => .tuple (D.pys xs)
  | .obj _ _ _ => .none | .adr _ => .none | .dic => .none | .frl xs => .list (D.pys xs) | .ftp _ => .none | .dct _ _ _ => .none
def D.pys : List D → List PyData
  | [] => []
  | x :: xs => x.py :: D.pys xs
end
mutual
def D.plain : D → Bool
  | .non => true | .bl _ => true | .int _ => true | .str _ => true
  | .lst xs => D.plains xs | .tup xs => D.plains xs
  | .obj _ _ _ => false | .adr _ => false | .dic => false | .frl xs => D.plains xs | .ftp _ => false | .dct _ _ _ => false
def D.plains : List D → Bool
  | [] => true
  | x :: xs => x.plain && D.plains xs
end
section
variable {K : PySem.W.Frag} {F : Addr → Prop} {H : Hp}
mutual
theorem Rp.dp : ∀ {d : D} {v : V}, Rp K F H v d → d.plain = true → Dp K H v d.py
  | .non, _, .non, _ => .non
  | .bl _, _, .bl b, _ => .bl b
  | .int _, _, .int i, _ => .int i
  | .str _, _, .str s, _ => .str s
  | .lst _, _, .lst n h t, p => .lst (.inl (.inl h)) (Rp.dpAll t (by simpa [D.plain] using p))
  | .tup _, _, .tup n h t, p => .tup (.inl h) (Rp.dpAll t (by simpa [D.plain] using p))
  | .tup _, _, .ktup h t, p => .tup (.inr h) (Rp.dpAll t (by simpa [D.plain] using p))
  | .obj _ _ _, _, .obj n h l t, p => by simp [D.plain] at p
  | .adr _, _, .adr a, p => by simp [D.plain] at p
  | .ftp _, _, .ftp n h c e t, p => by simp [D.plain] at p
  | .dic, _, .dic n h, p => by simp [D.plain] at p
  | .dct _ _ _, _, .dct n h e a b, p => by simp [D.plain] at p
  | .frl _, _, .frl n h t, p => .lst (.inl (.inr ⟨_, h⟩)) (Rp.dpAll t (by simpa [D.plain] using p))
  | .frl _, _, .kfrl h t, p => .lst (.inr h) (Rp.dpAll t (by simpa [D.plain] using p))
theorem Rp.dpAll : ∀ {ds : List D} {vs : List V}, RpAll K F H vs ds → D.plains ds = true → DpAll K H vs (D.pys ds)
  | [], _, .nil, _ => .nil
  | _ :: _, _, .cons r t, p => by
    have p' := Bool.and_eq_true_iff.mp (by simpa [D.plains] using p)
    exact .cons (Rp.dp r p'.1) (Rp.dpAll t p'.2)
end
end

/-! ### modes -/
/-- F: what data may not lean on; R: how the heap may move; I: what is true all along -/
structure Mo where
  F : Addr → Prop
  R : Hp → Hp → Prop
  I : Hp → Prop
  refl : ∀ H, R H H
  trans : ∀ {H H1 H2}, R H H1 → R H1 H2 → R H H2
  keep : ∀ {H H'}, R H H' → I H → ∀ a o, ¬ F a → H a = some o → H' a = some o
  grow : ∀ {H H'}, I H → Same H H' → R H H'
  inv : ∀ {H H'}, R H H' → I H → I H'
  fa : ∀ {H a}, I H → F a → H a ≠ none
  chg : ∀ {H H1 p o}, I H → R H H1 → H p = none → R H (upd H1 p o)
  had : ∀ {H H' a}, I H → R H H' → H a ≠ none → H' a ≠ none
theorem same_chg {H H' : Hp} {p : Addr} {o : HO} (e : Same H H') (h : H p = none) : Same H (upd H' p o) := fun a u ha => by
  rw [upd_ne (ne_of_none ha h)]
  exact e a u ha
theorem same_new {H : Hp} {p : Addr} {o : HO} (h : H p = none) : Same H (upd H p o) := same_chg (Same.refl H) h
/-- nothing known changes -/
def pureMo (F : Addr → Prop) : Mo where
  F := F
  R := Same
  I := fun H => ∀ a, F a → H a ≠ none
  refl := Same.refl
  trans := fun a b => a.trans b
  keep := fun r _ a o _ e => r a o e
  grow := fun _ r => r
  inv := fun {H H'} r i a f => by
    cases e : H a with
    | none => exact absurd e (i a f)
    | some o => rw [r a o e]; exact fun z => nomatch z
  fa := fun i f => i _ f
  chg := fun _ r h => same_chg r h
  had := fun {H H' a} _ r n => by
    cases e : H a with
    | none => exact absurd e n
    | some o => rw [r a o e]; exact fun z => nomatch z
/-- one more address that data may not lean on -/
def Mo.ext (m : Mo) (p : Addr) : Mo where
  F := fun a => m.F a ∨ a = p
  R := m.R
  I := fun H => m.I H ∧ H p ≠ none
  refl := m.refl
  trans := m.trans
  keep := fun r i a o n e => m.keep r i.1 a o (fun z => n (.inl z)) e
  grow := fun i r => m.grow i.1 r
  inv := fun r i => ⟨m.inv r i.1, m.had i.1 r i.2⟩
  fa := fun i f => f.elim (fun f => m.fa i.1 f) fun e => e ▸ i.2
  chg := fun i r h => m.chg i.1 r h
  had := fun i r n => m.had i.1 r n
structure Mo.Le (m m' : Mo) : Prop where
  R : m'.R = m.R
  F : ∀ a, m.F a → m'.F a
  I : ∀ H, m'.I H → m.I H
theorem Mo.Le.refl (m : Mo) : m.Le m := ⟨rfl, fun _ h => h, fun _ h => h⟩
theorem Mo.Le.trans {m m1 m2 : Mo} (a : m.Le m1) (b : m1.Le m2) : m.Le m2 := ⟨b.R.trans a.R, fun x h => b.F x (a.F x h), fun H h => a.I H (b.I H h)⟩
theorem Mo.le_ext (m : Mo) (p : Addr) : m.Le (m.ext p) := ⟨rfl, fun _ h => .inl h, fun _ h => h.1⟩

end Tx

set_option Elab.async false
set_option linter.all false
set_option maxRecDepth 100000
set_option autoImplicit false
/-! Tx: judgements -/
namespace Tx
open PySem L2
abbrev G := List (Option D)
section
variable {K : PySem.W.Frag}
/-- the slots hold these data -/
structure ER (m : Mo) (K : PySem.W.Frag) (Γ : G) (σ : St) (H : Hp) : Prop where
  i : m.I H
  len : Γ.length = σ.length
  at_ : ∀ (i : Nat) (d : D), Γ[i]? = some (some d) → ∃ v, σ[i]? = some (some v) ∧ Rp K m.F H v d
theorem ER.mv {m : Mo} {Γ : G} {σ : St} {H H' : Hp} (e : ER m K Γ σ H) (r : m.R H H') : ER m K Γ σ H' :=
  ⟨m.inv r e.i, e.len, fun i d h => let ⟨v, h1, h2⟩ := e.at_ i d h; ⟨v, h1, h2.mv fun a o n x => m.keep r e.i a o n x⟩⟩
theorem ER.set {m : Mo} {Γ : G} {σ : St} {H : Hp} {v : V} {d : D} (e : ER m K Γ σ H) (j : Nat) (r : Rp K m.F H v d) : ER m K (Γ.set j (some d)) (σ.set j (some v)) H := by
  refine ⟨e.i, by rw [List.length_set, List.length_set, e.len], fun i d' h => ?_⟩
  by_cases hj : j = i
  · subst hj
    by_cases hl : j < Γ.length
    · rw [List.getElem?_set_self hl] at h
      cases h
      exact ⟨v, List.getElem?_set_self (e.len ▸ hl), r⟩
    · rw [List.getElem?_eq_none (by rw [List.length_set]; omega)] at h
      cases h
  · rw [List.getElem?_set_ne hj] at h
    obtain ⟨w, h1, h2⟩ := e.at_ i d' h
    exact ⟨w, by rw [List.getElem?_set_ne hj]; exact h1, h2⟩
def wipeG (Γ : G) : List Nat → G
  | [] => Γ
  | v :: vs => (wipeG Γ vs).set v none
theorem ER.unset {m : Mo} {Γ : G} {σ : St} {H : Hp} (e : ER m K Γ σ H) (j : Nat) : ER m K (Γ.set j none) (σ.set j none) H := by
  refine ⟨e.i, by rw [List.length_set, List.length_set, e.len], fun i d' h => ?_⟩
  by_cases hj : j = i
  · subst hj
    by_cases hl : j < Γ.length
    · rw [List.getElem?_set_self hl] at h
      cases h
    · rw [List.getElem?_eq_none (by rw [List.length_set]; omega)] at h
      cases h
  · rw [List.getElem?_set_ne hj] at h
    obtain ⟨w, h1, h2⟩ := e.at_ i d' h
    exact ⟨w, by rw [List.getElem?_set_ne hj]; exact h1, h2⟩
theorem ER.wipe {m : Mo} {Γ : G} {σ : St} {H : Hp} (e : ER m K Γ σ H) : ∀ vs : List Nat, ER m K (wipeG Γ vs) (L2.wipe σ vs) H
  | [] => e
  | v :: vs => (ER.wipe e vs).unset v
/-- a new object comes, which data may not lean on -/
theorem ER.ext {m : Mo} {Γ : G} {σ : St} {H H' : Hp} {p : Addr} (e : ER m K Γ σ H) (hp : H p = none) (r : m.R H H') (hp' : H' p ≠ none) : ER (m.ext p) K Γ σ H' :=
  ⟨⟨m.inv r e.i, hp'⟩, e.len, fun i d h => let ⟨v, h1, h2⟩ := e.at_ i d h; ⟨v, h1, h2.go fun a o n x => ⟨fun z => z.elim n fun z => (by rw [z, hp] at x; cases x), m.keep r e.i a o n x⟩⟩⟩

/-! ### expressions -/
def EvN (m : Mo) (K : PySem.W.Frag) (te : TE) (Γ : G) (S : D → Prop) : Prop :=
  ∀ σ H, ER m K Γ σ H → ∀ Q : VK, (∀ v d H', S d → m.R H H' → Rp K m.F H' v d → Q v H') → te σ H Q
def EvT (m : Mo) (K : PySem.W.Frag) (tt : TT) (Γ : G) (S : Bool → Prop) : Prop :=
  ∀ σ H, ER m K Γ σ H → ∀ Q : Bool → Hp → Prop, (∀ b H', S b → m.R H H' → Q b H') → tt σ H Q
def EvA (m : Mo) (K : PySem.W.Frag) (ta : TA) (Γ : G) (S : List D → Prop) : Prop :=
  ∀ σ H, ER m K Γ σ H → ∀ Q : List V → Hp → Prop, (∀ vs ds H', S ds → m.R H H' → RpAll K m.F H' vs ds → Q vs H') → ta σ H Q
abbrev Ev1 (m : Mo) (K : PySem.W.Frag) (te : TE) (Γ : G) (d : D) : Prop := EvN m K te Γ (fun x => x = d)
abbrev EvT1 (m : Mo) (K : PySem.W.Frag) (tt : TT) (Γ : G) (b : Bool) : Prop := EvT m K tt Γ (fun x => x = b)
abbrev EvA1 (m : Mo) (K : PySem.W.Frag) (ta : TA) (Γ : G) (ds : List D) : Prop := EvA m K ta Γ (fun x => x = ds)
/-- operations, calls by data -/
def OpN (m : Mo) (K : PySem.W.Frag) (r : R2) (a b : D) (S : D → Prop) : Prop :=
  ∀ x y H, m.I H → Rp K m.F H x a → Rp K m.F H y b → ∀ Q : VK, (∀ v d H', S d → m.R H H' → Rp K m.F H' v d → Q v H') → r x y H Q
abbrev Op1 (m : Mo) (K : PySem.W.Frag) (r : R2) (a b c : D) : Prop := OpN m K r a b (fun x => x = c)
def CaN (m : Mo) (K : PySem.W.Frag) (r : List V → Hp → VK → Prop) (ds : List D) (S : D → Prop) : Prop :=
  ∀ vs H, m.I H → RpAll K m.F H vs ds → ∀ Q : VK, (∀ v d H', S d → m.R H H' → Rp K m.F H' v d → Q v H') → r vs H Q
abbrev Ca1 (m : Mo) (K : PySem.W.Frag) (r : List V → Hp → VK → Prop) (ds : List D) (c : D) : Prop := CaN m K r ds (fun x => x = c)

variable {m : Mo} {Γ : G} {T0 : Bool → Prop} {ta tb tc te : TE} {tt tu : TT} {S Sa Sb Sc : D → Prop} {a b c d : D} {r r' : R2}
theorem EvN.mono (h : EvN m K te Γ Sa) (k : ∀ d, Sa d → S d) : EvN m K te Γ S := fun σ H e Q q => h σ H e Q fun v d H' s => q v d H' (k d s)
theorem EvT.mono {Sa S : Bool → Prop} (h : EvT m K tt Γ Sa) (k : ∀ d, Sa d → S d) : EvT m K tt Γ S := fun σ H e Q q => h σ H e Q fun d H' s => q d H' (k d s)
theorem Ev1.is (h : Ev1 m K te Γ a) (e : a = b) : Ev1 m K te Γ b := e ▸ h
theorem EvT1.is {a b : Bool} (h : EvT1 m K tt Γ a) (e : a = b) : EvT1 m K tt Γ b := e ▸ h
theorem en_var (i : Nat) (h : Γ[i]? = some (some d)) : Ev1 m K (tVar i) Γ d := fun σ H e Q q =>
  let ⟨v, h1, h2⟩ := e.at_ i d h; ⟨v, h1, q v d H rfl (m.refl H) h2⟩
theorem en_int (i : Int) : Ev1 m K (tC (.int i)) Γ (.int i) := fun σ H e Q q => q _ _ H rfl (m.refl H) (.int i)
theorem en_bl (i : Bool) : Ev1 m K (tC (.bl i)) Γ (.bl i) := fun σ H e Q q => q _ _ H rfl (m.refl H) (.bl i)
theorem en_str (i : Str) : Ev1 m K (tC (.str i)) Γ (.str i) := fun σ H e Q q => q _ _ H rfl (m.refl H) (.str i)
theorem en_non : Ev1 m K (tC .non) Γ .non := fun σ H e Q q => q _ _ H rfl (m.refl H) .non
theorem en_op (ha : EvN m K ta Γ Sa) (hb : EvN m K tb Γ Sb) (ho : ∀ a b, Sa a → Sb b → OpN m K r a b S) : EvN m K (tOp r ta tb) Γ S := fun σ H e Q q =>
  ha σ H e _ fun x a H1 sa r1 ra => hb σ H1 (e.mv r1) _ fun y b H2 sb r2 rb =>
    ho a b sa sb x y H2 (m.inv r2 (m.inv r1 e.i)) (ra.mv (m.keep r2 (m.inv r1 e.i))) rb Q fun v d H3 s r3 rv => q v d H3 s (m.trans r1 (m.trans r2 r3)) rv
theorem en_op1 (ha : Ev1 m K ta Γ a) (hb : Ev1 m K tb Γ b) (ho : OpN m K r a b S) : EvN m K (tOp r ta tb) Γ S := en_op ha hb fun _ _ e1 e2 => e1 ▸ e2 ▸ ho
theorem en_if (ht : EvT m K tt Γ T0) (h1 : T0 true → EvN m K ta Γ S) (h2 : T0 false → EvN m K tb Γ S) : EvN m K (tIf tt ta tb) Γ S := fun σ H e Q q =>
  ht σ H e _ fun k H1 s r1 => by
    cases k with
    | true => exact h1 s σ H1 (e.mv r1) Q fun v d H2 sd r2 => q v d H2 sd (m.trans r1 r2)
    | false => exact h2 s σ H1 (e.mv r1) Q fun v d H2 sd r2 => q v d H2 sd (m.trans r1 r2)
theorem en_if1 {k : Bool} (ht : EvT1 m K tt Γ k) (h1 : k = true → EvN m K ta Γ S) (h2 : k = false → EvN m K tb Γ S) : EvN m K (tIf tt ta tb) Γ S := en_if (T0 := fun x => x = k) ht (fun e => h1 e.symm) (fun e => h2 e.symm)
theorem en_andV {p : Bool} (ha : Ev1 m K ta Γ (.bl p)) (hb : p = true → EvN m K tb Γ S) (h0 : p = false → S (.bl false)) : EvN m K (tAndV ta tb) Γ S := fun σ H e Q q =>
  ha σ H e _ fun x a H1 sa r1 ra => by
    subst sa
    refine ⟨p, ra.blE, ?_⟩
    cases p with
    | true => exact hb rfl σ H1 (e.mv r1) Q fun v d H2 s r2 => q v d H2 s (m.trans r1 r2)
    | false => exact q _ _ H1 (h0 rfl) r1 (.bl false)
theorem en_and {p k : Bool} (ha : Ev1 m K ta Γ (.bl p)) (hb : p = true → Ev1 m K tb Γ (.bl k)) : Ev1 m K (tAndV ta tb) Γ (.bl (p && k)) :=
  en_andV ha (fun e => by subst e; exact hb rfl) fun e => by subst e; rfl
theorem en_orV {p : Bool} (ha : Ev1 m K ta Γ (.bl p)) (hb : p = false → EvN m K tb Γ S) (h0 : p = true → S (.bl true)) : EvN m K (tOrV ta tb) Γ S := fun σ H e Q q =>
  ha σ H e _ fun x a H1 sa r1 ra => by
    subst sa
    refine ⟨p, ra.blE, ?_⟩
    cases p with
    | false => exact hb rfl σ H1 (e.mv r1) Q fun v d H2 s r2 => q v d H2 s (m.trans r1 r2)
    | true => exact q _ _ H1 (h0 rfl) r1 (.bl true)
theorem en_or {p k : Bool} (ha : Ev1 m K ta Γ (.bl p)) (hb : p = false → Ev1 m K tb Γ (.bl k)) : Ev1 m K (tOrV ta tb) Γ (.bl (p || k)) :=
  en_orV ha (fun e => by subst e; exact hb rfl) fun e => by subst e; rfl
theorem en_not {p : Bool} (ha : Ev1 m K ta Γ (.bl p)) : Ev1 m K (tNotV ta) Γ (.bl (!p)) := fun σ H e Q q =>
  ha σ H e _ fun x a H1 sa r1 ra => by subst sa; exact ⟨p, ra.blE, q _ _ H1 rfl r1 (.bl _)⟩
theorem en_chain {k1 k2 : Bool} (ha : Ev1 m K ta Γ a) (hb : Ev1 m K tb Γ b) (hc : k1 = true → Ev1 m K tc Γ c) (h1 : Op1 m K r a b (.bl k1)) (h2 : k1 = true → Op1 m K r' b c (.bl k2)) :
    Ev1 m K (tChain r r' ta tb tc) Γ (.bl (k1 && k2)) := fun σ H e Q q =>
  ha σ H e _ fun x a' H1 sa r1 ra => hb σ H1 (e.mv r1) _ fun y b' H2 sb r2 rb => by
    subst sa; subst sb
    have i1 := m.inv r1 e.i
    have i2 := m.inv r2 i1
    refine h1 x y H2 i2 (ra.mv (m.keep r2 i1)) rb _ fun z d H3 s3 r3 rz => ?_
    subst s3
    refine ⟨k1, rz.blE, ?_⟩
    cases k1 with
    | false => exact q _ _ H3 rfl (m.trans r1 (m.trans r2 r3)) (.bl _)
    | true =>
      refine hc rfl σ H3 (e.mv (m.trans r1 (m.trans r2 r3))) _ fun w c' H4 s4 r4 rc => ?_
      subst s4
      have i3 := m.inv r3 i2
      refine h2 rfl y w H4 (m.inv r4 i3) (rb.mv (m.keep (m.trans r3 r4) i2)) rc Q fun v d H5 s5 r5 => q v d H5 ?_ (m.trans r1 (m.trans r2 (m.trans r3 (m.trans r4 r5))))
      subst s5
      simp
/-! tests -/
theorem et_test {k : Bool} (h : Ev1 m K te Γ (.bl k)) : EvT1 m K (tTest te) Γ k := fun σ H e Q q => h σ H e _ fun v d H1 s r1 rv => by subst s; exact ⟨k, rv.blE, q k H1 rfl r1⟩
theorem et_B {k : Bool} (h : Ev1 m K te Γ (.bl k)) : EvT1 m K (tB te) Γ k := fun σ H e Q q => h σ H e _ fun v d H1 s r1 rv => by subst s; exact ⟨k, rv.blE, q k H1 rfl r1⟩
theorem et_testN {T : Bool → Prop} (h : EvN m K te Γ (fun d => ∃ k, d = .bl k ∧ T k)) : EvT m K (tTest te) Γ T := fun σ H e Q q => h σ H e _ fun v d H1 s r1 rv => by obtain ⟨k, e, t⟩ := s; subst e; exact ⟨k, rv.blE, q k H1 t r1⟩
theorem et_BN {T : Bool → Prop} (h : EvN m K te Γ (fun d => ∃ k, d = .bl k ∧ T k)) : EvT m K (tB te) Γ T := fun σ H e Q q => h σ H e _ fun v d H1 s r1 rv => by obtain ⟨k, e, t⟩ := s; subst e; exact ⟨k, rv.blE, q k H1 t r1⟩
theorem et_andN {p : Bool} {T : Bool → Prop} (h1 : EvT1 m K tt Γ p) (h2 : p = true → EvT m K tu Γ T) (h0 : p = false → T false) : EvT m K (tAnd tt tu) Γ T := fun σ H e Q q =>
  h1 σ H e _ fun x H1 s r1 => by
    subst s
    cases x with
    | true => exact h2 rfl σ H1 (e.mv r1) Q fun b H2 s2 r2 => q b H2 s2 (m.trans r1 r2)
    | false => exact q _ H1 (h0 rfl) r1
theorem et_and {p k : Bool} (h1 : EvT1 m K tt Γ p) (h2 : p = true → EvT1 m K tu Γ k) : EvT1 m K (tAnd tt tu) Γ (p && k) :=
  et_andN h1 (fun e => by subst e; exact h2 rfl) fun e => by subst e; rfl
theorem et_orN {p : Bool} {T : Bool → Prop} (h1 : EvT1 m K tt Γ p) (h2 : p = false → EvT m K tu Γ T) (h0 : p = true → T true) : EvT m K (tOr tt tu) Γ T := fun σ H e Q q =>
  h1 σ H e _ fun x H1 s r1 => by
    subst s
    cases x with
    | false => exact h2 rfl σ H1 (e.mv r1) Q fun b H2 s2 r2 => q b H2 s2 (m.trans r1 r2)
    | true => exact q _ H1 (h0 rfl) r1
theorem et_or {p k : Bool} (h1 : EvT1 m K tt Γ p) (h2 : p = false → EvT1 m K tu Γ k) : EvT1 m K (tOr tt tu) Γ (p || k) :=
  et_orN h1 (fun e => by subst e; exact h2 rfl) fun e => by subst e; rfl
theorem et_not {p : Bool} (h1 : EvT1 m K tt Γ p) : EvT1 m K (tNot tt) Γ (!p) := fun σ H e Q q => h1 σ H e _ fun x H1 s r1 => by subst s; exact q _ H1 rfl r1
theorem et_notN {T : Bool → Prop} (h1 : EvT m K tt Γ (fun b => T (!b))) : EvT m K (tNot tt) Γ T := fun σ H e Q q => h1 σ H e _ fun x H1 s r1 => q _ H1 s r1
theorem et_yes : EvT1 m K tYes Γ true := fun σ H e Q q => q _ H rfl (m.refl H)
/-! arguments -/
theorem ea_nil : EvA1 m K tNil Γ [] := fun σ H e Q q => q _ _ H rfl (m.refl H) .nil
theorem ea_consN {tr : TA} {T U : List D → Prop} (h : EvN m K te Γ S) (hr : EvA m K tr Γ T) (k : ∀ d ds, S d → T ds → U (d :: ds)) : EvA m K (tCons te tr) Γ U := fun σ H e Q q =>
  h σ H e _ fun v d H1 s r1 rv => hr σ H1 (e.mv r1) _ fun vs ds H2 s2 r2 rs => q _ _ H2 (k d ds s s2) (m.trans r1 r2) (.cons (rv.mv (m.keep r2 (m.inv r1 e.i))) rs)
theorem ea_cons {tr : TA} {ds : List D} (h : Ev1 m K te Γ d) (hr : EvA1 m K tr Γ ds) : EvA1 m K (tCons te tr) Γ (d :: ds) := ea_consN h hr fun _ _ e1 e2 => by rw [e1, e2]
theorem EvA.mono {ta : TA} {T U : List D → Prop} (h : EvA m K ta Γ T) (k : ∀ d, T d → U d) : EvA m K ta Γ U := fun σ H e Q q => h σ H e Q fun v d H' s => q v d H' (k d s)
theorem rp_new {H : Hp} {p : Addr} {vs : List V} {ds : List D} (i : m.I H) (hp : H p = none) (r : RpAll K m.F H vs ds) : Rp K m.F (upd H p (.tup vs)) (.ref p) (.tup ds) :=
  .tup (fun f => m.fa i f hp) (.inl upd_same) (r.mv fun a o n e => same_new hp a o e)
theorem rp_newL {H : Hp} {p : Addr} {vs : List V} {ds : List D} (i : m.I H) (hp : H p = none) (r : RpAll K m.F H vs ds) : Rp K m.F (upd H p (.lst vs)) (.ref p) (.lst ds) :=
  .lst (fun f => m.fa i f hp) upd_same (r.mv fun a o n e => same_new hp a o e)
theorem en_tupN {ta : TA} {T : List D → Prop} (h : EvA m K ta Γ T) (hl : ∀ ds, T ds → ds.length ≤ 100000) : EvN m K (tTup ta) Γ (fun x => ∃ ds, x = .tup ds ∧ T ds) := fun σ H e Q q =>
  h σ H e _ fun vs ds H1 s r1 rs => ⟨Nat.le_trans (by rw [rs.len]; exact hl ds s) (by decide), fun p hp => q _ _ _ ⟨ds, rfl, s⟩ (m.trans r1 (m.grow (m.inv r1 e.i) (same_new hp))) (rp_new (m.inv r1 e.i) hp rs)⟩
theorem en_lstN {ta : TA} {T : List D → Prop} (h : EvA m K ta Γ T) (hl : ∀ ds, T ds → ds.length ≤ 100000) : EvN m K (tLst ta) Γ (fun x => ∃ ds, x = .lst ds ∧ T ds) := fun σ H e Q q =>
  h σ H e _ fun vs ds H1 s r1 rs => ⟨Nat.le_trans (by rw [rs.len]; exact hl ds s) (by decide), fun p hp => q _ _ _ ⟨ds, rfl, s⟩ (m.trans r1 (m.grow (m.inv r1 e.i) (same_new hp))) (rp_newL (m.inv r1 e.i) hp rs)⟩
theorem en_tup {ta : TA} {ds : List D} (h : EvA1 m K ta Γ ds) (hl : ds.length ≤ 100000) : Ev1 m K (tTup ta) Γ (.tup ds) := (en_tupN h fun x e => by rw [e]; exact hl).mono fun d ⟨x, e1, e2⟩ => by rw [e1, e2]
theorem en_lst {ta : TA} {ds : List D} (h : EvA1 m K ta Γ ds) (hl : ds.length ≤ 100000) : Ev1 m K (tLst ta) Γ (.lst ds) := (en_lstN h fun x e => by rw [e]; exact hl).mono fun d ⟨x, e1, e2⟩ => by rw [e1, e2]
/-- [*xs, ..] -/
theorem ea_starN {tr : TA} {T U : List D → Prop} (h : EvN m K te Γ S) (hr : EvA m K tr Γ T) (k : ∀ d ds, S d → T ds → ∃ es, (d = .tup es ∨ d = .lst es) ∧ U (es ++ ds)) (h0 : ∀ d, S d → ∃ es, d = .tup es ∨ d = .lst es) : EvA m K (StX.tStar K te tr) Γ U := by
  intro σ H e Q q
  refine h σ H e _ fun v d H1 s r1 rv => ?_
  have i1 := m.inv r1 e.i
  have fin : ∀ (a : Addr) (vs : List V) (es : List D), v = .ref a → (SqT K H1 a vs ∨ SqL K H1 a vs) → RpAll K m.F H1 vs es → (∀ ds, T ds → U (es ++ ds)) → ∃ p xs, v = V.ref p ∧ (SqT K H1 p xs ∨ SqL K H1 p xs) ∧ tr σ H1 fun ys H2 => Q (xs ++ ys) H2 := fun a vs es ev hs ra hu =>
    ⟨a, vs, ev, hs, hr σ H1 (e.mv r1) _ fun ws ds H2 s2 r2 rs => q _ _ H2 (hu ds s2) (m.trans r1 r2) ((ra.mv (m.keep r2 i1)).append rs)⟩
  obtain ⟨es, hd⟩ := h0 d s
  rcases hd with hd | hd
  · subst hd
    obtain ⟨a, vs, ev, hs, ra⟩ := rv.tupE
    exact fin a vs es ev (.inl hs) ra fun ds t => by
      obtain ⟨es', he, u⟩ := k _ ds s t
      rcases he with he | he
      · cases he; exact u
      · cases he
  · subst hd
    obtain ⟨a, vs, ev, hs, ra⟩ := rv.lstE
    exact fin a vs es ev (.inr (SqL.of hs)) ra fun ds t => by
      obtain ⟨es', he, u⟩ := k _ ds s t
      rcases he with he | he
      · cases he
      · cases he; exact u
theorem ea_star {tr : TA} {es ds : List D} (h : EvN m K te Γ (fun x => x = d)) (hd : d = .tup es ∨ d = .lst es) (hr : EvA1 m K tr Γ ds) : EvA1 m K (StX.tStar K te tr) Γ (es ++ ds) :=
  ea_starN h hr (fun x y e1 e2 => ⟨es, by rw [e1]; exact hd, by rw [e2]⟩) fun x e => ⟨es, by rw [e]; exact hd⟩
theorem en_cb {ta : TA} {rr : List V → Hp → VK → Prop} {T : List D → Prop} (h : EvA m K ta Γ T) (hc : ∀ ds, T ds → CaN m K rr ds S) : EvN m K (tCB rr ta) Γ S := fun σ H e Q q =>
  h σ H e _ fun vs ds H1 s r1 rs => hc ds s vs H1 (m.inv r1 e.i) rs Q fun v d H2 s2 r2 => q v d H2 s2 (m.trans r1 r2)
theorem en_cb1 {ta : TA} {rr : List V → Hp → VK → Prop} {ds : List D} (h : EvA1 m K ta Γ ds) (hc : CaN m K rr ds S) : EvN m K (tCB rr ta) Γ S := en_cb h fun _ e => e ▸ hc
end
end Tx

set_option Elab.async false
set_option linter.all false
set_option maxRecDepth 100000
set_option autoImplicit false
/-! Tx: statements, iteration, comprehensions -/
namespace Tx
open PySem L2
structure Out where
  nx : G → Prop
  rt : D → Prop
  bk : G → Prop := fun _ => False
  ct : G → Prop := fun _ => False
section
variable {K : PySem.W.Frag} {m : Mo} {Γ : G} {ta tb tc te : TE} {tt tu : TT} {ts tv : TS} {S : D → Prop} {d : D} {O O' : Out}
structure Meets (m : Mo) (K : PySem.W.Frag) (H : Hp) (O : Out) (E : Ends) : Prop where
  nx : ∀ Γ' σ' H', O.nx Γ' → m.R H H' → ER m K Γ' σ' H' → E.nx σ' H'
  rt : ∀ d v H', O.rt d → m.R H H' → Rp K m.F H' v d → E.rt v H'
  bk : ∀ Γ' σ' H', O.bk Γ' → m.R H H' → ER m K Γ' σ' H' → E.bk σ' H'
  ct : ∀ Γ' σ' H', O.ct Γ' → m.R H H' → ER m K Γ' σ' H' → E.ct σ' H'
theorem Meets.mv {H H1 : Hp} {E : Ends} (M : Meets m K H O E) (r : m.R H H1) : Meets m K H1 O E :=
  ⟨fun Γ' σ' H' o r' e => M.nx Γ' σ' H' o (m.trans r r') e, fun d v H' o r' e => M.rt d v H' o (m.trans r r') e, fun Γ' σ' H' o r' e => M.bk Γ' σ' H' o (m.trans r r') e, fun Γ' σ' H' o r' e => M.ct Γ' σ' H' o (m.trans r r') e⟩
def SG (m : Mo) (K : PySem.W.Frag) (ts : TS) (Γ : G) (O : Out) : Prop :=
  ∀ σ H, ER m K Γ σ H → ∀ E : Ends, Meets m K H O E → ts E σ H
theorem SG.mono (h : SG m K ts Γ O) (h1 : ∀ x, O.nx x → O'.nx x) (h2 : ∀ x, O.rt x → O'.rt x) (h3 : ∀ x, O.bk x → O'.bk x) (h4 : ∀ x, O.ct x → O'.ct x) : SG m K ts Γ O' := fun σ H e E M =>
  h σ H e E ⟨fun Γ' σ' H' o => M.nx Γ' σ' H' (h1 _ o), fun d v H' o => M.rt d v H' (h2 _ o), fun Γ' σ' H' o => M.bk Γ' σ' H' (h3 _ o), fun Γ' σ' H' o => M.ct Γ' σ' H' (h4 _ o)⟩
theorem sg_next (h : O.nx Γ) : SG m K tNext Γ O := fun σ H e E M => M.nx _ _ _ h (m.refl H) e
theorem sg_seq (N : G → Prop) (h1 : SG m K ts Γ { O with nx := N }) (h2 : ∀ Γ', N Γ' → SG m K tv Γ' O) : SG m K (tSeq ts tv) Γ O := fun σ H e E M =>
  h1 σ H e _ ⟨fun Γ' σ' H' o r e' => h2 Γ' o σ' H' e' E (M.mv r), M.rt, M.bk, M.ct⟩
theorem sg_retN (h : EvN m K te Γ S) (k : ∀ d, S d → O.rt d) : SG m K (tRet te) Γ O := fun σ H e E M => h σ H e _ fun v d H' s r rv => M.rt d v H' (k d s) r rv
theorem sg_ret (h : Ev1 m K te Γ d) (k : O.rt d) : SG m K (tRet te) Γ O := sg_retN h fun _ e => e ▸ k
theorem sg_asgN {i : Nat} (h : EvN m K te Γ S) (k : ∀ d, S d → O.nx (Γ.set i (some d))) : SG m K (tAsg te (gName i)) Γ O := fun σ H e E M =>
  h σ H e _ fun v d H' s r rv => M.nx _ _ _ (k d s) r ((e.mv r).set i rv)
theorem sg_asg {i : Nat} (h : Ev1 m K te Γ d) (k : O.nx (Γ.set i (some d))) : SG m K (tAsg te (gName i)) Γ O := sg_asgN h fun _ e => e ▸ k
/-- x = e; rest -/
theorem sq_asgN {i : Nat} (h : EvN m K te Γ S) (k : ∀ d, S d → SG m K tv (Γ.set i (some d)) O) : SG m K (tSeq (tAsg te (gName i)) tv) Γ O :=
  sg_seq (fun Γ' => ∃ d, S d ∧ Γ' = Γ.set i (some d)) (sg_asgN h fun d s => ⟨d, s, rfl⟩) fun Γ' ⟨d, s, e⟩ => e ▸ k d s
theorem sq_asg {i : Nat} (h : Ev1 m K te Γ d) (k : SG m K tv (Γ.set i (some d)) O) : SG m K (tSeq (tAsg te (gName i)) tv) Γ O := sq_asgN h fun _ e => e ▸ k
theorem sg_ifN {T : Bool → Prop} (h : EvT m K tt Γ T) (h1 : T true → SG m K ts Γ O) (h2 : T false → SG m K tv Γ O) : SG m K (tIfS tt ts tv) Γ O := fun σ H e E M =>
  h σ H e _ fun b H' s r => by
    cases b with
    | true => exact h1 s σ H' (e.mv r) E (M.mv r)
    | false => exact h2 s σ H' (e.mv r) E (M.mv r)
theorem sg_if {b : Bool} (h : EvT1 m K tt Γ b) (h1 : b = true → SG m K ts Γ O) (h2 : b = false → SG m K tv Γ O) : SG m K (tIfS tt ts tv) Γ O := sg_ifN h (fun e => h1 e.symm) (fun e => h2 e.symm)
theorem sg_drop (h : EvN m K te Γ S) (k : O.nx Γ) : SG m K (tDrop te) Γ O := fun σ H e E M => h σ H e _ fun v d H' s r rv => M.nx _ _ _ k r (e.mv r)
theorem sg_seqIf {b : Bool} {tw : TS} (h : EvT1 m K tt Γ b) (h1 : b = true → SG m K ts Γ { O with nx := fun _ => False }) (h2 : b = false → SG m K tw Γ O) : SG m K (tSeq (tIfS tt ts tNext) tw) Γ O :=
  sg_seq (fun Γ' => b = false ∧ Γ' = Γ) (sg_if h (fun e => (h1 e).mono (fun _ f => f.elim) (fun _ x => x) (fun _ x => x) (fun _ x => x)) fun e => sg_next ⟨e, rfl⟩) fun Γ' ⟨e, e2⟩ => by subst e2; exact h2 e
/-- while, by a word over what the slots hold and a number that falls -/
theorem sg_while (W : Nat → G → Prop) (m0 : Nat) (h0 : W m0 Γ)
    (hs : ∀ k Γ', W k Γ' → ∃ T : Bool → Prop, EvT m K tt Γ' T ∧ (T true → SG m K ts Γ' { nx := fun Γ2 => ∃ k', k' < k ∧ W k' Γ2, ct := fun Γ2 => ∃ k', k' < k ∧ W k' Γ2, bk := O.nx, rt := O.rt }) ∧ (T false → O.nx Γ')) : SG m K (tWhile tt ts) Γ O := fun σ H e E M => by
  refine ⟨fun k σ' H' => ∃ Γ', W k Γ' ∧ m.R H H' ∧ ER m K Γ' σ' H', ⟨m0, Γ, h0, m.refl H, e⟩, ?_⟩
  rintro k σ' H' ⟨Γ', w, r, e'⟩
  obtain ⟨T, ht, h1, h2⟩ := hs k Γ' w
  refine ht σ' H' e' _ fun b H2 s r2 => ?_
  have e2 := e'.mv r2
  cases b with
  | true =>
    show ∃ N : St → Hp → Prop, _ ∧ _
    refine ⟨fun σ3 H3 => ∃ k', k' < k ∧ ∃ Γ3, W k' Γ3 ∧ m.R H H3 ∧ ER m K Γ3 σ3 H3, fun σ3 H3 q => q, ?_⟩
    refine h1 s σ' H2 e2 _ ⟨?_, ?_, ?_, ?_⟩
    · rintro Γ3 σ3 H3 ⟨k', hk, w3⟩ r3 e3
      exact ⟨k', hk, Γ3, w3, m.trans r (m.trans r2 r3), e3⟩
    · exact fun d v H3 o r3 rv => M.rt d v H3 o (m.trans r (m.trans r2 r3)) rv
    · exact fun Γ3 σ3 H3 o r3 e3 => M.nx Γ3 σ3 H3 o (m.trans r (m.trans r2 r3)) e3
    · rintro Γ3 σ3 H3 ⟨k', hk, w3⟩ r3 e3
      exact ⟨k', hk, Γ3, w3, m.trans r (m.trans r2 r3), e3⟩
  | false => exact M.nx Γ' σ' H2 (h2 s) (m.trans r r2) e2

/-! ### what is walked -/
structure WkD (m : Mo) (K : PySem.W.Frag) (J : It) (H1 : Hp) (xs : List D) : Prop where
  go : ∀ i H, m.R H1 H → i < xs.length → J.go i H
  stop : ∀ H, m.R H1 H → J.stop xs.length H
  yld : ∀ i H x H', m.R H1 H → i < xs.length → J.yld i H x H' → m.R H H' ∧ ∃ d, xs[i]? = some d ∧ Rp K m.F H' x d
/-- the same with one more address that data may not lean on -/
def ItD (m : Mo) (K : PySem.W.Frag) (wi : TI) (Γ : G) (T : List D → Prop) : Prop :=
  ∀ σ H, ER m K Γ σ H → ∀ Q : It → Hp → Prop, (∀ J xs H1, T xs → m.R H H1 → (∀ m', Mo.Le m m' → ∀ H2, m'.I H2 → m.R H1 H2 → (∀ a, m'.F a → ¬ m.F a → H1 a = none) → WkD m' K J H2 xs) → Q J H1) → wi σ H Q
abbrev ItD1 (m : Mo) (K : PySem.W.Frag) (wi : TI) (Γ : G) (xs : List D) : Prop := ItD m K wi Γ (fun x => x = xs)
/-- what a target stores -/
def TgD (m : Mo) (K : PySem.W.Frag) (g : TG) (Γ : G) (d : D) (js : List Nat) (Γ2 : G) : Prop :=
  ∀ x σ H, ER m K Γ σ H → Rp K m.F H x d → ∀ Q : St → Hp → Prop, (∀ σ2 H2, ER m K Γ2 σ2 H2 → m.R H H2 → (∀ vs, (∀ j ∈ js, j ∈ vs) → wipe σ2 vs = wipe σ vs) → Q σ2 H2) → g x σ H Q
theorem wipe_set {vs : List Nat} {σ : St} {j : Nat} {x : Option V} : j ∈ vs → wipe (σ.set j x) vs = wipe σ vs := by
  induction vs with
  | nil => intro h; cases h
  | cons v vs ih =>
    intro h
    show (wipe (σ.set j x) vs).set v none = (wipe σ vs).set v none
    by_cases hj : j ∈ vs
    · rw [ih hj]
    · have e : j = v := by
        rcases List.mem_cons.mp h with h | h
        · exact h
        · exact absurd h hj
      subst e
      have : ∀ (us : List Nat), j ∉ us → wipe (σ.set j x) us = (wipe σ us).set j x := by
        intro us
        induction us with
        | nil => intro _; rfl
        | cons u us ih2 =>
          intro hu
          show (wipe (σ.set j x) us).set u none = ((wipe σ us).set u none).set j x
          rw [ih2 (fun z => hu (List.mem_cons_of_mem _ z)), List.set_comm]
          intro z
          exact hu (z ▸ List.mem_cons_self)
      rw [this vs hj, List.set_set]
theorem wipe_wipe (σ : St) (vs : List Nat) : wipe (wipe σ vs) vs = wipe σ vs := by
  have h : ∀ us : List Nat, (∀ u ∈ us, u ∈ vs) → wipe (wipe σ us) vs = wipe σ vs := by
    intro us
    induction us with
    | nil => intro _; rfl
    | cons u us ih =>
      intro hu
      show wipe ((wipe σ us).set u none) vs = wipe σ vs
      rw [wipe_set (hu u List.mem_cons_self), ih fun z hz => hu z (List.mem_cons_of_mem _ hz)]
  exact h vs fun u hu => hu
theorem tg_name (j : Nat) : TgD m K (gName j) Γ d [j] (Γ.set j (some d)) := fun x σ H e r Q q =>
  q _ H (e.set j r) (m.refl H) fun vs h => wipe_set (h j (List.mem_singleton.mpr rfl))
theorem tg_pair {i j : Nat} {a b : D} : TgD m K (gTup K 2 (gCons (gName i) (gCons (gName j) gNil))) Γ (.tup [a, b]) [i, j] ((Γ.set i (some a)).set j (some b)) := fun x σ H e r Q q => by
  obtain ⟨p, vs, ev, hs, ra⟩ := r.tupE
  cases ra with
  | cons r1 ra =>
    cases ra with
    | cons r2 ra =>
      cases ra
      refine ⟨p, _, ev, hs, rfl, _, _, rfl, _, _, rfl, rfl, ?_⟩
      refine q _ H ((e.set i r1).set j r2) (m.refl H) fun vs h => ?_
      rw [wipe_set (h j (by simp)), wipe_set (h i (by simp))]
/-! ### for -/
theorem sg_for {wi : TI} {g : TG} {T : List D → Prop} {js : List Nat} (hi : ItD m K wi Γ T) (W : List D → Nat → G → Prop) (h0 : ∀ xs, T xs → W xs 0 Γ)
    (hs : ∀ xs i d Γ', T xs → xs[i]? = some d → W xs i Γ' → ∃ Γ2, TgD m K g Γ' d js Γ2 ∧ SG m K ts Γ2 { nx := W xs (i + 1), ct := W xs (i + 1), bk := O.nx, rt := O.rt }) (hd : ∀ xs Γ', T xs → W xs xs.length Γ' → O.nx Γ') : SG m K (tFor wi g ts) Γ O := fun σ H e E M => by
  refine hi σ H e _ fun J xs H1 ht r1 wk => ?_
  have e1 := e.mv r1
  have wk1 := wk m (Mo.Le.refl m) H1 e1.i (m.refl H1) fun a f n => absurd f n
  refine ⟨fun i k σ' H' => k = xs.length - i ∧ i ≤ xs.length ∧ ∃ Γ', W xs i Γ' ∧ m.R H1 H' ∧ ER m K Γ' σ' H', ⟨_, rfl, Nat.zero_le _, Γ, h0 xs ht, m.refl H1, e1⟩, ?_⟩
  rintro i k σ' H' ⟨rfl, hle, Γ', w, r, e'⟩
  by_cases hlt : i < xs.length
  · refine .inr ⟨wk1.go i H' r hlt, fun σ3 H3 => ∃ Γ3, W xs (i + 1) Γ3 ∧ m.R H1 H3 ∧ ER m K Γ3 σ3 H3, fun σ3 H3 q => ⟨xs.length - (i + 1), by omega, rfl, hlt, q⟩, fun x H2 y => ?_⟩
    obtain ⟨r2, d, hd', rx⟩ := wk1.yld i H' x H2 r hlt y
    obtain ⟨Γ2, tg, body⟩ := hs xs i d Γ' ht hd' w
    refine tg x σ' H2 (e'.mv r2) rx _ fun σ3 H3 e3 r3 _ => ?_
    have rr := m.trans r (m.trans r2 r3)
    refine body σ3 H3 e3 _ ⟨?_, ?_, ?_, ?_⟩
    · exact fun Γ4 σ4 H4 o r4 e4 => ⟨Γ4, o, m.trans rr r4, e4⟩
    · exact fun d v H4 o r4 rv => M.rt d v H4 o (m.trans r1 (m.trans rr r4)) rv
    · exact fun Γ4 σ4 H4 o r4 e4 => M.nx Γ4 σ4 H4 o (m.trans r1 (m.trans rr r4)) e4
    · exact fun Γ4 σ4 H4 o r4 e4 => ⟨Γ4, o, m.trans rr r4, e4⟩
  · have e0 : i = xs.length := by omega
    subst e0
    exact .inl ⟨wk1.stop H' r, M.nx Γ' σ' H' (hd xs Γ' ht w) (m.trans r1 r) e'⟩
/-! ### comprehensions -/
inductive LcR (T : D → Bool → Prop) (V : D → D → Prop) : List D → List D → Prop
  | nil : LcR T V [] []
  | no {x : D} {xs ys : List D} : T x false → LcR T V xs ys → LcR T V (x :: xs) ys
  | yes {x y : D} {xs ys : List D} : T x true → V x y → LcR T V xs ys → LcR T V (x :: xs) (y :: ys)
theorem LcR.append {T : D → Bool → Prop} {V : D → D → Prop} {xs ys zs ws : List D} (a : LcR T V xs ys) (b : LcR T V zs ws) : LcR T V (xs ++ zs) (ys ++ ws) := by
  induction a with
  | nil => exact b
  | no t _ ih => exact .no t ih
  | yes t v _ ih => exact .yes t v ih
theorem LcR.len {T : D → Bool → Prop} {V : D → D → Prop} {xs ys : List D} (a : LcR T V xs ys) : ys.length ≤ xs.length := by
  induction a with
  | nil => exact Nat.le_refl _
  | no _ _ ih => exact Nat.le_succ_of_le ih
  | yes _ _ _ ih => exact Nat.succ_le_succ ih
theorem LcR.fn {t : D → Bool} {f : D → D} {T : D → Bool → Prop} {V : D → D → Prop} {xs ys : List D} (a : LcR T V xs ys) (ht : ∀ x ∈ xs, ∀ b, T x b → b = t x) (hf : ∀ x ∈ xs, ∀ y, V x y → y = f x) : ys = (xs.filter t).map f := by
  induction a with
  | nil => rfl
  | @no x xs ys h _ ih =>
    have e := ht x List.mem_cons_self _ h
    rw [ih (fun x hx => ht x (List.mem_cons_of_mem _ hx)) fun x hx => hf x (List.mem_cons_of_mem _ hx), List.filter_cons, ← e]
    rfl
  | @yes x y xs ys h v _ ih =>
    have e := ht x List.mem_cons_self _ h
    rw [ih (fun x hx => ht x (List.mem_cons_of_mem _ hx)) fun x hx => hf x (List.mem_cons_of_mem _ hx), List.filter_cons, ← e, if_pos rfl, List.map_cons, hf x List.mem_cons_self _ v]
theorem Rp.weak {F F' : Addr → Prop} {H : Hp} (k : ∀ a, F a → F' a) {d : D} {v : V} (r : Rp K F' H v d) : Rp K F H v d := r.go fun a o n e => ⟨fun f => n (k a f), e⟩
theorem RpAll.weak {F F' : Addr → Prop} {H : Hp} (k : ∀ a, F a → F' a) {d : List D} {v : List V} (r : RpAll K F' H v d) : RpAll K F H v d := Rp.goAll (fun a o n e => ⟨fun f => n (k a f), e⟩) r
theorem en_lc {wi : TI} {g : TG} {vs : List Nat} {U : List D → Prop} {T : D → Bool → Prop} {V' : D → D → Prop} {js : List Nat} (hj : ∀ j ∈ js, j ∈ vs) (hi : ItD m K wi Γ U) (hu : ∀ xs, U xs → xs.length ≤ 100000)
    (hs : ∀ m', Mo.Le m m' → ∀ xs d, U xs → d ∈ xs → ∃ Γ2, TgD m' K g (wipeG Γ vs) d js Γ2 ∧ EvT m' K tt Γ2 (T d) ∧ (T d true → EvN m' K te Γ2 (V' d))) : EvN m K (tLc wi g tt te vs) Γ (fun r => ∃ xs ys, U xs ∧ LcR T V' xs ys ∧ r = .lst ys) := fun σ H e Q q => by
  refine hi σ H e _ fun J xs H1 ht r1 wk => fun Dl hD => ?_
  have e1 := e.mv r1
  have rN : m.R H1 (upd H1 Dl (.lst [])) := m.grow e1.i (same_new hD)
  have nF : ¬ m.F Dl := fun f => m.fa e1.i f hD
  have wkA : ∀ H', m.R H1 H' → (m.ext Dl).I H' → WkD (m.ext Dl) K J H' xs := fun H' r i => wk (m.ext Dl) (m.le_ext Dl) H' i r fun a f n => f.elim (fun f => absurd f n) fun z => z ▸ hD
  -- the word: what the new list holds
  refine ⟨fun i k H' => k = xs.length - i ∧ i ≤ xs.length ∧ m.R H1 H' ∧ ∃ acc ys, H' Dl = some (.lst acc) ∧ RpAll K (m.ext Dl).F H' acc ys ∧ LcR T V' (xs.take i) ys, ⟨_, rfl, Nat.zero_le _, rN, [], [], upd_same, .nil, by simpa using LcR.nil⟩, ?_⟩
  rintro i k H' ⟨rfl, hle, r, acc, ys, hacc, ra, lr⟩
  have eX : ER (m.ext Dl) K Γ σ H' := e1.ext hD r (by rw [hacc]; exact fun z => nomatch z)
  have iX := eX.i
  have wkX := wkA H' r iX
  by_cases hlt : i < xs.length
  · refine .inr ⟨wkX.go i H' (m.refl _) hlt, fun H3 => m.R H1 H3 ∧ ∃ acc ys, H3 Dl = some (.lst acc) ∧ RpAll K (m.ext Dl).F H3 acc ys ∧ LcR T V' (xs.take (i + 1)) ys, fun H3 q => ⟨xs.length - (i + 1), by omega, rfl, hlt, q⟩, fun x H2 y => ?_⟩
    obtain ⟨r2, d, hd', rx⟩ := wkX.yld i H' x H2 (m.refl _) hlt y
    obtain ⟨Γ2, tg, tst, el⟩ := hs (m.ext Dl) (m.le_ext Dl) xs d ht (List.mem_of_getElem? hd')
    have hlen : acc.length < sizeLine := Nat.lt_of_lt_of_le (show acc.length < 100001 by
      have := lr.len; have h2 := ra.len; have h3 := hu xs ht; rw [List.length_take] at this; omega) (by decide)
    have tk : xs.take (i + 1) = xs.take i ++ [d] := by rw [List.take_add_one, hd']; rfl
    have kD : ∀ {Ha Hb : Hp}, (m.ext Dl).I Ha → m.R Ha Hb → Ha Dl = some (.lst acc) → Hb Dl = some (.lst acc) := fun ia r h => m.keep r ia.1 Dl _ nF h
    refine tg x (wipe σ vs) H2 ((eX.mv r2).wipe vs) rx _ fun σ3 H3 e3 r3 w3 => ⟨by rw [w3 vs hj, wipe_wipe], ?_⟩
    have i2 := (m.ext Dl).inv r2 iX
    refine tst σ3 H3 e3 _ fun b H4 tb' r4 => ?_
    have i3 := e3.i
    have i4 := (m.ext Dl).inv r4 i3
    have rr := m.trans r2 (m.trans r3 r4)
    cases b with
    | false =>
      exact ⟨m.trans r rr, acc, ys, kD iX rr hacc, ra.mv ((m.ext Dl).keep rr iX), by rw [tk]; simpa using lr.append (.no tb' .nil)⟩
    | true =>
      refine el tb' σ3 H4 (e3.mv r4) _ fun w dw H5 sv r5 rw' => ?_
      have i5 := (m.ext Dl).inv r5 i4
      have rr5 := m.trans rr r5
      refine ⟨acc, kD iX rr5 hacc, hlen, m.chg e1.i (m.trans r rr5) hD, acc ++ [w], ys ++ [dw], upd_same, ?_, by rw [tk]; exact lr.append (.yes tb' sv .nil)⟩
      have k5 : ∀ a o, ¬ (m.ext Dl).F a → H5 a = some o → (upd H5 Dl (.lst (acc ++ [w]))) a = some o := fun a o n x => by rw [upd_ne (fun z => n (.inr z))]; exact x
      exact (((ra.mv ((m.ext Dl).keep rr5 iX)).append (.cons rw' .nil)).mv k5)
  · have e0 : i = xs.length := by omega
    subst e0
    exact .inl ⟨wkX.stop H' (m.refl _), q _ _ H' ⟨xs, ys, ht, by simpa using lr, rfl⟩ (m.trans r1 r) (.lst nF hacc (ra.weak fun a f => .inl f))⟩
/-- the plain form: what each gives is a function of it -/
theorem en_lc1 {wi : TI} {g : TG} {vs : List Nat} {xs : List D} {js : List Nat} (t : D → Bool) (f : D → D) (hj : ∀ j ∈ js, j ∈ vs) (hi : ItD1 m K wi Γ xs) (hu : xs.length ≤ 100000)
    (hs : ∀ m', Mo.Le m m' → ∀ d, d ∈ xs → ∃ Γ2, TgD m' K g (wipeG Γ vs) d js Γ2 ∧ EvT1 m' K tt Γ2 (t d) ∧ (t d = true → Ev1 m' K te Γ2 (f d))) : Ev1 m K (tLc wi g tt te vs) Γ (.lst ((xs.filter t).map f)) :=
  (en_lc (U := fun x => x = xs) (T := fun d b => b = t d) (V' := fun d y => y = f d) hj hi (fun x e => e ▸ hu) fun m' l x d e hd => by
    subst e
    obtain ⟨Γ2, h1, h2, h3⟩ := hs m' l d hd
    exact ⟨Γ2, h1, h2, fun e => h3 e.symm⟩).mono fun r ⟨x, ys, e1, e2, e3⟩ => by
      subst e1
      rw [e3, e2.fn (t := t) (f := f) (fun _ _ _ e => e) fun _ _ _ e => e]
/-- without a test -/
theorem en_lcA {wi : TI} {g : TG} {vs : List Nat} {xs : List D} {js : List Nat} (f : D → D) (hj : ∀ j ∈ js, j ∈ vs) (hi : ItD1 m K wi Γ xs) (hu : xs.length ≤ 100000)
    (hs : ∀ m', Mo.Le m m' → ∀ d, d ∈ xs → ∃ Γ2, TgD m' K g (wipeG Γ vs) d js Γ2 ∧ Ev1 m' K te Γ2 (f d)) : Ev1 m K (tLc wi g tYes te vs) Γ (.lst (xs.map f)) :=
  (en_lc1 (fun _ => true) f hj hi hu fun m' l d hd => by
    obtain ⟨Γ2, h1, h2⟩ := hs m' l d hd
    exact ⟨Γ2, h1, et_yes, fun _ => h2⟩).is (by rw [List.filter_eq_self.mpr (fun _ _ => rfl)])
end
end Tx

set_option Elab.async false
set_option linter.all false
set_option maxRecDepth 100000
set_option autoImplicit false
/-! Tx: enumerate of a tuple; a list or a tuple walked -/
namespace PySem
open Sem (wp)
open AutoSeq1 (wpAny_loadPart')
theorem tx_enumerate_newT (l : Addr) (items : Array Value) (n : Nat) (dct : Option Addr) (sl : Array (Option Value)) :
    Meets (Builtin.«enumerate.__new__» ⟨[.type "enumerate", .ref l], []⟩) (fun _ R s => s.heap.get? l = some { cls := .type "tuple", dict := dct, data := .seq items n, slots := sl } ∧
      R (.ok (.ret (.ref (s.heap.push { cls := .type "tuple_iterator", data := .fields #[.ref l, .int 0 0] }).objs.size)))
        { s with heap := (s.heap.push { cls := .type "tuple_iterator", data := .fields #[.ref l, .int 0 0] }).push { cls := .type "enumerate", data := .fields #[.none, .bool false, .ref s.heap.objs.size, rawInt 0, .none, .none] } }) :=
  .of_wp fun prog w A R s h => by
    obtain ⟨hp, g, d, tk, os⟩ := s; obtain ⟨hl, h⟩ := h
    have hsub := sub_enumerate
    have hL : Heap.IsTuple (Shared.heap ⟨hp, g, d, tk, os⟩) l items := ⟨_, hl, rfl, n, rfl⟩
    wp_walk using wpAny_loadPart' hl
    refine wpAny_stack_any fun st => wpAny_pure ?_
    split
    · rename_i c _ _ _ _ _
      cases (c == Value.type "enumerate")
      · wp_walk using wpAny_loadPart' hl, wpAny_pyIter_tuple hL
        exact ⟨_, rfl, h⟩
      · wp_walk using wpAny_loadPart' hl, wpAny_pyIter_tuple hL
        exact ⟨_, rfl, h⟩
    · wp_walk using wpAny_loadPart' hl, wpAny_pyIter_tuple hL
      exact ⟨_, rfl, h⟩
section
variable {prog : Program} {w : World} {A : Around} {E : Value → Shared → Prop} {s : Shared}
theorem tx_call_enumerate_tuple {l : Addr} {items : Array Value} {Q : Value → Shared → Prop} (hL : s.heap.IsTuple l items)
    (h : ∀ h', IsEnum h' (s.heap.objs.size + 1) s.heap.objs.size 0 .none → h'.IsTupleIter s.heap.objs.size l 0 → h'.objs.size = s.heap.objs.size + 2 →
      (∀ b o, s.heap.get? b = some o → h'.get? b = some o) → Q (.ref (s.heap.objs.size + 1)) { s with heap := h' }) :
    wpAny (model prog w) A (call (.type "enumerate") [.ref l]) Q E s := by
  obtain ⟨⟨c, dct, dt, sl⟩, hl, hc, n, hd⟩ := hL
  replace hc : c = .type "tuple" := hc
  replace hd : dt = .seq items n := hd
  subst hc hd
  refine callType_new F.called_enumerate (by decide) (F.typeCall_enumerate_1 _) (F.newCall_enumerate_1 _) (fun obj => F.args_object_init_2 obj _) F.entry_enumerate_new
    (tx_enumerate_newT l items n dct sl) ⟨hl, ?_⟩
  have hz : (s.heap.push { cls := .type "tuple_iterator", data := .fields #[.ref l, .int 0 0] }).objs.size = s.heap.objs.size + 1 := Heap.size_push ..
  show _ ∧ _
  rw [hz]
  have he : IsEnum ((s.heap.push { cls := .type "tuple_iterator", data := .fields #[.ref l, .int 0 0] }).push
      { cls := .type "enumerate", data := .fields #[.none, .bool false, .ref s.heap.objs.size, rawInt 0, .none, .none] }) (s.heap.objs.size + 1) s.heap.objs.size 0 .none := by
    have := Heap.get?_push_size (s.heap.push { cls := .type "tuple_iterator", data := .fields #[.ref l, .int 0 0] })
      (o := { cls := .type "enumerate", data := .fields #[.none, .bool false, .ref s.heap.objs.size, rawInt 0, .none, .none] }) rfl
    rw [hz] at this; exact this
  refine ⟨⟨_, he, rfl⟩, h _ he ⟨_, Heap.get?_push_of_some _ (Heap.get?_push_size _ rfl), rfl, rfl⟩ (by rw [Heap.size_push, hz]) fun b o x => Heap.get?_push_of_some _ (Heap.get?_push_of_some _ x)⟩
theorem tx_pyNext_enumT_end {e it l : Addr} {i : Nat} {items : Array Value} {old : Value} {Q : Option Value → Shared → Prop} (hh : A.handled = none)
    (he : IsEnum s.heap e it i old) (hit : s.heap.IsTupleIter it l i) (hl : s.heap.IsTuple l items) (hx : items[i]? = none)
    (hQ : ∀ h', Heap.ExtBut it s.heap h' → Q none { s with heap := h' }) : wpAny (model prog w) A (pyNext (.ref e)) Q E s := by
  have hT : s.TypeIs (.ref e) "enumerate" := ⟨_, he, rfl⟩
  unfold pyNext
  refine wpAny_bind (wpAny_attempt (wpAny_callSpecial?_slot (name := Str.ofString "__next__") hT F.slot_enumerate_next
    (wpAny_call_entry F.slot_enumerate_next hT F.entry_enumerate_next ?_ (F.args_enumerate_next_1 _))))
  show wpAny _ _ (field (.ref e) 2 >>= _) _ _ _
  refine wpAny_bind (wpAny_field he rfl (x := .ref it) rfl ?_)
  refine wpAny_bind (wpAny_nextOf_tuple_end hh hit hl hx fun h' x he' hx' => ?_)
  obtain ⟨o, ho, hc⟩ := hx'
  refine wpAny_bind (wpAny_isInstance (T := "StopIteration") (b := true) ⟨o, ho, hc⟩ isSubtype_stop ?_)
  exact wpAny_pure (hQ _ he')
end
end PySem
namespace Tx
open PySem PySem.Spec PyProof.Rows L2
/-- the tuple at a, each item in a new pair -/
def IteT (K : PySem.W.Frag) (a : Addr) : It :=
  ⟨fun i H => ∃ (xs : List V) (x : V), SqT K H a xs ∧ xs[i]? = some x, fun i H v H' => ∃ T x, v = .ref T ∧ H T = none ∧ H' = upd H T (.tup [.int (i : Nat), x]) ∧ ∀ xs, SqT K H a xs → xs[i]? = some x, fun i H => ∃ xs : List V, SqT K H a xs ∧ xs.length ≤ i⟩
theorem turn_enumT {P : Program} {w : World} {K : PySem.W.Frag} {elts : List Expr} {kk : Nat} {tpos : Pos} (a e it : Addr) :
    Turn P w K (.Tuple elts kk tpos) (IteT K a) [e, it] e (fun i h => (∃ old, IsEnum h e it ((i : Nat) : Int) old) ∧ h.IsTupleIter it a i ∧ e ≠ it) where
  mem := by simp
  obj := fun i h st b hb => by
    obtain ⟨⟨old, he⟩, ⟨o, ho, hc, hd⟩, _⟩ := st
    have e' : b = e ∨ b = it := by simpa using hb
    rcases e' with z | z
    · rw [z]; exact ⟨_, he, fun v q => nomatch q⟩
    · rw [z]; exact ⟨o, ho, fun v q => by rw [hd] at q; cases q⟩
  keep := fun i h h' st k => let ⟨⟨old, he⟩, hi, hne⟩ := st; ⟨⟨old, k e (by simp) _ he⟩, hi.at fun o q => k it (by simp) o q, hne⟩
  item := by
    intro X hP hw hK hc i pins s σ H E I hf st hg
    subst hP hw hK
    obtain ⟨⟨old, he⟩, hit, hne⟩ := st
    obtain ⟨xs, x, hq, hx⟩ := hg
    obtain ⟨its, rv, p, hz⟩ := I.tuple hq
    have pT : s.heap.IsTuple a its.toArray := p
    obtain ⟨u, hu, ru⟩ := rv.get hx
    have hel : e < s.heap.objs.size := Heap.lt_size he
    have hil : it < s.heap.objs.size := by obtain ⟨_, q, _⟩ := hit; exact Heap.lt_size q
    have hai : a ≠ it := by
      rintro rfl
      obtain ⟨o1, q1, c1, _⟩ := hit
      obtain ⟨o2, q2, c2, _⟩ := pT
      rw [q1] at q2
      cases q2
      rw [c1] at c2
      exact absurd (Value.type.inj c2) (by decide)
    have hae : e ≠ a := by
      rintro rfl
      obtain ⟨o2, q2, c2, _⟩ := pT
      have he' : s.heap.get? e = some _ := he
      rw [he'] at q2
      cases q2
      exact absurd (Value.type.inj c2) (by decide)
    have hlt : i < its.length := by
      have := (List.getElem?_eq_some_iff.mp hu).1
      exact this
    refine wpAny_pyNext_enum_itemD (Draws.tuple (A := X.A.in1) (I.ok.hd hc) it a hai its.toArray) he ⟨hit, pT⟩ (by simpa using hlt) hne (by simp only [List.mem_cons, List.not_mem_nil, or_false, not_or]; exact ⟨hne, hae⟩) fun y h' tk hP ho hit' hT hsz hk => ?_
    have hy : y = u := by
      have : its[i]? = some y := by simpa using hP
      rw [hu] at this
      exact (Option.some.inj this).symm
    subst hy
    refine ⟨_, rfl, wpAny_letOwnedTupleGo_enum (s := { s with heap := h', toks := tk + 1 }) ho fun h'' he' sb => ?_⟩
    have hT2 : h''.get? s.heap.objs.size = some { cls := .type "tuple", data := .seq #[.int i tk, y] } := (sb.2 _ (Nat.ne_of_gt hel)).trans hT
    have new : ObjOk X.prog X.w (upd H s.heap.objs.size (.tup [.int (i : Nat), x])) h'' s.heap.objs.size (.tup [.int (i : Nat), x]) :=
      ⟨by show 2 ≤ sizeLine; decide, [.int i tk, y], .cons ⟨_, rfl⟩ (.cons ru .nil), ⟨_, hT2, rfl, _, rfl⟩⟩
    have I1 : Inv X pins σ (upd H s.heap.objs.size (.tup [.int (i : Nat), x])) { s with heap := h'', toks := tk + 1 } :=
      I.turnedNew (ch := [e, it]) (fun b ob hb q => (sb.2 b (fun z => hb (by simp [z]))).trans (hk b ob (fun z => hb (by simp [z])) (fun z => hb (by simp [z])) q)) hf (Nat.le_refl _) new
    refine ⟨.ref s.heap.objs.size, _, I1, rfl, ⟨_, x, rfl, I.hok.fresh (Nat.le_refl _), rfl, fun ys hy => by rw [I.tuple_inj hy hq]; exact hx⟩, ⟨⟨y, ?_⟩, hit'.1.at fun o q => (sb.2 it (Ne.symm hne)).trans q, hne⟩, fun b hb => ?_⟩
    · have e1 : ((i + 1 : Nat) : Int) = (i : Int) + 1 := by omega
      rw [e1]; exact he'
    · have hb' : b < s.heap.objs.size := by
        have e' : b = e ∨ b = it := by simpa using hb
        rcases e' with z | z
        · rw [z]; exact hel
        · rw [z]; exact hil
      rw [upd_ne (Nat.ne_of_lt hb')]
      exact (hf b hb).1
  done := by
    intro X hP hw hK hc i pins s σ H E I hf st hg
    subst hP hw hK
    obtain ⟨⟨old, he⟩, hit, hne⟩ := st
    obtain ⟨xs, hq, hx⟩ := hg
    obtain ⟨its, rv, p, hz⟩ := I.tuple hq
    have pT : s.heap.IsTuple a its.toArray := p
    obtain ⟨f0, f1, f2, f3, f4, f5⟩ := hf it (by simp)
    have hl := rv.length
    have hai : a ≠ it := by
      rintro rfl
      obtain ⟨o1, q1, c1, _⟩ := hit
      obtain ⟨o2, q2, c2, _⟩ := pT
      rw [q1] at q2
      cases q2
      rw [c1] at c2
      exact absurd (Value.type.inj c2) (by decide)
    have e0 : its.toArray.size ≤ i := by simp; omega
    exact tx_pyNext_enumT_end (I.ok.hd hc) he hit pT (by simp; omega) fun h' eb => ⟨rfl, I.turned (t' := s.toks) (fun b o hb q => eb b o hb q) f0 f1 f3 f4 f5⟩
  self := fun A i s Q E st h => let ⟨⟨_, he⟩, _⟩ := st; wpAny_pyIter_enum he h

section
variable {X : Cx} {tg : Expr}
/-- for x in e: e a list or a tuple -/
def iSeq (K : PySem.W.Frag) (tl : TE) : TI := fun σ H R => tl σ H fun x H1 => ∃ a, x = .ref a ∧ (((∃ xs, SqL K H1 a xs) ∧ R (Itl K a) H1) ∨ ((∃ xs, SqT K H1 a xs) ∧ R (Itt K a) H1))
theorem pi_seq {l : Expr} {tl : TE} (hl : PE X l tl) : PI X tg l (iSeq X.K tl) := by
  refine ⟨fun pins s σ H R I h => ?_⟩
  refine thn (hl.run pins s σ H _ I h) fun v s1 ⟨x, H1, I1, r1, q1⟩ => ?_
  obtain ⟨a, e, q⟩ := q1
  subst e
  cases r1
  rcases q with ⟨⟨xs, hq⟩, q⟩ | ⟨⟨xs, hq⟩, q⟩
  · obtain ⟨its, rv, p, hz⟩ := I1.list hq
    refine wpAny_pyIter_list p.isList ?_
    refine ⟨s1.heap.objs.size, [s1.heap.objs.size], _, _, H1, rfl, I1.kept (t' := s1.toks) fun b o e => Heap.get?_push_of_some _ e, turn_list a _, ⟨_, Heap.get?_push_size _ rfl, rfl, rfl⟩, fun b hb => ?_, q⟩
    have e : b = s1.heap.objs.size := by simpa using hb
    subst e
    exact I1.fpOk (Nat.le_refl _) (I1.hok.fresh (Nat.le_refl _))
  · obtain ⟨its, rv, p, hz⟩ := I1.tuple hq
    refine wpAny_pyIter_tuple (show s1.heap.IsTuple a its.toArray from p) ?_
    refine ⟨s1.heap.objs.size, [s1.heap.objs.size], _, _, H1, rfl, I1.kept (t' := s1.toks) fun b o e => Heap.get?_push_of_some _ e, turn_tuple a _, ⟨_, Heap.get?_push_size _ rfl, rfl, rfl⟩, fun b hb => ?_, q⟩
    have e : b = s1.heap.objs.size := by simpa using hb
    subst e
    exact I1.fpOk (Nat.le_refl _) (I1.hok.fresh (Nat.le_refl _))
/-- for i, x in enumerate(e): e a list or a tuple -/
def iEnumS (K : PySem.W.Frag) (ta : TA) : TI := fun σ H R => ta σ H fun vs H1 => ∃ a, vs = [.ref a] ∧ (((∃ xs, SqL K H1 a xs) ∧ R (Ite K a) H1) ∨ ((∃ xs, SqT K H1 a xs) ∧ R (IteT K a) H1))
theorem pi_enumS {e : Expr} {ta : TA} {p pos tpos : Pos} {elts : List Expr} {kk : Nat} (hg : Gl X "enumerate") (hm : X.mg "enumerate" = none) (ha : PA X [e] ta) (hs : starEach [e] X.env = [(false, eval e X.env)] := by rfl) :
    PI X (.Tuple elts kk tpos) (.Call (.Name "enumerate" p) [e] [] pos) (iEnumS X.K ta) := by
  refine ⟨fun pins s σ H R I h => ?_⟩
  refine Call_ (ld_blt I hg hm boot_enumerate (PyProof.Rows.callWith_type1 (thn (ha.run pos pins s σ H _ I h) fun us s1 ⟨vs, H1, I1, r1, q1⟩ => ?_) hs rfl))
  obtain ⟨a, ex, q⟩ := q1
  subst ex
  cases r1 with
  | cons r rr =>
    cases rr
    cases r
    have ap : ∀ b, (b ∈ [s1.heap.objs.size + 1, s1.heap.objs.size]) → FpOk X pins H1 b := fun b hb => by
      have e' : b = s1.heap.objs.size + 1 ∨ b = s1.heap.objs.size := by simpa using hb
      have hle : s1.heap.objs.size ≤ b := by
        rcases e' with z | z
        · rw [z]; exact Nat.le_add_right _ _
        · rw [z]; exact Nat.le_refl _
      exact I1.fpOk hle (I1.hok.fresh hle)
    rcases q with ⟨⟨xs, hq⟩, q⟩ | ⟨⟨xs, hq⟩, q⟩
    · obtain ⟨its, rv, p', hz⟩ := I1.list hq
      refine call_enumerate_list p'.isList fun h' he hit hsz hk => wpAny_pyIter_enum he ?_
      have I2 : Inv X pins σ H1 { s1 with heap := h' } := I1.kept (t' := s1.toks) hk
      exact ⟨s1.heap.objs.size + 1, [s1.heap.objs.size + 1, s1.heap.objs.size], _, _, H1, rfl, I2, turn_enum a (s1.heap.objs.size + 1) s1.heap.objs.size, ⟨⟨.none, he⟩, hit, Nat.succ_ne_self _⟩, ap, q⟩
    · obtain ⟨its, rv, p', hz⟩ := I1.tuple hq
      refine tx_call_enumerate_tuple (show s1.heap.IsTuple a its.toArray from p') fun h' he hit hsz hk => wpAny_pyIter_enum he ?_
      have I2 : Inv X pins σ H1 { s1 with heap := h' } := I1.kept (t' := s1.toks) hk
      exact ⟨s1.heap.objs.size + 1, [s1.heap.objs.size + 1, s1.heap.objs.size], _, _, H1, rfl, I2, turn_enumT a (s1.heap.objs.size + 1) s1.heap.objs.size, ⟨⟨.none, he⟩, hit, Nat.succ_ne_self _⟩, ap, q⟩
end
end Tx

set_option Elab.async false
set_option linter.all false
set_option maxRecDepth 100000
set_option maxHeartbeats 1000000
set_option autoImplicit false
/-! Tx: built-in functions, by values -/
namespace PyProof.Rows
open PySem PyProof
section
variable {prog : Program} {w : World} {A : Around} {E : Value → Shared → Prop} {s : Shared}
theorem tx_collect_tuple {l : Addr} {vs : List Value} {Q : List Value → Shared → Prop} (hl : s.heap.IsTuple l vs.toArray)
    (h : Q vs { s with heap := (s.heap.push (seqObj "list" #[] 0)).update s.heap.objs.size (Obj.mapSeq (· ++ vs.toArray)) }) (hsz : vs.length ≤ sizeLine) :
    wpAny (model prog w) A (collect (.ref l)) Q E s := by
  obtain ⟨o, ho, hc, n, hd⟩ := id hl
  unfold collect
  refine wpAny_bind (wpAny_runValue (codeAny_builtin entry_proto_collect' ?_))
  show wpAny _ _ (do again (.builtin "list.__iadd__" ⟨[← newList [], .ref l], []⟩)) _ _ s
  refine wpAny_bind (wpAny_newList (wpAny_pure ⟨Code.quiet_builtin _ (by decide +kernel), codeAny_builtin entry_list_iadd' ?_⟩))
  show wpAny _ _ (Builtin.List.listExtendWith (.ref s.heap.objs.size) (.ref l) (.ref s.heap.objs.size)) _ _ { s with heap := s.heap.push (seqObj "list" #[] 0) }
  unfold Builtin.List.listExtendWith
  have ho' : (s.heap.push (seqObj "list" #[] 0)).get? l = some o := Heap.get?_push_of_some _ ho
  refine wpAny_bind (wpAny_typeOf (T := "tuple") ⟨o, ho', hc⟩ ?_)
  have ht : (Value.type "tuple" == Value.type "tuple") = true := by rfl
  rw [if_pos (by rw [ht]; simp)]
  refine wpAny_bind (listItems_at ho' hd ?_)
  refine wpAny_bind (listItems_at (xs := #[]) (n := 0) (Heap.get?_push_size _ rfl) rfl ?_)
  rw [if_neg (by simp)]
  refine wpAny_bind (listUpdate_at (xs := #[]) (n := 0) (Heap.get?_push_size _ rfl) rfl ?_ (Nat.zero_le _) (by show (#[] ++ vs.toArray).size ≤ sizeLine + 1; simp only [Array.size_append, List.size_toArray, List.length_nil]; omega))
  refine wpAny_pure ?_
  show wpAny (model prog w) A (do
      let o ← load s.heap.objs.size
      match o.data with
      | .seq xs _ => pure xs.toList
      | _ => unsupported "internal:collect") Q E { s with heap := (s.heap.push (seqObj "list" #[] 0)).update s.heap.objs.size (Obj.mapSeq (· ++ vs.toArray)) }
  refine wpAny_bind (wpAny_load (get?_update_seq (Heap.get?_push_size _ rfl) _) ?_)
  show wpAny _ _ (pure ((#[] : Array Value) ++ vs.toArray).toList) Q E _
  rw [show ((#[] : Array Value) ++ vs.toArray).toList = vs by simp]
  exact wpAny_pure h
theorem tx_sorted_ints_tup {l : Addr} {vs : List Value} {ns : List Int} {Q : Value → Shared → Prop} (hl : s.heap.IsTuple l vs.toArray) (hI : IntsAre vs ns) (h64 : vs.length < 64)
    (h : ∀ (out : Array Value) (ns' : List Int), IntsAre out.toList ns' → ns'.Perm ns → ns'.Pairwise (· ≤ ·) → Q (.ref (s.heap.objs.size + 1)) { s with heap := sortedAll s.heap vs out }) :
    wpAny (model prog w) A (call (.builtin "sorted") [.ref l]) Q E s := by
  refine Calls.call_function_entry kind_sorted plain_sorted entry_sorted (args_sorted1 _) ?_
  unfold Builtin.«sorted»
  refine wpAny_bind (m := checkCount "sorted" 1 1 _) (wpAny_pure ?_)
  refine wpAny_bind (tx_collect_tuple hl ?_ (by rw [sizeLine_eq]; omega))
  refine wpAny_bind (wpAny_newList ?_)
  have hsz : ((s.heap.push (seqObj "list" #[] 0)).update s.heap.objs.size (Obj.mapSeq (· ++ vs.toArray))).objs.size = s.heap.objs.size + 1 := by
    rw [Heap.size_update, size_push']
  have hoL : (((s.heap.push (seqObj "list" #[] 0)).update s.heap.objs.size (Obj.mapSeq (· ++ vs.toArray))).push (seqObj "list" vs.toArray 0)).get? (s.heap.objs.size + 1) = some (seqObj "list" vs.toArray 0) := by
    rw [← hsz]; exact Heap.get?_push_size _ rfl
  show wpAny _ _ _ _ _ { s with heap := ((s.heap.push (seqObj "list" #[] 0)).update s.heap.objs.size (Obj.mapSeq (· ++ vs.toArray))).push (seqObj "list" vs.toArray 0) }
  rw [hsz]
  refine wpAny_bind (wpAny_holding (wpAny_call_entry slot_list_sort ⟨_, hoL, rfl⟩ entry_list_sort (list_sort_tree hoL hI h64 fun out ns' a1 a2 a3 => ⟨_, rfl, ?_⟩) (args_list_sort _)))
  exact wpAny_pure ⟨_, rfl, h out ns' a1 a2 a3⟩
end
end PyProof.Rows

namespace Tx
open PySem PySem.Spec PyProof.Rows L2
section
variable {X : Cx}
def srt (l : List Int) : List Int := l.mergeSort fun a b => decide (a ≤ b)
theorem srt_perm (l : List Int) : (srt l).Perm l := List.mergeSort_perm l _
theorem srt_up (l : List Int) : (srt l).Pairwise (· ≤ ·) := by
  have h := List.pairwise_mergeSort (le := fun a b : Int => decide (a ≤ b)) (fun a b c h1 h2 => by simp at *; omega) (fun a b => by simp; omega) l
  exact h.imp fun {a b} q => by simpa using q
theorem srt_of {l l' : List Int} (p : l'.Perm l) (u : l'.Pairwise (· ≤ ·)) : l' = srt l := PySem.W.ksm_same (p.trans (srt_perm l).symm) u (srt_up l)
/-- sorted(xs), a list or tuple of fewer than 64 ints -/
def rSortS (K : PySem.W.Frag) : List V → Hp → VK → Prop := fun vs H Q => ∃ (a : Addr) (ns : List Int), vs = [V.ref a] ∧ (SqL K H a (ns.map V.int) ∨ SqT K H a (ns.map V.int)) ∧ ns.length < 64 ∧
  ∀ p : Addr, H p = none → Q (.ref p) (upd H p (.lst ((srt ns).map V.int)))
theorem cr_sortS : CallR X (.builtin "sorted") (rSortS X.K) := by
  intro pins s σ H vs us Q I r h
  obtain ⟨a, ns, rfl, hs, h64, q⟩ := h
  rw [Vals.ref1 r]
  have fin : ∀ (its : List Value) (out : Array Value) (ns' : List Int), IntsAre out.toList ns' → ns'.Perm ns → ns'.Pairwise (· ≤ ·) → EP X pins σ Q (.ref (s.heap.objs.size + 1)) { s with heap := sortedAll s.heap its out } := fun its out ns' h1 h2 h3 => by
    obtain ⟨ep, he'⟩ := PyProof.Rows.sortedAll_at s.heap its out
    have e := srt_of h2 h3
    subst e
    have hlen : ((srt ns).map V.int).length ≤ sizeLine := by rw [List.length_map, h2.length_eq]; exact small64 h64
    exact ⟨.ref _, upd H (s.heap.objs.size + 1) (.lst ((srt ns).map V.int)), I.laid (t' := s.toks) (fun _ _ => PyProof.Rows.sortedAll_old) (Nat.le_succ _) ⟨hlen, out.toList, ep, vals_of_ints h1, he'⟩, rfl, q _ (I.hok.fresh (Nat.le_succ _))⟩
  rcases hs with hs | hs
  · obtain ⟨its, rv, hl, _⟩ := I.list hs
    have hi := rv.ints
    exact PyProof.Rows.sorted_ints hl.isList hi (by rw [hi.length]; exact h64) fun out ns' h1 h2 h3 => fin its out ns' h1 h2 h3
  · obtain ⟨its, rv, hl, _⟩ := I.tuple hs
    have hi := rv.ints
    exact PyProof.Rows.tx_sorted_ints_tup (show s.heap.IsTuple a its.toArray from hl) hi (by rw [hi.length]; exact h64) fun out ns' h1 h2 h3 => fin its out ns' h1 h2 h3
theorem dp_ints {K : PySem.W.Frag} {H : Hp} : ∀ ns : List Int, DpAll K H (ns.map V.int) (ns.map PyData.int)
  | [] => .nil
  | n :: ns => .cons (.int n) (dp_ints ns)
theorem alike_int (l : List Int) : PySem.W.AlikeAll (l.map PyData.int) := by
  refine ⟨fun x hx y hy => ?_, fun x hx => ?_⟩
  · obtain ⟨a, _, rfl⟩ := List.mem_map.mp hx
    obtain ⟨b, _, rfl⟩ := List.mem_map.mp hy
    simp [PySem.W.alike]
  · obtain ⟨a, _, rfl⟩ := List.mem_map.mp hx
    exact fun z => nomatch z
/-- max(xs), a list or tuple of ints, not empty -/
def rMaxS (K : PySem.W.Frag) : List V → Hp → VK → Prop := fun vs H Q => ∃ (a : Addr) (n : Int) (ns : List Int), vs = [V.ref a] ∧ (SqL K H a ((n :: ns).map V.int) ∨ SqT K H a ((n :: ns).map V.int)) ∧ Q (.int (ns.foldl max n)) H
theorem cr_maxS (hc : X.calm = true) (hu : X.A.units + 64 < cLine) : CallR X (.builtin "max") (rMaxS X.K) := by
  intro pins s σ H vs us Q I r h
  obtain ⟨a, n, ns, rfl, hs, q⟩ := h
  rw [Vals.ref1 r]
  have hz : PyData.depthAll ((n :: ns).map PyData.int) = 0 := PySem.W.depth_ints _
  have fin : ∀ (v : Value) (h' : Heap) (tk : Nat) (bs : List Addr), Reads h' v (PySem.W.maxD (.int n) (ns.map PyData.int)) bs → (∀ b o, s.heap.get? b = some o → h'.get? b = some o) → EP X pins σ Q v { s with heap := h', toks := tk } := fun v h' tk bs hr hk => by
    rw [PySem.W.maxD_ints] at hr
    cases hr with
    | int i t => exact ⟨.int _, H, I.kept (t' := tk) hk, ⟨_, rfl⟩, q⟩
  rcases hs with hs | hs
  · obtain ⟨its, rv, hl, _⟩ := I.list hs
    obtain ⟨as, ra⟩ := Dp.readsAll I _ _ its (dp_ints (n :: ns)) rv
    exact PySem.W.max_list_data (I.ok.hd hc) hl.isList (x := .int n) (xs := ns.map .int) ra (alike_int (n :: ns)) (by have e : PyData.depthAll (PyData.int n :: ns.map PyData.int) = 0 := hz; rw [e]; omega) fun i v h' tk bs _ hr hk => fin v h' tk bs hr hk
  · obtain ⟨its, rv, hl, _⟩ := I.tuple hs
    obtain ⟨as, ra⟩ := Dp.readsAll I _ _ its (dp_ints (n :: ns)) rv
    exact PySem.W.max_tuple_data (I.ok.hd hc) (show s.heap.IsTuple a its.toArray from hl) (x := .int n) (xs := ns.map .int) ra (alike_int (n :: ns)) (by have e : PyData.depthAll (PyData.int n :: ns.map PyData.int) = 0 := hz; rw [e]; omega) fun i v h' tk bs _ hr hk => fin v h' tk bs hr hk
/-- any(xs), all(xs): truth values, a list -/
def rAnyS (K : PySem.W.Frag) : List V → Hp → VK → Prop := fun vs H Q => (∃ (a : Addr) (bs : List Bool), vs = [V.ref a] ∧ SqL K H a (bs.map V.bl) ∧ Q (.bl (bs.any id)) H) ∨ (∃ (a : Addr) (ns : List Int), vs = [V.ref a] ∧ SqT K H a (ns.map V.int) ∧ Q (.bl (ns.any (· != 0))) H)
theorem plain_ints : ∀ l : List Int, PyData.plainAll (l.map PyData.int) = true
  | [] => by simp [PyData.plainAll]
  | n :: l => by simp [PyData.plainAll, PyData.plain, plain_ints l]
theorem cr_anyS (hc : X.calm = true) : CallR X (.builtin "any") (rAnyS X.K) := by
  intro pins s σ H vs us Q I r h
  rcases h with h | h
  · exact cr_any hc pins s σ H vs us Q I r h
  · obtain ⟨a, ns, rfl, hs, q⟩ := h
    rw [Vals.ref1 r]
    obtain ⟨its, rv, hl, _⟩ := I.tuple hs
    obtain ⟨as, ra⟩ := Dp.readsAll I _ _ its (dp_ints ns) rv
    refine PySem.W.any_tuple_data (I.ok.hd hc) (show s.heap.IsTuple a its.toArray from hl) ra (plain_ints ns) (fun x hx => ?_) fun h' tk hk => ?_
    · obtain ⟨k, _, rfl⟩ := List.mem_map.mp hx
      trivial
    · refine ⟨.bl _, H, I.kept (t' := tk) hk, ?_, q⟩
      show Value.bool _ = Value.bool _
      rw [List.any_map]
      rfl
/-- x in t, t a tuple or list of data -/
def rInS (K : PySem.W.Frag) (neg : Bool) : R2 := fun x y H Q => ∃ (d : PyData) (ds : List PyData), Dp K H x d ∧ (Dp K H y (.list ds) ∨ Dp K H y (.tuple ds)) ∧ SeqAt.shaped d = true ∧ SeqAt.shaped (.list ds) = true ∧ Q (.bl (if neg then !(ds.any fun z => PyData.eqv z d) else ds.any fun z => PyData.eqv z d)) H
theorem op_inS (hu : X.A.units + 65 < cLine) : OpR X (compareOp .In) (rInS X.K false) := by
  intro pins s σ H x y v u Q I rx ry h
  obtain ⟨d, ds, hd, he, sd, se, q⟩ := h
  obtain ⟨as, r1⟩ := Dp.reads I d x v hd rx
  rcases he with he | he
  · obtain ⟨bs, r2⟩ := Dp.reads I (.list ds) y u he ry
    exact SeqAt.in_list_reads r2 r1 (SeqAt.canLay_of_shaped se) (SeqAt.canLay_of_shaped sd) (room_in_shaped sd hu) ⟨.bl _, H, I, rfl, q⟩
  · obtain ⟨bs, r2⟩ := Dp.reads I (.tuple ds) y u he ry
    exact SeqAt.in_tuple_reads r2 r1 (SeqAt.canLay_of_shaped se) (SeqAt.canLay_of_shaped sd) (room_in_shaped sd hu) ⟨.bl _, H, I, rfl, q⟩
theorem op_notInS (hu : X.A.units + 65 < cLine) : OpR X (compareOp .NotIn) (rInS X.K true) := by
  intro pins s σ H x y v u Q I rx ry h
  obtain ⟨d, ds, hd, he, sd, se, q⟩ := h
  obtain ⟨as, r1⟩ := Dp.reads I d x v hd rx
  rcases he with he | he
  · obtain ⟨bs, r2⟩ := Dp.reads I (.list ds) y u he ry
    exact SeqAt.notIn_list_reads r2 r1 (SeqAt.canLay_of_shaped se) (SeqAt.canLay_of_shaped sd) (room_in_shaped sd hu) ⟨.bl _, H, I, rfl, q⟩
  · obtain ⟨bs, r2⟩ := Dp.reads I (.tuple ds) y u he ry
    exact SeqAt.notIn_tuple_reads r2 r1 (SeqAt.canLay_of_shaped se) (SeqAt.canLay_of_shaped sd) (room_in_shaped sd hu) ⟨.bl _, H, I, rfl, q⟩
/-! t * k -/
theorem tuple_mul1 (l : Addr) (items : Array Value) (n : Nat) (dd : Option Addr) (sl : Array (Option Value)) (x : Int) (u : Tok) (c0 : (decide (x < -(2 ^ 63)) || decide (x ≥ 2 ^ 63)) = false) (c1 : (items.isEmpty || x == 1) = true) :
    PySem.Meets (Builtin.«tuple.__mul__» ⟨[.ref l, .int x u], []⟩) (fun _ R s => s.heap.get? l = some { cls := .type "tuple", dict := dd, data := .seq items n, slots := sl } ∧ R (.ok (.ret (Value.ref l))) s) :=
  .of_wp fun prog w A R s h => by
    obtain ⟨hp, g, d, tk, os⟩ := s
    obtain ⟨hl, h⟩ := h
    have f1 := AutoSeq1.idx_int
    wp_walk using wpAny_loadPart' hl
    repeat (first
      | (refine wpAny_ite_false (decide_eq_false (by rw [c0]; exact Bool.false_ne_true)) ?_; wp_walk using wpAny_loadPart' hl)
      | (refine wpAny_ite_true (decide_eq_true (by rw [c1])) ?_; wp_walk using wpAny_loadPart' hl))
    exact ⟨_, rfl, h⟩
/-- t * k, k at least 1 -/
def rRepS (K : PySem.W.Frag) : R2 := fun x y H Q => ∃ (l : Addr) (k : Int) (xs : List V), x = .ref l ∧ y = .int k ∧ SqT K H l xs ∧ xs ≠ [] ∧ 1 ≤ k ∧ k ≤ 1000 ∧ xs.length ≤ 1000 ∧ (k = 1 → Q (.ref l) H) ∧ (2 ≤ k → ∀ p, H p = none → Q (.ref p) (upd H p (.tup (List.replicate k.toNat xs).flatten)))
theorem op_repS : OpR X (binaryOp .Mult) (rRepS X.K) := by
  intro pins s σ H x y v u Q I rx ry h
  obtain ⟨l, k, xs, rfl, rfl, hT, hne, h1, h2, hz, q1, q2⟩ := h
  by_cases hk : k = 1
  · cases rx
    obtain ⟨t, rfl⟩ := ry
    obtain ⟨its, r, ⟨⟨cls, dd, data, sl⟩, ho, hc, n, hd⟩, hs⟩ := I.tuple hT
    simp only at hc hd
    subst hc hd
    refine wpAny_binaryOp_repeat_ref (T := "tuple") (U := "int") (by decide) ⟨_, ho, rfl⟩ (fun s' => typeIs_int s' k t) noFill_tuple_mul F.fills_int_mul F.slot_int_rmul repeat_tuple F.slot_int_index.lookup
      (call_meets F.slot_int_rmul (typeIs_int s k t) F.entry_int_rmul (F.args_int_rmul_2 _ _) (int_rmul_tuple k t l its.toArray n dd sl)
        ⟨ho, rfl, ⟨_, ho, rfl⟩, call_meets F.slot_tuple_mul ⟨_, ho, rfl⟩ F.entry_tuple_mul (F.args_tuple_mul_2 _ _) (tuple_mul1 l its.toArray n dd sl k t (by subst hk; decide) (by subst hk; simp)) ⟨ho, ?_⟩⟩)
    exact ⟨.ref l, H, I, rfl, q1 hk⟩
  · exact op_repT pins s σ H (.ref l) (.int k) v u Q I rx ry ⟨l, k, xs, rfl, rfl, hT, hne, by omega, h2, hz, q2 (by omega)⟩
end
end Tx

set_option Elab.async false
set_option linter.all false
set_option maxRecDepth 100000
set_option maxHeartbeats 1000000
set_option autoImplicit false
/-! Tx: len, in, str, == of own instances, by their own methods -/
namespace Tx
open PySem PySem.Spec PyProof.Rows L2
theorem rr1 (a : Addr) : Vals [V.ref a] [Value.ref a] := .cons rfl .nil
theorem rr2 (a : Addr) {x : V} {u : Value} (r : RelV x u) : Vals [V.ref a, x] [Value.ref a, u] := .cons rfl (.cons r .nil)
section
variable {X : Cx} {pins : List (Addr × Obj)} {σ : L2.St} {H : Hp} {s : Shared}
theorem run_own {n : Nat} {f : Addr} {fd : FuncData} {ps : List Str} {sp : Sp} {vs : List V} {us : List Value} {Q : VK} {A : Around} {E' : Value → Shared → Prop} (F : FnOk X.prog X.w X.K X.mg X.base CX0 n f fd ps sp) (hb : Binds X.K fd ps [])
    (hr : Room n A) (fr : A.frames = X.A.frames) (I : Inv X pins σ H s) (r : Vals vs us) (h : sp vs H Q E0) : wpAny (model X.prog X.w) A (call (.ref f) us) (EP X pins σ Q) E' s := by
  have e0 : Env0 X.prog X.w X.K X.mg X.base A X.stack s H := by
    have e := I.env0
    exact ⟨by rw [fr]; exact e.frames, e.mod, e.bs, e.bsz, e.funs, e.frf, e.hok, e.bare⟩
  have hl := F.len _ _ _ _ h
  refine wpAny_call (codeAny_mono (F.run A X.stack s H ⟨us, []⟩ us vs Q E0 hr e0 (by
    have := hb s us I.kIn (by rw [List.append_nil, ← r.length]; exact hl)
    simpa using this) r h) fun r s' hq => ?_)
  cases r with
  | error e => exact False.elim hq
  | ok fl =>
    cases fl with
    | ret w => exact I.after hq
    | next => exact False.elim hq
    | brk => exact False.elim hq
    | cont => exact False.elim hq
/-- what an own method promises of the instance and what else it gets -/
structure Own (X : Cx) (C : Addr) (nm : Str) (n : Nat) (f : Addr) (sp : Sp) : Prop where
  at_ : PySem.W.findIn X.K (.ref C) nm = some (some (.ref f))
  fn : PySem.W.isFn X.K (.ref f) = true
  ok : ∃ fd ps, FnOk X.prog X.w X.K X.mg X.base CX0 n f fd ps sp ∧ Binds X.K fd ps []
/-- len(o) -/
def rLenO (C : Addr) (sp : Sp) : List V → Hp → VK → Prop := fun vs H Q => ∃ (a dx : Addr) (fs : List (Str × V)), vs = [.ref a] ∧ H a = some (.ins C dx fs) ∧ sp [.ref a] H (fun v H' => ∃ n : Int, v = .int n ∧ 0 ≤ n ∧ n < 2 ^ 63 ∧ Q (.int n) H') E0
theorem cr_lenO {C f : Addr} {n : Nat} {sp : Sp} (O : Own X C "__len__" n f sp) (hr : Room (n + 1) X.A) : CallR X (.builtin "len") (rLenO C sp) := by
  intro pins s σ H vs us Q I r h
  obtain ⟨a, dx, fs, rfl, ha, hsp⟩ := h
  rw [Vals.ref1 r]
  obtain ⟨fd, ps, F, hb⟩ := O.ok
  obtain ⟨mA, J, _⟩ := ins_get I.hok ha
  obtain ⟨od, J, _⟩ := J.look
  obtain ⟨m, hF⟩ := I.fr
  refine PySem.W.len_K hF I.ok.mod.kin J O.at_ O.fn (wpAny_mono (run_own F hb hr.in1 rfl I (rr1 a) hsp) (fun v s' hv => ?_) fun _ _ z => z)
  obtain ⟨w, H', I', rw', n', e, h0, h1, q⟩ := hv
  subst e
  obtain ⟨t, rfl⟩ := rw'
  exact ⟨⟨h0, h1⟩, .int n', H', I'.tok _, ⟨_, rfl⟩, q⟩
/-- str(o) -/
def rStrO (C : Addr) (sp : Sp) : List V → Hp → VK → Prop := fun vs H Q => ∃ (a dx : Addr) (fs : List (Str × V)), vs = [.ref a] ∧ H a = some (.ins C dx fs) ∧ sp [.ref a] H (fun v H' => ∃ n : Str, v = .str n ∧ Q (.str n) H') E0
theorem cr_strO {C f : Addr} {n : Nat} {sp : Sp} (O : Own X C "__str__" n f sp) (hr : Room (n + 2) X.A) : CallR X (.type "str") (rStrO C sp) := by
  intro pins s σ H vs us Q I r h
  obtain ⟨a, dx, fs, rfl, ha, hsp⟩ := h
  rw [Vals.ref1 r]
  obtain ⟨fd, ps, F, hb⟩ := O.ok
  obtain ⟨mA, J, _⟩ := ins_get I.hok ha
  obtain ⟨od, J, _⟩ := J.look
  refine PySem.W.kso_call hr.in1.in1.units0 I.kIn J O.at_ O.fn (wpAny_mono (run_own F hb hr.in1.in1 rfl I (rr1 a) hsp) (fun v s' hv => ?_) fun _ _ z => z)
  obtain ⟨w, H', I', rw', n', e, q⟩ := hv
  subst e
  obtain ⟨t, rfl⟩ := rw'
  exact ⟨.str n', H', I', ⟨_, rfl⟩, q⟩
theorem in_own {M : Model} {A : Around} {E : Value → Shared → Prop} {K : PySem.W.Frag} {x C f : Addr} {ox : Obj} {od : Option Obj} {v : Value} {Q : Bool → Shared → Prop} (Xk : K.In s.heap) (I : PySem.W.InstAt s.heap x ox C od) (hs : PySem.W.findIn K (.ref C) "__contains__" = some (some (.ref f)))
    (hf : PySem.W.isFn K (.ref f) = true) (h : wpAny M A (call (.ref f) [.ref x, v]) (fun r s' => ∃ b, r = .bool b ∧ Q b s') E s) : wpAny M A (contains (.ref x) v) Q E s := by
  unfold contains
  refine wpAny_holding ?_
  rw [show stdlibNamesSay? (.ref x) v = none from rfl]
  refine wpAny_bind (wpAny_bind (I.type.here ((PySem.W.looks_findIn Xk hs).here ?_)))
  show wpAny M A (if (some (Value.ref f) == some Value.none) = true then _ else _) Q E s
  rw [if_neg (by simp)]
  refine wpAny_bind (m := callSpecialUnlessNone? (.ref x) (Str.ofString "__contains__") [v] _) ?_
  simp only [callSpecialUnlessNone?]
  refine wpAny_bind (wpAny_bind (I.type.here ((PySem.W.looks_findIn Xk hs).here ?_)))
  refine wpAny_holding (wpAny_bind ((PySem.W.bind_fn Xk _ (beq_iff_eq.mp hf)).here ?_))
  show wpAny M A (if (Value.ref f == Value.none) = true then _ else _) _ E s
  rw [if_neg (show ¬ (Value.ref f == Value.none) = true from Bool.false_ne_true)]
  refine wpAny_bind (wpAny_mono h (fun r s' hr => wpAny_pure ?_) fun _ _ z => z)
  obtain ⟨b, rfl, q⟩ := hr
  exact wpAny_truthy_bool q
/-- x in o -/
def rInO (C : Addr) (sp : Sp) : R2 := fun x y H Q => ∃ (a dx : Addr) (fs : List (Str × V)), y = .ref a ∧ H a = some (.ins C dx fs) ∧ sp [.ref a, x] H (fun v H' => ∃ b : Bool, v = .bl b ∧ Q (.bl b) H') E0
theorem op_inO {C f : Addr} {n : Nat} {sp : Sp} (O : Own X C "__contains__" n f sp) (hr : Room n X.A) : OpR X (compareOp .In) (rInO C sp) := by
  intro pins s σ H x y v u Q I rx ry h
  obtain ⟨a, dx, fs, rfl, ha, hsp⟩ := h
  cases ry
  obtain ⟨fd, ps, F, hb⟩ := O.ok
  obtain ⟨mA, J, _⟩ := ins_get I.hok ha
  obtain ⟨od, J, _⟩ := J.look
  show wpAny _ _ (do return Value.bool (← contains (.ref a) v)) _ _ s
  refine wpAny_bind (in_own I.kIn J O.at_ O.fn (wpAny_mono (run_own F hb hr rfl I (rr2 a rx) hsp) (fun w s' hv => ?_) fun _ _ z => z))
  obtain ⟨w', H', I', rw', b, e, q⟩ := hv
  subst e
  cases rw'
  exact ⟨b, rfl, wpAny_pure ⟨.bl b, H', I', rfl, q⟩⟩
/-- the type of what stands on the right, as == asks it -/
inductive NotSub (K : PySem.W.Frag) (C : Addr) (H : Hp) : V → Prop where
  | ins {a dx : Addr} {fs : List (Str × V)} : H a = some (.ins C dx fs) → NotSub K C H (.ref a)
  | tup {a : Addr} {vs : List V} : SqT K H a vs → PySem.W.notFirst K C (.type "tuple") = true → NotSub K C H (.ref a)
/-- o == y -/
def rEqO (K : PySem.W.Frag) (C : Addr) (sp : Sp) : R2 := fun x y H Q => ∃ (a dx : Addr) (fs : List (Str × V)), x = .ref a ∧ H a = some (.ins C dx fs) ∧ NotSub K C H y ∧ sp [.ref a, y] H (fun v H' => ∃ b : Bool, v = .bl b ∧ Q (.bl b) H') E0
theorem op_eqO {C f : Addr} {n : Nat} {sp : Sp} (O : Own X C "__eq__" n f sp) (hr : Room n X.A) : OpR X (compareOp .Eq) (rEqO X.K C sp) := by
  intro pins s σ H x y v u Q I rx ry h
  obtain ⟨a, dx, fs, rfl, ha, ns, hsp⟩ := h
  cases rx
  obtain ⟨fd, ps, F, hb⟩ := O.ok
  obtain ⟨mA, J, _⟩ := ins_get I.hok ha
  obtain ⟨od, J, _⟩ := J.look
  obtain ⟨m, hF⟩ := I.fr
  have hl : ∃ tb, PySem.W.Looks (model X.prog X.w) s.heap (typeOf u) tb ∧ PySem.W.notFirst X.K C tb = true := by
    cases ns with
    | ins hb' =>
      cases ry
      obtain ⟨mB, J', _⟩ := ins_get I.hok hb'
      obtain ⟨od', J', _⟩ := J'.look
      exact ⟨_, J'.type, by simp [PySem.W.notFirst]⟩
    | tup ht hn =>
      cases ry
      obtain ⟨its, rv, p, _⟩ := I.tuple ht
      obtain ⟨o, ho, hc, _⟩ := p
      refine ⟨_, ?_, hn⟩
      exact hc ▸ (PySem.W.Looks.ld ho).andThen .now
  obtain ⟨tb, hl, hn⟩ := hl
  show wpAny _ X.A (richCompare .Eq (.ref a) u) (EP X pins σ Q) X.xe s
  refine PySem.W.cmp_K (op := .Eq) (tb := tb) hr.units0 hF I.ok.mod.kin J hl hn O.at_ O.fn (wpAny_mono (run_own F hb hr rfl I (rr2 a ry) hsp) (fun w s' hv => ?_) fun _ _ z => z)
  obtain ⟨w', H', I', rw', b, e, q⟩ := hv
  subst e
  cases rw'
  exact ⟨.bl b, H', I', rfl, q⟩
end
end Tx

set_option Elab.async false
set_option linter.all false
set_option maxRecDepth 100000
set_option maxHeartbeats 1000000
set_option autoImplicit false
/-! Tx: what is walked, operators and built-ins, by data -/
namespace Tx
open PySem L2
section
variable {K : PySem.W.Frag} {m : Mo} {Γ : G} {ta tb te : TE} {d : D} {ds : List D}
theorem carry {m' : Mo} {H1 H : Hp} (i1 : m.I H1) (r : m.R H1 H) (c : ∀ a, m'.F a → ¬ m.F a → H1 a = none) : ∀ b o, ¬ m.F b → H1 b = some o → ¬ m'.F b ∧ H b = some o := fun b o n e =>
  ⟨fun f => (by rw [c b f n] at e; cases e), m.keep r i1 b o n e⟩
theorem wk_list {m' : Mo} {H1 H2 : Hp} {a : Addr} {vs : List V} (i1 : m.I H1) (le : m.Le m') (i2 : m'.I H2) (r : m.R H1 H2) (c : ∀ a, m'.F a → ¬ m.F a → H1 a = none)
    (hs : ∀ H, m.R H1 H → SqL K H a vs) (ra : RpAll K m.F H1 vs ds) : WkD m' K (Itl K a) H2 ds := by
  have hl := ra.len
  have up : ∀ H, m'.R H2 H → m.R H1 H := fun H q => m.trans r (by have := q; rw [le.R] at this; exact this)
  refine ⟨fun i H q hi => ⟨vs, vs[i], hs H (up H q), by simp [hl, hi]⟩, fun H q => ⟨vs, hs H (up H q), by omega⟩, fun i H x H' q hi y => ?_⟩
  obtain ⟨e, y⟩ := y
  subst e
  have hx := y vs (hs H' (up H' q))
  obtain ⟨d, hd, rd⟩ := ra.at hx
  exact ⟨m'.refl _, d, hd, rd.go (carry i1 (up H' q) c)⟩
theorem wk_tup {m' : Mo} {H1 H2 : Hp} {a : Addr} {vs : List V} (i1 : m.I H1) (le : m.Le m') (i2 : m'.I H2) (r : m.R H1 H2) (c : ∀ a, m'.F a → ¬ m.F a → H1 a = none)
    (hs : ∀ H, m.R H1 H → SqT K H a vs) (ra : RpAll K m.F H1 vs ds) : WkD m' K (Itt K a) H2 ds := by
  have hl := ra.len
  have up : ∀ H, m'.R H2 H → m.R H1 H := fun H q => m.trans r (by have := q; rw [le.R] at this; exact this)
  refine ⟨fun i H q hi => ⟨vs, vs[i], hs H (up H q), by simp [hl, hi]⟩, fun H q => ⟨vs, hs H (up H q), by omega⟩, fun i H x H' q hi y => ?_⟩
  obtain ⟨e, y⟩ := y
  subst e
  have hx := y vs (hs H' (up H' q))
  obtain ⟨d, hd, rd⟩ := ra.at hx
  exact ⟨m'.refl _, d, hd, rd.go (carry i1 (up H' q) c)⟩
def isSeq (d : D) (ds : List D) : Prop := d = .tup ds ∨ d = .lst ds ∨ d = .frl ds
/-- how a sequence stands, and stays -/
theorem seq_stands {H1 : Hp} {v : V} (i1 : m.I H1) (rv : Rp K m.F H1 v d) (hd : isSeq d ds) : ∃ a vs, v = .ref a ∧ RpAll K m.F H1 vs ds ∧ ((∀ H, m.R H1 H → SqL K H a vs) ∨ (∀ H, m.R H1 H → SqT K H a vs)) := by
  rcases hd with e | e | e
  · subst e
    cases rv with
    | tup n h t => exact ⟨_, _, rfl, t, .inr fun H r => .inl (rd_up h fun o q => m.keep r i1 _ o n q)⟩
    | ktup h t => exact ⟨_, _, rfl, t, .inr fun H r => .inr h⟩
  · subst e
    cases rv with
    | lst n h t => exact ⟨_, _, rfl, t, .inl fun H r => SqL.of (m.keep r i1 _ _ n h)⟩
  · subst e
    cases rv with
    | frl n h t => exact ⟨_, _, rfl, t, .inl fun H r => .inl (.inr ⟨_, m.keep r i1 _ _ n h⟩)⟩
    | kfrl h t => exact ⟨_, _, rfl, t, .inl fun H r => .inr h⟩
theorem it_seqN {S : D → Prop} {T : List D → Prop} (h : EvN m K te Γ S) (hd : ∀ d, S d → ∃ ds, isSeq d ds ∧ T ds) : ItD m K (iSeq K te) Γ T := fun σ H e Q q =>
  h σ H e _ fun v d H1 s r1 rv => by
    obtain ⟨ds, hds, ht⟩ := hd d s
    have i1 := m.inv r1 e.i
    obtain ⟨a, vs, rfl, ra, hs⟩ := seq_stands i1 rv hds
    refine ⟨a, rfl, ?_⟩
    rcases hs with hs | hs
    · exact .inl ⟨⟨vs, hs H1 (m.refl _)⟩, q _ ds H1 ht r1 fun m' le H2 i2 r c => wk_list i1 le i2 r c hs ra⟩
    · exact .inr ⟨⟨vs, hs H1 (m.refl _)⟩, q _ ds H1 ht r1 fun m' le H2 i2 r c => wk_tup i1 le i2 r c hs ra⟩
theorem it_seq (h : Ev1 m K te Γ d) (hd : isSeq d ds) : ItD1 m K (iSeq K te) Γ ds := it_seqN h fun x e => ⟨ds, e ▸ hd, rfl⟩
def rngD (lo : Int) (n : Nat) : List D := (List.range n).map fun i : Nat => D.int (lo + (i : Int))
theorem rngD_len (lo : Int) (n : Nat) : (rngD lo n).length = n := by unfold rngD; rw [List.length_map, List.length_range]
theorem rngD_at {lo : Int} {n i : Nat} (h : i < n) : (rngD lo n)[i]? = some (.int (lo + (i : Int))) := by unfold rngD; simp [h]
theorem wk_rng {m' : Mo} {H2 : Hp} (lo : Int) (n : Nat) : WkD m' K (Itr lo n) H2 (rngD lo n) := by
  refine ⟨fun i H _ hi => by rw [rngD_len] at hi; exact hi, fun H _ => by rw [rngD_len]; exact Nat.le_refl _, fun i H x H' q hi y => ?_⟩
  rw [rngD_len] at hi
  obtain ⟨e, ex⟩ := y
  subst e; subst ex
  exact ⟨m'.refl _, _, rngD_at hi, .int _⟩
theorem it_rng1 {ta : TA} {n : Int} (h : EvA1 m K ta Γ [.int n]) (hn : -100000 ≤ n ∧ n ≤ 100000) : ItD1 m K (iRng1 ta) Γ (rngD 0 n.toNat) := fun σ H e Q q =>
  h σ H e _ fun vs ds H1 s r1 rs => by
    subst s
    cases rs with
    | cons r rs =>
      cases rs
      exact ⟨n, by rw [r.intE], by omega, by omega, q _ _ H1 rfl r1 fun m' _ H2 _ _ _ => wk_rng 0 n.toNat⟩
theorem it_rng2 {ta : TA} {lo n : Int} (h : EvA1 m K ta Γ [.int lo, .int n]) (hn : -100000 ≤ n ∧ n ≤ 100000 ∧ -100000 ≤ lo ∧ lo ≤ 100000) : ItD1 m K (iRng2 ta) Γ (rngD lo (n - lo).toNat) := fun σ H e Q q =>
  h σ H e _ fun vs ds H1 s r1 rs => by
    subst s
    cases rs with
    | cons r rs =>
      cases rs with
      | cons r' rs =>
        cases rs
        exact ⟨lo, n, by rw [r.intE, r'.intE], ⟨by omega, by omega, by omega, by omega⟩, q _ _ H1 rfl r1 fun m' _ H2 _ _ _ => wk_rng lo (n - lo).toNat⟩
def enumD (ds : List D) : List D := ds.mapIdx fun i d => .tup [.int (i : Int), d]
theorem enumD_len : (enumD ds).length = ds.length := by unfold enumD; rw [List.length_mapIdx]
theorem enumD_at {i : Nat} {d : D} (h : ds[i]? = some d) : (enumD ds)[i]? = some (.tup [.int (i : Int), d]) := by unfold enumD; rw [List.getElem?_mapIdx, h]; rfl
theorem wk_enum {m' : Mo} {J : It} {H1 H2 : Hp} {vs : List V} (i1 : m.I H1) (le : m.Le m') (i2 : m'.I H2) (r : m.R H1 H2) (c : ∀ a, m'.F a → ¬ m.F a → H1 a = none) (ra : RpAll K m.F H1 vs ds)
    (hg : ∀ i H, m.R H1 H → i < vs.length → J.go i H) (hp : ∀ H, m.R H1 H → J.stop vs.length H) (hy : ∀ i H x H', m.R H1 H → i < vs.length → J.yld i H x H' → ∃ T y, x = .ref T ∧ H T = none ∧ H' = upd H T (.tup [.int (i : Nat), y]) ∧ vs[i]? = some y) : WkD m' K J H2 (enumD ds) := by
  have hl := ra.len
  have up : ∀ H, m'.R H2 H → m.R H1 H := fun H q => m.trans r (by have := q; rw [le.R] at this; exact this)
  refine ⟨fun i H q hi => hg i H (up H q) (by rw [enumD_len] at hi; omega), fun H q => by rw [enumD_len, ← hl]; exact hp H (up H q), fun i H x H' q hi y => ?_⟩
  rw [enumD_len] at hi
  obtain ⟨T, w, rfl, hT, rfl, hw⟩ := hy i H x H' (up H q) (by omega) y
  obtain ⟨d, hd, rd⟩ := ra.at hw
  have iH : m'.I H := m'.inv q i2
  exact ⟨m'.grow iH (same_new hT), _, enumD_at hd, rp_new iH hT (.cons (.int _) (.cons (rd.go (carry i1 (up H q) c)) .nil))⟩
theorem it_enum {ta : TA} (h : EvA1 m K ta Γ [d]) (hd : isSeq d ds) : ItD1 m K (iEnumS K ta) Γ (enumD ds) := fun σ H e Q q =>
  h σ H e _ fun vs es H1 s r1 rs => by
    subst s
    cases rs with
    | cons rv rs =>
      cases rs
      have i1 := m.inv r1 e.i
      obtain ⟨a, ws, rfl, ra, hs⟩ := seq_stands i1 rv hd
      refine ⟨a, rfl, ?_⟩
      rcases hs with hs | hs
      · refine .inl ⟨⟨ws, hs H1 (m.refl _)⟩, q _ _ H1 rfl r1 fun m' le H2 i2 r c => wk_enum i1 le i2 r c ra (fun i H q hi => ⟨ws, ws[i], hs H q, by simp [hi]⟩) (fun H q => ⟨ws, hs H q, Nat.le_refl _⟩) fun i H x H' q hi y => ?_⟩
        obtain ⟨T, w, h1, h2, h3, h4⟩ := y
        exact ⟨T, w, h1, h2, h3, h4 ws (hs H q)⟩
      · refine .inr ⟨⟨ws, hs H1 (m.refl _)⟩, q _ _ H1 rfl r1 fun m' le H2 i2 r c => wk_enum i1 le i2 r c ra (fun i H q hi => ⟨ws, ws[i], hs H q, by simp [hi]⟩) (fun H q => ⟨ws, hs H q, Nat.le_refl _⟩) fun i H x H' q hi y => ?_⟩
        obtain ⟨T, w, h1, h2, h3, h4⟩ := y
        exact ⟨T, w, h1, h2, h3, h4 ws (hs H q)⟩

/-! ### operators -/
theorem o_I0 {g : Int → Int → V} {g' : Int → Int → D} (hg : ∀ i j F H, Rp K F H (g i j) (g' i j)) {i j : Int} : Op1 m K (rI0 g) (.int i) (.int j) (g' i j) := fun x y H I rx ry Q q => ⟨i, j, rx.intE, ry.intE, q _ _ H rfl (m.refl H) (hg i j _ _)⟩
theorem o_I {C : Int → Int → Prop} {g : Int → Int → V} {g' : Int → Int → D} (hg : ∀ i j F H, Rp K F H (g i j) (g' i j)) {i j : Int} (hc : C i j) : Op1 m K (rI C g) (.int i) (.int j) (g' i j) := fun x y H I rx ry Q q => ⟨i, j, rx.intE, ry.intE, hc, q _ _ H rfl (m.refl H) (hg i j _ _)⟩
theorem o_int {g : Int → Int → Int} {i j : Int} : Op1 m K (rI0 fun i j => .int (g i j)) (.int i) (.int j) (.int (g i j)) := o_I0 (g' := fun i j => .int (g i j)) fun _ _ _ _ => .int _
theorem o_bl {g : Int → Int → Bool} {i j : Int} : Op1 m K (rI0 fun i j => .bl (g i j)) (.int i) (.int j) (.bl (g i j)) := o_I0 (g' := fun i j => .bl (g i j)) fun _ _ _ _ => .bl _
theorem o_intC {C : Int → Int → Prop} {g : Int → Int → Int} {i j : Int} (hc : C i j) : Op1 m K (rI C fun i j => .int (g i j)) (.int i) (.int j) (.int (g i j)) := o_I (g' := fun i j => .int (g i j)) (fun _ _ _ _ => .int _) hc
theorem o_eqD {a b : D} (ha : a.plain = true) (hb : b.plain = true) (sa : SeqAt.shaped a.py = true) (sb : SeqAt.shaped b.py = true) : Op1 m K (rEqD K) a b (.bl (PyData.eqv a.py b.py)) := fun x y H I rx ry Q q => ⟨_, _, rx.dp ha, ry.dp hb, sa, sb, q _ _ H rfl (m.refl H) (.bl _)⟩
theorem o_neD {a b : D} (ha : a.plain = true) (hb : b.plain = true) (sa : SeqAt.shaped a.py = true) (sb : SeqAt.shaped b.py = true) : Op1 m K (rNeD K) a b (.bl (!PyData.eqv a.py b.py)) := fun x y H I rx ry Q q => ⟨_, _, rx.dp ha, ry.dp hb, sa, sb, q _ _ H rfl (m.refl H) (.bl _)⟩
theorem o_inS {neg : Bool} {a b : D} (hd : isSeq b ds) (ha : a.plain = true) (hb : D.plains ds = true) (sa : SeqAt.shaped a.py = true) (sb : SeqAt.shaped (.list (D.pys ds)) = true) : Op1 m K (rInS K neg) a b (.bl (if neg then !((D.pys ds).any fun z => PyData.eqv z a.py) else (D.pys ds).any fun z => PyData.eqv z a.py)) := fun x y H I rx ry Q q => by
  refine ⟨_, D.pys ds, rx.dp ha, ?_, sa, sb, q _ _ H rfl (m.refl H) (.bl _)⟩
  rcases hd with e | e | e
  · subst e; exact .inr (ry.dp (by simpa [D.plain] using hb))
  · subst e; exact .inl (ry.dp (by simpa [D.plain] using hb))
  · subst e; exact .inl (ry.dp (by simpa [D.plain] using hb))
theorem atI_D {vs : List V} {F : Addr → Prop} {H : Hp} (ra : RpAll K F H vs ds) {i : Int} (h : atI ds i = some d) : ∃ v, atI vs i = some v ∧ Rp K F H v d := by
  unfold atI at h ⊢
  rw [ra.len]
  cases e : ixN ds.length i with
  | none => rw [e] at h; cases h
  | some j =>
    rw [e] at h
    obtain ⟨v, h1, h2⟩ := ra.get (show ds[j]? = some d from h)
    exact ⟨v, h1, h2⟩
theorem o_ix {b : D} {i : Int} (hd : isSeq b ds) (h : atI ds i = some d) : Op1 m K (rIx K) b (.int i) d := fun x y H I rx ry Q q => by
  rcases hd with e | e | e
  · subst e
    obtain ⟨a, vs, rfl, hs, ra⟩ := rx.tupE
    obtain ⟨v, hv, rv⟩ := atI_D ra h
    exact .inr (.inl ⟨a, vs, i, v, rfl, ry.intE, hs, hv, q _ _ H rfl (m.refl H) rv⟩)
  · subst e
    obtain ⟨a, vs, rfl, hs, ra⟩ := rx.lstE
    obtain ⟨v, hv, rv⟩ := atI_D ra h
    exact .inl ⟨a, vs, i, v, rfl, ry.intE, SqL.of hs, hv, q _ _ H rfl (m.refl H) rv⟩
  · subst e
    cases rx with
    | frl n h' ra =>
      obtain ⟨v, hv, rv⟩ := atI_D ra h
      exact .inl ⟨_, _, i, v, rfl, ry.intE, .inl (.inr ⟨_, h'⟩), hv, q _ _ H rfl (m.refl H) rv⟩
    | kfrl h' ra =>
      obtain ⟨v, hv, rv⟩ := atI_D ra h
      exact .inl ⟨_, _, i, v, rfl, ry.intE, .inr h', hv, q _ _ H rfl (m.refl H) rv⟩
theorem atI_of {i : Nat} (h : ds[i]? = some d) : atI ds (i : Int) = some d := by
  have hl := (List.getElem?_eq_some_iff.mp h).1
  unfold atI
  rw [Evl.ixN_nat hl]
  exact h
theorem o_catT {as bs : List D} (hl : as.length + bs.length ≤ 100000) : Op1 m K (rCatA K) (.tup as) (.tup bs) (.tup (as ++ bs)) := fun x y H I rx ry Q q => by
  have rx0 := rx
  have ry0 := ry
  obtain ⟨a, vs, rfl, hs, ra⟩ := rx.tupE
  obtain ⟨b, ws, rfl, ht, rb⟩ := ry.tupE
  refine ⟨a, b, vs, ws, rfl, rfl, hs, ht, Nat.le_trans (by rw [ra.len, rb.len]; exact hl) (by decide), fun e => ?_, fun h1 e => ?_, fun h1 h2 p hp => ?_⟩
  · have e' : as = [] := List.eq_nil_of_length_eq_zero (by rw [← ra.len, e]; rfl)
    subst e'
    exact q _ _ H rfl (m.refl H) ry0
  · have e' : bs = [] := List.eq_nil_of_length_eq_zero (by rw [← rb.len, e]; rfl)
    subst e'
    exact q _ _ H (by rw [List.append_nil]) (m.refl H) rx0
  · exact q _ _ _ rfl (m.grow I (same_new hp)) (rp_new I hp (ra.append rb))
theorem o_catL {as bs : List D} (hl : as.length + bs.length ≤ 100000) : Op1 m K rCat (.lst as) (.lst bs) (.lst (as ++ bs)) := fun x y H I rx ry Q q => by
  obtain ⟨a, vs, rfl, hs, ra⟩ := rx.lstE
  obtain ⟨b, ws, rfl, ht, rb⟩ := ry.lstE
  exact ⟨a, b, vs, ws, rfl, rfl, hs, ht, Nat.le_trans (by rw [ra.len, rb.len]; exact hl) (by decide), fun p hp => q _ _ _ rfl (m.grow I (same_new hp)) (rp_newL I hp (ra.append rb))⟩
theorem flat_rep {F : Addr → Prop} {H : Hp} {vs : List V} (ra : RpAll K F H vs ds) : ∀ n : Nat, RpAll K F H (List.replicate n vs).flatten (List.replicate n ds).flatten
  | 0 => .nil
  | n + 1 => by rw [List.replicate_succ, List.replicate_succ, List.flatten_cons, List.flatten_cons]; exact ra.append (flat_rep ra n)
theorem o_repT {k : Int} (hn : ds ≠ []) (hk : 1 ≤ k ∧ k ≤ 1000) (hl : ds.length ≤ 1000) : Op1 m K (rRepS K) (.tup ds) (.int k) (.tup (List.replicate k.toNat ds).flatten) := fun x y H I rx ry Q q => by
  have rx0 := rx
  obtain ⟨a, vs, rfl, hs, ra⟩ := rx.tupE
  refine ⟨a, k, vs, rfl, ry.intE, hs, fun e => hn (List.eq_nil_of_length_eq_zero (by rw [← ra.len, e]; rfl)), hk.1, hk.2, by rw [ra.len]; exact hl, fun e => ?_, fun h2 p hp => ?_⟩
  · subst e
    exact q _ _ H (by simp) (m.refl H) rx0
  · exact q _ _ _ rfl (m.grow I (same_new hp)) (rp_new I hp (flat_rep ra _))

/-! ### built-ins -/
theorem c_len {b : D} (hd : isSeq b ds) : Ca1 m K (fun xs H Q => ∃ x n, xs = [x] ∧ LenV K x H n ∧ Q (.int (n : Nat)) H) [b] (.int ds.length) := fun vs H I rs Q q => by
  cases rs with
  | cons rv rs =>
    cases rs
    obtain ⟨a, ws, rfl, ra, hs⟩ := seq_stands I rv hd
    refine ⟨_, ws.length, rfl, ?_, q _ _ H (by rw [ra.len]) (m.refl H) (.int _)⟩
    rcases hs with hs | hs
    · exact .inl ⟨ws, hs H (m.refl H), rfl⟩
    · exact .inr ⟨ws, hs H (m.refl H), rfl⟩
theorem c_tuple {b : D} (hd : isSeq b ds) : Ca1 m K (fun xs H Q => ∃ p ys, xs = [V.ref p] ∧ ((SqL K H p ys ∧ ∀ (l : Addr), H l = none → Q (.ref l) (upd H l (.tup ys))) ∨ SqT K H p ys ∧ Q (.ref p) H)) [b] (.tup ds) := fun vs H I rs Q q => by
  cases rs with
  | cons rv rs =>
    cases rs
    have rv0 := rv
    rcases hd with e | e | e
    · subst e
      obtain ⟨a, ws, rfl, hs, ra⟩ := rv.tupE
      exact ⟨a, ws, rfl, .inr ⟨hs, q _ _ H rfl (m.refl H) rv0⟩⟩
    · subst e
      obtain ⟨a, ws, rfl, hs, ra⟩ := rv.lstE
      exact ⟨a, ws, rfl, .inl ⟨SqL.of hs, fun l hl => q _ _ _ rfl (m.grow I (same_new hl)) (rp_new I hl ra)⟩⟩
    · subst e
      cases rv with
      | frl n h' ra => exact ⟨_, _, rfl, .inl ⟨.inl (.inr ⟨_, h'⟩), fun l hl => q _ _ _ rfl (m.grow I (same_new hl)) (rp_new I hl ra)⟩⟩
      | kfrl h' ra => exact ⟨_, _, rfl, .inl ⟨.inr h', fun l hl => q _ _ _ rfl (m.grow I (same_new hl)) (rp_new I hl ra)⟩⟩
theorem c_list {b : D} (hd : isSeq b ds) : Ca1 m K (fun xs H Q => ∃ p ys, xs = [V.ref p] ∧ (SqL K H p ys ∨ SqT K H p ys) ∧ ∀ (l : Addr), H l = none → Q (.ref l) (upd H l (.lst ys))) [b] (.lst ds) := fun vs H I rs Q q => by
  cases rs with
  | cons rv rs =>
    cases rs
    obtain ⟨a, ws, rfl, ra, hs⟩ := seq_stands I rv hd
    refine ⟨a, ws, rfl, ?_, fun l hl => q _ _ _ rfl (m.grow I (same_new hl)) (rp_newL I hl ra)⟩
    rcases hs with hs | hs
    · exact .inl (hs H (m.refl H))
    · exact .inr (hs H (m.refl H))
theorem c_sorted {b : D} {ns : List Int} (hd : isSeq b (ns.map D.int)) (hl : ns.length < 64) : Ca1 m K (rSortS K) [b] (.lst ((srt ns).map D.int)) := fun vs H I rs Q q => by
  cases rs with
  | cons rv rs =>
    cases rs
    obtain ⟨a, ws, rfl, ra, hs⟩ := seq_stands I rv hd
    have e := ra.ints
    subst e
    refine ⟨a, ns, rfl, ?_, hl, fun p hp => q _ _ _ rfl (m.grow I (same_new hp)) (rp_newL I hp (RpAll.map (fun x => .int x) _))⟩
    rcases hs with hs | hs
    · exact .inl (hs H (m.refl H))
    · exact .inr (hs H (m.refl H))
theorem c_max {b : D} {n : Int} {ns : List Int} (hd : isSeq b ((n :: ns).map D.int)) : Ca1 m K (rMaxS K) [b] (.int (ns.foldl max n)) := fun vs H I rs Q q => by
  cases rs with
  | cons rv rs =>
    cases rs
    obtain ⟨a, ws, rfl, ra, hs⟩ := seq_stands I rv hd
    have e := ra.ints
    subst e
    refine ⟨a, n, ns, rfl, ?_, q _ _ _ rfl (m.refl H) (.int _)⟩
    rcases hs with hs | hs
    · exact .inl (hs H (m.refl H))
    · exact .inr (hs H (m.refl H))
theorem c_all {bs : List Bool} : Ca1 m K (rAll K) [.lst (bs.map D.bl)] (.bl (bs.all id)) := fun vs H I rs Q q => by
  cases rs with
  | cons rv rs =>
    cases rs
    obtain ⟨a, ws, rfl, hs, ra⟩ := rv.lstE
    have e := ra.bls
    subst e
    exact ⟨a, bs, rfl, SqL.of hs, q _ _ _ rfl (m.refl H) (.bl _)⟩
theorem c_any {bs : List Bool} : Ca1 m K (rAnyS K) [.lst (bs.map D.bl)] (.bl (bs.any id)) := fun vs H I rs Q q => by
  cases rs with
  | cons rv rs =>
    cases rs
    obtain ⟨a, ws, rfl, hs, ra⟩ := rv.lstE
    have e := ra.bls
    subst e
    exact .inl ⟨a, bs, rfl, SqL.of hs, q _ _ _ rfl (m.refl H) (.bl _)⟩
theorem c_anyI {ns : List Int} : Ca1 m K (rAnyS K) [.tup (ns.map D.int)] (.bl (ns.any (· != 0))) := fun vs H I rs Q q => by
  cases rs with
  | cons rv rs =>
    cases rs
    obtain ⟨a, ws, rfl, hs, ra⟩ := rv.tupE
    have e := ra.ints
    subst e
    exact .inr ⟨a, ns, rfl, hs, q _ _ _ rfl (m.refl H) (.bl _)⟩
theorem c_sum {b : D} {ns : List Int} (hd : b = .lst (ns.map D.int)) : Ca1 m K (rSum K) [b] (.int ns.sum) := fun vs H I rs Q q => by
  subst hd
  cases rs with
  | cons rv rs =>
    cases rs
    obtain ⟨a, ws, rfl, hs, ra⟩ := rv.lstE
    have e := ra.ints
    subst e
    exact ⟨a, ns, rfl, SqL.of hs, q _ _ _ rfl (m.refl H) (.int _)⟩
end
end Tx

set_option Elab.async false
set_option linter.all false
set_option maxRecDepth 100000
set_option maxHeartbeats 1000000
set_option autoImplicit false
/-! Tx: fields, calls, defs, the pouch -/
namespace Tx
open PySem L2
section
variable {K : PySem.W.Frag} {m : Mo} {Γ : G} {ta tb te : TE} {d : D} {ds : List D} {S : D → Prop} {O : Out} {tv : TS}
/-! ### fields -/
theorem lookup_zip {F : Addr → Prop} {H : Hp} {f : Str} : ∀ {ns : List Str} {vs : List V} {ds : List D}, RpAll K F H vs ds → (ns.zip ds).lookup f = some d → ∃ v, (ns.zip vs).lookup f = some v ∧ Rp K F H v d
  | [], _, _, _, h => by simp at h
  | n :: ns, _, _, .nil, h => by simp at h
  | n :: ns, _, _, .cons (v := v) r t, h => by
    rw [List.zip_cons_cons, List.lookup_cons] at h
    rw [List.zip_cons_cons, List.lookup_cons]
    cases e : f == n with
    | true =>
      rw [e] at h
      cases h
      exact ⟨v, rfl, r⟩
    | false =>
      rw [e] at h
      exact lookup_zip t h
theorem en_fld {C : Addr} {ns : List Str} {xs : List D} {f : Str} (h : Ev1 m K te Γ (.obj C ns xs)) (cl : Cls K C) (na : NoAttr K C f) (hf : (ns.zip xs).lookup f = some d) : Ev1 m K (tFld K te f) Γ d := fun σ H e Q q =>
  h σ H e _ fun v d' H1 s r1 rv => by
    subst s
    cases rv with
    | obj n h' hl t =>
      obtain ⟨v, hv, rv⟩ := lookup_zip t hf
      exact ⟨_, C, _, _, v, rfl, h', cl, na, hv, q v _ H1 rfl r1 rv⟩
theorem Rp.ins {F : Addr → Prop} {H : Hp} {v : V} {C : Addr} {ns : List Str} {xs : List D} (r : Rp K F H v (.obj C ns xs)) : ∃ a dx fs, v = .ref a ∧ H a = some (.ins C dx fs) ∧ ∀ f, f ∉ ns → fs.lookup f = none := by
  cases r with
  | obj n h' hl t =>
    refine ⟨_, _, _, rfl, h', fun f hf => ?_⟩
    have : ∀ {ns : List Str} {vs : List V}, f ∉ ns → (ns.zip vs).lookup f = none := by
      intro ns
      induction ns with
      | nil => intro vs _; rfl
      | cons n ns ih =>
        intro vs hn
        cases vs with
        | nil => rfl
        | cons v vs =>
          rw [List.zip_cons_cons, List.lookup_cons]
          have e : (f == n) = false := by
            simp only [List.mem_cons, not_or] at hn
            simpa using hn.1
          rw [e]
          exact ih fun z => hn (List.mem_cons_of_mem _ z)
    exact this hf
/-! ### promises of defs that change nothing -/
def spS (K : PySem.W.Frag) (pre : List D → Prop) (S : List D → D → Prop) : Sp := fun vs H Q _ => ∃ (F : Addr → Prop) (ds : List D), (∀ a, F a → H a ≠ none) ∧ RpAll K F H vs ds ∧ pre ds ∧ ∀ v d H', S ds d → Same H H' → Rp K F H' v d → Q v H'
theorem en_callN {pre : List D → Prop} {Sf : List D → D → Prop} {dvs : List V} {dds : List D} {E : XK} {ta : TA} {T : List D → Prop} (h : EvA m K ta Γ T) (hd : ∀ F H, RpAll K F H dvs dds) (hp : ∀ ds, T ds → pre (ds ++ dds)) (hs : ∀ ds d, T ds → Sf (ds ++ dds) d → S d) : EvN m K (tCall (spS K pre Sf) dvs E ta) Γ S := fun σ H e Q q =>
  h σ H e _ fun vs ds H1 s r1 rs => ⟨m.F, ds ++ dds, fun a f => m.fa (m.inv r1 e.i) f, rs.append (hd _ _), hp ds s, fun v d H' sd sm rv => q v d H' (hs ds d s sd) (m.trans r1 (m.grow (m.inv r1 e.i) sm)) rv⟩
theorem en_call {pre : List D → Prop} {Sf : List D → D → Prop} {E : XK} {ta : TA} (h : EvA1 m K ta Γ ds) (hp : pre ds) (hs : ∀ d, Sf ds d → S d) : EvN m K (tCall (spS K pre Sf) [] E ta) Γ S :=
  en_callN (T := fun x => x = ds) (dds := []) h (fun _ _ => .nil) (fun x e => by rw [e, List.append_nil]; exact hp) fun x d e sd => hs d (by rw [e, List.append_nil] at sd; exact sd)
/-- a deterministic one -/
def spF (K : PySem.W.Frag) (pre : List D → Prop) (f : List D → D) : Sp := spS K pre fun ds d => d = f ds
theorem en_callF {pre : List D → Prop} {f : List D → D} {E : XK} {ta : TA} (h : EvA1 m K ta Γ ds) (hp : pre ds) : Ev1 m K (tCall (spF K pre f) [] E ta) Γ (f ds) := en_call h hp fun _ e => e
/-- a property, a method -/
theorem en_propN {pre : List D → Prop} {Sf : List D → D → Prop} {C : Addr} {ns : List Str} {xs : List D} {E : XK} (h : Ev1 m K te Γ (.obj C ns xs)) (hp : pre [.obj C ns xs]) (hs : ∀ d, Sf [.obj C ns xs] d → S d) : EvN m K (tProp C (spS K pre Sf) [] E te) Γ S := fun σ H e Q q =>
  h σ H e _ fun v d' H1 s r1 rv => by
    subst s
    obtain ⟨a, dx, fs, rfl, ha, _⟩ := rv.ins
    have i1 := m.inv r1 e.i
    exact ⟨a, dx, fs, rfl, ha, m.F, [.obj C ns xs], fun a f => m.fa i1 f, .cons rv .nil, hp, fun v d H' sd sm rv => q v d H' (hs d sd) (m.trans r1 (m.grow i1 sm)) rv⟩
theorem en_prop {pre : List D → Prop} {f : List D → D} {C : Addr} {ns : List Str} {xs : List D} {E : XK} (h : Ev1 m K te Γ (.obj C ns xs)) (hp : pre [.obj C ns xs]) : Ev1 m K (tProp C (spF K pre f) [] E te) Γ (f [.obj C ns xs]) := en_propN h hp fun _ e => e
theorem en_methN {pre : List D → Prop} {Sf : List D → D → Prop} {C : Addr} {ns : List Str} {xs : List D} {mt : Str} {E : XK} {ta : TA} {T : List D → Prop} (h : Ev1 m K te Γ (.obj C ns xs)) (hn : mt ∉ ns) (ha : EvA m K ta Γ T) (hp : ∀ ds, T ds → pre (.obj C ns xs :: ds)) (hs : ∀ ds d, T ds → Sf (.obj C ns xs :: ds) d → S d) :
    EvN m K (tMeth C mt (spS K pre Sf) [] E te ta) Γ S := fun σ H e Q q =>
  h σ H e _ fun v d' H1 s r1 rv => by
    subst s
    obtain ⟨a, dx, fs, rfl, hi, hno⟩ := rv.ins
    have i1 := m.inv r1 e.i
    refine ⟨a, dx, fs, rfl, hi, hno mt hn, ha σ H1 (e.mv r1) _ fun vs ds H2 t r2 rs => ?_⟩
    have i2 := m.inv r2 i1
    exact ⟨m.F, .obj C ns xs :: ds, fun a f => m.fa i2 f, .cons (rv.mv (m.keep r2 i1)) (by rw [List.append_nil]; exact rs), hp ds t, fun v d H' sd sm rv => q v d H' (hs ds d t sd) (m.trans r1 (m.trans r2 (m.grow i2 sm))) rv⟩
theorem en_meth {pre : List D → Prop} {f : List D → D} {C : Addr} {ns : List Str} {xs : List D} {mt : Str} {E : XK} {ta : TA} (h : Ev1 m K te Γ (.obj C ns xs)) (hn : mt ∉ ns) (ha : EvA1 m K ta Γ ds) (hp : pre (.obj C ns xs :: ds)) : Ev1 m K (tMeth C mt (spF K pre f) [] E te ta) Γ (f (.obj C ns xs :: ds)) :=
  en_methN h hn ha (fun x e => e ▸ hp) fun x d e s => by rw [e] at s; exact s
/-! own methods behind len, str, in, == -/
theorem c_lenO {pre : List D → Prop} {f : List D → D} {C : Addr} {ns : List Str} {xs : List D} {n : Int} (hp : pre [.obj C ns xs]) (hn : f [.obj C ns xs] = .int n) (hb : 0 ≤ n ∧ n < 2 ^ 63) : Ca1 m K (rLenO C (spF K pre f)) [.obj C ns xs] (.int n) := fun vs H I rs Q q => by
  cases rs with
  | cons rv rs =>
    cases rs
    obtain ⟨a, dx, fs, rfl, ha, _⟩ := rv.ins
    exact ⟨a, dx, fs, rfl, ha, m.F, [.obj C ns xs], fun a f => m.fa I f, .cons rv .nil, hp, fun v d H' sd sm rv => ⟨n, (by rw [sd, hn] at rv; exact rv.intE), hb.1, hb.2, q _ _ H' rfl (m.grow I sm) (.int n)⟩⟩
theorem c_strO {pre : List D → Prop} {f : List D → D} {C : Addr} {ns : List Str} {xs : List D} {n : Str} (hp : pre [.obj C ns xs]) (hn : f [.obj C ns xs] = .str n) : Ca1 m K (rStrO C (spF K pre f)) [.obj C ns xs] (.str n) := fun vs H I rs Q q => by
  cases rs with
  | cons rv rs =>
    cases rs
    obtain ⟨a, dx, fs, rfl, ha, _⟩ := rv.ins
    exact ⟨a, dx, fs, rfl, ha, m.F, [.obj C ns xs], fun a f => m.fa I f, .cons rv .nil, hp, fun v d H' sd sm rv => ⟨n, (by rw [sd, hn] at rv; exact rv.strE), q _ _ H' rfl (m.grow I sm) (.str n)⟩⟩
theorem o_inO {pre : List D → Prop} {f : List D → D} {C : Addr} {ns : List Str} {xs : List D} {x : D} {b : Bool} (hp : pre [.obj C ns xs, x]) (hn : f [.obj C ns xs, x] = .bl b) : Op1 m K (rInO C (spF K pre f)) x (.obj C ns xs) (.bl b) := fun vx vo H I rx rv Q q => by
  obtain ⟨a, dx, fs, rfl, ha, _⟩ := rv.ins
  exact ⟨a, dx, fs, rfl, ha, m.F, [.obj C ns xs, x], fun a f => m.fa I f, .cons rv (.cons rx .nil), hp, fun v d H' sd sm rv => ⟨b, (by rw [sd, hn] at rv; exact rv.blE), q _ _ H' rfl (m.grow I sm) (.bl b)⟩⟩
theorem o_eqO {pre : List D → Prop} {f : List D → D} {C : Addr} {ns : List Str} {xs : List D} {x : D} {b : Bool} (hx : (∃ ns' xs', x = .obj C ns' xs') ∨ ((∃ ts, x = .tup ts) ∧ PySem.W.notFirst K C (.type "tuple") = true)) (hp : pre [.obj C ns xs, x]) (hn : f [.obj C ns xs, x] = .bl b) : Op1 m K (rEqO K C (spF K pre f)) (.obj C ns xs) x (.bl b) := fun vo vx H I rv rx Q q => by
  obtain ⟨a, dx, fs, rfl, ha, _⟩ := rv.ins
  refine ⟨a, dx, fs, rfl, ha, ?_, m.F, [.obj C ns xs, x], fun a f => m.fa I f, .cons rv (.cons rx .nil), hp, fun v d H' sd sm rv => ⟨b, (by rw [sd, hn] at rv; exact rv.blE), q _ _ H' rfl (m.grow I sm) (.bl b)⟩⟩
  rcases hx with ⟨ns', xs', e⟩ | ⟨⟨ts, e⟩, hnf⟩
  · subst e
    obtain ⟨a', dx', fs', rfl, ha', _⟩ := rx.ins
    exact .ins ha'
  · subst e
    obtain ⟨a', vs', rfl, hs, _⟩ := rx.tupE
    exact .tup hs hnf
/-! ### making an instance: its __init__ fills the fields -/
def spI (K : PySem.W.Frag) (C : Addr) (pre : List D → Prop) (ns : List Str) (f : List D → List D) : Sp := fun vs H Q _ => ∃ (F : Addr → Prop) (x dx : Addr) (ws : List V) (ds : List D), vs = .ref x :: ws ∧ H x = some (.ins C dx []) ∧ F x ∧ (∀ a, F a → H a ≠ none) ∧ RpAll K F H ws ds ∧ pre ds ∧
  ∀ fvs H', (∀ a o, a ≠ x → H a = some o → H' a = some o) → H' x = some (.ins C dx (ns.zip fvs)) → ns.length = fvs.length → RpAll K F H' fvs (f ds) → Q .non H'
theorem en_make {C : Addr} {pre : List D → Prop} {ns : List Str} {f : List D → List D} {dvs : List V} {dds : List D} {E : XK} {ta : TA} (h : EvA1 m K ta Γ ds) (hd : ∀ F H, RpAll K F H dvs dds) (hp : pre (ds ++ dds)) : Ev1 m K (tMake C (spI K C pre ns f) dvs E ta) Γ (.obj C ns (f (ds ++ dds))) := fun σ H e Q q =>
  h σ H e _ fun vs ds' H1 s r1 rs => by
    subst s
    intro x dx hx hdx hne
    have i1 := m.inv r1 e.i
    have s1 : Same H1 (upd (upd H1 dx (.own x)) x (.ins C dx [])) := same_chg (same_new hdx) hx
    refine ⟨fun a => m.F a ∨ a = x, x, dx, vs ++ dvs, ds' ++ dds, rfl, upd_same, .inr rfl, fun a f => ?_, ?_, hp, fun fvs H' k hx' hl ra => ⟨rfl, ?_⟩⟩
    · rcases f with f | f
      · cases q1 : H1 a with
        | none => exact absurd q1 (m.fa i1 f)
        | some o => rw [s1 a o q1]; exact fun z => nomatch z
      · rw [f, upd_same]; exact fun z => nomatch z
    · exact Rp.goAll (fun a o n q1 => ⟨fun z => z.elim n fun z => (by rw [z, hx] at q1; cases q1), s1 a o q1⟩) (rs.append (hd _ _))
    · have sm : Same H1 H' := fun a o q1 => k a o (fun z => by rw [z, hx] at q1; cases q1) (s1 a o q1)
      exact q _ _ H' rfl (m.trans r1 (m.grow i1 sm)) (.obj (fun f => m.fa i1 f hx) hx' hl (ra.weak fun a f => .inl f))
/-! ### a def by its body -/
def startG (N : List Str) (ds : List D) : G := ds.map some ++ List.replicate (N.length - ds.length) none
theorem er_start {H : Hp} {vs : List V} (i : m.I H) (ra : RpAll K m.F H vs ds) (N : List Str) : ER m K (startG N ds) (L2.start N vs) H := by
  refine ⟨i, ?_, fun j d h => ?_⟩
  · unfold startG L2.start
    rw [List.length_append, List.length_append, List.length_map, List.length_map, List.length_replicate, List.length_replicate, ra.len]
  · unfold startG at h
    unfold L2.start
    by_cases hj : j < ds.length
    · rw [List.getElem?_append_left (by rw [List.length_map]; exact hj), List.getElem?_map] at h
      cases e : ds[j]? with
      | none => rw [e] at h; cases h
      | some d' =>
        rw [e] at h
        cases h
        obtain ⟨v, h1, h2⟩ := ra.get e
        exact ⟨v, by rw [List.getElem?_append_left (by rw [List.length_map, ra.len]; exact hj), List.getElem?_map, h1]; rfl, h2⟩
    · rw [List.getElem?_append_right (by rw [List.length_map]; omega)] at h
      rw [List.getElem?_replicate] at h
      split at h <;> simp at h
section
variable {P : Program} {w : World} {mg : Str → Option Value} {base : Heap}
theorem fn_pure {x qual : Str} {st : Stmt} {f : Addr} {fd : FuncData} {N ps : List Str} {k : Nat} {pre : List D → Prop} {Sf : List D → D → Prop} (Fu : Fun K x qual st f fd) (Sc : FnScope N ps (defScope st)) (hl : ∀ ds, pre ds → ds.length = ps.length)
    (body : ∀ (cdv : Value) (A : Around) (outer : List Env) (s : Shared) (H : Hp) (E : XK), Room k (A.deeper (PyProof.Rows.envOfC qual (defScope st) s.heap.objs.size f cdv)) →
      ∃ t, PSs (cxOf CX0 P w K mg base N qual (defScope st) f cdv A outer s H E).nox (defBody st) t ∧ ∀ (F : Addr → Prop) (ds : List D), pre ds → SG (pureMo F) K t (startG N ds) { nx := fun _ => Sf ds .non, rt := Sf ds }) :
    FnOk P w K mg base CX0 (k + 1) f fd ps (spS K pre Sf) := by
  refine Fu.ok Sc (fun vs H Q E h => ?_) (fun cdv A outer s H vs Q E hr h => ?_)
  · obtain ⟨F, ds, _, ra, hp, _⟩ := h
    rw [ra.len]
    exact hl ds hp
  · obtain ⟨F, ds, hF, ra, hp, q⟩ := h
    obtain ⟨t, ht, hs⟩ := body cdv A outer s H E hr
    refine ⟨t, ht, hs F ds hp _ H (er_start (m := pureMo F) hF ra N) _ ⟨fun Γ' σ' H' o r _ => q _ _ H' o r .non, fun d v H' o r rv => q v d H' o r rv, fun _ _ _ o => o.elim, fun _ _ _ o => o.elim⟩⟩
end
/-! ### the pouch: a list of three ints that draws -/
def PI (H : Hp) (p : Addr) : Prop := ∃ a b c : Int, H p = some (.lst [.int a, .int b, .int c])
def RP (p : Addr) (H H' : Hp) : Prop := (∀ a o, a ≠ p → H a = some o → H' a = some o) ∧ (PI H p → PI H' p)
theorem PI.ne {H : Hp} {p : Addr} (h : PI H p) : H p ≠ none := by obtain ⟨a, b, c, e⟩ := h; rw [e]; exact fun z => nomatch z
def pouchMo (p : Addr) (F : Addr → Prop) : Mo where
  F := fun a => F a ∨ a = p
  R := RP p
  I := fun H => (∀ a, F a → H a ≠ none) ∧ PI H p
  refl := fun H => ⟨fun _ _ _ e => e, fun z => z⟩
  trans := fun a b => ⟨fun x o n e => b.1 x o n (a.1 x o n e), fun z => b.2 (a.2 z)⟩
  keep := fun r _ a o n e => r.1 a o (fun z => n (.inr z)) e
  grow := fun _ s => ⟨fun a o _ e => s a o e, fun ⟨a, b, c, e⟩ => ⟨a, b, c, s _ _ e⟩⟩
  inv := fun {H H'} r i => ⟨fun a f => by
    by_cases e : a = p
    · rw [e]; exact (r.2 i.2).ne
    · cases q : H a with
      | none => exact absurd q (i.1 a f)
      | some o => (rw [r.1 a o e q]; exact fun z => nomatch z), r.2 i.2⟩
  fa := fun i f => f.elim (fun f => i.1 _ f) fun e => e ▸ i.2.ne
  chg := fun {H H1 q o} i r hq => by
    have hpq : p ≠ q := fun z => i.2.ne (z ▸ hq)
    refine ⟨fun a u n e => by rw [upd_ne (ne_of_none e hq)]; exact r.1 a u n e, fun z => ?_⟩
    obtain ⟨x, y, w, e⟩ := r.2 z
    exact ⟨x, y, w, by rw [upd_ne hpq]; exact e⟩
  had := fun {H H' a} i r n => by
    by_cases e : a = p
    · rw [e]; exact (r.2 i.2).ne
    · cases q : H a with
      | none => exact absurd q n
      | some o => rw [r.1 a o e q]; exact fun z => nomatch z
structure HasP (m : Mo) (p : Addr) : Prop where
  r : ∀ H H', RP p H H' → m.R H H'
  i : ∀ H, m.I H → PI H p
  f : m.F p
theorem HasP.self (p : Addr) (F : Addr → Prop) : HasP (pouchMo p F) p := ⟨fun _ _ r => r, fun _ i => i.2, .inr rfl⟩
theorem HasP.le {m m' : Mo} {p : Addr} (h : HasP m p) (l : m.Le m') : HasP m' p := ⟨fun H H' r => by rw [l.R]; exact h.r H H' r, fun H i => h.i H (l.I H i), l.F p h.f⟩
def spP (K : PySem.W.Frag) (pre : List D → Prop) (S : List D → D → Prop) : Sp := fun vs H Q _ => ∃ (p : Addr) (F : Addr → Prop) (ws : List V) (ds : List D), vs = .ref p :: ws ∧ (∀ a, F a → H a ≠ none) ∧ PI H p ∧ RpAll K (fun a => F a ∨ a = p) H ws ds ∧ pre ds ∧ ∀ v d H', S ds d → RP p H H' → Rp K (fun a => F a ∨ a = p) H' v d → Q v H'
theorem en_pcall {p : Addr} {pre : List D → Prop} {Sf : List D → D → Prop} {E : XK} {ta : TA} {T : List D → Prop} (hp : HasP m p) (h : EvA m K ta Γ T) (hh : ∀ ds, T ds → ∃ es, ds = .adr p :: es ∧ pre es ∧ ∀ d, Sf es d → S d) : EvN m K (tCall (spP K pre Sf) [] E ta) Γ S := fun σ H e Q q =>
  h σ H e _ fun vs ds H1 s r1 rs => by
    obtain ⟨es, rfl, hpre, hs⟩ := hh ds s
    have i1 := m.inv r1 e.i
    cases rs with
    | cons rv rs =>
      obtain rfl := rv.adrE
      refine ⟨p, m.F, _, es, by rw [List.append_nil], fun a f => m.fa i1 f, hp.i H1 i1, Rp.goAll (fun a o n e => ⟨fun z => n (z.elim (fun z => z) fun z => z ▸ hp.f), e⟩) rs, hpre, fun v d H' sd r rv => q v d H' (hs d sd) (m.trans r1 (hp.r _ _ r)) (rv.weak fun a f => .inl f)⟩
theorem en_pcall1 {p : Addr} {pre : List D → Prop} {Sf : List D → D → Prop} {E : XK} {ta : TA} (hp : HasP m p) (h : EvA1 m K ta Γ (.adr p :: ds)) (h1 : pre ds) (h2 : ∀ d, Sf ds d → S d) : EvN m K (tCall (spP K pre Sf) [] E ta) Γ S := en_pcall hp h fun x e => ⟨ds, e, h1, h2⟩
section
variable {P : Program} {w : World} {mg : Str → Option Value} {base : Heap}
theorem fn_pouch {x qual : Str} {st : Stmt} {f : Addr} {fd : FuncData} {N ps : List Str} {k : Nat} {pre : List D → Prop} {Sf : List D → D → Prop} (Fu : Fun K x qual st f fd) (Sc : FnScope N ps (defScope st)) (hl : ∀ ds, pre ds → ds.length + 1 = ps.length)
    (body : ∀ (cdv : Value) (A : Around) (outer : List Env) (s : Shared) (H : Hp) (E : XK), Room k (A.deeper (PyProof.Rows.envOfC qual (defScope st) s.heap.objs.size f cdv)) →
      ∃ t, PSs (cxOf CX0 P w K mg base N qual (defScope st) f cdv A outer s H E).nox (defBody st) t ∧ ∀ (p : Addr) (F : Addr → Prop) (ds : List D), pre ds → SG (pouchMo p F) K t (startG N (.adr p :: ds)) { nx := fun _ => Sf ds .non, rt := Sf ds }) :
    FnOk P w K mg base CX0 (k + 1) f fd ps (spP K pre Sf) := by
  refine Fu.ok Sc (fun vs H Q E h => ?_) (fun cdv A outer s H vs Q E hr h => ?_)
  · obtain ⟨p, F, ws, ds, rfl, _, _, ra, hp, _⟩ := h
    rw [List.length_cons, ra.len]
    exact hl ds hp
  · obtain ⟨p, F, ws, ds, rfl, hF, hpi, ra, hp, q⟩ := h
    obtain ⟨t, ht, hs⟩ := body cdv A outer s H E hr
    exact ⟨t, ht, hs p F ds hp _ H (er_start (m := pouchMo p F) ⟨hF, hpi⟩ (.cons (.adr p) ra) N) _ ⟨fun Γ' σ' H' o r _ => q _ _ H' o r .non, fun d v H' o r rv => q v d H' o r rv, fun _ _ _ o => o.elim, fun _ _ _ o => o.elim⟩⟩
end
/-- a new pouch -/
def EvNew (m : Mo) (K : PySem.W.Frag) (te : TE) (Γ : G) : Prop := ∀ σ H, ER m K Γ σ H → ∀ Q : VK, (∀ p H', H p = none → Same H H' → PI H' p → Q (.ref p) H') → te σ H Q
theorem sq_pouch {i : Nat} {F : Addr → Prop} (h : EvNew (pureMo F) K te Γ) (k : ∀ p, SG (pouchMo p F) K tv (Γ.set i (some (.adr p))) O) : SG (pureMo F) K (tSeq (tAsg te (gName i)) tv) Γ O := fun σ H e E M =>
  h σ H e _ fun p H' hp sm hpi => by
    have iP : (pouchMo p F).I H' := ⟨fun a f => (pureMo F).had e.i sm (e.i a f), hpi⟩
    have eP : ER (pouchMo p F) K Γ σ H' := ⟨iP, e.len, fun i d h => let ⟨v, h1, h2⟩ := e.at_ i d h; ⟨v, h1, h2.go fun a o n x => ⟨fun z => z.elim n fun z => (by rw [z, hp] at x; cases x), sm a o x⟩⟩⟩
    have up : ∀ {H2 : Hp}, RP p H' H2 → Same H H2 := fun r a o x => r.1 a o (fun z => by rw [z, hp] at x; cases x) (sm a o x)
    have down : ∀ {Γ' : G} {σ' : L2.St} {H2 : Hp}, ER (pouchMo p F) K Γ' σ' H2 → ER (pureMo F) K Γ' σ' H2 := fun e2 => ⟨e2.i.1, e2.len, fun i d h => let ⟨v, h1, h2⟩ := e2.at_ i d h; ⟨v, h1, h2.weak fun a f => .inl f⟩⟩
    exact k p _ H' (eP.set i (.adr p)) E ⟨fun Γ' σ' H2 o r e2 => M.nx Γ' σ' H2 o (up r) (down e2), fun d v H2 o r rv => M.rt d v H2 o (up r) (rv.weak fun a f => .inl f), fun Γ' σ' H2 o r e2 => M.bk Γ' σ' H2 o (up r) (down e2), fun Γ' σ' H2 o r e2 => M.ct Γ' σ' H2 o (up r) (down e2)⟩
end
end Tx

set_option Elab.async false
set_option linter.all false
set_option maxRecDepth 100000
set_option maxHeartbeats 1000000
set_option autoImplicit false
/-! Tx: operators for every kind of operand, texts, isinstance -/
namespace Tx
open PySem L2
section
variable {X : Cx}
def rAddU (K : PySem.W.Frag) : R2 := fun x y H Q => (rI0 fun i j => .int (i + j)) x y H Q ∨ rCatA K x y H Q ∨ rCat x y H Q ∨ (∃ i j, x = .str i ∧ y = .str j ∧ i.length + j.length ≤ sizeLine ∧ Q (.str (i ++ j)) H)
theorem op_addU : OpR X (binaryOp .Add) (rAddU X.K) := op_add.or (op_catA.or (op_cat.or op_add_str))
def rMulU (K : PySem.W.Frag) : R2 := fun x y H Q => (rI CMul fun i j => .int (i * j)) x y H Q ∨ (rI CMulW fun i j => .int (i * j)) x y H Q ∨ rRepS K x y H Q
theorem op_mulU : OpR X (binaryOp .Mult) (rMulU X.K) := op_mul.or (op_mulW.or op_repS)
/-- == and != of data | of an own instance -/
def rEqU (K : PySem.W.Frag) (C : Addr) (sp : Sp) : R2 := fun x y H Q => rEqD K x y H Q ∨ rEqO K C sp x y H Q
theorem op_eqU {C f : Addr} {n : Nat} {sp : Sp} (O : Own X C "__eq__" n f sp) (hr : Room n X.A) (hu : X.A.units + 64 < cLine) : OpR X (compareOp .Eq) (rEqU X.K C sp) := (op_eqD hu).or (op_eqO O hr)
def rInU (K : PySem.W.Frag) (C : Addr) (sp : Sp) : R2 := fun x y H Q => rInS K false x y H Q ∨ rInO C sp x y H Q
theorem op_inU {C f : Addr} {n : Nat} {sp : Sp} (O : Own X C "__contains__" n f sp) (hr : Room n X.A) (hu : X.A.units + 65 < cLine) : OpR X (compareOp .In) (rInU X.K C sp) := (op_inS hu).or (op_inO O hr)
theorem callR_or {f : Value} {r r' : List V → Hp → VK → Prop} (h : CallR X f r) (h' : CallR X f r') : CallR X f (fun vs H Q => r vs H Q ∨ r' vs H Q) := by
  intro pins s σ H vs us Q I rr q
  rcases q with q | q
  · exact h pins s σ H vs us Q I rr q
  · exact h' pins s σ H vs us Q I rr q
def rLenS (K : PySem.W.Frag) : List V → Hp → VK → Prop := fun xs H Q => ∃ x n, xs = [x] ∧ LenV K x H n ∧ Q (.int (n : Nat)) H
theorem cr_len : CallR X (.builtin "len") (rLenS X.K) := call_len
def rLenU (K : PySem.W.Frag) (C : Addr) (sp : Sp) : List V → Hp → VK → Prop := fun vs H Q => rLenS K vs H Q ∨ rLenO C sp vs H Q
theorem cr_lenU {C f : Addr} {n : Nat} {sp : Sp} (O : Own X C "__len__" n f sp) (hr : Room (n + 1) X.A) : CallR X (.builtin "len") (rLenU X.K C sp) := callR_or cr_len (cr_lenO O hr)
def rStrI : List V → Hp → VK → Prop := fun xs H Q => ∃ i, xs = [.int i] ∧ i.natAbs.log2 < 1920 ∧ Q (.str (toString i)) H
theorem cr_strI : CallR X (.type "str") rStrI := call_str_int
def rStrU (C : Addr) (sp : Sp) : List V → Hp → VK → Prop := fun vs H Q => rStrI vs H Q ∨ rStrO C sp vs H Q
theorem cr_strU {C f : Addr} {n : Nat} {sp : Sp} (O : Own X C "__str__" n f sp) (hr : Room (n + 2) X.A) : CallR X (.type "str") (rStrU C sp) := callR_or cr_strI (cr_strO O hr)
def rTup (K : PySem.W.Frag) : List V → Hp → VK → Prop := fun xs H Q => ∃ p ys, xs = [V.ref p] ∧ ((SqL K H p ys ∧ ∀ (l : Addr), H l = none → Q (.ref l) (upd H l (.tup ys))) ∨ SqT K H p ys ∧ Q (.ref p) H)
theorem cr_tup : CallR X (.type "tuple") (rTup X.K) := call_tuple_of
def rLst (K : PySem.W.Frag) : List V → Hp → VK → Prop := fun xs H Q => ∃ p ys, xs = [V.ref p] ∧ (SqL K H p ys ∨ SqT K H p ys) ∧ ∀ (l : Addr), H l = none → Q (.ref l) (upd H l (.lst ys))
theorem cr_lst : CallR X (.type "list") (rLst X.K) := call_list_of
def rInt : List V → Hp → VK → Prop := fun xs H Q => (∃ i, xs = [.int i] ∧ Q (.int i) H) ∨ ∃ k, xs = [.bl k] ∧ Q (.int (if k then 1 else 0)) H
theorem cr_int : CallR X (.type "int") rInt := call_int1
def rAbs : List V → Hp → VK → Prop := fun xs H Q => ∃ i, xs = [.int i] ∧ Q (.int (if i < 0 then -i else i)) H
theorem cr_abs : CallR X (.builtin "abs") rAbs := call_abs
def rMaxU (K : PySem.W.Frag) : List V → Hp → VK → Prop := fun vs H Q => (∃ i j, vs = [.int i, .int j] ∧ Q (.int (if j > i then j else i)) H) ∨ rMaxS K vs H Q
theorem cr_maxU (hc : X.calm = true) (hu : X.A.units + 64 < cLine) : CallR X (.builtin "max") (rMaxU X.K) := callR_or (call_max2 hc) (cr_maxS hc hu)
def rMin2 : List V → Hp → VK → Prop := fun vs H Q => ∃ i j, vs = [.int i, .int j] ∧ Q (.int (if j < i then j else i)) H
theorem cr_min2 (hc : X.calm = true) : CallR X (.builtin "min") rMin2 := call_min2 hc
end
section
variable {K : PySem.W.Frag} {m : Mo} {Γ : G} {ta tb te : TE} {d : D} {ds : List D} {S : D → Prop}
theorem o_addI {i j : Int} : Op1 m K (rAddU K) (.int i) (.int j) (.int (i + j)) := fun x y H I rx ry Q q => .inl (o_int (g := fun i j => i + j) x y H I rx ry Q q)
theorem o_addT {as bs : List D} (hl : as.length + bs.length ≤ 100000) : Op1 m K (rAddU K) (.tup as) (.tup bs) (.tup (as ++ bs)) := fun x y H I rx ry Q q => .inr (.inl (o_catT hl x y H I rx ry Q q))
theorem o_addL {as bs : List D} (hl : as.length + bs.length ≤ 100000) : Op1 m K (rAddU K) (.lst as) (.lst bs) (.lst (as ++ bs)) := fun x y H I rx ry Q q => .inr (.inr (.inl (o_catL hl x y H I rx ry Q q)))
theorem o_addS {a b : Str} (hl : a.length + b.length ≤ 100000) : Op1 m K (rAddU K) (.str a) (.str b) (.str (a ++ b)) := fun x y H I rx ry Q q => .inr (.inr (.inr ⟨a, b, rx.strE, ry.strE, Nat.le_trans hl (by decide), q _ _ H rfl (m.refl H) (.str _)⟩))
theorem o_mulI {i j : Int} (hc : CMul i j) : Op1 m K (rMulU K) (.int i) (.int j) (.int (i * j)) := fun x y H I rx ry Q q => .inl (o_intC (g := fun i j => i * j) hc x y H I rx ry Q q)
theorem o_mulW {i j : Int} (hc : CMulW i j) : Op1 m K (rMulU K) (.int i) (.int j) (.int (i * j)) := fun x y H I rx ry Q q => .inr (.inl (o_intC (g := fun i j => i * j) hc x y H I rx ry Q q))
theorem o_mulT {k : Int} (hn : ds ≠ []) (hk : 1 ≤ k ∧ k ≤ 1000) (hl : ds.length ≤ 1000) : Op1 m K (rMulU K) (.tup ds) (.int k) (.tup (List.replicate k.toNat ds).flatten) := fun x y H I rx ry Q q => .inr (.inr (o_repT hn hk hl x y H I rx ry Q q))
theorem o_eqUD {C : Addr} {sp : Sp} {a b : D} (ha : a.plain = true) (hb : b.plain = true) (sa : SeqAt.shaped a.py = true) (sb : SeqAt.shaped b.py = true) : Op1 m K (rEqU K C sp) a b (.bl (PyData.eqv a.py b.py)) := fun x y H I rx ry Q q => .inl (o_eqD ha hb sa sb x y H I rx ry Q q)
theorem o_eqUO {C : Addr} {pre : List D → Prop} {f : List D → D} {ns : List Str} {xs : List D} {x : D} {b : Bool} (hx : (∃ ns' xs', x = .obj C ns' xs') ∨ ((∃ ts, x = .tup ts) ∧ PySem.W.notFirst K C (.type "tuple") = true)) (hp : pre [.obj C ns xs, x]) (hn : f [.obj C ns xs, x] = .bl b) : Op1 m K (rEqU K C (spF K pre f)) (.obj C ns xs) x (.bl b) := fun vx vy H I rx ry Q q => .inr (o_eqO hx hp hn vx vy H I rx ry Q q)
theorem o_inUO {C : Addr} {pre : List D → Prop} {f : List D → D} {ns : List Str} {xs : List D} {x : D} {b : Bool} (hp : pre [.obj C ns xs, x]) (hn : f [.obj C ns xs, x] = .bl b) : Op1 m K (rInU K C (spF K pre f)) x (.obj C ns xs) (.bl b) := fun vx vy H I rx ry Q q => .inr (o_inO hp hn vx vy H I rx ry Q q)
theorem o_inUS {C : Addr} {sp : Sp} {a b : D} (hd : isSeq b ds) (ha : a.plain = true) (hb : D.plains ds = true) (sa : SeqAt.shaped a.py = true) (sb : SeqAt.shaped (.list (D.pys ds)) = true) : Op1 m K (rInU K C sp) a b (.bl ((D.pys ds).any fun z => PyData.eqv z a.py)) := fun x y H I rx ry Q q => .inl (o_inS (neg := false) hd ha hb sa sb x y H I rx ry Q q)
theorem c_lenU {C : Addr} {sp : Sp} {b : D} (hd : isSeq b ds) : Ca1 m K (rLenU K C sp) [b] (.int ds.length) := fun vs H I rs Q q => .inl (c_len hd vs H I rs Q q)
theorem c_lenUO {C : Addr} {pre : List D → Prop} {f : List D → D} {ns : List Str} {xs : List D} {n : Int} (hp : pre [.obj C ns xs]) (hn : f [.obj C ns xs] = .int n) (hb : 0 ≤ n ∧ n < 2 ^ 63) : Ca1 m K (rLenU K C (spF K pre f)) [.obj C ns xs] (.int n) := fun vs H I rs Q q => .inr (c_lenO hp hn hb vs H I rs Q q)
theorem c_strI {i : Int} (h : i.natAbs.log2 < 1920) : Ca1 m K rStrI [.int i] (.str (toString i)) := fun vs H I rs Q q => by
  cases rs with
  | cons rv rs => cases rs; exact ⟨i, by rw [rv.intE], h, q _ _ H rfl (m.refl H) (.str _)⟩
theorem c_strU {C : Addr} {sp : Sp} {i : Int} (h : i.natAbs.log2 < 1920) : Ca1 m K (rStrU C sp) [.int i] (.str (toString i)) := fun vs H I rs Q q => .inl (c_strI (K := K) h vs H I rs Q q)
theorem c_strUO {C : Addr} {pre : List D → Prop} {f : List D → D} {ns : List Str} {xs : List D} {n : Str} (hp : pre [.obj C ns xs]) (hn : f [.obj C ns xs] = .str n) : Ca1 m K (rStrU C (spF K pre f)) [.obj C ns xs] (.str n) := fun vs H I rs Q q => .inr (c_strO hp hn vs H I rs Q q)
theorem c_intI {i : Int} : Ca1 m K rInt [.int i] (.int i) := fun vs H I rs Q q => by
  cases rs with
  | cons rv rs => cases rs; exact .inl ⟨i, by rw [rv.intE], q _ _ H rfl (m.refl H) (.int _)⟩
theorem c_intB {i : Bool} : Ca1 m K rInt [.bl i] (.int (if i then 1 else 0)) := fun vs H I rs Q q => by
  cases rs with
  | cons rv rs => cases rs; exact .inr ⟨i, by rw [rv.blE], q _ _ H rfl (m.refl H) (.int _)⟩
theorem c_abs {i : Int} : Ca1 m K rAbs [.int i] (.int (if i < 0 then -i else i)) := fun vs H I rs Q q => by
  cases rs with
  | cons rv rs => cases rs; exact ⟨i, by rw [rv.intE], q _ _ H rfl (m.refl H) (.int _)⟩
theorem c_max2 {i j : Int} : Ca1 m K (rMaxU K) [.int i, .int j] (.int (if j > i then j else i)) := fun vs H I rs Q q => by
  cases rs with
  | cons rv rs => cases rs with
    | cons rw' rs => cases rs; exact .inl ⟨i, j, by rw [rv.intE, rw'.intE], q _ _ H rfl (m.refl H) (.int _)⟩
theorem c_maxU {b : D} {n : Int} {ns : List Int} (hd : isSeq b ((n :: ns).map D.int)) : Ca1 m K (rMaxU K) [b] (.int (ns.foldl max n)) := fun vs H I rs Q q => .inr (c_max hd vs H I rs Q q)
theorem c_min2 {i j : Int} : Ca1 m K rMin2 [.int i, .int j] (.int (if j < i then j else i)) := fun vs H I rs Q q => by
  cases rs with
  | cons rv rs => cases rs with
    | cons rw' rs => cases rs; exact ⟨i, j, by rw [rv.intE, rw'.intE], q _ _ H rfl (m.refl H) (.int _)⟩
/-! ### is None -/
def isNonD : D → Bool
  | .non => true | _ => false
theorem en_isN (h : Ev1 m K te Γ d) : Ev1 m K (tIsN te) Γ (.bl (isNonD d)) := fun σ H e Q q =>
  h σ H e _ fun v d' H1 s r1 rv => by
    subst s
    have : decide (v = V.non) = isNonD d' := by cases rv <;> simp [isNonD]
    rw [this]
    exact q _ _ H1 rfl r1 (.bl _)
/-! ### isinstance -/
def tyD : D → Option String
  | .non => some "NoneType" | .bl _ => some "bool" | .int _ => some "int" | .str _ => some "str" | .lst _ => some "list" | .tup _ => some "tuple" | .dic => some "dict"
  | _ => none
theorem tyx_of {F : Addr → Prop} {H : Hp} {v : V} {t : String} (r : Rp K F H v d) (h : tyD d = some t) : TyX K H v (.type t) := by
  cases r with
  | non => cases h; exact .base .non
  | bl b => cases h; exact .base (.bl b)
  | int i => cases h; exact .base (.int i)
  | str s => cases h; exact .base (.str s)
  | lst n e t => cases h; exact .base (.lst e)
  | tup n e t =>
    cases h
    rcases e with e | ⟨o, e⟩
    · exact .base (.tup e)
    · exact .fTuple e
  | ktup e t => cases h; obtain ⟨o, its, n, h1, h2, _⟩ := e; exact .kTuple h1 h2
  | obj n e l t => cases h
  | adr a => cases h
  | dic n e => cases h; exact .base (.dK e)
  | dct n e h1 h2 h3 => cases h
  | frl n e t => cases h
  | kfrl e t => cases h
  | ftp n e c e2 t => cases h
theorem en_isi {n t : String} {b : Bool} (h : Ev1 m K te Γ d) (ht : tyD d = some t) (hk : kitB t n = some b) : Ev1 m K (tCB (rIsi K) (tCons te (tCons (tC (.ty n)) tNil))) Γ (.bl b) := fun σ H e Q q =>
  h σ H e _ fun v d' H1 s r1 rv => by
    subst s
    exact ⟨v, .ty n, .type t, .type n, b, rfl, .ty n, tyx_of rv ht, kit_ty hk, q _ _ H1 rfl r1 (.bl _)⟩
/-- an own class -/
theorem en_isiC {C : Addr} {ns : List Str} {xs : List D} (h : Ev1 m K te Γ (.obj C ns xs)) (ic : C8.InsC K C) : Ev1 m K (tCB (rIsi K) (tCons te (tCons (tC (.ref C)) tNil))) Γ (.bl true) := fun σ H e Q q =>
  h σ H e _ fun v d' H1 s r1 rv => by
    subst s
    obtain ⟨a, dx, fs, rfl, ha, _⟩ := rv.ins
    exact ⟨.ref a, .ref C, .ref C, .ref C, true, rfl, .own C, .base (.ins ha ic.cl ic.ha ic.hn ic.htk ic.hm), by unfold PySem.W.kitOne; rw [if_pos (by simp)], q _ _ H1 rfl r1 (.bl _)⟩
theorem en_isiN {C : Addr} {t : String} (h : Ev1 m K te Γ d) (ht : tyD d = some t) (hk : PySem.W.kitOne K (.type t) (.ref C) = some false) : Ev1 m K (tCB (rIsi K) (tCons te (tCons (tC (.ref C)) tNil))) Γ (.bl false) := fun σ H e Q q =>
  h σ H e _ fun v d' H1 s r1 rv => by
    subst s
    exact ⟨v, .ref C, .type t, .ref C, false, rfl, .own C, tyx_of rv ht, hk, q _ _ H1 rfl r1 (.bl _)⟩
/-! ### texts -/
theorem en_fmtI {i : Int} (h : Ev1 m K te Γ (.int i)) (hz : i.natAbs.log2 < 1920) : Ev1 m K (tFmt te) Γ (.str (toString i)) := fun σ H e Q q =>
  h σ H e _ fun v d' H1 s r1 rv => by subst s; exact .inr ⟨i, rv.intE, hz, q _ _ H1 rfl r1 (.str _)⟩
theorem en_fmtS {i : Str} (h : Ev1 m K te Γ (.str i)) (hz : i.length ≤ 100000) : Ev1 m K (tFmt te) Γ (.str i) := fun σ H e Q q =>
  h σ H e _ fun v d' H1 s r1 rv => by subst s; exact .inl ⟨i, rv.strE, Nat.le_trans hz (by decide), q _ _ H1 rfl r1 (.str _)⟩
inductive Js (m : Mo) (K : PySem.W.Frag) (Γ : G) : List TE → Str → Str → Prop
  | nil {acc : Str} : Js m K Γ [] acc acc
  | cons {t : TE} {ts : List TE} {acc y out : Str} : Ev1 m K t Γ (.str y) → (acc ++ y).length ≤ 100000 → Js m K Γ ts (acc ++ y) out → Js m K Γ (t :: ts) acc out
theorem js_run {ts : List TE} {acc out : Str} (j : Js m K Γ ts acc out) : ∀ (σ : L2.St) (H : Hp), ER m K Γ σ H → ∀ Q : Str → Hp → Prop, (∀ H', m.R H H' → Q out H') → tJs ts acc σ H Q := by
  induction j with
  | nil => intro σ H e Q q; exact q H (m.refl H)
  | cons h hl _ ih =>
    intro σ H e Q q
    exact h σ H e _ fun v d' H1 s r1 rv => by subst s; exact ⟨_, rv.strE, Nat.le_trans hl (by decide), ih σ H1 (e.mv r1) Q fun H' r2 => q H' (m.trans r1 r2)⟩
theorem en_js {ts : List TE} {out : Str} (j : Js m K Γ ts Str.empty out) : Ev1 m K (fun σ H Q => tJs ts Str.empty σ H fun out H1 => Q (.str out) H1) Γ (.str out) := fun σ H e Q q => js_run j σ H e _ fun H' r => q _ _ H' rfl r (.str _)
theorem en_join {b : D} {sep : Str} {ys : List Str} (hs : Ev1 m K ta Γ (.str sep)) (h : Ev1 m K te Γ b) (hb : isSeq b (ys.map D.str)) (hl : (ys.map (·.length)).sum + ys.length * sep.length ≤ 16777216) :
    Ev1 m K (tM1 (fun x xs H Q => ∃ a p, ∃ ys : List Str, x = .str a ∧ xs = [.ref p] ∧ (SqL K H p (ys.map V.str) ∨ SqT K H p (ys.map V.str)) ∧ (ys.map (·.length)).sum + ys.length * a.length ≤ 16777216 ∧ Q (.str (Txt.join a ys)) H) ta te) Γ (.str (Txt.join sep ys)) := fun σ H e Q q =>
  hs σ H e _ fun v d' H1 s r1 rv => by
    subst s
    refine ⟨⟨_, rv.strE⟩, h σ H1 (e.mv r1) _ fun w d'' H2 s2 r2 rw' => ?_⟩
    subst s2
    have i2 := m.inv r2 (m.inv r1 e.i)
    obtain ⟨a, vs, rfl, ra, hq⟩ := seq_stands i2 rw' hb
    have ev := ra.strs
    subst ev
    refine ⟨sep, a, ys, rv.strE, rfl, ?_, hl, q _ _ H2 rfl (m.trans r1 r2) (.str _)⟩
    rcases hq with hq | hq
    · exact .inl (hq H2 (m.refl H2))
    · exact .inr (hq H2 (m.refl H2))
/-! ### truth of a sequence as a test -/
theorem et_truth (h : Ev1 m K te Γ d) (hd : isSeq d ds) : EvT1 m K (fun σ H Q => te σ H fun x H' => ∃ k, TruV K x H' k ∧ Q k H') Γ (!ds.isEmpty) := fun σ H e Q q =>
  h σ H e _ fun v d' H1 s r1 rv => by
    subst s
    have i1 := m.inv r1 e.i
    obtain ⟨a, vs, rfl, ra, hq⟩ := seq_stands i1 rv hd
    have em : vs.isEmpty = ds.isEmpty := by cases ra <;> rfl
    refine ⟨!ds.isEmpty, ?_, q _ H1 rfl r1⟩
    rcases hq with hq | hq
    · exact .inl ⟨vs, hq H1 (m.refl H1), by rw [em]⟩
    · exact .inr (.inl ⟨vs, hq H1 (m.refl H1), by rw [em]⟩)
end
end Tx

set_option Elab.async false
set_option linter.all false
set_option maxRecDepth 100000
set_option maxHeartbeats 1000000
set_option autoImplicit false
/-! Tx: isinstance of the built-in classes by data -/
namespace Tx
open PySem L2
theorem hu65 {k : Nat} {A : Around} (hr : Room k A) : A.units + 65 < cLine := by have := hr.un; omega
def okD (d : D) : Bool := (tyD d).isSome
def isIntD : D → Bool | .int _ => true | .bl _ => true | _ => false
def isBoolD : D → Bool | .bl _ => true | _ => false
def isTupD : D → Bool | .tup _ => true | _ => false
def isStrD : D → Bool | .str _ => true | _ => false
section
variable {K : PySem.W.Frag} {m : Mo} {Γ : G} {te : TE} {d : D}
theorem en_isInt (h : Ev1 m K te Γ d) (hd : okD d = true) : Ev1 m K (tCB (rIsi K) (tCons te (tCons (tC (.ty "int")) tNil))) Γ (.bl (isIntD d)) := by
  cases d <;> first
    | exact en_isi (t := "NoneType") (b := false) h rfl (by decide +kernel)
    | exact en_isi (t := "bool") (b := true) h rfl (by decide +kernel)
    | exact en_isi (t := "dict") (b := false) h rfl (by decide +kernel)
    | exact en_isi (t := "int") (b := true) h rfl (by decide +kernel)
    | exact en_isi (t := "list") (b := false) h rfl (by decide +kernel)
    | exact en_isi (t := "str") (b := false) h rfl (by decide +kernel)
    | exact en_isi (t := "tuple") (b := false) h rfl (by decide +kernel)
    | (exact absurd hd (by simp [okD, tyD]))
theorem en_isBool (h : Ev1 m K te Γ d) (hd : okD d = true) : Ev1 m K (tCB (rIsi K) (tCons te (tCons (tC (.ty "bool")) tNil))) Γ (.bl (isBoolD d)) := by
  cases d <;> first
    | exact en_isi (t := "NoneType") (b := false) h rfl (by decide +kernel)
    | exact en_isi (t := "bool") (b := true) h rfl (by decide +kernel)
    | exact en_isi (t := "dict") (b := false) h rfl (by decide +kernel)
    | exact en_isi (t := "int") (b := false) h rfl (by decide +kernel)
    | exact en_isi (t := "list") (b := false) h rfl (by decide +kernel)
    | exact en_isi (t := "str") (b := false) h rfl (by decide +kernel)
    | exact en_isi (t := "tuple") (b := false) h rfl (by decide +kernel)
    | (exact absurd hd (by simp [okD, tyD]))
theorem en_isTup (h : Ev1 m K te Γ d) (hd : okD d = true) : Ev1 m K (tCB (rIsi K) (tCons te (tCons (tC (.ty "tuple")) tNil))) Γ (.bl (isTupD d)) := by
  cases d <;> first
    | exact en_isi (t := "NoneType") (b := false) h rfl (by decide +kernel)
    | exact en_isi (t := "bool") (b := false) h rfl (by decide +kernel)
    | exact en_isi (t := "dict") (b := false) h rfl (by decide +kernel)
    | exact en_isi (t := "int") (b := false) h rfl (by decide +kernel)
    | exact en_isi (t := "list") (b := false) h rfl (by decide +kernel)
    | exact en_isi (t := "str") (b := false) h rfl (by decide +kernel)
    | exact en_isi (t := "tuple") (b := true) h rfl (by decide +kernel)
    | (exact absurd hd (by simp [okD, tyD]))
theorem en_isStr (h : Ev1 m K te Γ d) (hd : okD d = true) : Ev1 m K (tCB (rIsi K) (tCons te (tCons (tC (.ty "str")) tNil))) Γ (.bl (isStrD d)) := by
  cases d <;> first
    | exact en_isi (t := "NoneType") (b := false) h rfl (by decide +kernel)
    | exact en_isi (t := "bool") (b := false) h rfl (by decide +kernel)
    | exact en_isi (t := "dict") (b := false) h rfl (by decide +kernel)
    | exact en_isi (t := "int") (b := false) h rfl (by decide +kernel)
    | exact en_isi (t := "list") (b := false) h rfl (by decide +kernel)
    | exact en_isi (t := "str") (b := true) h rfl (by decide +kernel)
    | exact en_isi (t := "tuple") (b := false) h rfl (by decide +kernel)
    | (exact absurd hd (by simp [okD, tyD]))
end
end Tx

set_option Elab.async false
set_option linter.all false
set_option maxRecDepth 100000
set_option maxHeartbeats 1000000
set_option autoImplicit false
/-! Tx: lists of natural numbers as data -/
namespace Tx
open PySem L2
abbrev dN (k : Nat) : D := .int (k : Int)
abbrev tupN (l : List Nat) : D := .tup (l.map dN)
abbrev lstN (l : List Nat) : D := .lst (l.map dN)
theorem dN_ints (l : List Nat) : l.map dN = (l.map fun k : Nat => (k : Int)).map D.int := by rw [List.map_map]; rfl
theorem plains_dN : ∀ l : List Nat, D.plains (l.map dN) = true
  | [] => rfl
  | k :: l => by simp [D.plains, D.plain, plains_dN l]
theorem pys_dN : ∀ l : List Nat, D.pys (l.map dN) = l.map fun k : Nat => PyData.int (k : Int)
  | [] => rfl
  | k :: l => by simp [D.pys, D.py, pys_dN l]
theorem lay_ints : ∀ l : List Nat, PyData.canLayAll0 (l.map fun k : Nat => PyData.int (k : Int)) = true
  | [] => by simp [PyData.canLayAll0]
  | k :: l => by simp [PyData.canLayAll0, PyData.canLay0, lay_ints l]
theorem dep_ints : ∀ l : List Nat, PyData.depthAll (l.map fun k : Nat => PyData.int (k : Int)) = 0
  | [] => by simp [PyData.depthAll]
  | k :: l => by simp [PyData.depthAll, PyData.depth, dep_ints l]
theorem sh_int (i : Int) : SeqAt.shaped (PyData.int i) = true := by simp [SeqAt.shaped, PyData.canLay0, PyData.depth]
theorem sh_str (i : Str) (h : PyData.strOk i = true) : SeqAt.shaped (PyData.str i) = true := by simp [SeqAt.shaped, PyData.canLay0, PyData.depth, h]
theorem sh_ints (l : List Nat) : SeqAt.shaped (.list (D.pys (l.map dN))) = true := by
  rw [pys_dN]
  simp [SeqAt.shaped, PyData.canLay0, lay_ints, PyData.depth, dep_ints]
theorem any_ints (l : List Nat) (k : Nat) : ((D.pys (l.map dN)).any fun z => PyData.eqv z (dN k).py) = decide (k ∈ l) := by
  rw [pys_dN]
  induction l with
  | nil => simp
  | cons a l ih =>
    rw [List.map_cons, List.any_cons, ih]
    simp only [D.py, PyData.eqv, List.mem_cons]
    by_cases h : a = k
    · subst h; simp
    · have h2 : ¬ k = a := fun z => h z.symm
      have h3 : ((a : Int) == (k : Int)) = false := by simp; omega
      simp [h2, h3]
theorem eqv_int (i j : Int) : PyData.eqv (PyData.int i) (.int j) = (i == j) := by simp [PyData.eqv]
theorem beq_dec (i j : Int) : (i == j) = decide (i = j) := by by_cases h : i = j <;> simp [h]
section
variable {K : PySem.W.Frag} {m : Mo} {Γ : G} {te : TE} {d : D}
theorem o_inN {k : Nat} {l : List Nat} {b : D} (hb : isSeq b (l.map dN)) : Op1 m K (rInS K false) (dN k) b (.bl (decide (k ∈ l))) := by
  have h := o_inS (m := m) (K := K) (neg := false) (a := dN k) hb rfl (plains_dN l) (sh_int _) (sh_ints l)
  rw [any_ints] at h
  exact h
theorem o_niN {k : Nat} {l : List Nat} {b : D} (hb : isSeq b (l.map dN)) : Op1 m K (rInS K true) (dN k) b (.bl (!decide (k ∈ l))) := by
  have h := o_inS (m := m) (K := K) (neg := true) (a := dN k) hb rfl (plains_dN l) (sh_int _) (sh_ints l)
  rw [any_ints] at h
  exact h
theorem o_eqI {i j : Int} : Op1 m K (rEqD K) (.int i) (.int j) (.bl (decide (i = j))) := by
  have h := o_eqD (m := m) (K := K) (a := .int i) (b := .int j) rfl rfl (sh_int _) (sh_int _)
  have e : PyData.eqv (D.int i).py (D.int j).py = decide (i = j) := by simp only [D.py, PyData.eqv]; exact beq_dec i j
  rw [e] at h
  exact h
theorem o_neI {i j : Int} : Op1 m K (rNeD K) (.int i) (.int j) (.bl (!decide (i = j))) := by
  have h := o_neD (m := m) (K := K) (a := .int i) (b := .int j) rfl rfl (sh_int _) (sh_int _)
  have e : PyData.eqv (D.int i).py (D.int j).py = decide (i = j) := by simp only [D.py, PyData.eqv]; exact beq_dec i j
  rw [e] at h
  exact h
theorem rngD_N (n : Nat) : rngD 0 n = (List.range n).map dN := by
  unfold rngD
  exact List.map_congr_left fun i _ => by rw [Int.zero_add]
theorem it_rng {ta : TA} {n : Nat} (h : EvA1 m K ta Γ [dN n]) (hn : n ≤ 100000) : ItD1 m K (iRng1 ta) Γ ((List.range n).map dN) := by
  have := it_rng1 h ⟨by omega, by omega⟩
  rw [rngD_N, Int.toNat_natCast] at this
  exact this
theorem enumD_map {α : Type} [Inhabited α] (g : α → D) (l : List α) : enumD (l.map g) = (List.range l.length).map fun i => .tup [dN i, g (l.getD i default)] := by
  apply List.ext_getElem
  · rw [enumD_len, List.length_map, List.length_map, List.length_range]
  · intro i h1 h2
    rw [enumD_len, List.length_map] at h1
    have e1 : (enumD (l.map g))[i]? = some (.tup [.int (i : Int), g (l.getD i default)]) := enumD_at (by rw [List.getElem?_map, List.getElem?_eq_getElem h1, List.getD_eq_getElem?_getD, List.getElem?_eq_getElem h1]; rfl)
    have e2 : ((List.range l.length).map fun i => D.tup [dN i, g (l.getD i default)])[i]? = some (.tup [.int (i : Int), g (l.getD i default)]) := by rw [List.getElem?_map, List.getElem?_range h1]; rfl
    rw [List.getElem?_eq_getElem (by rw [enumD_len, List.length_map]; exact h1)] at e1
    rw [List.getElem?_eq_getElem (by rw [List.length_map, List.length_range]; exact h1)] at e2
    exact (Option.some.inj e1).trans (Option.some.inj e2).symm
/-! ### a comprehension over a mapped list -/
theorem LcR.fnM {α : Type} {enc : α → D} {t : α → Bool} {f : α → D} {T : D → Bool → Prop} {V : D → D → Prop} : ∀ {xs : List α} {ys : List D}, LcR T V (xs.map enc) ys → (∀ x ∈ xs, ∀ b, T (enc x) b → b = t x) → (∀ x ∈ xs, ∀ y, t x = true → V (enc x) y → y = f x) → ys = (xs.filter t).map f
  | [], ys, a, _, _ => by cases a; rfl
  | x :: xs, ys, a, ht, hf => by
    rw [List.map_cons] at a
    cases a with
    | no h a =>
      have e := ht x List.mem_cons_self _ h
      rw [LcR.fnM a (fun x hx => ht x (List.mem_cons_of_mem _ hx)) fun x hx => hf x (List.mem_cons_of_mem _ hx), List.filter_cons, ← e]
      rfl
    | yes h v a =>
      have e := ht x List.mem_cons_self _ h
      rw [LcR.fnM a (fun x hx => ht x (List.mem_cons_of_mem _ hx)) fun x hx => hf x (List.mem_cons_of_mem _ hx), List.filter_cons, ← e, if_pos rfl, List.map_cons, hf x List.mem_cons_self _ e.symm v]
theorem en_lcM {α : Type} {wi : TI} {g : TG} {tt : TT} {vs : List Nat} {xs : List α} {js : List Nat} (enc : α → D) (t : α → Bool) (f : α → D) (hc : ∀ x ∈ xs, ∀ y ∈ xs, enc x = enc y → x = y) (hj : ∀ j ∈ js, j ∈ vs) (hi : ItD1 m K wi Γ (xs.map enc)) (hu : xs.length ≤ 100000)
    (hs : ∀ m', Mo.Le m m' → ∀ x, x ∈ xs → ∃ Γ2, TgD m' K g (wipeG Γ vs) (enc x) js Γ2 ∧ EvT1 m' K tt Γ2 (t x) ∧ (t x = true → Ev1 m' K te Γ2 (f x))) : Ev1 m K (tLc wi g tt te vs) Γ (.lst ((xs.filter t).map f)) :=
  (en_lc (U := fun x => x = xs.map enc) (T := fun d b => ∃ x ∈ xs, d = enc x ∧ b = t x) (V' := fun d y => ∃ x ∈ xs, d = enc x ∧ y = f x) hj hi (fun x e => by rw [e, List.length_map]; exact hu) fun m' l ds d e hd => by
    subst e
    obtain ⟨x, hx, rfl⟩ := List.mem_map.mp hd
    obtain ⟨Γ2, h1, h2, h3⟩ := hs m' l x hx
    exact ⟨Γ2, h1, h2.mono fun b e => ⟨x, hx, rfl, e⟩, fun ⟨y, hy, e1, e2⟩ => (h3 (by rw [hc x hx y hy e1]; exact e2.symm)).mono fun d e => ⟨x, hx, rfl, e⟩⟩).mono fun r ⟨ds, ys, e1, e2, e3⟩ => by
      subst e1
      rw [e3, e2.fnM (t := t) (f := f) (fun x hx b ⟨y, hy, e1, e2⟩ => by rw [hc x hx y hy e1]; exact e2) fun x hx d _ ⟨y, hy, e1, e2⟩ => by rw [hc x hx y hy e1]; exact e2]
theorem en_lcMA {α : Type} {wi : TI} {g : TG} {vs : List Nat} {xs : List α} {js : List Nat} (enc : α → D) (f : α → D) (hc : ∀ x ∈ xs, ∀ y ∈ xs, enc x = enc y → x = y) (hj : ∀ j ∈ js, j ∈ vs) (hi : ItD1 m K wi Γ (xs.map enc)) (hu : xs.length ≤ 100000)
    (hs : ∀ m', Mo.Le m m' → ∀ x, x ∈ xs → ∃ Γ2, TgD m' K g (wipeG Γ vs) (enc x) js Γ2 ∧ Ev1 m' K te Γ2 (f x)) : Ev1 m K (tLc wi g tYes te vs) Γ (.lst (xs.map f)) :=
  (en_lcM enc (fun _ => true) f hc hj hi hu fun m' l d hd => by
    obtain ⟨Γ2, h1, h2⟩ := hs m' l d hd
    exact ⟨Γ2, h1, et_yes, fun _ => h2⟩).is (by rw [List.filter_eq_self.mpr (fun _ _ => rfl)])
theorem dN_inj {a b : Nat} (h : dN a = dN b) : a = b := by injection h with h; omega
theorem mapN_inj : ∀ {a b : List Nat}, a.map dN = b.map dN → a = b
  | [], [], _ => rfl
  | [], _ :: _, h => by simp at h
  | _ :: _, [], h => by simp at h
  | x :: a, y :: b, h => by
    rw [List.map_cons, List.map_cons] at h
    injection h with h1 h2
    rw [dN_inj h1, mapN_inj h2]
theorem tupN_inj {a b : List Nat} (h : tupN a = tupN b) : a = b := by injection h with h; exact mapN_inj h
end
end Tx

set_option Elab.async false
set_option linter.all false
set_option maxRecDepth 100000
set_option maxHeartbeats 1000000
set_option autoImplicit false
/-! Tx: all and any over comprehensions -/
namespace Tx
open PySem L2
section
variable {K : PySem.W.Frag} {m : Mo} {Γ : G} {te : TE} {d : D}
theorem en_allM {α : Type} {wi : TI} {g : TG} {vs : List Nat} {xs : List α} {js : List Nat} (enc : α → D) (p : α → Bool) (hc : ∀ x ∈ xs, ∀ y ∈ xs, enc x = enc y → x = y) (hj : ∀ j ∈ js, j ∈ vs) (hi : ItD1 m K wi Γ (xs.map enc)) (hu : xs.length ≤ 100000)
    (hs : ∀ m', Mo.Le m m' → ∀ x, x ∈ xs → ∃ Γ2, TgD m' K g (wipeG Γ vs) (enc x) js Γ2 ∧ Ev1 m' K te Γ2 (.bl (p x))) : Ev1 m K (tCB (rAll K) (tCons (tLc wi g tYes te vs) tNil)) Γ (.bl (xs.all p)) := by
  have h := en_lcMA (m := m) (K := K) (Γ := Γ) (te := te) enc (fun x => D.bl (p x)) hc hj hi hu hs
  have e : (xs.map fun x => D.bl (p x)) = (xs.map p).map D.bl := by rw [List.map_map]; rfl
  rw [e] at h
  exact Ev1.is (en_cb1 (ea_cons h ea_nil) c_all) (by rw [List.all_map]; rfl)
theorem en_anyM {α : Type} {wi : TI} {g : TG} {vs : List Nat} {xs : List α} {js : List Nat} (enc : α → D) (p : α → Bool) (hc : ∀ x ∈ xs, ∀ y ∈ xs, enc x = enc y → x = y) (hj : ∀ j ∈ js, j ∈ vs) (hi : ItD1 m K wi Γ (xs.map enc)) (hu : xs.length ≤ 100000)
    (hs : ∀ m', Mo.Le m m' → ∀ x, x ∈ xs → ∃ Γ2, TgD m' K g (wipeG Γ vs) (enc x) js Γ2 ∧ Ev1 m' K te Γ2 (.bl (p x))) : Ev1 m K (tCB (rAnyS K) (tCons (tLc wi g tYes te vs) tNil)) Γ (.bl (xs.any p)) := by
  have h := en_lcMA (m := m) (K := K) (Γ := Γ) (te := te) enc (fun x => D.bl (p x)) hc hj hi hu hs
  have e : (xs.map fun x => D.bl (p x)) = (xs.map p).map D.bl := by rw [List.map_map]; rfl
  rw [e] at h
  exact Ev1.is (en_cb1 (ea_cons h ea_nil) c_any) (by rw [List.any_map]; rfl)
theorem et_truthB {b : Bool} (h : Ev1 m K te Γ (.bl b)) : EvT1 m K (fun σ H Q => te σ H fun x H' => ∃ k, TruV K x H' k ∧ Q k H') Γ b := fun σ H e Q q =>
  h σ H e _ fun v d' H1 s r1 rv => by
    subst s
    exact ⟨b, by rw [rv.blE]; rfl, q _ H1 rfl r1⟩
theorem pairN_inj {g : Nat → D} {a b : Nat} (h : D.tup [dN a, g a] = D.tup [dN b, g b]) : a = b := by
  injection h with h
  injection h with h _
  exact dN_inj h
end
abbrev tTruK (K : PySem.W.Frag) (te : TE) : TT := fun σ H Q => te σ H fun x H' => ∃ k, TruV K x H' k ∧ Q k H'
end Tx

set_option Elab.async false
set_option linter.all false
set_option maxRecDepth 100000
set_option maxHeartbeats 1000000
set_option autoImplicit false
/-! Tx: lengths of texts -/
namespace Tx
open PySem L2
theorem join_len (sep : Str) : ∀ l : List Str, (Str.join sep l).length ≤ (l.map (·.length)).sum + l.length * sep.length
  | [] => by show Str.empty.length ≤ _; exact Nat.zero_le _
  | [x] => by show x.length ≤ _; simp
  | x :: y :: r => by
    show (x ++ sep ++ Str.join sep (y :: r)).length ≤ _
    have h := join_len sep (y :: r)
    rw [Str.length_append, Str.length_append]
    simp only [List.map_cons, List.sum_cons, List.length_cons, Nat.add_mul, Nat.one_mul] at h ⊢
    omega
theorem sum_le {l : List Str} {c : Nat} (h : ∀ x ∈ l, x.length ≤ c) : (l.map (·.length)).sum ≤ l.length * c := by
  induction l with
  | nil => simp
  | cons x l ih =>
    have h1 := h x List.mem_cons_self
    have h2 := ih fun y hy => h y (List.mem_cons_of_mem _ hy)
    simp only [List.map_cons, List.sum_cons, List.length_cons, Nat.add_mul, Nat.one_mul]
    omega
theorem join_le {sep : Str} {l : List Str} {c : Nat} (h : ∀ x ∈ l, x.length ≤ c) : (Txt.join sep l).length ≤ l.length * (c + sep.length) := by
  have e : Txt.join sep l = Str.join sep l := StrLaws.glued_eq_join sep l
  rw [e, Nat.mul_add]
  have := join_len sep l
  have := sum_le h
  omega
/-- the text of a number -/
def tx (n : Nat) : Str := Str.ofString (toString (n : Int))
theorem tx_le {n k : Nat} (hk : 0 < k) (h : n < 10 ^ k) : (tx n).length ≤ k := PyProof.Rows.toString_length_le (by omega) hk (by exact_mod_cast h)
theorem log_le {n : Nat} (h : n < 10 ^ 6) : ((n : Int)).natAbs.log2 < 1920 := by
  have : n.log2 ≤ n := Nat.log2_le_self n
  show (n : Int).natAbs.log2 < 1920
  rw [Int.natAbs_natCast]
  by_cases hz : n = 0
  · subst hz; decide
  · have : n.log2 < 20 := (Nat.log2_lt hz).mpr (Nat.lt_of_lt_of_le h (by decide))
    omega
section
variable {K : PySem.W.Frag} {m : Mo} {Γ : G} {te : TE}
theorem en_fmtN {n : Nat} (h : Ev1 m K te Γ (dN n)) (hz : n < 10 ^ 6) : Ev1 m K (tFmt te) Γ (.str (tx n)) := en_fmtI h (log_le hz)
theorem c_strN {n : Nat} (hz : n < 10 ^ 6) : Ca1 m K rStrI [dN n] (.str (tx n)) := c_strI (log_le hz)
end
end Tx

set_option Elab.async false
set_option linter.all false
set_option maxRecDepth 100000
set_option maxHeartbeats 1000000
set_option autoImplicit false
/-! Tx: comprehensions of two clauses -/
namespace Tx
open PySem L2
section
variable {K : PySem.W.Frag} {m : Mo} {Γ : G} {te : TE} {tt tt1 : TT} {d : D} {ds : List D}
def StK (m : Mo) (H1 H : Hp) : Prop := ∀ a o, ¬ m.F a → H1 a = some o → H a = some o
def ItX (m : Mo) (K : PySem.W.Frag) (wi : TI) (Γ : G) (xs : List D) : Prop := ∀ σ H, ER m K Γ σ H → ∀ Q : It → Hp → Prop, (∀ (J : It) H1, m.R H H1 → (∀ H2, StK m H1 H2 →
  (∀ i, i < xs.length → J.go i H2) ∧ J.stop xs.length H2 ∧ ∀ i x H', i < xs.length → J.yld i H2 x H' → H' = H2 ∧ ∃ d, xs[i]? = some d ∧ Rp K m.F H2 x d) → Q J H1) → wi σ H Q
theorem seq_standsX {H1 : Hp} {v : V} (rv : Rp K m.F H1 v d) (hd : isSeq d ds) : ∃ a vs, v = .ref a ∧ RpAll K m.F H1 vs ds ∧ ((∀ H, StK m H1 H → SqL K H a vs) ∨ (∀ H, StK m H1 H → SqT K H a vs)) := by
  rcases hd with e | e | e
  · subst e
    cases rv with
    | tup n h t => exact ⟨_, _, rfl, t, .inr fun H r => .inl (rd_up h fun o q => r _ o n q)⟩
    | ktup h t => exact ⟨_, _, rfl, t, .inr fun H r => .inr h⟩
  · subst e
    cases rv with
    | lst n h t => exact ⟨_, _, rfl, t, .inl fun H r => SqL.of (r _ _ n h)⟩
  · subst e
    cases rv with
    | frl n h t => exact ⟨_, _, rfl, t, .inl fun H r => .inl (.inr ⟨_, r _ _ n h⟩)⟩
    | kfrl h t => exact ⟨_, _, rfl, t, .inl fun H r => .inr h⟩
theorem itx_seq (h : Ev1 m K te Γ d) (hd : isSeq d ds) : ItX m K (iSeq K te) Γ ds := fun σ H e Q q =>
  h σ H e _ fun v d' H1 s r1 rv => by
    subst s
    obtain ⟨a, vs, rfl, ra, hs⟩ := seq_standsX rv hd
    have hl := ra.len
    have i1 := m.inv r1 e.i
    refine ⟨a, rfl, ?_⟩
    rcases hs with hs | hs
    · refine .inl ⟨⟨vs, hs H1 fun _ _ _ e => e⟩, q _ H1 r1 fun H2 st => ⟨fun i hi => ⟨vs, vs[i], hs H2 st, by simp [hl, hi]⟩, ⟨vs, hs H2 st, by omega⟩, fun i x H' hi y => ?_⟩⟩
      obtain ⟨e, y⟩ := y
      subst e
      obtain ⟨d, hd, rd⟩ := ra.at (y vs (hs H' st))
      exact ⟨rfl, d, hd, rd.go fun a o n e => ⟨n, st a o n e⟩⟩
    · refine .inr ⟨⟨vs, hs H1 fun _ _ _ e => e⟩, q _ H1 r1 fun H2 st => ⟨fun i hi => ⟨vs, vs[i], hs H2 st, by simp [hl, hi]⟩, ⟨vs, hs H2 st, by omega⟩, fun i x H' hi y => ?_⟩⟩
      obtain ⟨e, y⟩ := y
      subst e
      obtain ⟨d, hd, rd⟩ := ra.at (y vs (hs H' st))
      exact ⟨rfl, d, hd, rd.go fun a o n e => ⟨n, st a o n e⟩⟩
theorem take_one {α : Type} {xs : List α} {i : Nat} {d : α} (h : xs[i]? = some d) : xs.take (i + 1) = xs.take i ++ [d] := by rw [List.take_add_one, h]; rfl
/-- [e for g in xs if t for g1 in sub if t1] -/
theorem en_lc2 {wi wi1 : TI} {g g1 : TG} {vs vs1 : List Nat} {xs : List D} {js js1 : List Nat} (t : D → Bool) (sub : D → List D) (t1 : D → D → Bool) (f : D → D → D) (hj : ∀ j ∈ js, j ∈ vs) (hj1 : ∀ j ∈ js1, j ∈ vs1) (hv : ∀ j ∈ vs1, j ∈ vs) (hi : ItD1 m K wi Γ xs) (c : Nat) (hc : ∀ d ∈ xs, (sub d).length ≤ c) (hu : xs.length * c ≤ 100000)
    (hs : ∀ m', Mo.Le m m' → ∀ d, d ∈ xs → ∃ Γ2, TgD m' K g (wipeG Γ vs) d js Γ2 ∧ EvT1 m' K tt Γ2 (t d) ∧ (t d = true → ItX m' K wi1 Γ2 (sub d) ∧ ∀ d1, d1 ∈ sub d → ∃ Γ3, TgD m' K g1 (wipeG Γ2 vs1) d1 js1 Γ3 ∧ EvT1 m' K tt1 Γ3 (t1 d d1) ∧ (t1 d d1 = true → Ev1 m' K te Γ3 (f d d1)))) :
    Ev1 m K (tLc2 wi g tt wi1 g1 tt1 te vs vs1) Γ (.lst ((xs.filter t).flatMap fun d => ((sub d).filter (t1 d)).map (f d))) := fun σ H e Q q => by
  have outL : ∀ zs : List D, (∀ d ∈ zs, d ∈ xs) → ((zs.filter t).flatMap fun d => ((sub d).filter (t1 d)).map (f d)).length ≤ zs.length * c := fun zs => by
    induction zs with
    | nil => intro _; simp
    | cons z zs ih =>
      intro hz
      have h1 := ih fun d hd => hz d (List.mem_cons_of_mem _ hd)
      have h2 := hc z (hz z List.mem_cons_self)
      have h3 := List.length_filter_le (t1 z) (sub z)
      rw [List.filter_cons]
      split
      · rw [List.flatMap_cons, List.length_append, List.length_map, List.length_cons, Nat.add_mul]; omega
      · rw [List.length_cons, Nat.add_mul]; omega
  refine hi σ H e _ fun J zs H1 ht r1 wk => fun Dl hD => ?_
  subst ht
  have e1 := e.mv r1
  have rN : m.R H1 (upd H1 Dl (.lst [])) := m.grow e1.i (same_new hD)
  have nF : ¬ m.F Dl := fun f => m.fa e1.i f hD
  have wkA : ∀ H', m.R H1 H' → (m.ext Dl).I H' → WkD (m.ext Dl) K J H' zs := fun H' r i => wk (m.ext Dl) (m.le_ext Dl) H' i r fun a f n => f.elim (fun f => absurd f n) fun z => z ▸ hD
  refine ⟨fun i k H' => k = zs.length - i ∧ i ≤ zs.length ∧ m.R H1 H' ∧ ∃ acc, H' Dl = some (.lst acc) ∧ RpAll K (m.ext Dl).F H' acc (((zs.take i).filter t).flatMap fun d => ((sub d).filter (t1 d)).map (f d)), ⟨_, rfl, Nat.zero_le _, rN, [], upd_same, .nil⟩, ?_⟩
  rintro i k H' ⟨rfl, hle, r, acc, hacc, ra⟩
  have eX : ER (m.ext Dl) K Γ σ H' := e1.ext hD r (by rw [hacc]; exact fun z => nomatch z)
  have iX := eX.i
  have wkX := wkA H' r iX
  by_cases hlt : i < zs.length
  · refine .inr ⟨wkX.go i H' (m.refl _) hlt, fun H3 => m.R H1 H3 ∧ ∃ acc, H3 Dl = some (.lst acc) ∧ RpAll K (m.ext Dl).F H3 acc (((zs.take (i + 1)).filter t).flatMap fun d => ((sub d).filter (t1 d)).map (f d)), fun H3 q => ⟨zs.length - (i + 1), by omega, rfl, hlt, q⟩, fun x H2 y => ?_⟩
    obtain ⟨r2, d, hd', rx⟩ := wkX.yld i H' x H2 (m.refl _) hlt y
    have hdm := List.mem_of_getElem? hd'
    obtain ⟨Γ2, tg, tst, el⟩ := hs (m.ext Dl) (m.le_ext Dl) d hdm
    have tk := take_one hd'
    have kD : ∀ {Ha Hb : Hp} {ac : List V}, (m.ext Dl).I Ha → m.R Ha Hb → Ha Dl = some (.lst ac) → Hb Dl = some (.lst ac) := fun ia r h => m.keep r ia.1 Dl _ nF h
    refine tg x (wipe σ vs) H2 ((eX.mv r2).wipe vs) rx _ fun σ3 H3 e3 r3 w3 => ⟨by rw [w3 vs hj, wipe_wipe], ?_⟩
    have i2 := (m.ext Dl).inv r2 iX
    refine tst σ3 H3 e3 _ fun b H4 tb' r4 => ?_
    subst tb'
    have i3 := e3.i
    have i4 := (m.ext Dl).inv r4 i3
    have rr := m.trans r2 (m.trans r3 r4)
    cases hb : t d with
    | false =>
      refine ⟨m.trans r rr, acc, kD iX rr hacc, ?_⟩
      rw [tk, List.filter_append, List.filter_cons, hb]
      simpa using ra.mv ((m.ext Dl).keep rr iX)
    | true =>
      obtain ⟨hi1, hin⟩ := el hb
      refine hi1 σ3 H4 (e3.mv r4) _ fun J1 H5 r5 wk1 => ?_
      have i5 := (m.ext Dl).inv r5 i4
      have rr5 := m.trans rr r5
      have e5 := (e3.mv r4).mv r5
      refine ⟨fun j k H' => k = (sub d).length - j ∧ j ≤ (sub d).length ∧ m.R H1 H' ∧ StK (m.ext Dl) H5 H' ∧ ∃ acc, H' Dl = some (.lst acc) ∧ RpAll K (m.ext Dl).F H' acc ((((zs.take i).filter t).flatMap fun d => ((sub d).filter (t1 d)).map (f d)) ++ (((sub d).take j).filter (t1 d)).map (f d)),
        ⟨_, rfl, Nat.zero_le _, m.trans r rr5, fun _ _ _ e => e, acc, kD iX rr5 hacc, by simpa using ra.mv ((m.ext Dl).keep rr5 iX)⟩, ?_⟩
      rintro j k H6 ⟨rfl, hle1, r6, st6, acc6, hacc6, ra6⟩
      obtain ⟨go1, stop1, yld1⟩ := wk1 H6 st6
      have i6 : (m.ext Dl).I H6 := ⟨m.inv r6 e1.i, by rw [hacc6]; exact fun z => nomatch z⟩
      have e6 : ER (m.ext Dl) K Γ2 σ3 H6 := ⟨i6, e5.len, fun i d h => let ⟨v, h1, h2⟩ := e5.at_ i d h; ⟨v, h1, h2.go fun a o n e => ⟨n, st6 a o n e⟩⟩⟩
      by_cases hlt1 : j < (sub d).length
      · refine .inr ⟨go1 j hlt1, fun H7 => m.R H1 H7 ∧ StK (m.ext Dl) H5 H7 ∧ ∃ acc, H7 Dl = some (.lst acc) ∧ RpAll K (m.ext Dl).F H7 acc ((((zs.take i).filter t).flatMap fun d => ((sub d).filter (t1 d)).map (f d)) ++ (((sub d).take (j + 1)).filter (t1 d)).map (f d)), fun H7 q => ⟨(sub d).length - (j + 1), by omega, rfl, hlt1, q⟩, fun x H7 y => ?_⟩
        obtain ⟨e7, d1, hd1, rx1⟩ := yld1 j x H7 hlt1 y
        subst e7
        obtain ⟨Γ3, tg1, tst1, el1⟩ := hin d1 (List.mem_of_getElem? hd1)
        have tk1 := take_one hd1
        refine tg1 x (wipe σ3 vs1) H7 (e6.wipe vs1) rx1 _ fun σ4 H8 e8 r8 w8 => ⟨by rw [w8 vs1 hj1, wipe_wipe], ?_⟩
        refine tst1 σ4 H8 e8 _ fun b H9 tb' r9 => ?_
        subst tb'
        have i8 := e8.i
        have i9 := (m.ext Dl).inv r9 i8
        have r89 := m.trans r8 r9
        have st9 : StK (m.ext Dl) H5 H9 := fun a o n e => (m.ext Dl).keep r89 i6 a o n (st6 a o n e)
        cases hb1 : t1 d d1 with
        | false =>
          refine ⟨m.trans r6 r89, st9, acc6, kD i6 r89 hacc6, ?_⟩
          rw [tk1, List.filter_append, List.filter_cons, hb1]
          simpa using ra6.mv ((m.ext Dl).keep r89 i6)
        | true =>
          refine el1 hb1 σ4 H9 (e8.mv r9) _ fun w dw H10 sv r10 rw' => ?_
          subst sv
          have r10' := m.trans r89 r10
          have hlen : acc6.length < sizeLine := by
            have h1 := ra6.len
            have h2 := outL (zs.take i) fun d hd => List.mem_of_mem_take hd
            have h3 := List.length_filter_le (t1 d) ((sub d).take j)
            rw [List.length_append, List.length_map] at h1
            rw [List.length_take] at h2 h3
            have h4 := hc d hdm
            have h5 : min i zs.length * c + c ≤ zs.length * c := by
              have : (min i zs.length + 1) * c ≤ zs.length * c := Nat.mul_le_mul_right c (by omega)
              rw [Nat.add_mul, Nat.one_mul] at this
              exact this
            exact Nat.lt_of_lt_of_le (show acc6.length < 100001 by omega) (by decide)
          refine ⟨acc6, kD i6 r10' hacc6, hlen, m.chg e1.i (m.trans r6 r10') hD, fun a o n e => ?_, acc6 ++ [w], upd_same, ?_⟩
          · rw [upd_ne (fun z => n (.inr z))]
            exact (m.ext Dl).keep r10' i6 a o n (st6 a o n e)
          · have k5 : ∀ a o, ¬ (m.ext Dl).F a → H10 a = some o → (upd H10 Dl (.lst (acc6 ++ [w]))) a = some o := fun a o n x => by rw [upd_ne (fun z => n (.inr z))]; exact x
            have := (((ra6.mv ((m.ext Dl).keep r10' i6)).append (.cons rw' .nil)).mv k5)
            rw [tk1, List.filter_append, List.filter_cons, hb1, if_pos rfl, List.map_append, ← List.append_assoc]
            exact this
      · have e0 : j = (sub d).length := by omega
        subst e0
        refine .inl ⟨stop1, r6, acc6, hacc6, ?_⟩
        rw [tk, List.filter_append, List.filter_cons, hb, if_pos rfl, List.flatMap_append]
        rw [List.take_length] at ra6
        simpa using ra6
  · have e0 : i = zs.length := by omega
    subst e0
    rw [List.take_length] at ra
    exact .inl ⟨wkX.stop H' (m.refl _), q _ _ H' rfl (m.trans r1 r) (.lst nF hacc (ra.weak fun a f => .inl f))⟩
end
end Tx

set_option Elab.async false
set_option linter.all false
set_option maxRecDepth 100000
set_option maxHeartbeats 1000000
set_option autoImplicit false
/-! Tx: __init__ that fills the fields one by one -/
namespace Tx
open PySem L2
section
variable {K : PySem.W.Frag} {m : Mo} {Γ : G} {te tv : TE} {tt : TT} {ts tw : TS} {d : D} {ds : List D} {F : Addr → Prop} {C x dx : Addr} {ns : List Str} {fvs : List V}
/-- nothing known changes, and the instance at x holds these fields -/
def instMo (F : Addr → Prop) (K : PySem.W.Frag) (x C dx : Addr) (ns : List Str) (fvs : List V) (ds : List D) : Mo where
  F := F
  R := Same
  I := fun H => (∀ a, F a → H a ≠ none) ∧ H x = some (.ins C dx (ns.zip fvs)) ∧ RpAll K F H fvs ds
  refl := Same.refl
  trans := fun a b => a.trans b
  keep := fun r _ a o _ e => r a o e
  grow := fun _ r => r
  inv := fun {H H'} r i => ⟨(pureMo F).inv r i.1, r _ _ i.2.1, i.2.2.mv fun a o _ e => r a o e⟩
  fa := fun i f => i.1 _ f
  chg := fun _ r h => same_chg r h
  had := fun {H H' a} i r n => (pureMo F).had i.1 r n
def SI (F : Addr → Prop) (K : PySem.W.Frag) (x C : Addr) (ts : TS) (Γ : G) (ns : List Str) (ds : List D) (Fin : List Str → List D → Prop) : Prop :=
  ∀ (dx : Addr) (σ : L2.St) (H : Hp) (fvs : List V), ER (pureMo F) K Γ σ H → H x = some (.ins C dx (ns.zip fvs)) → ns.length = fvs.length → RpAll K F H fvs ds →
    ∀ E : Ends, (∀ σ' H' ns' fvs' ds', Fin ns' ds' → (∀ a o, a ≠ x → H a = some o → H' a = some o) → H' x = some (.ins C dx (ns'.zip fvs')) → ns'.length = fvs'.length → RpAll K F H' fvs' ds' → E.nx σ' H') → ts E σ H
theorem putF_new {n : Str} {v : V} : ∀ {ns : List Str} {fvs : List V}, n ∉ ns → ns.length = fvs.length → putF n v (ns.zip fvs) = (ns ++ [n]).zip (fvs ++ [v])
  | [], [], _, _ => rfl
  | [], _ :: _, _, h => by cases h
  | _ :: _, [], _, h => by cases h
  | a :: ns, b :: fvs, hn, hl => by
    show (if a = n then (a, v) :: ns.zip fvs else (a, b) :: putF n v (ns.zip fvs)) = _
    rw [if_neg (fun e : a = n => hn (by rw [e]; exact List.mem_cons_self)), putF_new (fun z => hn (List.mem_cons_of_mem _ z)) (by simpa using hl)]
    rfl
theorem si_fldN {n : Str} {S : D → Prop} {Fin : List Str → List D → Prop} (hF : F x) (h : ∀ dx fvs, EvN (instMo F K x C dx ns fvs ds) K tv Γ S) (h0 : Γ[0]? = some (some (.adr x))) (cl : Cls K C) (na : NoAttr K C n) (hn : n ∉ ns) (hl : ns.length < 500)
    (k : ∀ d, S d → SI F K x C tw Γ (ns ++ [n]) (ds ++ [d]) Fin) : SI F K x C (tSeq (sFld K (tVar 0) tv n) tw) Γ ns ds Fin := fun dx σ H fvs e hx hlen ra E q => by
  have eI : ER (instMo F K x C dx ns fvs ds) K Γ σ H := ⟨⟨e.i, hx, ra⟩, e.len, e.at_⟩
  refine h dx fvs σ H eI _ fun v d H1 sd r1 rv => ?_
  have e1 := eI.mv r1
  obtain ⟨w, h1, h2⟩ := e1.at_ 0 _ h0
  obtain rfl := h2.adrE
  refine ⟨_, h1, ?_⟩
  have hx1 := e1.i.2.1
  refine ⟨x, C, dx, _, rfl, hx1, cl, na, by rw [List.length_zip]; omega, ?_⟩
  rw [putF_new hn hlen]
  have mvx : ∀ a o, ¬ F a → H1 a = some o → (upd H1 x (.ins C dx ((ns ++ [n]).zip (fvs ++ [v])))) a = some o := fun a o n e => by rw [upd_ne (fun z : a = x => n (by rw [z]; exact hF))]; exact e
  refine k d sd dx σ _ (fvs ++ [v]) ⟨fun a f => ?_, e1.len, fun i d h => let ⟨v, h1, h2⟩ := e1.at_ i d h; ⟨v, h1, h2.go fun a o n e => ⟨n, mvx a o n e⟩⟩⟩ upd_same (by rw [List.length_append, List.length_append, hlen]; rfl) (((e1.i.2.2).append (.cons rv .nil)).mv mvx) E fun σ' H' ns' fvs' ds' hf hk => q σ' H' ns' fvs' ds' hf fun a o n e => hk a o n (by rw [upd_ne n]; exact r1 a o e)
  by_cases z : a = x
  · rw [z, upd_same]; exact fun z => nomatch z
  · rw [upd_ne z]; exact e1.i.1 a f
theorem si_fld {n : Str} {Fin : List Str → List D → Prop} (hF : F x) (h : ∀ dx fvs, Ev1 (instMo F K x C dx ns fvs ds) K tv Γ d) (h0 : Γ[0]? = some (some (.adr x))) (cl : Cls K C) (na : NoAttr K C n) (hn : n ∉ ns) (hl : ns.length < 500)
    (k : SI F K x C tw Γ (ns ++ [n]) (ds ++ [d]) Fin) : SI F K x C (tSeq (sFld K (tVar 0) tv n) tw) Γ ns ds Fin := si_fldN hF h h0 cl na hn hl fun _ e => e ▸ k
theorem si_end {Fin : List Str → List D → Prop} (h : Fin ns ds) : SI F K x C tNext Γ ns ds Fin := fun dx σ H fvs e hx hlen ra E q => q σ H ns fvs ds h (fun _ _ _ e => e) hx hlen ra
theorem si_seqNext {Fin : List Str → List D → Prop} (h : SI F K x C (tSeq ts tNext) Γ ns ds Fin) : SI F K x C ts Γ ns ds Fin := fun dx σ H fvs e hx hlen ra E q => h dx σ H fvs e hx hlen ra E q
theorem si_if {Fin : List Str → List D → Prop} (h : EvT1 (pureMo F) K tt Γ false) (k : SI F K x C tw Γ ns ds Fin) : SI F K x C (tSeq (tIfS tt ts tNext) tw) Γ ns ds Fin := fun dx σ H fvs e hx hlen ra E q =>
  h σ H e _ fun b H1 s r1 => by
    subst s
    exact k dx σ H1 fvs (e.mv r1) (r1 _ _ hx) hlen (ra.mv fun a o _ e => r1 a o e) E fun σ' H' ns' fvs' ds' hf hk => q σ' H' ns' fvs' ds' hf fun a o n e => hk a o n (r1 a o e)
/-- the promise of such an __init__ -/
def spIS (K : PySem.W.Frag) (C : Addr) (pre : List D → Prop) (ns : List Str) (S : List D → List D → Prop) : Sp := fun vs H Q _ => ∃ (F : Addr → Prop) (x dx : Addr) (ws : List V) (ds : List D), vs = .ref x :: ws ∧ H x = some (.ins C dx []) ∧ F x ∧ (∀ a, F a → H a ≠ none) ∧ RpAll K F H ws ds ∧ pre ds ∧
  ∀ fvs xs H', S ds xs → (∀ a o, a ≠ x → H a = some o → H' a = some o) → H' x = some (.ins C dx (ns.zip fvs)) → ns.length = fvs.length → RpAll K F H' fvs xs → Q .non H'
theorem en_makeN {C : Addr} {pre : List D → Prop} {ns : List Str} {S : List D → List D → Prop} {dvs : List V} {dds : List D} {E : XK} {ta : TA} (h : EvA1 m K ta Γ ds) (hd : ∀ F H, RpAll K F H dvs dds) (hp : pre (ds ++ dds)) : EvN m K (tMake C (spIS K C pre ns S) dvs E ta) Γ (fun d => ∃ xs, d = .obj C ns xs ∧ S (ds ++ dds) xs) := fun σ H e Q q =>
  h σ H e _ fun vs ds' H1 s r1 rs => by
    subst s
    intro x dx hx hdx hne
    have i1 := m.inv r1 e.i
    have s1 : Same H1 (upd (upd H1 dx (.own x)) x (.ins C dx [])) := same_chg (same_new hdx) hx
    refine ⟨fun a => m.F a ∨ a = x, x, dx, vs ++ dvs, ds' ++ dds, rfl, upd_same, .inr rfl, fun a f => ?_, ?_, hp, fun fvs xs H' hS k hx' hl ra => ⟨rfl, ?_⟩⟩
    · rcases f with f | f
      · cases q1 : H1 a with
        | none => exact absurd q1 (m.fa i1 f)
        | some o => rw [s1 a o q1]; exact fun z => nomatch z
      · rw [f, upd_same]; exact fun z => nomatch z
    · exact Rp.goAll (fun a o n q1 => ⟨fun z => z.elim n fun z => (by rw [z, hx] at q1; cases q1), s1 a o q1⟩) (rs.append (hd _ _))
    · have sm : Same H1 H' := fun a o q1 => k a o (fun z => by rw [z, hx] at q1; cases q1) (s1 a o q1)
      exact q _ _ H' ⟨xs, rfl, hS⟩ (m.trans r1 (m.grow i1 sm)) (.obj (fun f => m.fa i1 f hx) hx' hl (ra.weak fun a f => .inl f))
variable {P : Program} {w : World} {mg : Str → Option Value} {base : Heap}
theorem fn_init {qual : Str} {st : Stmt} {f : Addr} {fd : FuncData} {N ps : List Str} {k : Nat} {nm : Str} {pre : List D → Prop} {S : List D → List D → Prop} {dvs : List V} {kws : List (Str × V)} (Fu : FunD K nm qual (defArgs st) (defBody st) (defScope st) dvs kws f fd) (Sc : FnScope N ps (defScope st)) (hl : ∀ ds, pre ds → ds.length + 1 = ps.length)
    (body : ∀ (cdv : Value) (A : Around) (outer : List Env) (s : Shared) (H : Hp) (E : XK), Room k (A.deeper (PyProof.Rows.envOfC qual (defScope st) s.heap.objs.size f cdv)) →
      ∃ t, PSs (cxOf CX0 P w K mg base N qual (defScope st) f cdv A outer s H E).nox (defBody st) t ∧ ∀ (F : Addr → Prop) (x : Addr) (ds : List D), pre ds → F x → SI F K x C t (startG N (.adr x :: ds)) [] [] fun ns' ds' => ns' = ns ∧ S ds ds') :
    FnOk P w K mg base CX0 (k + 1) f fd ps (spIS K C pre ns S) := by
  refine Fu.ok Sc (fun vs H Q E h => ?_) (fun cdv A outer s H vs Q E hr h => ?_)
  · obtain ⟨F, x, dx, ws, ds, rfl, _, _, _, ra, hp, _⟩ := h
    rw [List.length_cons, ra.len]
    exact hl ds hp
  · obtain ⟨F, x, dx, ws, ds, rfl, hx, hF, hFa, ra, hp, q⟩ := h
    obtain ⟨t, ht, hs⟩ := body cdv A outer s H E hr
    refine ⟨t, ht.nox, ?_⟩
    refine hs F x ds hp hF dx _ H [] (er_start (m := pureMo F) hFa (.cons (.adr x) ra) N) hx rfl .nil _ fun σ' H' ns' fvs' ds' hf hk hx' hl' ra' => ?_
    obtain ⟨rfl, hS⟩ := hf
    exact q fvs' ds' H' hS hk hx' hl' ra'
/-- self.f[i], where self is being made and f holds numbers -/
theorem en_ixSelf {f : Str} {ti : TE} {ms : List Nat} {i : Nat} {m' : Mo} (le : (instMo F K x C dx ns fvs ds).Le m') (hf : (ns.zip ds).lookup f = some (tupN ms)) (hlen : ns.length = ds.length) (h0 : Ev1 m' K te Γ (.adr x)) (cl : Cls K C) (na : NoAttr K C f) (hi : Ev1 m' K ti Γ (dN i)) (hlt : i < ms.length) : Ev1 m' K (tOp (rIx K) (tFld K te f) ti) Γ (dN (ms.getD i 0)) := fun σ H e Q q =>
  h0 σ H e _ fun v d' H1 s r1 rv => by
    subst s
    obtain rfl := rv.adrE
    have i1 := m'.inv r1 e.i
    obtain ⟨_, hx, ra⟩ := le.I H1 i1
    obtain ⟨v, hv, rv⟩ := lookup_zip ra hf
    refine ⟨x, C, dx, _, v, rfl, hx, cl, na, hv, ?_⟩
    refine hi σ H1 (e.mv r1) _ fun w dw H2 s2 r2 rw' => ?_
    subst s2
    have sm : Same H1 H2 := by have := r2; rw [le.R] at this; exact this
    have hq : ∃ a vs, v = .ref a ∧ RpAll K F H1 vs (ms.map dN) ∧ SqT K H2 a vs := by
      cases rv with
      | tup n h t => exact ⟨_, _, rfl, t, .inl (rd_up h fun o q => sm _ o q)⟩
      | ktup h t => exact ⟨_, _, rfl, t, .inr h⟩
    obtain ⟨a, vs, rfl, ra', hq⟩ := hq
    have hl := ra'.len
    have he : vs[i]? = some (.int ((ms.getD i 0 : Nat) : Int)) := by
      obtain ⟨v, h1, h2⟩ := ra'.get (i := i) (d := dN (ms.getD i 0)) (by rw [List.getElem?_map, List.getD_eq_getElem?_getD, List.getElem?_eq_getElem hlt]; rfl)
      rw [h1, h2.intE]
    obtain rfl := rw'.intE
    refine .inr (.inl ⟨a, vs, i, _, rfl, rfl, hq, by unfold atI; rw [Evl.ixN_nat (List.getElem?_eq_some_iff.mp he).1]; exact he, q _ _ H2 rfl (m'.trans r1 r2) (.int _)⟩)
end
end Tx

set_option Elab.async false
set_option linter.all false
set_option maxRecDepth 100000
set_option maxHeartbeats 1000000
set_option autoImplicit false
/-! Tx: plain data of a small depth; properties -/
namespace Tx
open PySem L2
def pur : Nat → D → Bool
  | _, .non => true
  | _, .bl _ => true
  | _, .int _ => true
  | _, .str s => PyData.strOk s
  | n + 1, .tup xs => xs.all (pur n)
  | n + 1, .lst xs => xs.all (pur n)
  | _, _ => false
theorem plains_of : ∀ {xs : List D}, (∀ x ∈ xs, x.plain = true) → D.plains xs = true
  | [], _ => rfl
  | x :: xs, h => by rw [D.plains, h x List.mem_cons_self, plains_of fun y hy => h y (List.mem_cons_of_mem _ hy)]; rfl
theorem pys_map : ∀ xs : List D, D.pys xs = xs.map D.py
  | [] => rfl
  | x :: xs => by rw [D.pys, pys_map xs]; rfl
theorem lays_of : ∀ {xs : List D}, (∀ x ∈ xs, x.py.canLay0 = true) → PyData.canLayAll0 (D.pys xs) = true
  | [], _ => rfl
  | x :: xs, h => by rw [D.pys, PyData.canLayAll0, h x List.mem_cons_self, lays_of fun y hy => h y (List.mem_cons_of_mem _ hy)]; rfl
theorem deps_of {n : Nat} : ∀ {xs : List D}, (∀ x ∈ xs, x.py.depth ≤ n) → PyData.depthAll (D.pys xs) ≤ n
  | [], _ => by simp [D.pys, PyData.depthAll]
  | x :: xs, h => by
    have h1 := h x List.mem_cons_self
    have h2 := deps_of fun y hy => h y (List.mem_cons_of_mem _ hy)
    simp only [D.pys, PyData.depthAll]
    omega
theorem pur_all : ∀ (n : Nat) (d : D), pur n d = true → d.plain = true ∧ d.py.canLay0 = true ∧ d.py.depth ≤ n
  | n, .non, _ => ⟨rfl, rfl, by simp [D.py, PyData.depth]⟩
  | n, .bl _, _ => ⟨rfl, rfl, by simp [D.py, PyData.depth]⟩
  | n, .int _, _ => ⟨rfl, rfl, by simp [D.py, PyData.depth]⟩
  | n, .str s, h => ⟨rfl, by cases n <;> exact h, by simp [D.py, PyData.depth]⟩
  | 0, .tup _, h => by cases h
  | 0, .lst _, h => by cases h
  | n + 1, .tup xs, h => by
    have h := List.all_eq_true.mp (show xs.all (pur n) = true from h)
    refine ⟨plains_of fun x hx => (pur_all n x (h x hx)).1, ?_, ?_⟩
    · simp only [D.py, PyData.canLay0]
      exact lays_of fun x hx => (pur_all n x (h x hx)).2.1
    · simp only [D.py, PyData.depth]
      have := deps_of fun x hx => (pur_all n x (h x hx)).2.2
      omega
  | n + 1, .lst xs, h => by
    have h := List.all_eq_true.mp (show xs.all (pur n) = true from h)
    refine ⟨plains_of fun x hx => (pur_all n x (h x hx)).1, ?_, ?_⟩
    · simp only [D.py, PyData.canLay0]
      exact lays_of fun x hx => (pur_all n x (h x hx)).2.1
    · simp only [D.py, PyData.depth]
      have := deps_of fun x hx => (pur_all n x (h x hx)).2.2
      omega
  | 0, .obj _ _ _, h => by cases h
  | 0, .adr _, h => by cases h
  | 0, .dic, h => by cases h
  | 0, .frl _, h => by cases h
  | 0, .ftp _, h => by cases h
  | 0, .dct _ _ _, h => by cases h
  | _ + 1, .dct _ _ _, h => by cases h
  | _ + 1, .obj _ _ _, h => by cases h
  | _ + 1, .adr _, h => by cases h
  | _ + 1, .dic, h => by cases h
  | _ + 1, .frl _, h => by cases h
  | _ + 1, .ftp _, h => by cases h
theorem pur_shaped {n : Nat} {d : D} (hn : n ≤ 64) (h : pur n d = true) : SeqAt.shaped d.py = true := by
  obtain ⟨_, h1, h2⟩ := pur_all n d h
  unfold SeqAt.shaped
  rw [Bool.and_eq_true]
  exact ⟨h1, decide_eq_true (by omega)⟩
theorem pur_up : ∀ {n k : Nat} {d : D}, n ≤ k → pur n d = true → pur k d = true
  | n, k, .non, _, _ => by cases k <;> rfl
  | n, k, .bl _, _, _ => by cases k <;> rfl
  | n, k, .int _, _, _ => by cases k <;> rfl
  | n, k, .str s, _, h => by cases n <;> cases k <;> exact h
  | 0, _, .tup _, _, h => by cases h
  | 0, _, .lst _, _, h => by cases h
  | n + 1, 0, .tup xs, hk, _ => absurd hk (by omega)
  | n + 1, 0, .lst xs, hk, _ => absurd hk (by omega)
  | n + 1, k + 1, .tup xs, hk, h => List.all_eq_true.mpr fun x hx => pur_up (by omega) (List.all_eq_true.mp (show xs.all (pur n) = true from h) x hx)
  | n + 1, k + 1, .lst xs, hk, h => List.all_eq_true.mpr fun x hx => pur_up (by omega) (List.all_eq_true.mp (show xs.all (pur n) = true from h) x hx)
  | 0, _, .obj _ _ _, _, h => by cases h
  | 0, _, .adr _, _, h => by cases h
  | 0, _, .dic, _, h => by cases h
  | 0, _, .frl _, _, h => by cases h
  | 0, _, .ftp _, _, h => by cases h
  | 0, _, .dct _ _ _, _, h => by cases h
  | _ + 1, _, .dct _ _ _, _, h => by cases h
  | _ + 1, _, .obj _ _ _, _, h => by cases h
  | _ + 1, _, .adr _, _, h => by cases h
  | _ + 1, _, .dic, _, h => by cases h
  | _ + 1, _, .frl _, _, h => by cases h
  | _ + 1, _, .ftp _, _, h => by cases h
theorem pur_N (l : List Nat) : pur 1 (tupN l) = true := List.all_eq_true.mpr fun x hx => by obtain ⟨k, _, rfl⟩ := List.mem_map.mp hx; rfl
theorem pur_lN (l : List Nat) : pur 1 (lstN l) = true := List.all_eq_true.mpr fun x hx => by obtain ⟨k, _, rfl⟩ := List.mem_map.mp hx; rfl
theorem pur_tup {n : Nat} {xs : List D} (h : ∀ x ∈ xs, pur n x = true) : pur (n + 1) (.tup xs) = true := List.all_eq_true.mpr h
theorem pur_lst {n : Nat} {xs : List D} (h : ∀ x ∈ xs, pur n x = true) : pur (n + 1) (.lst xs) = true := List.all_eq_true.mpr h
section
variable {K : PySem.W.Frag} {m : Mo} {Γ : G} {te : TE} {d : D}
theorem o_eqP {n : Nat} {a b : D} (hn : n ≤ 60) (ha : pur n a = true) (hb : pur n b = true) : Op1 m K (rEqD K) a b (.bl (PyData.eqv a.py b.py)) := o_eqD (pur_all n a ha).1 (pur_all n b hb).1 (pur_shaped (by omega) ha) (pur_shaped (by omega) hb)
theorem o_neP {n : Nat} {a b : D} (hn : n ≤ 60) (ha : pur n a = true) (hb : pur n b = true) : Op1 m K (rNeD K) a b (.bl (!PyData.eqv a.py b.py)) := o_neD (pur_all n a ha).1 (pur_all n b hb).1 (pur_shaped (by omega) ha) (pur_shaped (by omega) hb)
theorem eqv_self {n : Nat} {a : D} (ha : pur n a = true) : PyData.eqv a.py a.py = true := SeqAt.eqv_refl _ (pur_all n a ha).2.1
theorem o_eqS {n : Nat} {a : D} (hn : n ≤ 60) (ha : pur n a = true) : Op1 m K (rEqD K) a a (.bl true) := by
  have h := o_eqP (m := m) (K := K) hn ha ha
  rw [eqv_self ha] at h
  exact h
theorem o_neS {n : Nat} {a : D} (hn : n ≤ 60) (ha : pur n a = true) : Op1 m K (rNeD K) a a (.bl false) := by
  have h := o_neP (m := m) (K := K) hn ha ha
  rw [eqv_self ha] at h
  exact h
theorem o_inP {neg : Bool} {n : Nat} {a b : D} {ds : List D} (hn : n ≤ 60) (hb : isSeq b ds) (ha : pur n a = true) (hd : ∀ x ∈ ds, pur n x = true) : Op1 m K (rInS K neg) a b (.bl (if neg then !((D.pys ds).any fun z => PyData.eqv z a.py) else (D.pys ds).any fun z => PyData.eqv z a.py)) :=
  o_inS hb (pur_all n a ha).1 (plains_of fun x hx => (pur_all n x (hd x hx)).1) (pur_shaped (by omega) ha) (by
    have h : pur (n + 1) (.lst ds) = true := pur_lst hd
    exact pur_shaped (n := n + 1) (by omega) h)
end
end Tx
namespace C8
open PySem PySem.Spec PyProof.Rows L2 SX
/-- a property of the class at C -/
structure PrM (P : Program) (w : World) (K : PySem.W.Frag) (mg : Str → Option Value) (base : Heap) (k : Nat) (C : Addr) (f : Str) (sp : Sp) : Prop where
  ex : ∃ (p g : Addr) (fd : FuncData) (ps : List Str), Cls K C ∧ PropOf K C f p g ∧ FnOk P w K mg base CX0 k g fd ps sp ∧ Binds K fd ps []
theorem pe_prM {X : Cx} {k j : Nat} {C : Addr} {f : Str} {sp : Sp} {pos : Pos} {e : Expr} {ta : TE} (c : PrM X.prog X.w X.K X.mg X.base k C f sp) (hr : Room j X.A) (hk : k + 1 ≤ j) (he : PE X e ta) (hab : attributeBase e f X.env (eval e X.env) = eval e X.env := by rfl) : PE X (.Attribute e f pos) (tProp C sp [] E0 ta) := by
  obtain ⟨p, g, fd, ps, c, hp, F, b⟩ := c.ex
  exact pe_prop he c hp F (hr.mono hk) b .nil pass0 hab
end C8

set_option Elab.async false
set_option linter.all false
set_option maxRecDepth 100000
set_option maxHeartbeats 1000000
set_option autoImplicit false
/-! Tx: the pouch that the laws draw from -/
namespace Tx
open PySem L2
def isI (d : D) : Prop := ∃ a : Int, d = .int a
def inI (lo hi : Int) (d : D) : Prop := ∃ a : Int, d = .int a ∧ lo ≤ a ∧ a < hi
theorem inI.isI {lo hi : Int} {d : D} (h : inI lo hi d) : isI d := let ⟨a, e, _⟩ := h; ⟨a, e⟩
section
variable {K : PySem.W.Frag} {m : Mo} {Γ : G} {ta tb te tv : TE} {ts tw : TS} {d : D} {ds : List D} {p : Addr} {O : Out} {S : D → Prop}
theorem OpN.mono {r : R2} {a b : D} {S S' : D → Prop} (h : OpN m K r a b S) (k : ∀ d, S d → S' d) : OpN m K r a b S' := fun x y H I rx ry Q q => h x y H I rx ry Q fun v d H' s => q v d H' (k d s)
theorem CaN.mono {r : List V → Hp → VK → Prop} {S S' : D → Prop} (h : CaN m K r ds S) (k : ∀ d, S d → S' d) : CaN m K r ds S' := fun vs H I rs Q q => h vs H I rs Q fun v d H' s => q v d H' (k d s)
theorem Ev1.n (h : Ev1 m K te Γ d) (s : S d) : EvN m K te Γ S := h.mono fun _ e => e ▸ s
theorem en_modN {n : Int} (ha : EvN m K ta Γ isI) (hb : Ev1 m K tb Γ (.int n)) (hn : 0 < n) : EvN m K (tOp (rI (fun _ j => 0 < j) fun i j => .int (i % j)) ta tb) Γ (inI 0 n) :=
  en_op ha hb fun a b sa sb => by
    obtain ⟨a, rfl⟩ := sa
    subst sb
    exact OpN.mono (o_intC (g := fun i j => i % j) hn) fun d e => ⟨_, e, Int.emod_nonneg _ (by omega), Int.emod_lt_of_pos _ hn⟩
theorem en_fdivN {n : Int} (ha : EvN m K ta Γ isI) (hb : Ev1 m K tb Γ (.int n)) (hn : CDiv 0 n) : EvN m K (tOp (rI CDiv fun i j => .int (i / j)) ta tb) Γ isI :=
  en_op ha hb fun a b sa sb => by
    obtain ⟨a, rfl⟩ := sa
    subst sb
    exact OpN.mono (o_intC (g := fun i j => i / j) hn) fun d e => ⟨_, e⟩
theorem en_addN (ha : EvN m K ta Γ isI) (hb : EvN m K tb Γ isI) : EvN m K (tOp (rAddU K) ta tb) Γ isI :=
  en_op ha hb fun a b sa sb => by
    obtain ⟨a, rfl⟩ := sa
    obtain ⟨b, rfl⟩ := sb
    exact OpN.mono o_addI fun d e => ⟨_, e⟩
theorem en_mulN {A B : D → Prop} (ha : EvN m K ta Γ A) (hb : EvN m K tb Γ B) (h : ∀ a b, A a → B b → ∃ i j, a = .int i ∧ b = .int j ∧ CMul i j) : EvN m K (tOp (rMulU K) ta tb) Γ isI :=
  en_op ha hb fun a b sa sb => by
    obtain ⟨i, j, rfl, rfl, hc⟩ := h a b sa sb
    exact OpN.mono (o_mulI hc) fun d e => ⟨_, e⟩
theorem en_intN (h : EvN m K te Γ S) (k : ∀ d, S d → isI d) : EvN m K (tCB rInt (tCons te tNil)) Γ S :=
  en_cb (T := fun ds => ∃ d, ds = [d] ∧ S d) (ea_consN h (T := fun x => x = []) ea_nil fun d ds s e => ⟨d, by rw [e], s⟩) fun ds ⟨d, e, s⟩ => by
    obtain ⟨i, e2⟩ := k d s
    subst e; subst e2
    exact CaN.mono c_intI fun d e => e ▸ s
/-- pouch[i] -/
theorem en_pIx {i : Int} (hp : HasP m p) (h : Ev1 m K te Γ (.adr p)) (hi : 0 ≤ i ∧ i ≤ 2) : EvN m K (tOp (rIx K) te (tC (.int i))) Γ isI := fun σ H e Q q =>
  h σ H e _ fun v d' H1 s r1 rv => by
    subst s
    obtain rfl := rv.adrE
    obtain ⟨a, b, c, hx⟩ := hp.i H1 (m.inv r1 e.i)
    have : i = 0 ∨ i = 1 ∨ i = 2 := by omega
    rcases this with rfl | rfl | rfl
    · exact .inl ⟨p, _, 0, .int a, rfl, rfl, SqL.of hx, rfl, q _ _ H1 ⟨a, rfl⟩ r1 (.int _)⟩
    · exact .inl ⟨p, _, 1, .int b, rfl, rfl, SqL.of hx, rfl, q _ _ H1 ⟨b, rfl⟩ r1 (.int _)⟩
    · exact .inl ⟨p, _, 2, .int c, rfl, rfl, SqL.of hx, rfl, q _ _ H1 ⟨c, rfl⟩ r1 (.int _)⟩
/-- pouch[i] = e; rest -/
theorem sq_pSet {i : Int} (hp : HasP m p) (hv : EvN m K tv Γ isI) (h : Ev1 m K te Γ (.adr p)) (hi : 0 ≤ i ∧ i ≤ 2) (k : SG m K tw Γ O) : SG m K (tSeq (tAsg tv (gSub te (tC (.int i)) rSetL)) tw) Γ O := fun σ H e E M =>
  hv σ H e _ fun v d H1 s r1 rv => h σ H1 (e.mv r1) _ fun w d' H2 s2 r2 rw' => by
    subst s2
    obtain rfl := rw'.adrE
    obtain ⟨x, rfl⟩ := s
    obtain rfl := rv.intE
    have e2 := (e.mv r1).mv r2
    obtain ⟨a, b, c, hx⟩ := hp.i H2 e2.i
    have go : ∀ a' b' c' : Int, k = k → tw E σ (upd H2 p (.lst [.int a', .int b', .int c'])) := fun a' b' c' _ => by
      have r3 : m.R H2 (upd H2 p (.lst [.int a', .int b', .int c'])) := hp.r _ _ ⟨fun a o n e => by rw [upd_ne n]; exact e, fun _ => ⟨a', b', c', upd_same⟩⟩
      exact k σ _ (e2.mv r3) E (M.mv (m.trans r1 (m.trans r2 r3)))
    have : i = 0 ∨ i = 1 ∨ i = 2 := by omega
    rcases this with rfl | rfl | rfl
    · exact ⟨p, _, 0, 0, rfl, rfl, hx, rfl, go x b c rfl⟩
    · exact ⟨p, _, 1, 1, rfl, rfl, hx, rfl, go a x c rfl⟩
    · exact ⟨p, _, 2, 2, rfl, rfl, hx, rfl, go a b x rfl⟩
/-! a new pouch -/
def spNew (K : PySem.W.Frag) (pre : List Int → Int → Prop) : Sp := fun vs H Q _ => ∃ (F : Addr → Prop) (xs : List Int) (i : Int), RpAll K F H vs [.frl (xs.map D.int), .int i] ∧ pre xs i ∧ ∀ p H', H p = none → Same H H' → PI H' p → Q (.ref p) H'
theorem ints_any {F F' : Addr → Prop} {H : Hp} : ∀ {xs : List Int} {vs : List V}, RpAll K F H vs (xs.map D.int) → RpAll K F' H vs (xs.map D.int)
  | [], _, h => by cases h; exact .nil
  | x :: xs, _, h => by
    cases h with
    | cons r t =>
      obtain rfl := r.intE
      exact .cons (.int _) (ints_any t)
theorem en_newcall {F : Addr → Prop} {pre : List Int → Int → Prop} {E : XK} {ta : TA} {xs : List Int} {i : Int} (h : EvA1 (pureMo F) K ta Γ [.frl (xs.map D.int), .int i]) (hp : pre xs i) : EvNew (pureMo F) K (tCall (spNew K pre) [] E ta) Γ := fun σ H e Q q =>
  h σ H e _ fun vs ds H1 s r1 rs => by
    subst s
    exact ⟨F, xs, i, by rw [List.append_nil]; exact rs, hp, fun p H' hn sm hpi => q p H' (by
      cases z : H p with
      | none => rfl
      | some o => rw [r1 p o z] at hn; cases hn) (r1.trans sm) hpi⟩
variable {P : Program} {w : World} {mg : Str → Option Value} {base : Heap}
theorem fn_new {x qual : Str} {st : Stmt} {f : Addr} {fd : FuncData} {N ps : List Str} {k : Nat} {pre : List Int → Int → Prop} (Fu : Fun K x qual st f fd) (Sc : FnScope N ps (defScope st)) (hl : ps.length = 2)
    (body : ∀ (cdv : Value) (A : Around) (outer : List Env) (s : Shared) (H : Hp) (E : XK), Room k (A.deeper (PyProof.Rows.envOfC qual (defScope st) s.heap.objs.size f cdv)) →
      ∃ t, PSs (cxOf CX0 P w K mg base N qual (defScope st) f cdv A outer s H E).nox (defBody st) t ∧ ∀ (F : Addr → Prop) (xs : List Int) (i : Int), pre xs i → SG (pureMo F) K t (startG N [.frl (xs.map D.int), .int i]) { nx := fun _ => False, rt := fun d => ∃ a b c : Int, d = .lst [.int a, .int b, .int c] }) :
    FnOk P w K mg base CX0 (k + 1) f fd ps (spNew K pre) := by
  refine Fu.ok Sc (fun vs H Q E h => ?_) (fun cdv A outer s H vs Q E hr h => ?_)
  · obtain ⟨F, xs, i, ra, _⟩ := h
    rw [ra.len, hl]
    rfl
  · obtain ⟨F, xs, i, ra, hp, q⟩ := h
    obtain ⟨t, ht, hs⟩ := body cdv A outer s H E hr
    refine ⟨t, ht, ?_⟩
    have ra' : RpAll K (fun a => H a ≠ none ∧ ∀ o vs, H a ≠ some (.frz o (.lst vs))) H vs [.frl (xs.map D.int), .int i] := by
      cases ra with
      | cons r t =>
        refine .cons ?_ ?_
        · cases r with
          | frl n h tt => exact .frl (fun z => z.2 _ _ h) h (ints_any tt)
          | kfrl h tt => exact .kfrl h (ints_any tt)
        · cases t with
          | cons r2 t2 =>
            cases t2
            obtain rfl := r2.intE
            exact .cons (.int _) .nil
    refine hs _ xs i hp _ H (er_start (m := pureMo _) (fun a f => f.1) ra' N) _ ⟨fun _ _ _ o _ _ => o.elim, fun d v H' o r rv => ?_, fun _ _ _ o => o.elim, fun _ _ _ o => o.elim⟩
    obtain ⟨a, b, c, rfl⟩ := o
    cases rv with
    | lst n h t =>
      rename_i p vs'
      have hn : H p = none := by
        cases z : H p with
        | none => rfl
        | some o =>
          have z2 := r p o z
          rw [h] at z2
          refine absurd (⟨fun y => (by rw [z] at y; cases y), fun o' ws y => ?_⟩ : H p ≠ none ∧ ∀ o vs, H p ≠ some (.frz o (.lst vs))) n
          rw [z] at y
          rw [Option.some.inj y] at z2
          cases z2
      refine q p H' hn r ⟨a, b, c, ?_⟩
      cases t with
      | cons r1 t =>
        cases t with
        | cons r2 t =>
          cases t with
          | cons r3 t =>
            cases t
            obtain rfl := r1.intE
            obtain rfl := r2.intE
            obtain rfl := r3.intE
            exact h
end
end Tx

set_option Elab.async false
set_option linter.all false
set_option maxRecDepth 100000
set_option maxHeartbeats 1000000
set_option autoImplicit false
/-! Tx: a list of one's own that grows -/
namespace Tx
open PySem L2
section
variable {K : PySem.W.Frag} {m : Mo} {Γ : G} {ta tb te tv : TE} {tt : TT} {ts tw : TS} {d : D} {ds : List D} {l : Addr} {H0 : Hp}
theorem itx_rng {ta : TA} {n : Nat} (h : EvA1 m K ta Γ [dN n]) (hn : n ≤ 100000) : ItX m K (iRng1 ta) Γ ((List.range n).map dN) := fun σ H e Q q =>
  h σ H e _ fun vs ds H1 s r1 rs => by
    subst s
    cases rs with
    | cons r rs =>
      cases rs
      refine ⟨n, by rw [r.intE], by omega, by omega, q _ H1 r1 fun H2 st => ⟨fun i hi => ?_, ?_, fun i x H' hi y => ?_⟩⟩
      · rw [List.length_map, List.length_range] at hi
        show i < (n : Int).toNat
        omega
      · rw [List.length_map, List.length_range]
        show (n : Int).toNat ≤ n
        omega
      · rw [List.length_map, List.length_range] at hi
        obtain ⟨e, ex⟩ := y
        subst e; subst ex
        exact ⟨rfl, dN i, by rw [List.getElem?_map, List.getElem?_range hi]; rfl, by rw [Int.zero_add]; exact .int _⟩
structure OutO where
  nx : G → List D → Prop
  rt : D → Prop
variable {O O' : OutO}
structure MeetsO (m : Mo) (K : PySem.W.Frag) (l : Addr) (H0 H : Hp) (O : OutO) (E : Ends) : Prop where
  nx : ∀ Γ' ds' σ' H' vs', O.nx Γ' ds' → m.R H0 H' → StK (m.ext l) H H' → ER (m.ext l) K Γ' σ' H' → H' l = some (.lst vs') → RpAll K (m.ext l).F H' vs' ds' → E.nx σ' H'
  rt : ∀ d v H', O.rt d → m.R H0 H' → Rp K m.F H' v d → E.rt v H'
theorem StK.trans {H H1 H2 : Hp} (a : StK m H H1) (b : StK m H1 H2) : StK m H H2 := fun x o n e => b x o n (a x o n e)
theorem MeetsO.mv {H H1 : Hp} {E : Ends} (M : MeetsO m K l H0 H O E) (s : StK (m.ext l) H H1) : MeetsO m K l H0 H1 O E := ⟨fun Γ' ds' σ' H' vs' o r st => M.nx Γ' ds' σ' H' vs' o r (s.trans st), M.rt⟩
/-- a statement, while the list at l is one's own; H0: the heap ahead of it -/
def SGo (m : Mo) (K : PySem.W.Frag) (l : Addr) (H0 : Hp) (ts : TS) (Γ : G) (ds : List D) (O : OutO) : Prop :=
  H0 l = none → m.I H0 → ∀ σ H vs, m.R H0 H → ER (m.ext l) K Γ σ H → H l = some (.lst vs) → RpAll K (m.ext l).F H vs ds → ∀ E : Ends, MeetsO m K l H0 H O E → ts E σ H
theorem nFl (h0 : H0 l = none) (i0 : m.I H0) : ¬ m.F l := fun f => m.fa i0 f h0
/-- what is read sees the list as data -/
theorem er_dis {i : Nat} {σ : L2.St} {H : Hp} {vs : List V} (h0 : H0 l = none) (i0 : m.I H0) (e : ER (m.ext l) K Γ σ H) (hi : Γ[i]? = some (some (.adr l))) (hl : H l = some (.lst vs)) (ra : RpAll K (m.ext l).F H vs ds) : ER m K (Γ.set i (some (.lst ds))) σ H := by
  refine ⟨e.i.1, by rw [List.length_set, e.len], fun j d h => ?_⟩
  by_cases z : i = j
  · subst z
    have hlt : i < Γ.length := (List.getElem?_eq_some_iff.mp hi).1
    rw [List.getElem?_set_self hlt] at h
    injection h with h
    injection h with h
    subst h
    obtain ⟨v, h1, h2⟩ := e.at_ i _ hi
    obtain rfl := h2.adrE
    exact ⟨_, h1, .lst (nFl h0 i0) hl (ra.weak fun a f => .inl f)⟩
  · rw [List.getElem?_set_ne z] at h
    obtain ⟨v, h1, h2⟩ := e.at_ j d h
    exact ⟨v, h1, h2.weak fun a f => .inl f⟩
theorem so_dis {i : Nat} {O : Out} (hi : Γ[i]? = some (some (.adr l))) (k : SG m K ts (Γ.set i (some (.lst ds))) { nx := fun _ => False, rt := O.rt }) : SGo m K l H0 ts Γ ds { nx := fun _ _ => False, rt := O.rt } := fun h0 i0 σ H vs r e hl ra E M =>
  k σ H (er_dis h0 i0 e hi hl ra) E ⟨fun _ _ _ o => o.elim, fun d v H' o r' rv => M.rt d v H' o (m.trans r r') rv, fun _ _ _ o => o.elim, fun _ _ _ o => o.elim⟩
theorem so_next (h : O.nx Γ ds) : SGo m K l H0 tNext Γ ds O := fun h0 i0 σ H vs r e hl ra E M => M.nx _ _ _ _ _ h r (fun _ _ _ e => e) e hl ra
theorem so_seq (N : G → List D → Prop) (h1 : SGo m K l H0 ts Γ ds { O with nx := N }) (h2 : ∀ Γ' ds', N Γ' ds' → SGo m K l H0 tw Γ' ds' O) : SGo m K l H0 (tSeq ts tw) Γ ds O := fun h0 i0 σ H vs r e hl ra E M =>
  h1 h0 i0 σ H vs r e hl ra _ ⟨fun Γ' ds' σ' H' vs' o r' st e' hl' ra' => h2 Γ' ds' o h0 i0 σ' H' vs' r' e' hl' ra' E (M.mv st), M.rt⟩
theorem so_if {i : Nat} {b : Bool} (hi : Γ[i]? = some (some (.adr l))) (h : EvT1 m K tt (Γ.set i (some (.lst ds))) b) (h1 : b = true → SGo m K l H0 ts Γ ds O) (h2 : b = false → SGo m K l H0 tw Γ ds O) : SGo m K l H0 (tIfS tt ts tw) Γ ds O := fun h0 i0 σ H vs r e hl ra E M =>
  h σ H (er_dis h0 i0 e hi hl ra) _ fun b' H1 s r1 => by
    subst s
    have e1 : ER (m.ext l) K Γ σ H1 := e.mv (m := m.ext l) r1
    have hl1 : H1 l = some (.lst vs) := m.keep r1 e.i.1 l _ (nFl h0 i0) hl
    have ra1 : RpAll K (m.ext l).F H1 vs ds := ra.mv ((m.ext l).keep r1 e.i)
    have st1 : StK (m.ext l) H H1 := fun a o n q => (m.ext l).keep r1 e.i a o n q
    cases b' with
    | true => exact h1 rfl h0 i0 σ H1 vs (m.trans r r1) e1 hl1 ra1 E (M.mv st1)
    | false => exact h2 rfl h0 i0 σ H1 vs (m.trans r r1) e1 hl1 ra1 E (M.mv st1)
theorem so_appN {i : Nat} {S : D → Prop} (hi : Γ[i]? = some (some (.adr l))) (h : EvN (m.ext l) K te Γ S) (hz : ds.length ≤ 100000) (k : ∀ d, S d → O.nx Γ (ds ++ [d])) : SGo m K l H0 (tDrop (tBM K "list" rAppend (tVar i) (tCons te tNil))) Γ ds O := fun h0 i0 σ H vs r e hl ra E M => by
  obtain ⟨w, h1, h2⟩ := e.at_ i _ hi
  obtain rfl := h2.adrE
  refine ⟨_, h1, .inl ⟨rfl, vs, SqL.of hl⟩, ?_⟩
  refine h σ H e _ fun v d' H1 s r1 rv => ?_
  have hl1 : H1 l = some (.lst vs) := m.keep r1 e.i.1 l _ (nFl h0 i0) hl
  have ra1 : RpAll K (m.ext l).F H1 vs ds := ra.mv ((m.ext l).keep r1 e.i)
  have e1 := e.mv r1
  refine ⟨l, vs, v, rfl, rfl, hl1, Nat.lt_of_lt_of_le (show vs.length < 100001 by have := ra.len; omega) (by decide), ?_⟩
  have mv : ∀ a o, ¬ (m.ext l).F a → H1 a = some o → (upd H1 l (.lst (vs ++ [v]))) a = some o := fun a o n q => by rw [upd_ne (fun z => n (.inr z))]; exact q
  have rr : m.R H0 (upd H1 l (.lst (vs ++ [v]))) := m.chg i0 (m.trans r r1) h0
  refine M.nx Γ _ σ _ (vs ++ [v]) (k d' s) rr (fun a o n q => mv a o n ((m.ext l).keep r1 e.i a o n q)) ⟨⟨m.inv rr i0, by rw [upd_same]; exact fun z => nomatch z⟩, e1.len, fun j d h => let ⟨v, h1, h2⟩ := e1.at_ j d h; ⟨v, h1, h2.go fun a o n q => ⟨n, mv a o n q⟩⟩⟩ upd_same ((ra1.append (.cons rv .nil)).mv mv)
theorem so_app {i : Nat} (hi : Γ[i]? = some (some (.adr l))) (h : Ev1 (m.ext l) K te Γ d) (hz : ds.length ≤ 100000) (k : O.nx Γ (ds ++ [d])) : SGo m K l H0 (tDrop (tBM K "list" rAppend (tVar i) (tCons te tNil))) Γ ds O := so_appN hi h hz fun _ e => e ▸ k
theorem so_for {wi : TI} {g : TG} {xs : List D} (hi : ItX (m.ext l) K wi Γ xs) (W : Nat → G → List D → Prop) (hw : W 0 Γ ds)
    (hs : ∀ i d Γ' ds', xs[i]? = some d → W i Γ' ds' → ∃ Γ2 js, TgD (m.ext l) K g Γ' d js Γ2 ∧ SGo m K l H0 ts Γ2 ds' { nx := W (i + 1), rt := O.rt }) (hd : ∀ Γ' ds', W xs.length Γ' ds' → O.nx Γ' ds') : SGo m K l H0 (tFor wi g ts) Γ ds O := fun h0 i0 σ H vs r e hl ra E M => by
  refine hi σ H e _ fun J H1 r1 wk => ?_
  have e1 := e.mv r1
  have r01 : m.R H0 H1 := m.trans r r1
  have hl1 : H1 l = some (.lst vs) := m.keep r1 e.i.1 l _ (nFl h0 i0) hl
  have ra1 : RpAll K (m.ext l).F H1 vs ds := ra.mv ((m.ext l).keep r1 e.i)
  refine ⟨fun i k σ' H' => k = xs.length - i ∧ i ≤ xs.length ∧ m.R H0 H' ∧ StK (m.ext l) H1 H' ∧ ∃ Γ' ds' vs', W i Γ' ds' ∧ ER (m.ext l) K Γ' σ' H' ∧ H' l = some (.lst vs') ∧ RpAll K (m.ext l).F H' vs' ds', ⟨_, rfl, Nat.zero_le _, r01, fun _ _ _ e => e, Γ, ds, vs, hw, e1, hl1, ra1⟩, ?_⟩
  rintro i k σ' H' ⟨rfl, hle, r', st, Γ', ds', vs', w, e', hl', ra'⟩
  obtain ⟨go, stop, yld⟩ := wk H' st
  by_cases hlt : i < xs.length
  · refine .inr ⟨go i hlt, fun σ3 H3 => m.R H0 H3 ∧ StK (m.ext l) H1 H3 ∧ ∃ Γ3 ds3 vs3, W (i + 1) Γ3 ds3 ∧ ER (m.ext l) K Γ3 σ3 H3 ∧ H3 l = some (.lst vs3) ∧ RpAll K (m.ext l).F H3 vs3 ds3, fun σ3 H3 q => ⟨xs.length - (i + 1), by omega, rfl, hlt, q⟩, fun x H2 y => ?_⟩
    obtain ⟨e2, d, hd', rx⟩ := yld i x H2 hlt y
    subst e2
    obtain ⟨Γ2, js, tg, body⟩ := hs i d Γ' ds' hd' w
    refine tg x σ' H2 e' rx _ fun σ3 H3 e3 r3 _ => ?_
    have hl3 : H3 l = some (.lst vs') := m.keep r3 e'.i.1 l _ (nFl h0 i0) hl'
    have ra3 : RpAll K (m.ext l).F H3 vs' ds' := ra'.mv ((m.ext l).keep r3 e'.i)
    have st3 : StK (m.ext l) H1 H3 := fun a o n q => (m.ext l).keep r3 e'.i a o n (st a o n q)
    -- the body keeps what stood in H1: by its own promise about every address that is not forbidden
    refine body h0 i0 σ3 H3 vs' (m.trans r' r3) e3 hl3 ra3 _ ⟨fun Γ4 ds4 σ4 H4 vs4 o r4 st4 e4 hl4 ra4 => ⟨r4, st3.trans st4, Γ4, ds4, vs4, o, e4, hl4, ra4⟩, fun d v H4 o r4 rv => M.rt d v H4 o r4 rv⟩
  · have e0 : i = xs.length := by omega
    subst e0
    exact .inl ⟨stop, M.nx Γ' ds' σ' H' vs' (hd Γ' ds' w) r' (fun a o n q => st a o n ((m.ext l).keep r1 e.i a o n q)) e' hl' ra'⟩
/-- x = [e, ..]; rest -/
theorem sq_newL {i : Nat} {ta : TA} {O : Out} (h : EvA1 m K ta Γ ds) (hz : ds.length ≤ 100000) (hb : i < Γ.length) (k : ∀ l H0, SGo m K l H0 tw (Γ.set i (some (.adr l))) ds { nx := fun _ _ => False, rt := O.rt }) : SG m K (tSeq (tAsg (tLst ta) (gName i)) tw) Γ O := fun σ H e E M =>
  h σ H e _ fun vs ds' H1 s r1 rs => ⟨Nat.le_trans (show vs.length ≤ 100000 by have e : ds' = ds := s; have := rs.len; rw [e] at this; omega) (by decide), fun l hl => by
    subst s
    have e1 := e.mv r1
    have rN : m.R H1 (upd H1 l (.lst vs)) := m.grow e1.i (same_new hl)
    have eX : ER (m.ext l) K Γ σ (upd H1 l (.lst vs)) := e1.ext hl rN (by rw [upd_same]; exact fun z => nomatch z)
    have rs' : RpAll K (m.ext l).F (upd H1 l (.lst vs)) vs ds' := Rp.goAll (fun a o n q => ⟨fun z => z.elim n fun z => (by rw [z, hl] at q; cases q), same_new hl a o q⟩) rs
    exact k l H1 hl e1.i _ _ vs rN (eX.set i (.adr l)) upd_same rs' E ⟨fun _ _ _ _ _ o => o.elim, fun d v H' o r rv => M.rt d v H' o (m.trans r1 r) rv⟩⟩
/-- x, y = [], e; rest -/
theorem sq_newL2 {i j : Nat} {te : TE} {S : D → Prop} {O : Out} (h : ∀ l, EvN (m.ext l) K te Γ S) (k : ∀ l H0 d, S d → SGo m K l H0 tw ((Γ.set i (some (.adr l))).set j (some d)) [] { nx := fun _ _ => False, rt := O.rt }) : SG m K (tSeq (tAsg (tTup (tCons (tLst tNil) (tCons te tNil))) (gTup K 2 (gCons (gName i) (gCons (gName j) gNil)))) tw) Γ O := fun σ H e E M =>
  ⟨by decide, fun l hl => by
    have rN : m.R H (upd H l (.lst [])) := m.grow e.i (same_new hl)
    have eX : ER (m.ext l) K Γ σ (upd H l (.lst [])) := e.ext hl rN (by rw [upd_same]; exact fun z => nomatch z)
    refine h l σ _ eX _ fun v d H1 s r1 rv => ?_
    have nF : ¬ m.F l := fun f => m.fa e.i f hl
    have e1 := eX.mv r1
    have hl1 : H1 l = some (.lst []) := m.keep r1 eX.i.1 l _ nF upd_same
    refine ⟨Nat.le_trans (show _ ≤ 2 from Nat.le_refl 2) (by decide), fun t ht => ?_⟩
    have hlt : l ≠ t := fun z => by rw [z, ht] at hl1; cases hl1
    have r2 : m.R H1 (upd H1 t (.tup [.ref l, v])) := m.grow e1.i.1 (same_new ht)
    have e2 := e1.mv (m := m.ext l) r2
    have rr := m.trans rN (m.trans r1 r2)
    refine ⟨t, [.ref l, v], rfl, .inl (.inl upd_same), rfl, _, _, rfl, _, _, rfl, rfl, ?_⟩
    exact k l H d s hl e.i _ _ [] rr ((e2.set i (.adr l)).set j (rv.mv fun a o _ q => same_new ht a o q)) (by rw [upd_ne hlt]; exact hl1) .nil E ⟨fun _ _ _ _ _ o => o.elim, fun d v H' o r rv => M.rt d v H' o r rv⟩⟩
theorem LcR.sub {T : D → Bool → Prop} {P : Nat → Prop} : ∀ {xs : List Nat} {ys : List D}, LcR T (fun x y => y = x) (xs.map dN) ys → (∀ x ∈ xs, T (dN x) true → P x) → ∃ zs : List Nat, zs.Sublist xs ∧ ys = zs.map dN ∧ ∀ z ∈ zs, P z
  | [], _, h, _ => by cases h; exact ⟨[], .slnil, rfl, fun z hz => nomatch hz⟩
  | x :: xs, _, h, k => by
    rw [List.map_cons] at h
    cases h with
    | no t h =>
      obtain ⟨zs, h1, h2, h3⟩ := LcR.sub h fun y hy => k y (List.mem_cons_of_mem _ hy)
      exact ⟨zs, h1.cons _, h2, h3⟩
    | yes t v h =>
      obtain ⟨zs, h1, h2, h3⟩ := LcR.sub h fun y hy => k y (List.mem_cons_of_mem _ hy)
      refine ⟨x :: zs, h1.cons_cons _, by rw [h2, v]; rfl, fun z hz => ?_⟩
      rcases List.mem_cons.mp hz with e | hz
      · rw [e]; exact k x List.mem_cons_self t
      · exact h3 z hz
theorem LcR.nats {V' : D → D → Prop} {P : Nat → Prop} : ∀ {xs ys : List D}, LcR (fun _ b => b = true) V' xs ys → (∀ x ∈ xs, ∀ y, V' x y → ∃ k, y = dN k ∧ P k) → ∃ zs : List Nat, ys = zs.map dN ∧ zs.length = xs.length ∧ ∀ z ∈ zs, P z
  | [], _, h, _ => by cases h; exact ⟨[], rfl, rfl, fun z hz => nomatch hz⟩
  | x :: xs, _, h, k => by
    cases h with
    | no t h => cases t
    | yes t v h =>
      obtain ⟨zs, h1, h2, h3⟩ := LcR.nats h fun y hy => k y (List.mem_cons_of_mem _ hy)
      obtain ⟨n, e, p⟩ := k x List.mem_cons_self _ v
      refine ⟨n :: zs, by rw [h1, e]; rfl, by rw [List.length_cons, h2, List.length_cons], fun z hz => ?_⟩
      rcases List.mem_cons.mp hz with e | hz
      · rw [e]; exact p
      · exact h3 z hz
theorem sq_asgT {g : TG} {S : D → Prop} {O : Out} {tw : TS} (h : EvN m K te Γ S) (k : ∀ d, S d → ∃ js Γ2, TgD m K g Γ d js Γ2 ∧ SG m K tw Γ2 O) : SG m K (tSeq (tAsg te g) tw) Γ O := fun σ H e E M =>
  h σ H e _ fun v d H1 s r1 rv => by
    obtain ⟨js, Γ2, tg, hk⟩ := k d s
    exact tg v σ H1 (e.mv r1) rv _ fun σ2 H2 e2 r2 _ => hk σ2 H2 e2 E (M.mv (m.trans r1 r2))
end
end Tx

set_option Elab.async false
set_option linter.all false
set_option maxRecDepth 100000
set_option maxHeartbeats 1000000
set_option autoImplicit false
/-! Tx: own methods behind len, str, in, ==, by a relation -/
namespace Tx
open PySem PySem.Spec PyProof.Rows L2
structure OwnK (P : Program) (w : World) (K : PySem.W.Frag) (mg : Str → Option Value) (base : Heap) (C : Addr) (nm : Str) (n : Nat) (sp : Sp) : Prop where
  ex : ∃ f, PySem.W.findIn K (.ref C) nm = some (some (.ref f)) ∧ PySem.W.isFn K (.ref f) = true ∧ ∃ fd ps, FnOk P w K mg base CX0 n f fd ps sp ∧ Binds K fd ps []
section
variable {X : Cx} {C : Addr} {n k : Nat} {sp : Sp}
theorem cr_lenK (O : OwnK X.prog X.w X.K X.mg X.base C "__len__" n sp) (hr : Room k X.A) (hk : n + 1 ≤ k) : CallR X (.builtin "len") (rLenU X.K C sp) := by
  obtain ⟨f, h1, h2, h3⟩ := O.ex
  exact cr_lenU (f := f) ⟨h1, h2, h3⟩ (hr.mono hk)
theorem cr_strK (O : OwnK X.prog X.w X.K X.mg X.base C "__str__" n sp) (hr : Room k X.A) (hk : n + 2 ≤ k) : CallR X (.type "str") (rStrU C sp) := by
  obtain ⟨f, h1, h2, h3⟩ := O.ex
  exact cr_strU (f := f) ⟨h1, h2, h3⟩ (hr.mono hk)
theorem op_inK (O : OwnK X.prog X.w X.K X.mg X.base C "__contains__" n sp) (hr : Room k X.A) (hk : n ≤ k) (hu : X.A.units + 65 < cLine) : OpR X (compareOp .In) (rInU X.K C sp) := by
  obtain ⟨f, h1, h2, h3⟩ := O.ex
  exact op_inU (f := f) ⟨h1, h2, h3⟩ (hr.mono hk) hu
theorem op_eqK (O : OwnK X.prog X.w X.K X.mg X.base C "__eq__" n sp) (hr : Room k X.A) (hk : n ≤ k) (hu : X.A.units + 64 < cLine) : OpR X (compareOp .Eq) (rEqU X.K C sp) := by
  obtain ⟨f, h1, h2, h3⟩ := O.ex
  exact op_eqU (f := f) ⟨h1, h2, h3⟩ (hr.mono hk) hu
end
section
variable {K : PySem.W.Frag} {m : Mo} {Γ : G} {C : Addr} {ns : List Str} {xs : List D} {x : D} {pre : List D → Prop} {Sf : List D → D → Prop}
theorem c_lenOS {n : Int} (hp : pre [.obj C ns xs]) (hn : ∀ d, Sf [.obj C ns xs] d → d = .int n) (hb : 0 ≤ n ∧ n < 2 ^ 63) : Ca1 m K (rLenU K C (spS K pre Sf)) [.obj C ns xs] (.int n) := fun vs H I rs Q q => by
  cases rs with
  | cons rv rs =>
    cases rs
    obtain ⟨a, dx, fs, rfl, ha, _⟩ := rv.ins
    exact .inr ⟨a, dx, fs, rfl, ha, m.F, [.obj C ns xs], fun a f => m.fa I f, .cons rv .nil, hp, fun v d H' sd sm rv => ⟨n, (by rw [hn d sd] at rv; exact rv.intE), hb.1, hb.2, q _ _ H' rfl (m.grow I sm) (.int n)⟩⟩
theorem c_strOS {n : Str} (hp : pre [.obj C ns xs]) (hn : ∀ d, Sf [.obj C ns xs] d → d = .str n) : Ca1 m K (rStrU C (spS K pre Sf)) [.obj C ns xs] (.str n) := fun vs H I rs Q q => by
  cases rs with
  | cons rv rs =>
    cases rs
    obtain ⟨a, dx, fs, rfl, ha, _⟩ := rv.ins
    exact .inr ⟨a, dx, fs, rfl, ha, m.F, [.obj C ns xs], fun a f => m.fa I f, .cons rv .nil, hp, fun v d H' sd sm rv => ⟨n, (by rw [hn d sd] at rv; exact rv.strE), q _ _ H' rfl (m.grow I sm) (.str n)⟩⟩
theorem o_inOS {b : Bool} (hp : pre [.obj C ns xs, x]) (hn : ∀ d, Sf [.obj C ns xs, x] d → d = .bl b) : Op1 m K (rInU K C (spS K pre Sf)) x (.obj C ns xs) (.bl b) := fun vx vo H I rx rv Q q => by
  obtain ⟨a, dx, fs, rfl, ha, _⟩ := rv.ins
  exact .inr ⟨a, dx, fs, rfl, ha, m.F, [.obj C ns xs, x], fun a f => m.fa I f, .cons rv (.cons rx .nil), hp, fun v d H' sd sm rv => ⟨b, (by rw [hn d sd] at rv; exact rv.blE), q _ _ H' rfl (m.grow I sm) (.bl b)⟩⟩
theorem o_eqOS {b : Bool} (hx : (∃ ns' xs', x = .obj C ns' xs') ∨ ((∃ ts, x = .tup ts) ∧ PySem.W.notFirst K C (.type "tuple") = true)) (hp : pre [.obj C ns xs, x]) (hn : ∀ d, Sf [.obj C ns xs, x] d → d = .bl b) : Op1 m K (rEqU K C (spS K pre Sf)) (.obj C ns xs) x (.bl b) := fun vo vx H I rv rx Q q => by
  obtain ⟨a, dx, fs, rfl, ha, _⟩ := rv.ins
  refine .inr ⟨a, dx, fs, rfl, ha, ?_, m.F, [.obj C ns xs, x], fun a f => m.fa I f, .cons rv (.cons rx .nil), hp, fun v d H' sd sm rv => ⟨b, (by rw [hn d sd] at rv; exact rv.blE), q _ _ H' rfl (m.grow I sm) (.bl b)⟩⟩
  rcases hx with ⟨ns', xs', e⟩ | ⟨⟨ts, e⟩, hnf⟩
  · subst e
    obtain ⟨a', dx', fs', rfl, ha', _⟩ := rx.ins
    exact .ins ha'
  · subst e
    obtain ⟨a', vs', rfl, hs, _⟩ := rx.tupE
    exact .tup hs hnf
end
end Tx
namespace Tx
open PySem L2
section
variable {K : PySem.W.Frag} {m : Mo} {Γ : G} {te : TE} {d : D}
theorem en_neg {i : Int} (h : Ev1 m K te Γ (.int i)) : Ev1 m K (tUn (rU fun i => .int (-i)) te) Γ (.int (-i)) := fun σ H e Q q =>
  h σ H e _ fun v d' H1 s r1 rv => by
    subst s
    exact ⟨i, rv.intE, q _ _ H1 rfl r1 (.int _)⟩
theorem en_dic : Ev1 m K tDNewK Γ .dic := fun σ H e Q q => fun p hp => q _ _ _ rfl (m.grow e.i (same_new hp)) (.dic (fun f => m.fa e.i f hp) upd_same)
end
theorem maxI_pos : ∀ (ns : List Int) (n : Int), (ns.foldl max n > 0) ↔ (n > 0 ∨ ∃ x ∈ ns, x > 0)
  | [], n => by simp
  | a :: ns, n => by
    rw [List.foldl_cons, maxI_pos ns (max n a)]
    simp only [List.mem_cons, exists_eq_or_imp]
    constructor
    · rintro (h | h)
      · by_cases q : n > 0
        · exact .inl q
        · exact .inr (.inl (by omega))
      · exact .inr (.inr h)
    · rintro (h | h | h)
      · exact .inl (by omega)
      · exact .inl (by omega)
      · exact .inr h
theorem maxN_any {ms : List Nat} (h : ms ≠ []) : ∃ (n : Int) (ns : List Int), ms.map (fun k : Nat => (k : Int)) = n :: ns ∧ decide (ns.foldl max n > 0) = ms.any (· != 0) := by
  cases ms with
  | nil => exact absurd rfl h
  | cons a ms =>
    refine ⟨a, ms.map fun k : Nat => (k : Int), rfl, ?_⟩
    by_cases q : (ms.map fun k : Nat => (k : Int)).foldl max (a : Int) > 0
    · rw [decide_eq_true q]
      rcases (maxI_pos _ _).mp q with h | ⟨x, hx, h⟩
      · have : (a != 0) = true := bne_iff_ne.mpr (by omega)
        rw [List.any_cons, this, Bool.true_or]
      · obtain ⟨k, hk, rfl⟩ := List.mem_map.mp hx
        have : ms.any (· != 0) = true := List.any_eq_true.mpr ⟨k, hk, bne_iff_ne.mpr (by omega)⟩
        rw [List.any_cons, this, Bool.or_true]
    · rw [decide_eq_false q]
      symm
      rw [List.any_eq_false]
      intro x hx z
      have z := bne_iff_ne.mp z
      refine q ((maxI_pos _ _).mpr ?_)
      rcases List.mem_cons.mp hx with e | hx
      · exact .inl (by omega)
      · exact .inr ⟨x, List.mem_map.mpr ⟨x, hx, rfl⟩, by omega⟩
end Tx
namespace Tx
open PySem L2
theorem ok_ofString (s : String) : PyData.strOk (Str.ofString s) = true := by
  unfold PyData.strOk
  rw [Str.ofString_eq_toList]
  rw [Array.all_eq_true']
  intro c hc
  simp only [List.mem_toArray, List.mem_map] at hc
  obtain ⟨ch, _, rfl⟩ := hc
  have := ch.valid
  refine decide_eq_true ?_
  show ch.val.toNat < 0x110000
  rcases this with h | ⟨_, h⟩
  · exact Nat.lt_trans h (by decide)
  · exact h
theorem ok_app {a b : Str} (ha : PyData.strOk a = true) (hb : PyData.strOk b = true) : PyData.strOk (a ++ b) = true := by
  unfold PyData.strOk at *
  rw [Str.cps_append, Array.all_append, ha, hb]
  rfl
theorem ok_empty : PyData.strOk Str.empty = true := by decide +kernel
theorem ok_tx (n : Nat) : PyData.strOk (tx n) = true := ok_ofString _
theorem ok_join {sep : Str} (hs : PyData.strOk sep = true) : ∀ {l : List Str}, (∀ x ∈ l, PyData.strOk x = true) → PyData.strOk (Str.join sep l) = true
  | [], _ => ok_empty
  | [x], h => h x List.mem_cons_self
  | x :: y :: r, h => ok_app (ok_app (h x List.mem_cons_self) hs) (ok_join hs fun z hz => h z (List.mem_cons_of_mem _ hz))
theorem ok_joinT {sep : Str} (hs : PyData.strOk sep = true) {l : List Str} (h : ∀ x ∈ l, PyData.strOk x = true) : PyData.strOk (Txt.join sep l) = true := by
  have e : Txt.join sep l = Str.join sep l := StrLaws.glued_eq_join sep l
  rw [e]
  exact ok_join hs h
end Tx

set_option Elab.async false
set_option linter.all false
set_option maxRecDepth 100000
set_option maxHeartbeats 1000000
set_option autoImplicit false
/-! Tx: != of own instances, by their own == -/
namespace Tx
open PySem PySem.Spec PyProof.Rows L2
section
open PySem.W
variable {prog : Program} {w : World} {A : Around} {E : Value → Shared → Prop} {s : Shared} {K : Frag} {x C L f : Addr} {h₀ : Heap} {m : Str → Option Value} {ox : Obj} {od : Option Obj} {name : Str} {b tb : Value}
theorem check_slot_K {id owner n : String} {rest : List Value} {Q : Unit → Shared → Prop} (hk : builtinKind id = some .slot) (hs : splitId id = some (owner, n)) (ha : argsOk id ⟨.ref x :: rest, []⟩) (X : K.In s.heap) (I : InstAt s.heap x ox C od) (hm : mroIn K C (.type owner) = some true) (hq : Q () s) :
    wpAny (model prog w) A (checkBuiltinCall id ⟨.ref x :: rest, []⟩) Q E s := by
  simp only [checkBuiltinCall, hk, hs]
  refine wpAny_bind ?_
  · unfold isInstance
    refine wpAny_bind (I.type.here ((looks_mroIn X hm).here ?_))
    cases hsig : Manifest.signature? id with
    | none => exact wpAny_pure hq
    | some sig =>
      simp only [argsOk, hsig] at ha
      have h2 : Bind.checkArgs id sig ⟨.ref x :: rest, []⟩ = pure () := ha
      show wpAny _ A (Bind.checkArgs id sig ⟨.ref x :: rest, []⟩) Q E _
      rw [h2]
      exact wpAny_pure hq
theorem ifBoundB_K {M : Model} {id : String} {args : List Value} {Q : Option Value → Shared → Prop} (X : K.In s.heap) (I : InstAt s.heap x ox C od) (hs : findIn K (.ref C) name = some (some (.builtin id))) (hb : ∀ self, bindSpecial (.builtin id) self = pure (.builtin id, [self]))
    (h : wpAny M A (call (.builtin id) (.ref x :: args)) (fun v => Q (some v)) E s) : wpAny M A (callSpecialIfBound? (.ref x) name args) Q E s := by
  simp only [callSpecialIfBound?, bindSpecialIfBound?]
  refine wpAny_holding (wpAny_bind (wpAny_bind (wpAny_bind (I.type.here ((looks_findIn X hs).here ?_)))))
  simp only [hb]
  refine wpAny_bind (wpAny_askSetting (wpAny_ite ?_))
  have fin : wpAny M A (call (.builtin id) ([.ref x] ++ args) >>= fun v => pure (some v)) Q E s := wpAny_bind (wpAny_mono h (fun v s' h' => wpAny_pure h') fun _ _ h' => h')
  split
  · exact wpAny_bind (wpAny_pure (wpAny_pure (by exact fin)))
  · exact wpAny_tryCatch (wpAny_bind (wpAny_pure (wpAny_pure (by exact fin))))
theorem objNe_K (X : K.In s.heap) (I : InstAt s.heap x ox C od) (hu : A.units < cLine) (he : findIn K (.ref C) "__eq__" = some (some (.ref f))) (hf : isFn K (.ref f) = true) {Q : Fin → Shared → Prop}
    (hcall : wpAny (model prog w) A (call (.ref f) [.ref x, b]) (fun v s' => ∃ k, v = .bool k ∧ Q (.done (.ret (.bool (!k)))) s') E s) : wpAny (model prog w) A (Builtin.«object.__ne__» ⟨[.ref x, b], []⟩) Q E s := by
  unfold Builtin.«object.__ne__»
  repeat (first
    | with_reducible refine wpAny_cRoomFor hu ?_
    | (refine wpAny_bind (m := callSpecialIfBound? (.ref x) (Str.ofString "__eq__") [b])
        (ifBound_K X I he hf (wpAny_mono hcall (fun r s' hr => by
          obtain ⟨k, rfl, hq⟩ := hr
          repeat (first | exact hq | exact wpAny_pure hq | exact wpAny_truthy_bool hq | (refine wpAny_bind (m := truthy (.bool _)) (wpAny_truthy_bool ?_)) | wp_step)) fun _ _ e => e)))
    | wp_step)
theorem cmpNe_K {Q : Value → Shared → Prop} (hu : A.units + 1 < cLine) (F : Fr h₀ L s.heap m) (X₀ : K.In h₀) (I : InstAt s.heap x ox C od) (hb : Looks (model prog w) s.heap (typeOf b) tb) (hn : notFirst K C tb = true)
    (hs : findIn K (.ref C) "__ne__" = some (some (.builtin "object.__ne__"))) (hm : mroIn K C (.type "object") = some true) (he : findIn K (.ref C) "__eq__" = some (some (.ref f))) (hf : isFn K (.ref f) = true)
    (h : wpAny (model prog w) A.in1 (call (.ref f) [.ref x, b]) (fun v s' => ∃ k, v = .bool k ∧ Q (.bool (!k)) s') E s) : wpAny (model prog w) A (richCompare .NotEq (.ref x) b) Q E s := by
  have X := X₀.keeps F.keep
  have slot := PySem.F.slot_object_ne
  have both : wpAny (model prog w) A (tryCompare (.ref x) (cmpInfo .NotEq).2.1 b) (fun r s' => ∃ v, r = some v ∧ Q v s') E s := by
    unfold tryCompare
    refine wpAny_bind (ifBoundB_K (name := (cmpInfo .NotEq).2.1) X I hs slot.bind (wpAny_call (codeAny_call_builtin slot.plain PySem.F.cmpEntry_ne (check_slot_K PySem.F.cmpKind_ne PySem.F.cmpSplit_ne (PySem.F.cmpArgs_ne _ _) X I hm (objNe_K (A := A.in1) X I hu he hf (wpAny_mono h (fun v s' hv => ?_) fun _ _ e => e))))))
    obtain ⟨k, rfl, q⟩ := hv
    exact ⟨k, rfl, wpAny_pure ⟨_, rfl, q⟩⟩
  unfold richCompare
  simp only [oneThing_ref]
  refine wpAny_holding (wpAny_bind (wpAny_cRoomFor (Nat.lt_of_succ_lt hu) (wpAny_bind (I.type.here (wpAny_bind (hb.here ?_))))))
  have last : ∀ {s'' : Shared}, s'' = s → wpAny (model prog w) A (tryCompare (.ref x) (cmpInfo .NotEq).2.1 b) (fun r s' => ∃ v, r = some v ∧ Q v s') E s'' := fun e => e ▸ both
  split
  · rename_i q
    have e : subIn K tb (.ref C) = some false := by
      rcases Bool.or_eq_true_iff.mp hn with z | z
      · rw [beq_iff_eq.mp z] at q; simp at q
      · exact beq_iff_eq.mp z
    refine wpAny_bind ((looks_subIn X e).here ?_)
    simp only [Bool.false_eq_true, if_false]
    exact wpAny_bind (wpAny_mono (last rfl) (fun r s' z => by obtain ⟨v, rfl, hq⟩ := z; exact wpAny_pure hq) fun _ _ e => e)
  · refine wpAny_bind (wpAny_pure ?_)
    simp only [Bool.false_eq_true, if_false]
    exact wpAny_bind (wpAny_mono (last rfl) (fun r s' z => by obtain ⟨v, rfl, hq⟩ := z; exact wpAny_pure hq) fun _ _ e => e)
end
section
variable {X : Cx}
/-- o != y, by its own == -/
def rNeO (K : PySem.W.Frag) (C : Addr) (sp : Sp) : R2 := fun x y H Q => ∃ (a dx : Addr) (fs : List (Str × V)), x = .ref a ∧ H a = some (.ins C dx fs) ∧ NotSub K C H y ∧ sp [.ref a, y] H (fun v H' => ∃ b : Bool, v = .bl b ∧ Q (.bl (!b)) H') E0
/-- that the class has no != of its own -/
structure NeC (K : PySem.W.Frag) (C : Addr) : Prop where
  ne : PySem.W.findIn K (.ref C) "__ne__" = some (some (.builtin "object.__ne__"))
  ob : PySem.W.mroIn K C (.type "object") = some true
theorem op_neO {C : Addr} {n k : Nat} {sp : Sp} (O : OwnK X.prog X.w X.K X.mg X.base C "__eq__" n sp) (c : NeC X.K C) (hr : Room k X.A) (hk : n + 1 ≤ k) : OpR X (compareOp .NotEq) (rNeO X.K C sp) := by
  intro pins s σ H x y v u Q I rx ry q0
  obtain ⟨a, dx, fs, rfl, ha, ns, hsp⟩ := q0
  obtain ⟨f, h1, h2, fd, ps, F, hb⟩ := O.ex
  cases rx
  have hr' : Room (n + 1) X.A := hr.mono hk
  obtain ⟨_, J, _⟩ := ins_get I.hok ha
  obtain ⟨od, J, _⟩ := J.look
  obtain ⟨m, hF⟩ := I.fr
  have hl : ∃ tb, PySem.W.Looks (model X.prog X.w) s.heap (typeOf u) tb ∧ PySem.W.notFirst X.K C tb = true := by
    cases ns with
    | ins hb' =>
      cases ry
      obtain ⟨_, J2, _⟩ := ins_get I.hok hb'
      obtain ⟨_, J2, _⟩ := J2.look
      exact ⟨_, J2.type, by simp [PySem.W.notFirst]⟩
    | tup ht hn =>
      cases ry
      obtain ⟨_, _, p, _⟩ := I.tuple ht
      obtain ⟨o, ho, hc, _⟩ := p
      exact ⟨_, hc ▸ (PySem.W.Looks.ld ho).andThen .now, hn⟩
  obtain ⟨tb, hl, hn⟩ := hl
  show wpAny _ X.A (richCompare .NotEq (.ref a) u) (EP X pins σ Q) X.xe s
  refine cmpNe_K (tb := tb) (Nat.lt_of_le_of_lt (Nat.add_le_add_left (by decide : 1 ≤ 64) _) hr'.units) hF I.ok.mod.kin J hl hn c.ne c.ob h1 h2 (wpAny_mono (run_own F hb hr'.in1 rfl I (rr2 a ry) hsp) (fun z s' hv => ?_) fun _ _ z => z)
  obtain ⟨_, H', I', rz, b, e, q⟩ := hv
  subst e
  cases rz
  exact ⟨b, rfl, .bl (!b), H', I', rfl, q⟩
def rNeU (K : PySem.W.Frag) (C : Addr) (sp : Sp) : R2 := fun x y H Q => rNeD K x y H Q ∨ rNeO K C sp x y H Q
theorem op_neK {C : Addr} {n k : Nat} {sp : Sp} (O : OwnK X.prog X.w X.K X.mg X.base C "__eq__" n sp) (c : NeC X.K C) (hr : Room k X.A) (hk : n + 1 ≤ k) (hu : X.A.units + 64 < cLine) : OpR X (compareOp .NotEq) (rNeU X.K C sp) := (op_neD hu).or (op_neO O c hr hk)
end
section
variable {K : PySem.W.Frag} {m : Mo} {C : Addr} {ns : List Str} {xs : List D} {x : D} {pre : List D → Prop} {Sf : List D → D → Prop}
theorem o_neOS {b : Bool} (hx : (∃ ns' xs', x = .obj C ns' xs') ∨ ((∃ ts, x = .tup ts) ∧ PySem.W.notFirst K C (.type "tuple") = true)) (hp : pre [.obj C ns xs, x]) (hn : ∀ d, Sf [.obj C ns xs, x] d → d = .bl b) : Op1 m K (rNeU K C (spS K pre Sf)) (.obj C ns xs) x (.bl (!b)) := fun vo vx H I rv rx Q q => by
  obtain ⟨a, dx, fs, rfl, ha, _⟩ := rv.ins
  refine .inr ⟨a, dx, fs, rfl, ha, ?_, m.F, [.obj C ns xs, x], fun a f => m.fa I f, .cons rv (.cons rx .nil), hp, fun v d H' sd sm rv => ⟨b, (by rw [hn d sd] at rv; exact rv.blE), q _ _ H' rfl (m.grow I sm) (.bl (!b))⟩⟩
  rcases hx with ⟨ns', xs', e⟩ | ⟨⟨ts, e⟩, hnf⟩
  · subst e
    obtain ⟨_, _, _, rfl, ha', _⟩ := rx.ins
    exact .ins ha'
  · subst e
    obtain ⟨_, _, rfl, hs, _⟩ := rx.tupE
    exact .tup hs hnf
theorem o_neUD {sp : Sp} {a b : D} {n : Nat} (hn : n ≤ 60) (ha : pur n a = true) (hb : pur n b = true) : Op1 m K (rNeU K C sp) a b (.bl (!PyData.eqv a.py b.py)) := fun x y H I rx ry Q q => .inl (o_neP hn ha hb x y H I rx ry Q q)
end
end Tx

set_option Elab.async false
set_option linter.all false
set_option maxRecDepth 100000
set_option maxHeartbeats 1000000
set_option autoImplicit false
/-! Tx: slices, lists that are multiplied, places, what is popped and put -/
namespace Tx
open PySem L2
section
variable {K : PySem.W.Frag} {m : Mo} {Γ : G} {ta tb te tv : TE} {ts tw : TS} {d : D} {ds : List D} {l : Addr} {H0 : Hp}
theorem RpAll.dropN {F : Addr → Prop} {H : Hp} : ∀ (n : Nat) {vs : List V} {ds : List D}, RpAll K F H vs ds → RpAll K F H (vs.drop n) (ds.drop n)
  | 0, _, _, h => h
  | n + 1, _, _, .nil => .nil
  | n + 1, _, _, .cons _ t => RpAll.dropN n t
theorem RpAll.takeN {F : Addr → Prop} {H : Hp} : ∀ (n : Nat) {vs : List V} {ds : List D}, RpAll K F H vs ds → RpAll K F H (vs.take n) (ds.take n)
  | 0, _, _, _ => .nil
  | n + 1, _, _, .nil => .nil
  | n + 1, _, _, .cons r t => .cons r (RpAll.takeN n t)
theorem RpAll.eraseN {F : Addr → Prop} {H : Hp} : ∀ (n : Nat) {vs : List V} {ds : List D}, RpAll K F H vs ds → RpAll K F H (vs.eraseIdx n) (ds.eraseIdx n)
  | _, _, _, .nil => .nil
  | 0, _, _, .cons _ t => t
  | n + 1, _, _, .cons r t => .cons r (RpAll.eraseN n t)
theorem RpAll.setN {F : Addr → Prop} {H : Hp} {v : V} {d : D} (rv : Rp K F H v d) : ∀ (n : Nat) {vs : List V} {ds : List D}, RpAll K F H vs ds → RpAll K F H (vs.set n v) (ds.set n d)
  | _, _, _, .nil => .nil
  | 0, _, _, .cons _ t => .cons rv t
  | n + 1, _, _, .cons r t => .cons r (RpAll.setN rv n t)
/-! a slice's parts -/
def EvO (m : Mo) (K : PySem.W.Frag) (to : TO) (Γ : G) (o : Option Int) : Prop := ∀ σ H, ER m K Γ σ H → ∀ Q : Option Int → Hp → Prop, (∀ H', m.R H H' → Q o H') → to σ H Q
theorem eo_none : EvO m K tNoPart Γ none := fun σ H e Q q => q H (m.refl H)
theorem eo_some {i : Int} (h : Ev1 m K te Γ (.int i)) : EvO m K (tPart te) Γ (some i) := fun σ H e Q q => h σ H e _ fun v d' H1 s r1 rv => by
  subst s
  exact ⟨i, rv.intE, q H1 r1⟩
def cutD (ds : List D) (lo hi : Option Int) : List D := (ds.drop (HT.sIx ds.length 0 lo)).take (HT.sIx ds.length ds.length hi - HT.sIx ds.length 0 lo)
theorem cutD_to {n : Nat} (hn : n ≤ ds.length) : cutD ds none (some (n : Int)) = ds.take n := by
  unfold cutD
  rw [HT.sIx_none, HT.sIx_nat, List.drop_zero, Nat.sub_zero, Nat.min_eq_left hn]
theorem cutD_from {n : Nat} (hn : n ≤ ds.length) : cutD ds (some (n : Int)) none = ds.drop n := by
  unfold cutD
  rw [HT.sIx_nat, HT.sIx_none, Nat.min_eq_left hn, List.take_of_length_le (by rw [List.length_drop]; exact Nat.le_refl _)]
theorem en_slT {tl th : TO} {lo hi : Option Int} (h : Ev1 m K te Γ (.tup ds)) (hl : EvO m K tl Γ lo) (hh : EvO m K th Γ hi) : Ev1 m K (tSl (rSlA K) te tl th) Γ (.tup (cutD ds lo hi)) := fun σ H e Q q =>
  h σ H e _ fun v d' H1 s r1 rv => hl σ H1 (e.mv r1) _ fun H2 r2 => hh σ H2 ((e.mv r1).mv r2) _ fun H3 r3 => by
    subst s
    have i1 := m.inv r1 e.i
    have i3 := m.inv r3 (m.inv r2 i1)
    have rv3 : Rp K m.F H3 v (.tup ds) := rv.mv fun a o n x => m.keep r3 (m.inv r2 i1) a o n (m.keep r2 i1 a o n x)
    have rr := m.trans r1 (m.trans r2 r3)
    obtain ⟨a, vs, rfl, hs, ra⟩ := rv3.tupE
    have len := ra.len
    refine ⟨a, vs, rfl, hs, fun hw => ?_, fun hw p hp => ?_⟩
    · rw [len] at hw
      have : cutD ds lo hi = ds := by
        unfold cutD
        rw [hw.1, hw.2, List.drop_zero, Nat.sub_zero, List.take_length]
      exact q _ _ H3 rfl rr (by rw [this]; exact rv3)
    · refine q _ _ _ rfl (m.trans rr (m.grow i3 (same_new hp))) (rp_new i3 hp ?_)
      unfold cutV cutD
      rw [len]
      exact RpAll.takeN _ (RpAll.dropN _ ra)
theorem RpAll.repL {F : Addr → Prop} {H : Hp} {vs : List V} {ds : List D} (r : RpAll K F H vs ds) : ∀ n, RpAll K F H (List.replicate n vs).flatten (List.replicate n ds).flatten
  | 0 => .nil
  | n + 1 => by
    rw [List.replicate_succ, List.replicate_succ, List.flatten_cons, List.flatten_cons]
    exact r.append (RpAll.repL r n)
theorem rep_one (d : D) : ∀ n, (List.replicate n [d]).flatten = List.replicate n d
  | 0 => rfl
  | n + 1 => by rw [List.replicate_succ, List.replicate_succ, List.flatten_cons, rep_one d n]; rfl
/-! a list that is made last: it may be owned -/
def EvL (m : Mo) (K : PySem.W.Frag) (te : TE) (Γ : G) (ds : List D) : Prop := ∀ σ H, ER m K Γ σ H → ∀ Q : VK, (∀ l H1 vs, m.R H H1 → H1 l = none → RpAll K m.F H1 vs ds → Q (.ref l) (upd H1 l (.lst vs))) → te σ H Q
theorem el_lst {ta : TA} (h : EvA1 m K ta Γ ds) (hz : ds.length ≤ 100000) : EvL m K (tLst ta) Γ ds := fun σ H e Q q =>
  h σ H e _ fun vs ds' H1 s r1 rs => by
    subst s
    exact ⟨Nat.le_trans (show vs.length ≤ 100000 by have := rs.len; omega) (by decide), fun l hl => q l H1 vs r1 hl rs⟩
theorem el_list {b : D} (h : Ev1 m K te Γ b) (hd : isSeq b ds) : EvL m K (tCB (rLst K) (tCons te tNil)) Γ ds := fun σ H e Q q =>
  h σ H e _ fun v d H1 s r1 rv => by
    subst s
    obtain ⟨a, vs, rfl, ra, hs⟩ := seq_standsX (m := m) rv hd
    refine ⟨a, vs, rfl, ?_, fun l hl => q l H1 vs r1 hl ra⟩
    rcases hs with hs | hs
    · exact .inl (hs H1 fun _ _ _ e => e)
    · exact .inr (hs H1 fun _ _ _ e => e)
def rMulL (K : PySem.W.Frag) : R2 := fun x y H Q => rMulU K x y H Q ∨ rRep x y H Q
theorem op_mulL {X : Cx} : OpR X (binaryOp .Mult) (rMulL X.K) := op_mulU.or op_rep
theorem el_mul {n : Nat} {d : D} (h : Ev1 m K ta Γ (.lst [d])) (hn : Ev1 m K tb Γ (dN n)) (hz : n ≤ 100000) : EvL m K (tOp (rMulL K) ta tb) Γ (List.replicate n d) := fun σ H e Q q =>
  h σ H e _ fun v d' H1 s r1 rv => hn σ H1 (e.mv r1) _ fun w dw H2 s2 r2 rw' => by
    subst s; subst s2
    have i1 := m.inv r1 e.i
    obtain ⟨a, vs, rfl, ha, ra⟩ := (rv.mv (m.keep r2 i1)).lstE
    obtain rfl := rw'.intE
    have hv : vs.length = 1 := ra.len
    refine .inr ⟨a, n, vs, rfl, rfl, ha, by omega, by omega, Nat.le_trans (show vs.length * (n : Int).toNat ≤ 100000 by rw [hv, Int.toNat_natCast]; omega) (by decide), fun p hp => ?_⟩
    have := q p H2 (List.replicate n vs).flatten (m.trans r1 r2) hp (by have z := RpAll.repL ra n; rw [rep_one] at z; exact z)
    rw [Int.toNat_natCast]
    exact this
/-- x = such a list; rest -/
theorem sq_ownL {i : Nat} {O : Out} (h : EvL m K te Γ ds) (k : ∀ l H0, SGo m K l H0 tw (Γ.set i (some (.adr l))) ds { nx := fun _ _ => False, rt := O.rt }) : SG m K (tSeq (tAsg te (gName i)) tw) Γ O := fun σ H e E M =>
  h σ H e _ fun l H1 vs r1 hl rs => by
    have e1 := e.mv r1
    have rN : m.R H1 (upd H1 l (.lst vs)) := m.grow e1.i (same_new hl)
    have eX : ER (m.ext l) K Γ σ (upd H1 l (.lst vs)) := e1.ext hl rN (by rw [upd_same]; exact fun z => nomatch z)
    have rs' : RpAll K (m.ext l).F (upd H1 l (.lst vs)) vs ds := Rp.goAll (fun a o n q => ⟨fun z => z.elim n fun z => (by rw [z, hl] at q; cases q), same_new hl a o q⟩) rs
    exact k l H1 hl e1.i _ _ vs rN (eX.set i (.adr l)) upd_same rs' E ⟨fun _ _ _ _ _ o => o.elim, fun d v H' o r rv => M.rt d v H' o (m.trans r1 r) rv⟩
/-! data of tuples alone leans on no list -/
def ttree : Nat → D → Bool
  | _, .non => true
  | _, .bl _ => true
  | _, .int _ => true
  | _, .str _ => true
  | n + 1, .tup xs => xs.all (ttree n)
  | _, _ => false
theorem Rp.off {F : Addr → Prop} {H : Hp} {vs0 : List V} (hl : H l = some (.lst vs0)) : ∀ (n : Nat) {d : D} {v : V}, ttree n d = true → Rp K F H v d → Rp K (fun a => F a ∨ a = l) H v d
  | n, .non, _, _, .non => .non
  | n, .bl _, _, _, .bl b => .bl b
  | n, .int _, _, _, .int i => .int i
  | n, .str _, _, _, .str s => .str s
  | n + 1, .tup xs, _, ht, .tup nf h t => by
    refine .tup (fun z => z.elim nf fun z => ?_) h ?_
    · subst z
      rcases h with h | ⟨o, h⟩ <;> (rw [hl] at h; cases h)
    · have ht' : ∀ x ∈ xs, ttree n x = true := List.all_eq_true.mp ht
      have go : ∀ {ys : List D} {ws : List V}, (∀ x ∈ ys, ttree n x = true) → RpAll K F H ws ys → RpAll K (fun a => F a ∨ a = l) H ws ys := fun {ys} => by
        induction ys with
        | nil => intro ws _ r; cases r; exact .nil
        | cons y ys ih =>
          intro ws hy r
          cases r with
          | cons r1 r2 => exact .cons (Rp.off hl n (hy y List.mem_cons_self) r1) (ih (fun x hx => hy x (List.mem_cons_of_mem _ hx)) r2)
      exact go ht' t
  | n + 1, .tup xs, _, ht, .ktup h t => by
    refine .ktup h ?_
    have ht' : ∀ x ∈ xs, ttree n x = true := List.all_eq_true.mp ht
    have go : ∀ {ys : List D} {ws : List V}, (∀ x ∈ ys, ttree n x = true) → RpAll K F H ws ys → RpAll K (fun a => F a ∨ a = l) H ws ys := fun {ys} => by
      induction ys with
      | nil => intro ws _ r; cases r; exact .nil
      | cons y ys ih =>
        intro ws hy r
        cases r with
        | cons r1 r2 => exact .cons (Rp.off hl n (hy y List.mem_cons_self) r1) (ih (fun x hx => hy x (List.mem_cons_of_mem _ hx)) r2)
    exact go ht' t
  | 0, .lst _, _, ht, _ => by cases ht
  | 0, .tup _, _, ht, _ => by cases ht
  | 0, .obj _ _ _, _, ht, _ => by cases ht
  | 0, .adr _, _, ht, _ => by cases ht
  | 0, .dic, _, ht, _ => by cases ht
  | 0, .frl _, _, ht, _ => by cases ht
  | 0, .ftp _, _, ht, _ => by cases ht
  | 0, .dct _ _ _, _, ht, _ => by cases ht
  | _ + 1, .dct _ _ _, _, ht, _ => by cases ht
  | _ + 1, .lst _, _, ht, _ => by cases ht
  | _ + 1, .obj _ _ _, _, ht, _ => by cases ht
  | _ + 1, .adr _, _, ht, _ => by cases ht
  | _ + 1, .dic, _, ht, _ => by cases ht
  | _ + 1, .frl _, _, ht, _ => by cases ht
  | _ + 1, .ftp _, _, ht, _ => by cases ht
/-- x[k] = e, the list one's own; e may read the list -/
theorem so_setD {i k : Nat} {ti : TE} {O : OutO} {n : Nat} (hi : Γ[i]? = some (some (.adr l))) (h : Ev1 m K te (Γ.set i (some (.lst ds))) d) (ht : ttree n d = true) (hk : Ev1 (m.ext l) K ti Γ (dN k)) (hlt : k < ds.length) (kk : O.nx Γ (ds.set k d)) : SGo m K l H0 (tAsg te (gSub (tVar i) ti rSetL)) Γ ds O := fun h0 i0 σ H vs r e hl ra E M =>
  h σ H (er_dis h0 i0 e hi hl ra) _ fun v d' H1 s r1 rv => by
    subst s
    have e1 : ER (m.ext l) K Γ σ H1 := e.mv (m := m.ext l) r1
    have hl1 : H1 l = some (.lst vs) := m.keep r1 e.i.1 l _ (nFl h0 i0) hl
    have ra1 : RpAll K (m.ext l).F H1 vs ds := ra.mv ((m.ext l).keep r1 e.i)
    have rv1 : Rp K (m.ext l).F H1 v d' := Rp.off hl1 n ht rv
    obtain ⟨w, h1, h2⟩ := e1.at_ i _ hi
    obtain rfl := h2.adrE
    refine ⟨_, h1, hk σ H1 e1 _ fun z dz H2 s2 r2 rz => ?_⟩
    subst s2
    obtain rfl := rz.intE
    have e2 := e1.mv r2
    have hl2 : H2 l = some (.lst vs) := m.keep r2 e1.i.1 l _ (nFl h0 i0) hl1
    have ra2 : RpAll K (m.ext l).F H2 vs ds := ra1.mv ((m.ext l).keep r2 e1.i)
    have rv2 : Rp K (m.ext l).F H2 v d' := rv1.mv ((m.ext l).keep r2 e1.i)
    refine ⟨l, vs, k, k, rfl, rfl, hl2, Evl.ixN_nat (by rw [ra.len]; exact hlt), ?_⟩
    have mv : ∀ a o, ¬ (m.ext l).F a → H2 a = some o → (upd H2 l (.lst (vs.set k v))) a = some o := fun a o n q => by rw [upd_ne (fun z => n (.inr z))]; exact q
    have rr : m.R H0 (upd H2 l (.lst (vs.set k v))) := m.chg i0 (m.trans r (m.trans r1 r2)) h0
    refine M.nx Γ _ σ _ (vs.set k v) kk rr (fun a o n q => mv a o n ((m.ext l).keep r2 e1.i a o n ((m.ext l).keep r1 e.i a o n q))) ⟨⟨m.inv rr i0, by rw [upd_same]; exact fun z => nomatch z⟩, e2.len, fun j d h => let ⟨v, h1, h2⟩ := e2.at_ j d h; ⟨v, h1, h2.go fun a o n q => ⟨n, mv a o n q⟩⟩⟩ upd_same ((ra2.setN rv2 k).mv mv)
end
end Tx

set_option Elab.async false
set_option linter.all false
set_option maxRecDepth 100000
set_option maxHeartbeats 1000000
set_option autoImplicit false
/-! Tx: sorted({e for x in xs if c}), e a number -/
namespace Tx
open PySem L2
/-- what such a set comprehension asks: each number that comes is put into the set at Dl -/
def tSetI (w : World) (wi : TI) (g : TG) (tt : TT) (te : TE) (vs : List Nat) : TE := fun σ H Q => wi σ H fun J H1 => ∀ Dl, H1 Dl = none →
  ∃ W : Nat → Nat → Hp → Prop, (∃ m0, W 0 m0 (upd H1 Dl (SetO w Dl (fun _ => false) 0))) ∧ ∀ i m0 H2, W i m0 H2 → (J.stop i H2 ∧ Q (.ref Dl) H2) ∨ (J.go i H2 ∧
    ∃ Nx : Hp → Prop, (∀ H3, Nx H3 → ∃ m1, m1 < m0 ∧ W (i + 1) m1 H3) ∧ ∀ x H3, J.yld i H2 x H3 → g x (wipe σ vs) H3 fun σ2 H4 => wipe σ2 vs = wipe σ vs ∧ tt σ2 H4 fun b H5 =>
      if b = true then te σ2 H5 fun y H6 => ∃ (c : Int) (S : Int → Bool) (n : Nat), y = .int c ∧ H6 Dl = some (SetO w Dl S n) ∧ n + 1 < scanBound ∧ Nx (upd H6 Dl (SetO w Dl (fun j => S j || decide (j = c)) (if S c = true then n else n + 1))) else Nx H5)
section
variable {K : PySem.W.Frag} {m : Mo} {Γ : G} {te : TE} {tt : TT} {w : World}
theorem en_sortSet {α : Type} {wi : TI} {g : TG} {vs : List Nat} {xs : List α} {js : List Nat} (enc : α → D) (t : α → Bool) (f : α → Int) (hc : ∀ x ∈ xs, ∀ y ∈ xs, enc x = enc y → x = y) (hj : ∀ j ∈ js, j ∈ vs) (hi : ItD1 m K wi Γ (xs.map enc)) (hu : xs.length < 60)
    (hs : ∀ m', Mo.Le m m' → ∀ x, x ∈ xs → ∃ Γ2, TgD m' K g (wipeG Γ vs) (enc x) js Γ2 ∧ EvT1 m' K tt Γ2 (t x) ∧ (t x = true → Ev1 m' K te Γ2 (.int (f x)))) :
    EvN m K (tCB (rSortedSet w) (tCons (tSetI w wi g tt te vs) tNil)) Γ (fun d => ∃ ns : List Int, d = .lst (ns.map D.int) ∧ ns.Pairwise (· < ·) ∧ ∀ k, k ∈ ns ↔ k ∈ (xs.filter t).map f) := fun σ H e Q q => by
  refine (show tSetI w wi g tt te vs σ H (fun x H2 => rSortedSet w [x] H2 Q) from ?_)
  refine hi σ H e _ fun J zs H1 hz r1 wk => fun Dl hD => ?_
  subst hz
  have e1 := e.mv r1
  have nF : ¬ m.F Dl := fun f => m.fa e1.i f hD
  have rN : m.R H1 (upd H1 Dl (SetO w Dl (fun _ => false) 0)) := m.grow e1.i (same_new hD)
  have wkA : ∀ H', m.R H1 H' → (m.ext Dl).I H' → WkD (m.ext Dl) K J H' (xs.map enc) := fun H' r i => wk (m.ext Dl) (m.le_ext Dl) H' i r fun a f n => f.elim (fun f => absurd f n) fun z => z ▸ hD
  refine ⟨fun i k H' => k = xs.length - i ∧ i ≤ xs.length ∧ m.R H1 H' ∧ ∃ S n, H' Dl = some (SetO w Dl S n) ∧ n ≤ i ∧ ∀ j, S j = true ↔ j ∈ ((xs.take i).filter t).map f, ⟨_, rfl, Nat.zero_le _, rN, _, 0, upd_same, Nat.le_refl 0, fun j => by simp⟩, ?_⟩
  rintro i k H' ⟨rfl, hle, r, S, n, hS, hn, hm⟩
  have eX : ER (m.ext Dl) K Γ σ H' := e1.ext hD r (by rw [hS]; exact fun z => nomatch z)
  have iX := eX.i
  have wkX := wkA H' r iX
  have hlen : (xs.map enc).length = xs.length := List.length_map _
  by_cases hlt : i < xs.length
  · refine .inr ⟨wkX.go i H' (m.refl _) (by rw [hlen]; exact hlt), fun H3 => m.R H1 H3 ∧ ∃ S n, H3 Dl = some (SetO w Dl S n) ∧ n ≤ i + 1 ∧ ∀ j, S j = true ↔ j ∈ ((xs.take (i + 1)).filter t).map f, fun H3 z => ⟨xs.length - (i + 1), by omega, rfl, hlt, z⟩, fun x H2 y => ?_⟩
    obtain ⟨r2, d, hd, rx⟩ := wkX.yld i H' x H2 (m.refl _) (by rw [hlen]; exact hlt) y
    rw [List.getElem?_map, List.getElem?_eq_getElem hlt] at hd
    injection hd with hd
    subst hd
    have hxm : xs[i] ∈ xs := List.getElem_mem hlt
    obtain ⟨Γ2, tg, tst, el⟩ := hs (m.ext Dl) (m.le_ext Dl) xs[i] hxm
    have tk : xs.take (i + 1) = xs.take i ++ [xs[i]] := take_one (List.getElem?_eq_getElem hlt)
    have kD : ∀ {Hb : Hp}, m.R H' Hb → Hb Dl = some (SetO w Dl S n) := fun rr => m.keep rr iX.1 Dl _ nF hS
    refine tg x (wipe σ vs) H2 ((eX.mv r2).wipe vs) rx _ fun σ3 H3 e3 r3 w3 => ⟨by rw [w3 vs hj, wipe_wipe], ?_⟩
    refine tst σ3 H3 e3 _ fun b H4 tb r4 => ?_
    subst tb
    have rr := m.trans r2 (m.trans r3 r4)
    cases hb : t xs[i] with
    | false =>
      refine ⟨m.trans r rr, S, n, kD rr, by omega, fun j => ?_⟩
      rw [hm j, tk, List.filter_append, List.filter_cons, hb]
      simp
    | true =>
      refine el hb σ3 H4 (e3.mv r4) _ fun v dv H5 sv r5 rv => ?_
      subst sv
      have rr5 := m.trans rr r5
      refine ⟨f xs[i], S, n, rv.intE, kD rr5, by unfold scanBound; omega, m.chg e1.i (m.trans r rr5) hD, _, _, upd_same, by split <;> omega, fun j => ?_⟩
      rw [Bool.or_eq_true, hm j, decide_eq_true_iff, tk, List.filter_append, List.filter_cons, hb, if_pos rfl, List.map_append, List.mem_append]
      simp
  · have e0 : i = xs.length := by omega
    subst e0
    have iN : m.I H' := m.inv r e1.i
    refine .inl ⟨by have := wkX.stop H' (m.refl _); rw [hlen] at this; exact this, ?_⟩
    refine ⟨Dl, S, n, rfl, hS, by omega, fun ns p hp1 hp2 _ hp3 => ?_⟩
    refine q _ (.lst (ns.map D.int)) _ ⟨ns, rfl, hp1, fun k => ?_⟩ (m.trans r1 (m.trans r (m.grow iN (same_new hp3)))) (.lst (fun z => m.fa iN z hp3) upd_same ?_)
    · rw [hp2, hm, List.take_length]
    · induction ns with
      | nil => exact .nil
      | cons a ns ih => exact (show RpAll K m.F _ ((a :: ns).map V.int) ((a :: ns).map D.int) from by
          have : ∀ l : List Int, RpAll K m.F (upd H' p (.lst ((a :: ns).map V.int))) (l.map V.int) (l.map D.int) := fun l => by
            induction l with
            | nil => exact .nil
            | cons b l ih2 => exact .cons (.int _) ih2
          exact this (a :: ns))
end
end Tx

set_option Elab.async false
set_option linter.all false
set_option maxRecDepth 100000
set_option maxHeartbeats 2000000
/-! Tx: a set comprehension of numbers, as a value: one turn, all turns, the whole -/
namespace TxS
open PySem PySem.Spec PyProof.Rows L2 PpSet Tx
theorem addI_ok {X : Cx} {pins : List (Addr × Obj)} {σ : L2.St} {H : Hp} {s : Shared} {E : Value → Shared → Prop} {D : Addr} {S : Int → Bool} {n : Nat} {k : Int} {tk : Tok} {Q : Value → Shared → Prop} (I : Inv X pins σ H s) (hD : H D = some (SetO X.w D S n)) (room : n + 1 < scanBound)
    (h : ∀ s', Inv X pins σ (upd H D (SetO X.w D (fun j => S j || decide (j = k)) (if S k = true then n else n + 1))) s' → Q .none s') : wpAny (model X.prog X.w) X.A (call (.builtin "set.add") [.ref D, .int k tk]) Q E s := by
  refine setR_add (setO_get I hD) room fun _ keeps made => ?_
  have ⟨o, _, _, _, stands, _⟩ := made
  exact h _ (I.write (e := D) (t' := s.toks + 1) (by rw [hD]; trivial) (.inl rfl) (fun b u ne at_ => (keeps.2 b ne).trans at_) ⟨o, stands⟩ (setO_new made))
section
variable {X : Cx} {σ : L2.St} {elt tg iter : Expr} {ifs : List Expr} {sc : Scope} {own : List (PySem.Str × Nat)} {pos pos2 : Pos} {wi : TI} {g : TG} {tt : TT} {te : TE}
/-- what is empty at first -/
abbrev emptySet (w : World) : Obj := { cls := .type "set", dict := none, data := .set #[] 0 (.fresh 0 0 (!w.params.followText "set-order")) }
/-- what holds ahead of each turn, in the block B of the comprehension -/
def Here (B : Cx) (σ : L2.St) (vs : List Nat) (seen : Nat → Heap → Prop) (fp : List Addr) (W : Nat → Nat → Hp → Prop) (k : Nat) (t : Shared) : Prop := ∃ i H, Inv B [] (wipe σ vs) H t ∧ seen i t.heap ∧ (∀ b ∈ fp, H b = none) ∧ W i k H
/-- behind a turn, whatever it did with the set -/
theorem turn_next {B : Cx} {P : Program} {w : World} {F : PySem.W.Frag} {vs : List Nat} {J : It} {itA : Addr} {fp : List Addr} {seen : Nat → Heap → Prop} (T : Turn P w F tg J fp itA seen) {W : Nat → Nat → Hp → Prop} {Nx : Hp → Prop} {k i : Nat} {τ : L2.St} {t t' : Shared} {H : Hp} (at_ : seen (i + 1) t.heap)
    (next : ∀ H, Nx H → ∃ j, j < k ∧ W (i + 1) j H) (same : wipe τ vs = wipe σ vs) (I : Inv B ([] ++ pinsAt fp t.heap) τ H t') (nx : Nx H) : ∃ j, j < k ∧ Here B σ vs seen fp W j t' := by
  obtain ⟨j, lt, w'⟩ := next H nx
  have stay : ∀ b ∈ fp, ∀ o, t.heap.get? b = some o → t'.heap.get? b = some o ∧ H b = none := fun b hb o e => by
    have p := I.pin (b, o) (List.mem_append_right _ (List.mem_append_right _ (mem_pinsAt hb e))); exact ⟨p.1, p.2.1⟩
  have len : (wipe σ vs).length = τ.length := by rw [← same, wipe_length]
  refine ⟨j, lt, i + 1, H, (I.unpinned (pins := [])).weak len (fun a v e => (wipe_some (same ▸ e)).1), T.keep _ _ _ at_ fun b hb o e => (stay b hb o e).1, fun b hb => ?_, w'⟩
  obtain ⟨o, e, _⟩ := T.obj _ _ at_ b hb; exact (stay b hb o e).2
/-- the comprehension itself: what is asked of its parts holds in whatever block it opens -/
theorem setI_core {pins : List (Addr × Obj)} {s : Shared} {H : Hp} {Q : VK} {use : Option (Value → Sem Unit)} {Qf : Value → Shared → Prop} (hc : X.calm = true) (hN : X.N.Nodup) (I : Inv X pins σ H s) (hi : PI X tg iter wi) (ok : BlkOk X.N X.env.scope sc own)
    (hg : ∀ s H C cl fp, PG (X.blk s H sc (compEnvC sc cl C X.env) fp) tg g) (ht : ∀ s H C cl fp, PTs (X.blk s H sc (compEnvC sc cl C X.env) fp) ifs tt) (he : ∀ s H C cl fp, PE (X.blk s H sc (compEnvC sc cl C X.env) fp) elt te)
    (hs : ∀ x, foldedSetIterable iter X.env x = pure x) (h : tSetI X.w wi g tt te (own.map (·.2)) σ H Q)
    (out : ∀ D C t m H', Inv X pins σ H' t → Q (.ref D) H' → t.heap.Ns C m → FpOk X pins H' C → compPost (model X.prog X.w) X.A X.xe use Qf (.ref D) C (.ok .next) t) :
    wpAny (model X.prog X.w) X.A (comprehension (.SetComp elt [⟨tg, iter, ifs, 0⟩] sc pos) sc X.env pos2 (newSet (.type "set")) false (eval iter X.env) use) Qf X.xe s := by
  refine wpAny_comprehension_free (use := use) rfl hs (closure_ok fun y hy e => (ok.free y hy e).elim (fun k => I.ok.has _ (.inl k)) fun k => I.ok.has _ (.inr k)) ok.kind (fun y hy e => by rw [ok.uniq y hy, e]) (thn (hi.run pins s σ H _ I h) fun _ _ came => thn came fun _ t came2 => ?_)
  obtain ⟨itA, fp, seen, J, H2, rfl, I2, T, at0, away, asks⟩ := came2
  refine newSet_ok (newEnv_comp ?_)
  generalize eD : t.heap.objs.size = D
  obtain ⟨W, ⟨k0, w0⟩, turns⟩ := asks D (I2.hok.fresh (Nat.le_of_eq eD))
  generalize e3 : ({ t with heap := t.heap.push (emptySet X.w) } : Shared) = s3
  have p3 : s3.heap = t.heap.push (emptySet X.w) := by rw [← e3]
  have z3 : s3.heap.objs.size = t.heap.objs.size + 1 := by rw [p3, Heap.size_push]
  generalize eH : upd H2 D (SetO X.w D (fun _ => false) 0) = H3 at w0
  have I3 : Inv X pins σ H3 s3 := by
    rw [← e3, ← eH]; refine I2.laid (t' := t.toks) (fun _ _ e => Heap.get?_push_of_some _ e) (Nat.le_of_eq eD) ?_; rw [← eD]; exact setO_new (setR_fresh X.w)
  have own3 : ∀ b ∈ fp, FpOk X pins H3 b ∧ b < s3.heap.objs.size := fun b hb => by
    obtain ⟨_, e, _⟩ := T.obj _ _ at0 b hb
    have lt : b < t.heap.objs.size := Heap.lt_size e
    refine ⟨⟨?_, (away b hb).2⟩, by rw [z3]; exact Nat.lt_succ_of_lt lt⟩; rw [← eH, upd_ne (by rw [← eD]; exact Nat.ne_of_lt lt)]; exact (away b hb).1
  have at3 : seen 0 s3.heap := T.keep _ _ _ at0 fun _ _ _ e => by rw [p3]; exact Heap.get?_push_of_some _ e
  have I4 := block_start I3 ok hN own3
  let cl := cellsFrom (s3.heap.objs.size + 1) sc.names (cloFrom X.env.cells sc.names [])
  have gT := hg s3 H3 s3.heap.objs.size cl fp; have gI := ht s3 H3 s3.heap.objs.size cl fp; have gE := he s3 H3 s3.heap.objs.size cl fp
  show codeAny _ _ (.compStart (.SetComp elt [⟨tg, iter, ifs, 0⟩] sc pos) 0 (.ref itA) (.ref D) (compEnvC sc cl s3.heap.objs.size X.env)) (compPost (model X.prog X.w) X.A X.xe use Qf (.ref D) s3.heap.objs.size) { s3 with heap := pushCells (s3.heap.push { cls := .type "dict", data := .dict #[] }) sc.names }
  generalize eB : compEnvC sc cl s3.heap.objs.size X.env = ce at gT gI gE ⊢
  have I4 : Inv (X.blk s3 H3 sc ce fp) [] (wipe σ (own.map (·.2))) H3 { s3 with heap := pushCells (s3.heap.push { cls := .type "dict", data := .dict #[] }) sc.names } := by rw [← eB]; exact I4
  have loc : ce.locals = s3.heap.objs.size := by rw [← eB]; rfl
  generalize e4 : ({ s3 with heap := pushCells (s3.heap.push { cls := .type "dict", data := .dict #[] }) sc.names } : Shared) = s4 at I4 ⊢
  have at4 : seen 0 s4.heap := T.keep _ _ _ at3 fun _ _ _ e => by rw [← e4]; exact pushCells_keeps _ _ _ _ (Heap.get?_push_of_some _ e)
  have mine : ∀ {σ' : L2.St} {H' : Hp} {t : Shared}, Inv (X.blk s3 H3 sc ce fp) [] σ' H' t → (∀ b ∈ fp, H' b = none) → ∀ b ∈ fp, FpOk (X.blk s3 H3 sc ce fp) [] H' b := fun I' none_ b hb => ⟨none_ b hb, (I'.ok.exf b hb).1, I'.ok.exfs b hb, .inl hb, fun x c e => (I'.ok.exf b hb).2 x c e, fun p hp => by
    have hp : p ∈ ([] : List (Addr × Obj)) ++ [] := hp
    simp at hp⟩
  have all : codeAny (model X.prog X.w) X.A (.compLoop (.SetComp elt [⟨tg, iter, ifs, 0⟩] sc pos) 0 (.ref itA) (.ref D) ce) (compPost (model X.prog X.w) X.A X.xe use Qf (.ref D) s3.heap.objs.size) s4 := by
    refine compLoopS_any (Here (X.blk s3 H3 sc ce fp) σ (own.map (·.2)) seen fp W) ?_ k0 ⟨0, H3, I4, at4, fun b hb => (own3 b hb).1.1, w0⟩
    rintro k s5 ⟨i, H5, I5, at5, no5, w5⟩
    rcases turns i k H5 w5 with ⟨ends, fin⟩ | ⟨goes, Nx, next, one⟩
    · refine thnF (T.done (X.blk s3 H3 sc ce fp) rfl rfl rfl hc i [] s5 _ H5 (fun _ _ => False) I5 (mine I5 no5) at5 ends) fun r s6 ⟨hr, I6⟩ => ?_
      subst hr
      have back : Inv X pins σ H5 s6 := I3.call' (ch := fp) I6.os I6.base I6.hok I6.bare fun b hb => let q := (own3 b hb).1.2; ⟨q.2.2.1, q.1, q.2.2.2.1, q.2.2.2.2⟩
      have free : H5 s3.heap.objs.size = none := loc ▸ (show H5 ce.locals = none from I6.free)
      obtain ⟨m, ns, _⟩ := I6.loc
      exact out D s3.heap.objs.size s6 m H5 back fin (loc ▸ (show s6.heap.Ns ce.locals m from ns)) (I3.fpOk (Nat.le_refl _) free)
    · refine thnF (T.item (X.blk s3 H3 sc ce fp) rfl rfl rfl hc i [] s5 _ H5 (fun _ _ => False) I5 (mine I5 no5) at5 goes) fun r s6 ⟨u, hr, came6⟩ => ?_
      subst hr
      refine thnF came6 fun _ s7 ⟨x, H7, I7, r7, y7, at7, no7⟩ => thnF (gT.run _ s7 _ H7 x u _ (I7.pinned (mine I7 no7) (T.obj _ _ at7)) r7 (one x H7 y7)) fun _ s8 ⟨σ8, H8, I8, same, q8⟩ => thnF (gI.run _ s8 σ8 H8 _ I8 q8) fun b s9 ⟨H9, I9, q9⟩ => ?_
      cases b with
      | false => simp only [Bool.false_eq_true, if_false] at q9 ⊢; exact turn_next T at7 next same I9 q9
      | true =>
        simp only [if_true] at q9 ⊢
        refine thnF (gE.run _ s9 σ8 H9 _ I9 q9) fun z s10 ⟨_, H10, I10, rz, c, S0, n0, ey, at10, few, nx⟩ => ?_
        subst ey
        obtain ⟨tk, rfl⟩ := (show ∃ tk, z = Value.int c tk from rz)
        exact addI_ok (X := X.blk s3 H3 sc ce fp) I10 at10 few fun _ I11 => turn_next T at7 next same I11 nx
  exact codeAny_compStart_set all (T.self X.A 0 _ _ _ at4 all)
/-- as a value -/
theorem pe_setI (hc : X.calm = true) (hN : X.N.Nodup) (hi : PI X tg iter wi) (ok : BlkOk X.N X.env.scope sc own)
    (hg : ∀ s H C cl fp, PG (X.blk s H sc (compEnvC sc cl C X.env) fp) tg g) (ht : ∀ s H C cl fp, PTs (X.blk s H sc (compEnvC sc cl C X.env) fp) ifs tt) (he : ∀ s H C cl fp, PE (X.blk s H sc (compEnvC sc cl C X.env) fp) elt te)
    (hs : ∀ x, foldedSetIterable iter X.env x = pure x := by intro _; rfl) : PE X (.SetComp elt [⟨tg, iter, ifs, 0⟩] sc pos) (tSetI X.w wi g tt te (own.map (·.2))) :=
  ⟨fun pins s σ H Q I h => by
    rw [eval_SetComp]
    exact setI_core hc hN I hi ok hg ht he hs h fun D C t m H' I' q ns f => ⟨m, ns, fun h'' sb => ⟨.ref D, H', I'.turned (t' := t.toks) (fun b o ne e => (sb.2 b ne).trans e) f.1 f.2.1 f.2.2.2.1 f.2.2.2.2.1 f.2.2.2.2.2, rfl, q⟩⟩⟩
end
end TxS

set_option Elab.async false
set_option linter.all false
set_option maxRecDepth 100000
set_option maxHeartbeats 1000000
set_option autoImplicit false
/-! Tx: sorted(set(t)), t a tuple of numbers -/
namespace Tx
open PySem PySem.Spec PyProof.Rows L2 L2
def rSetIT (K : PySem.W.Frag) (w : World) : List V → Hp → VK → Prop := fun vs H Q => ∃ (a : Addr) (ns : List Int), vs = [V.ref a] ∧ SqT K H a (ns.map V.int) ∧ ns.length < 60 ∧ ∀ (l : Addr) (c : Nat), c ≤ ns.length → H l = none → Q (.ref l) (upd H l (SetO w l (fun j => decide (j ∈ ns)) c))
theorem cr_setIT {X : Cx} (hc : X.calm = true) : CallR X (.type "set") (rSetIT X.K X.w) := by
  intro pins s σ H vs us Q I r q0
  obtain ⟨a, ns, rfl, ha, h60, q⟩ := q0
  rw [Vals.ref1 r]
  obtain ⟨its, rv, p, _⟩ := I.tuple ha
  refine call_set_tupI ns (I.ok.hd hc) p (intsAre_of rv) (by unfold scanBound; omega) fun h' tk c R hcn hk => ?_
  exact ⟨.ref _, _, I.laid (t' := tk) hk (Nat.le_refl _) (setO_new R), rfl, q _ c hcn (I.hok.fresh (Nat.le_refl _))⟩
section
variable {K : PySem.W.Frag} {m : Mo} {Γ : G} {te : TE} {w : World}
theorem en_sortSetT {ns : List Int} (h : Ev1 m K te Γ (.tup (ns.map D.int))) (hu : ns.length < 60) : EvN m K (tCB (rSortedSet w) (tCons (tCB (rSetIT K w) (tCons te tNil)) tNil)) Γ (fun d => ∃ ms : List Int, d = .lst (ms.map D.int) ∧ ms.Pairwise (· < ·) ∧ ∀ k, k ∈ ms ↔ k ∈ ns) := fun σ H e Q q =>
  h σ H e _ fun v d H1 s r1 rv => by
    subst s
    obtain ⟨a, vs, rfl, ha, ra⟩ := rv.tupE
    have i1 := m.inv r1 e.i
    rw [ra.ints] at ha
    refine ⟨a, ns, rfl, ha, hu, fun l c hcn hl => ⟨l, _, c, rfl, upd_same, by omega, fun ms p hp1 hp2 _ hp3 => ?_⟩⟩
    have r2 : m.R H1 (upd H1 l (SetO w l (fun j => decide (j ∈ ns)) c)) := m.grow i1 (same_new hl)
    have i2 := m.inv r2 i1
    have all : ∀ (F : Addr → Prop) (Hx : Hp) (l : List Int), RpAll K F Hx (l.map V.int) (l.map D.int) := fun F Hx l => by
      induction l with
      | nil => exact .nil
      | cons b l ih => exact .cons (.int _) ih
    exact q _ (.lst (ms.map D.int)) _ ⟨ms, rfl, hp1, fun k => by rw [hp2]; exact decide_eq_true_iff⟩ (m.trans r1 (m.trans r2 (m.grow i2 (same_new hp3)))) (.lst (fun z => m.fa i2 z hp3) upd_same (all _ _ ms))
end
end Tx

set_option Elab.async false
set_option linter.all false
set_option maxRecDepth 100000
set_option maxHeartbeats 1000000
set_option autoImplicit false
/-! Tx: zip of two tuples -/
namespace Tx
open PySem L2 RZ
/-- how a tuple stands, and stays -/
theorem tup_stands {K : PySem.W.Frag} {m : Mo} {H1 : Hp} {v : V} {ds : List D} (i1 : m.I H1) (r : Rp K m.F H1 v (.tup ds)) : ∃ a vs, v = .ref a ∧ RpAll K m.F H1 vs ds ∧ ∀ H, m.R H1 H → SqT K H a vs := by
  cases r with
  | tup n h t => exact ⟨_, _, rfl, t, fun H r => .inl (rd_up h fun o q => m.keep r i1 _ o n q)⟩
  | ktup h t => exact ⟨_, _, rfl, t, fun H r => .inr h⟩
section
variable {K : PySem.W.Frag} {m : Mo} {Γ : G} {ta : TA} {as bs : List D}
def zipD (as bs : List D) : List D := (as.zip bs).map fun p => .tup [p.1, p.2]
theorem zipD_len : (zipD as bs).length = min as.length bs.length := by unfold zipD; rw [List.length_map, List.length_zip]
theorem zipD_at {i : Nat} {a b : D} (ha : as[i]? = some a) (hb : bs[i]? = some b) : (zipD as bs)[i]? = some (.tup [a, b]) := by
  unfold zipD
  rw [List.getElem?_map]
  have h1 := (List.getElem?_eq_some_iff.mp ha)
  have h2 := (List.getElem?_eq_some_iff.mp hb)
  obtain ⟨l1, e1⟩ := h1
  obtain ⟨l2, e2⟩ := h2
  rw [List.getElem?_eq_getElem (by rw [List.length_zip]; omega), List.getElem_zip, e1, e2]
  rfl
theorem it_zipT (h : EvA1 m K ta Γ [.tup as, .tup bs]) : ItD1 m K (iZipA K ta) Γ (zipD as bs) := fun σ H e Q q =>
  h σ H e _ fun vs es H1 s r1 rs => by
    subst s
    have i1 := m.inv r1 e.i
    cases rs with
    | cons ra rs =>
      cases rs with
      | cons rb rs =>
        cases rs
        obtain ⟨a, vs1, rfl, rA, hA⟩ := tup_stands i1 ra
        obtain ⟨b, vs2, rfl, rB, hB⟩ := tup_stands i1 rb
        have lA := rA.len
        have lB := rB.len
        refine ⟨a, b, vs1, vs2, rfl, .inr ⟨hA H1 (m.refl _), hB H1 (m.refl _), q _ _ H1 rfl r1 fun m' le H2 i2 r c => ?_⟩⟩
        have up : ∀ H, m'.R H2 H → m.R H1 H := fun H q => m.trans r (by have := q; rw [le.R] at this; exact this)
        refine ⟨fun i H q hi => ?_, fun H q => ?_, fun i H x H' q hi y => ?_⟩
        · rw [zipD_len] at hi
          exact ⟨vs1, vs2, vs1[i]'(by omega), vs2[i]'(by omega), hA H (up H q), hB H (up H q), List.getElem?_eq_getElem _, List.getElem?_eq_getElem _⟩
        · refine ⟨vs1, vs2, hA H (up H q), hB H (up H q), ?_⟩
          rw [zipD_len]
          omega
        · rw [zipD_len] at hi
          obtain ⟨T, x1, x2, rfl, hT, rfl, hx1, hx2⟩ := y
          have iH : m'.I H := m'.inv q i2
          obtain ⟨d1, hd1, rd1⟩ := rA.at (hx1 vs1 (hA H (up H q)))
          obtain ⟨d2, hd2, rd2⟩ := rB.at (hx2 vs2 (hB H (up H q)))
          exact ⟨m'.grow iH (same_new hT), _, zipD_at hd1 hd2, rp_new iH hT (.cons (rd1.go (carry i1 (up H q) c)) (.cons (rd2.go (carry i1 (up H q) c)) .nil))⟩
end
end Tx

set_option Elab.async false
set_option linter.all false
set_option maxRecDepth 100000
set_option maxHeartbeats 2000000
set_option autoImplicit false
/-! Tx: sum of lists that start with a list -/
namespace Tx
open PySem PySem.Spec PyProof.Rows
theorem args_sumS (a b : Value) : argsOk "sum" ⟨[a, b], []⟩ := by unfold argsOk; kernel_rfl
theorem ne_lt {a b N : Nat} (h : a < N) (k : N ≤ b) : a ≠ b := by omega
theorem ne_lt' {a b : Nat} (h : a < b) : b ≠ a := by omega
section
variable {prog : Program} {w : World} {A : Around} {E : Value → Shared → Prop}
theorem sum_loopL {R : Result → Shared → Prop} {I ax S : Addr} {items : Array Value} {N : Nat} (L : List (List Value)) (hn : items.size = L.length) (hI : N ≤ I) (hS : N ≤ S) (hIS : I ≠ S) (hax : ax < N)
    (W : Walks prog w A.in1 I [I, ax] [I] items.size (fun i v => items[i]? = some v) (fun i h => h.IsListIter I ax i ∧ h.IsList ax items)) :
    ∀ (k i : Nat) (s : Shared) (T : Addr) (c nT : Nat) (acc : List Value), items.size - i = k → i ≤ items.size → (s.heap.IsListIter I ax i ∧ s.heap.IsList ax items) →
      s.heap.get? S = some { cls := .type "list", dict := none, data := .seq #[.ref T] c, slots := #[] } → s.heap.get? T = some { cls := .type "list", data := .seq acc.toArray nT } → T ≠ S → T ≠ I →
      (∀ (j : Nat) (v : Value), items[j]? = some v → ∃ (l : Addr) (zs : List Value) (m : Nat), v = Value.ref l ∧ l < N ∧ L[j]? = some zs ∧ s.heap.get? l = some { cls := .type "list", data := .seq zs.toArray m }) →
      acc.length + ((L.drop i).flatten).length ≤ sizeLine →
      (∀ h' tk T' nT', (∀ b o, b < N → s.heap.get? b = some o → h'.get? b = some o) → h'.get? T' = some { cls := .type "list", data := .seq (acc ++ (L.drop i).flatten).toArray nT' } → ((N ≤ T ∨ i < items.size) → N ≤ T') → R (.ok (.ret (.ref T'))) { s with heap := h', toks := tk }) →
      codeAny (model prog w) A (.builtin "sum.loop" ⟨[.ref I, .ref S, rawInt 2, rawInt 0], []⟩) R s := by
  intro k
  induction k with
  | zero =>
    intro i s T c nT acc hk hi hst hSt hT hTS hTI hL hz hR
    have hin : i = items.size := by omega
    subst hin
    refine codeAny_builtin F.entry_sum_loop ?_
    rw [Around.under_plainId F.plain_sum_loop _]
    show wpAny _ A.in1 (seqItems? (.ref S) >>= _) _ _ s
    refine wpAny_bind (wpAny_seqItems hSt rfl ?_)
    show wpAny _ A.in1 (tryCatch (pyNext (.ref I)) _ >>= _) _ _ s
    refine wpAny_bind (wpAny_tryCatch (W.done s _ _ hst fun h' tk hk' => ?_))
    have e : (L.drop items.size).flatten = [] := by rw [hn, List.drop_length]; rfl
    refine wpAny_pure (hR h' tk T nT (fun b o hb e => hk' b o (by simp only [List.mem_singleton]; exact ne_lt hb hI) e) ?_ fun z => z.elim id fun z => absurd z (by omega))
    rw [e, List.append_nil]
    exact hk' T _ (by simp only [List.mem_singleton]; exact hTI) hT
  | succ k ih =>
    intro i s T c nT acc hk hi hst hSt hT hTS hTI hL hz hR
    have hlt : i < items.size := by omega
    refine codeAny_builtin F.entry_sum_loop ?_
    rw [Around.under_plainId F.plain_sum_loop _]
    show wpAny _ A.in1 (seqItems? (.ref S) >>= _) _ _ s
    refine wpAny_bind (wpAny_seqItems hSt rfl ?_)
    show wpAny _ A.in1 (tryCatch (pyNext (.ref I)) _ >>= _) _ _ s
    refine wpAny_bind (wpAny_tryCatch (W.item i s _ _ hlt hst fun v h' tk hP hst' hk' => ?_))
    obtain ⟨l, zs, m, rfl, hlN, hLi, hl⟩ := hL i v hP
    have kp : ∀ b o, b ≠ I → s.heap.get? b = some o → h'.get? b = some o := fun b o hb e => hk' b o (by simp only [List.mem_singleton]; exact hb) e
    have hS' := kp S _ (Ne.symm hIS) hSt
    have hT' := kp T _ hTI hT
    have hl' := kp l _ (ne_lt hlN hI) hl
    have dr : L.drop i = zs :: L.drop (i + 1) := by
      obtain ⟨h1, h2⟩ := List.getElem?_eq_some_iff.mp hLi
      rw [← h2, List.drop_eq_getElem_cons h1]
    rw [dr, List.flatten_cons, List.length_append] at hz
    have hST : S < h'.objs.size := Heap.lt_size hS'
    have hTT : T < h'.objs.size := Heap.lt_size hT'
    have hIT : I < h'.objs.size := by
      obtain ⟨o, ho, _⟩ := hst'.1
      exact Heap.lt_size ho
    show wpAny _ A.in1 ((holding [Value.ref l] (binaryOp .Add (.ref T) (.ref l))).attempt >>= _) _ _ _
    refine wpAny_bind (wpAny_attempt (wpAny_holding (PySem.P.add_list hT' hl' ?_ (by rw [List.size_toArray, List.size_toArray]; omega))))
    have hS2 : (h'.push { cls := .type "list", data := .seq (acc.toArray ++ zs.toArray) }).get? S = some { cls := .type "list", dict := none, data := .seq #[.ref T] c, slots := #[] } := Heap.get?_push_of_some _ hS'
    show wpAny _ A.in1 (updateSeq S (fun _ => #[.ref h'.objs.size]) >>= _) _ _ _
    refine wpAny_bind ?_
    refine wpAny_updateSeq hS2 rfl ?_
    have hS3 := Heap.get?_update_self (Obj.mapSeq fun _ => #[Value.ref h'.objs.size]) hS2 rfl
    refine wpAny_bind (wpAny_letGo ?_)
    refine wpAny_bind ?_
    have up : ∀ b o, b ≠ S → h'.get? b = some o → (((h'.push { cls := .type "list", data := .seq (acc.toArray ++ zs.toArray) }).update S (Obj.mapSeq fun _ => #[Value.ref h'.objs.size])).update S (Obj.mapSeq fun _ => #[Value.ref h'.objs.size])).get? b = some o := fun b o hb e =>
      (Heap.get?_update_other _ _ (Ne.symm hb)).trans ((Heap.get?_update_other _ _ (Ne.symm hb)).trans (Heap.get?_push_of_some _ e))
    refine wpAny_updateSeq hS3 rfl (wpAny_pure ⟨plainId_quiet F.plain_sum_loop _, ih (i + 1) _ h'.objs.size _ 0 (acc ++ zs) (by omega) hlt (W.frame _ _ _ hst' fun b hb o e => ?_) (Heap.get?_update_self _ hS3 rfl) ?_ (ne_lt' hST) (ne_lt' hIT) (fun j v hv => ?_) (by rw [List.length_append]; omega) fun h'' tk'' T'' n'' hk'' hT'' hN'' => ?_⟩)
    · refine up b o ?_ e
      simp only [List.mem_cons, List.not_mem_nil, or_false] at hb
      rcases hb with rfl | rfl
      · exact hIS
      · exact ne_lt hax hS
    · refine (Heap.get?_update_other _ _ (Ne.symm (ne_lt' hST))).trans ((Heap.get?_update_other _ _ (Ne.symm (ne_lt' hST))).trans ?_)
      have := Heap.get?_push_size h' (o := { cls := .type "list", data := .seq (acc.toArray ++ zs.toArray) }) rfl
      rw [this, List.append_toArray] <;> rfl
    · obtain ⟨l2, zs2, m2, e1, e2, e3, e4⟩ := hL j v hv
      exact ⟨l2, zs2, m2, e1, e2, e3, up l2 _ (ne_lt e2 hS) (kp l2 _ (ne_lt e2 hI) e4)⟩
    · refine hR h'' tk'' T'' n'' (fun b o hb e => hk'' b o hb (up b o (ne_lt hb hS) (kp b o (ne_lt hb hI) e))) ?_ fun _ => ?_
      · rw [dr, List.flatten_cons, ← List.append_assoc]
        exact hT''
      · exact hN'' (.inl (Nat.le_of_lt (Nat.lt_of_le_of_lt hI hIT)))
theorem call_sumL {s : Shared} {a b : Addr} {items : Array Value} {na nb : Nat} {Q : Value → Shared → Prop} (hh : A.handled = none) (L : List (List Value)) (hn : items.size = L.length) (hne : 0 < items.size)
    (ha : s.heap.get? a = some { cls := .type "list", data := .seq items na }) (hb : s.heap.get? b = some { cls := .type "list", data := .seq #[] nb })
    (hL : ∀ (j : Nat) (v : Value), items[j]? = some v → ∃ (l : Addr) (zs : List Value) (m : Nat), v = Value.ref l ∧ L[j]? = some zs ∧ s.heap.get? l = some { cls := .type "list", data := .seq zs.toArray m })
    (hz : L.flatten.length ≤ sizeLine)
    (h : ∀ h' tk T n, (∀ b o, s.heap.get? b = some o → h'.get? b = some o) → h'.get? T = some { cls := .type "list", data := .seq L.flatten.toArray n } → s.heap.objs.size ≤ T → Q (.ref T) { s with heap := h', toks := tk }) :
    wpAny (model prog w) A (call (.builtin "sum") [.ref a, .ref b]) Q E s := by
  refine call_function_tree F.kind_sum F.plain_sum F.entry_sum (args_sumS _ _) ?_
  unfold Builtin.«sum»
  simp only [List.length_cons, List.length_nil]
  rw [if_neg (by decide)]
  refine wpAny_bind (wpAny_of_eq (show Builtin.Builtins.bindParams "sum" ["start"] 0 ⟨[Value.ref b], []⟩ = pure [some (.ref b)] from rfl) ?_)
  have hlA : s.heap.IsList a items := ⟨_, ha, rfl, na, rfl⟩
  refine wpAny_bind (wpAny_pyIter_list hlA ?_)
  refine wpAny_bind (wpAny_pure ?_)
  have hb2 := Heap.get?_push_of_some { cls := .type "list_iterator", data := .fields #[.ref a, .int 0 0] } hb
  have ty : Shared.TypeIs { s with heap := s.heap.push { cls := .type "list_iterator", data := .fields #[.ref a, .int 0 0] } } (.ref b) "list" := ⟨_, hb2, rfl⟩
  simp only [List.forIn_cons, List.forIn_nil]
  refine wpAny_bind (wpAny_bind (wpAny_bind (wpAny_isInstance (T := "list") (b := false) ty F.sub_list_str ?_)))
  simp only [Bool.false_eq_true, if_false]
  refine wpAny_pure (wpAny_bind (wpAny_bind (wpAny_isInstance (T := "list") (b := false) ty F.sub_list_bytes ?_)))
  simp only [Bool.false_eq_true, if_false]
  refine wpAny_pure (wpAny_bind (wpAny_bind (wpAny_isInstance (T := "list") (b := false) ty F.sub_list_bytearray ?_)))
  simp only [Bool.false_eq_true, if_false]
  refine wpAny_pure (wpAny_pure ?_)
  refine wpAny_bind (wpAny_newObj_type ?_)
  have ltA : a < s.heap.objs.size := Heap.lt_size ha
  have ltB : b < s.heap.objs.size := Heap.lt_size hb
  have sz1 : (s.heap.push { cls := .type "list_iterator", data := .fields #[.ref a, .int 0 0] }).objs.size = s.heap.objs.size + 1 := Heap.size_push ..
  have up : ∀ (c : Nat) (o : Obj), s.heap.get? c = some o → ((s.heap.push { cls := .type "list_iterator", data := .fields #[.ref a, .int 0 0] }).push { cls := .type "list", data := .seq #[.ref b] }).get? c = some o := fun c o e => Heap.get?_push_of_some _ (Heap.get?_push_of_some _ e)
  refine wpAny_pure ⟨plainId_quiet F.plain_sum_loop _, sum_loopL (N := s.heap.objs.size) L hn (Nat.le_refl _) (by rw [sz1]; exact Nat.le_succ _) (by rw [sz1]; exact Nat.ne_of_lt (Nat.lt_succ_self _)) ltA
    (Walks.list (A := A.in1) hh _ a (Nat.ne_of_lt ltA) items) items.size 0 _ b 0 nb [] rfl (Nat.zero_le _) ⟨⟨_, Heap.get?_push_of_some _ (Heap.get?_push_size _ rfl), rfl, rfl⟩, ⟨_, up a _ ha, rfl, na, rfl⟩⟩
    (Heap.get?_push_size _ rfl) (up b _ hb) (by rw [sz1]; exact Nat.ne_of_lt (Nat.lt_succ_of_lt ltB)) (Nat.ne_of_lt ltB) (fun j v hv => ?_) (by simpa using hz) fun h' tk T n hk hT hN => ?_⟩
  · obtain ⟨l, zs, m, e1, e2, e3⟩ := hL j v hv
    exact ⟨l, zs, m, e1, Heap.lt_size e3, e2, up l _ e3⟩
  · exact h h' tk T n (fun c o e => hk c o (Heap.lt_size e) (up c o e)) (by simpa using hT) (hN (.inr hne))
end
end Tx

set_option Elab.async false
set_option linter.all false
set_option maxRecDepth 100000
set_option maxHeartbeats 4000000
set_option autoImplicit false
/-! Tx: sum of lists, set(list of numbers), as calls -/
namespace Tx
open PySem PySem.Spec PyProof.Rows L2
theorem pick {α : Type} {P : Nat → α → Prop} {n : Nat} (h : ∀ j, j < n → ∃ y, P j y) : ∃ L : List α, L.length = n ∧ ∀ j y, L[j]? = some y → P j y := by
  induction n with
  | zero => exact ⟨[], rfl, fun j y e => (by simp at e)⟩
  | succ n ih =>
    obtain ⟨L, hl, hL⟩ := ih fun j hj => h j (by omega)
    obtain ⟨y, hy⟩ := h n (by omega)
    refine ⟨L ++ [y], by rw [List.length_append, hl]; rfl, fun j z e => ?_⟩
    by_cases q : j < L.length
    · rw [List.getElem?_append_left q] at e
      exact hL j z e
    · rw [List.getElem?_append_right (by omega)] at e
      have : j - L.length = 0 := by
        cases k : j - L.length with
        | zero => rfl
        | succ k' => rw [k] at e; simp at e
      rw [this] at e
      injection e with e
      subst e
      have : j = n := by omega
      rw [this]
      exact hy
theorem valsFlat : ∀ {zss : List (List V)} {L : List (List Value)}, zss.length = L.length → (∀ (j : Nat) zs ws, zss[j]? = some zs → L[j]? = some ws → Vals zs ws) → Vals zss.flatten L.flatten
  | [], [], _, _ => .nil
  | [], _ :: _, h, _ => by simp at h
  | _ :: _, [], h, _ => by simp at h
  | zs :: zss, ws :: L, h, k => by
    rw [List.flatten_cons, List.flatten_cons]
    exact (k 0 zs ws rfl rfl).append (valsFlat (by simpa using h) fun j a b e1 e2 => k (j + 1) a b (by simpa using e1) (by simpa using e2))
def rSumL : List V → Hp → VK → Prop := fun vs H Q => ∃ (a b : Addr) (xs : List V) (zss : List (List V)), vs = [V.ref a, V.ref b] ∧ H a = some (.lst xs) ∧ H b = some (.lst []) ∧ 0 < xs.length ∧ xs.length = zss.length ∧
  (∀ (j : Nat) x, xs[j]? = some x → ∃ l zs, x = V.ref l ∧ zss[j]? = some zs ∧ H l = some (.lst zs)) ∧ zss.flatten.length ≤ 1000 ∧ ∀ p, H p = none → Q (.ref p) (upd H p (.lst zss.flatten))
theorem cr_sumL {X : Cx} (hc : X.calm = true) : CallR X (.builtin "sum") rSumL := by
  intro pins s σ H vs us Q I r h
  obtain ⟨a, b, xs, zss, rfl, ha, hb, h0, hl, hx, hz, q⟩ := h
  cases r with
  | cons r1 r =>
    cases r with
    | cons r2 r =>
      cases r
      cases r1
      cases r2
      obtain ⟨_, its, n, rv, el, ga⟩ := I.lstM ha
      obtain ⟨_, its2, n2, rv2, el2, gb⟩ := I.lstM hb
      cases rv2
      obtain ⟨L, hL, kL⟩ := pick (P := fun j (ws : List Value) => ∃ zs, zss[j]? = some zs ∧ Vals zs ws ∧ ∃ (l : Addr) (m : Nat), its[j]? = some (Value.ref l) ∧ s.heap.get? l = some { cls := .type "list", data := .seq ws.toArray m }) (n := zss.length) fun j hj => by
        have hj' : j < xs.length := by omega
        obtain ⟨l, zs, e1, e2, e3⟩ := hx j _ (List.getElem?_eq_getElem hj')
        obtain ⟨_, ws, m, rw', _, g⟩ := I.lstM e3
        obtain ⟨u, hu, ru⟩ := rv.get (List.getElem?_eq_getElem hj')
        rw [e1] at ru
        cases ru
        exact ⟨ws, zs, e2, rw', l, m, hu, g⟩
      have hv : Vals zss.flatten L.flatten := valsFlat hL.symm fun j zs ws e1 e2 => by
        obtain ⟨zs', e3, v, _⟩ := kL j ws e2
        rw [e1] at e3
        injection e3 with e3
        rw [e3]
        exact v
      have fl : L.flatten.length ≤ sizeLine := by rw [← hv.length]; exact Nat.le_trans hz (by decide)
      refine call_sumL (I.ok.hd hc) L (by rw [List.size_toArray, ← el, hl, hL]) (by rw [List.size_toArray, ← el]; exact h0) ga gb (fun j v hv' => ?_) fl fun h' tk T m hk hT hN => ?_
      · have hv' : its[j]? = some v := by simpa using hv'
        have hj : j < L.length := by
          have := (List.getElem?_eq_some_iff.mp hv').1
          omega
        obtain ⟨zs, e1, _, l, m, e2, g⟩ := kL j _ (List.getElem?_eq_getElem hj)
        rw [hv'] at e2
        injection e2 with e2
        exact ⟨l, _, m, e2, List.getElem?_eq_getElem hj, g⟩
      · exact ⟨.ref T, upd H T (.lst zss.flatten), I.laid (t' := tk) hk hN ⟨by rw [hv.length]; exact fl, L.flatten, m, hv, hT⟩, rfl, q T (I.hok.fresh hN)⟩
end Tx

set_option Elab.async false
set_option linter.all false
set_option maxRecDepth 100000
set_option maxHeartbeats 4000000
set_option autoImplicit false
/-! Tx: set(list of numbers) -/
namespace Tx
open PySem PySem.Spec PyProof.Rows L2 L2
section
variable {P : Program} {w : World} {A : Around} {E : Value → Shared → Prop} {s : Shared}
abbrev bare (w : World) : Obj := { cls := .type "set", dict := none, data := .set #[] 0 (.fresh 0 0 (!w.params.followText "set-order")) }
theorem call_setL {l : Addr} {items : Array Value} (ns : List Int) {Q : Value → Shared → Prop} (hh : A.handled = none) (hl : s.heap.IsList l items) (hit : IntsAre items.toList ns) (hb : ns.length + 1 < scanBound)
    (h : ∀ (h' : Heap) (tk c : Nat), SetR w h' s.heap.objs.size (fun j => decide (j ∈ ns)) c → c ≤ ns.length → (∀ b o, s.heap.get? b = some o → h'.get? b = some o) → Q (.ref s.heap.objs.size) { s with heap := h', toks := tk }) :
    wpAny (model P w) A (call (.type "set") [.ref l]) Q E s := by
  have hsz : items.size = ns.length := by have q := IntsAre.length hit; rw [Array.length_toList] at q; exact q
  obtain ⟨c, tl, hmro⟩ := F.called_set.mro
  have hmade := F.called_set.made; have hsub := F.called_set.sub
  refine wpAny_call (codeAny_of_tree ?_); show wpAny _ _ (callAny (.type "set") _) _ _ _
  refine wpAny_pure ⟨Code.quiet_builtin _ (by decide +kernel), codeAny_builtin F.entry_type_call ?_⟩; rw [Around.under_plain (weight_type_call_type "set" [.ref l] []) rfl]
  have h1 := F.called_set.notType; have h2 := F.called_set.canCreate; have hct := F.typeCall_set_1 (.ref l)
  repeat (any_goals (first | assumption | wp_step))
  refine codeAny_mono (code_set_led1 (.ref l) (E := E) (Q₁ := fun ob s1 => ob = .ref s.heap.objs.size ∧ s1 = { s with heap := s.heap.push (bare w) }) ⟨rfl, rfl⟩) fun r s1 hr => ?_
  cases r with
  | error e => exact hr
  | ok fl =>
    cases fl with
    | ret ob =>
      obtain ⟨rfl, rfl⟩ := hr
      have hS : (s.heap.push (bare w)).get? s.heap.objs.size = some (bare w) := Heap.get?_push_size _ rfl
      have hT : Shared.TypeIs { s with heap := s.heap.push (bare w) } (.ref s.heap.objs.size) "set" := ⟨_, hS, rfl⟩
      have hli := F.called_set.init.lookup; have hbi := F.called_set.init.bind (.ref s.heap.objs.size)
      repeat (any_goals (first | assumption | wp_step))
      refine codeAny_mono (codeAny_call_builtin (R := wants (fun r s2 => r = .none ∧ ∃ h' tk c, s2 = { s with heap := h', toks := tk } ∧ SetR w h' s.heap.objs.size (fun j => decide (j ∈ ns)) c ∧ c ≤ ns.length ∧ (∀ b o, s.heap.get? b = some o → h'.get? b = some o)) E) F.called_set.init.plain F.entry_set_init (check_set_init_1 hT ?_)) fun r2 s2 hr2 => ?_
      · obtain ⟨ol, hol, hcl, nl, hdl⟩ := hl
        obtain ⟨ocls, odict, odata, oslots⟩ := ol
        simp only at hcl hdl; subst hcl; subst hdl
        have hol' : (s.heap.push (bare w)).get? l = some { cls := .type "list", dict := odict, data := .seq items nl, slots := oslots } := Heap.get?_push_of_some _ hol
        have hsls := F.sub_list_set; have hslf := F.sub_list_frozenset; have hne : (Value.type "list" == Value.type "dict") = false := by decide
        have hl1 : (s.heap.push (bare w)).IsList l items := ⟨_, hol', rfl, nl, rfl⟩
        unfold Builtin.«set.__init__» noKeywords Builtin.Frozenset.updateFrom; generalize hPI : pyIter = PI
        wp_walk
        subst hPI
        refine wpAny_pyIter_list hl1 ?_
        refine wpAny_bind (wpAny_runValue ?_)
        have hlS : l < s.heap.objs.size := Heap.lt_size hol
        have hh3 : A.in1.in1.in1.handled = none := by simp [hh]
        have sz : (s.heap.push (bare w)).objs.size = s.heap.objs.size + 1 := Heap.size_push ..
        have hneI : l ≠ (s.heap.push (bare w)).objs.size := by rw [sz]; exact Nat.ne_of_lt (Nat.lt_succ_of_lt hlS)
        have hSf : s.heap.objs.size ∉ [(s.heap.push (bare w)).objs.size, l] := by
          rw [sz]; simp only [List.mem_cons, List.mem_singleton, List.not_mem_nil, or_false, not_or]; exact ⟨Nat.ne_of_lt (Nat.lt_succ_self _), Nat.ne_of_gt hlS⟩
        have hval : ∀ (i : Nat) (v : Value), items[i]? = some v → ∃ k t, ns[i]? = some k ∧ v = .int k t := fun i v hv => by
          have hi : i < ns.length := by rw [← hsz]; exact (Array.getElem?_eq_some_iff.mp hv).1
          obtain ⟨t, e⟩ := PyProof.Rows.IntsAre.int_at hit i v (by rw [Array.getElem?_toList]; exact hv)
          exact ⟨ns[i], t, List.getElem?_eq_getElem hi, by rw [e, List.getD_eq_getElem?_getD, List.getElem?_eq_getElem hi] <;> rfl⟩
        refine set_update_ints ((Walks.list hh3 _ l hneI items).toS) s.heap.objs.size hSf ns hsz hb hval (items.size - 0) 0 _ (by omega) (Nat.zero_le _) ⟨⟨_, Heap.get?_push_size _ rfl, rfl, rfl⟩, (hl1.push _)⟩ ?hS0 ?hR
        case hS0 => exact ⟨0, Nat.le_refl 0, setR_new_at (Heap.get?_push_of_some _ hS)⟩
        case hR =>
          intro s' c' hm hc' hS'
          obtain ⟨h', g2, d', tk', os'⟩ := s'
          have eg : g2 = s.gens := hm.gens; have ed : d' = s.drawn := hm.drawn; have eo : os' = s.os := hm.os
          subst eg; subst ed; subst eo
          show wpAny _ _ _ _ _ _
          refine wpAny_pure ?_
          show wpAny _ _ (ret Value.none) _ _ _
          rw [hsz] at hc'
          refine wpAny_pure ⟨rfl, h', tk', c', rfl, hS', hc', fun b o e => hm.heap b o ?_ (Heap.get?_push_of_some _ (Heap.get?_push_of_some _ e))⟩
          have hb0 : b < s.heap.objs.size := Heap.lt_size e
          simp only [List.mem_cons, List.mem_singleton, List.not_mem_nil, or_false, not_or]; exact ⟨Nat.ne_of_lt hb0, by rw [sz]; exact Nat.ne_of_lt (Nat.lt_succ_of_lt hb0)⟩
      · cases r2 with
        | error e => exact hr2
        | ok fl2 =>
          cases fl2 with
          | ret r =>
            obtain ⟨rfl, h', tk, c2, rfl, hS', hc', hk'⟩ := hr2
            repeat (any_goals (first | assumption | wp_step))
            exact h _ _ _ hS' hc' hk'
          | _ => exact hr2.elim
    | _ => exact hr.elim
end
def rSetIL (K : PySem.W.Frag) (w : World) : List V → Hp → VK → Prop := fun vs H Q => ∃ (a : Addr) (ns : List Int), vs = [V.ref a] ∧ SqL K H a (ns.map V.int) ∧ ns.length < 60 ∧ ∀ (l : Addr) (c : Nat), c ≤ ns.length → H l = none → Q (.ref l) (upd H l (SetO w l (fun j => decide (j ∈ ns)) c))
theorem cr_setIL {X : Cx} (hc : X.calm = true) : CallR X (.type "set") (rSetIL X.K X.w) := by
  intro pins s σ H vs us Q I r q0
  obtain ⟨a, ns, rfl, ha, h60, q⟩ := q0
  rw [Vals.ref1 r]
  obtain ⟨its, rv, pl, _⟩ := I.list ha
  exact call_setL ns (I.ok.hd hc) pl.isList (by simpa using intsAre_of rv) (by unfold scanBound; omega) fun h' tk c R hcn hk => ⟨.ref _, _, I.laid (t' := tk) hk (Nat.le_refl _) (setO_new R), rfl, q _ c hcn (I.hok.fresh (Nat.le_refl _))⟩
/-- set(of either) -/
def rSetU (K : PySem.W.Frag) (w : World) : List V → Hp → VK → Prop := fun vs H Q => rSetIT K w vs H Q ∨ rSetIL K w vs H Q
theorem cr_setU {X : Cx} (hc : X.calm = true) : CallR X (.type "set") (rSetU X.K X.w) := by
  intro pins s σ H vs us Q I r q0
  rcases q0 with q0 | q0
  · exact cr_setIT hc pins s σ H vs us Q I r q0
  · exact cr_setIL hc pins s σ H vs us Q I r q0
section
variable {K : PySem.W.Frag} {m : Mo} {Γ : G} {te : TE} {w : World}
theorem en_sortSetU {b : D} {ns : List Int} (h : Ev1 m K te Γ b) (hb : b = .tup (ns.map D.int) ∨ b = .lst (ns.map D.int)) (hu : ns.length < 60) : EvN m K (tCB (rSortedSet w) (tCons (tCB (rSetU K w) (tCons te tNil)) tNil)) Γ (fun d => ∃ ms : List Int, d = .lst (ms.map D.int) ∧ ms.Pairwise (· < ·) ∧ ∀ k, k ∈ ms ↔ k ∈ ns) := fun σ H e Q q =>
  h σ H e _ fun v d H1 s r1 rv => by
    subst s
    have i1 := m.inv r1 e.i
    have all : ∀ (F : Addr → Prop) (Hx : Hp) (l : List Int), RpAll K F Hx (l.map V.int) (l.map D.int) := fun F Hx l => by
      induction l with
      | nil => exact .nil
      | cons b l ih => exact .cons (.int _) ih
    have fin : ∀ (l : Addr) (c : Nat), c ≤ ns.length → H1 l = none → (rSortedSet w) [V.ref l] (upd H1 l (SetO w l (fun j => decide (j ∈ ns)) c)) Q := fun l c hcn hl => by
      refine ⟨l, _, c, rfl, upd_same, by omega, fun ms p hp1 hp2 _ hp3 => ?_⟩
      have r2 : m.R H1 (upd H1 l (SetO w l (fun j => decide (j ∈ ns)) c)) := m.grow i1 (same_new hl)
      have i2 := m.inv r2 i1
      exact q _ (.lst (ms.map D.int)) _ ⟨ms, rfl, hp1, fun k => by rw [hp2]; exact decide_eq_true_iff⟩ (m.trans r1 (m.trans r2 (m.grow i2 (same_new hp3)))) (.lst (fun z => m.fa i2 z hp3) upd_same (all _ _ ms))
    rcases hb with hb | hb
    · subst hb
      obtain ⟨a, vs, rfl, ha, ra⟩ := rv.tupE
      rw [ra.ints] at ha
      exact .inl ⟨a, ns, rfl, ha, hu, fin⟩
    · subst hb
      obtain ⟨a, vs, rfl, ha, ra⟩ := rv.lstE
      rw [ra.ints] at ha
      exact .inr ⟨a, ns, rfl, SqL.of ha, hu, fin⟩
/-- sum(lists, []) -/
theorem en_sumL {ta tb : TE} {xs : List (List D)} (ha : Ev1 m K ta Γ (.lst (xs.map D.lst))) (hb : EvL m K tb Γ []) (h0 : 0 < xs.length) (hz : xs.flatten.length ≤ 1000) : Ev1 m K (tCB rSumL (tCons ta (tCons tb tNil))) Γ (.lst xs.flatten) := fun σ H e Q q =>
  ha σ H e _ fun v d H1 s r1 rv => hb σ H1 (e.mv r1) _ fun l H2 vs r2 hl rs => by
    subst s
    cases rs
    have i1 := m.inv r1 e.i
    have i2 := m.inv r2 i1
    have r3 : m.R H2 (upd H2 l (.lst [])) := m.grow i2 (same_new hl)
    have i3 := m.inv r3 i2
    have rv3 : Rp K m.F (upd H2 l (.lst [])) v (.lst (xs.map D.lst)) := (rv.mv (m.keep r2 i1)).mv (m.keep r3 i2)
    obtain ⟨a, ws, rfl, hA, ra⟩ := rv3.lstE
    have lw : ws.length = xs.length := by rw [ra.len, List.length_map]
    obtain ⟨zss, hz1, hz2⟩ := pick (P := fun j (zs : List V) => ∃ (ds : List D) (p : Addr), xs[j]? = some ds ∧ ws[j]? = some (V.ref p) ∧ (upd H2 l (.lst [])) p = some (.lst zs) ∧ RpAll K m.F (upd H2 l (.lst [])) zs ds) (n := xs.length) fun j hj => by
      obtain ⟨x, hx, rx⟩ := ra.get (i := j) (d := .lst xs[j]) (by rw [List.getElem?_map, List.getElem?_eq_getElem hj]; rfl)
      obtain ⟨p, zs, rfl, hp, rz⟩ := rx.lstE
      exact ⟨zs, xs[j], p, List.getElem?_eq_getElem hj, hx, hp, rz⟩
    have rf : RpAll K m.F (upd H2 l (.lst [])) zss.flatten xs.flatten := by
      have go : ∀ {as : List (List V)} {bs : List (List D)}, as.length = bs.length → (∀ (j : Nat) x y, as[j]? = some x → bs[j]? = some y → RpAll K m.F (upd H2 l (.lst [])) x y) → RpAll K m.F (upd H2 l (.lst [])) as.flatten bs.flatten := fun {as} => by
        induction as with
        | nil => intro bs hl _; cases bs with | nil => exact .nil | cons b bs => simp at hl
        | cons x as ih =>
          intro bs hl k
          cases bs with
          | nil => simp at hl
          | cons y bs =>
            rw [List.flatten_cons, List.flatten_cons]
            exact (k 0 x y rfl rfl).append (ih (by simpa using hl) fun j u v e1 e2 => k (j + 1) u v (by simpa using e1) (by simpa using e2))
      refine go hz1 fun j x y e1 e2 => ?_
      obtain ⟨ds, p, e3, _, _, r⟩ := hz2 j x e1
      rw [e2] at e3
      injection e3 with e3
      rw [e3]
      exact r
    refine ⟨a, l, ws, zss, rfl, hA, upd_same, by omega, by omega, fun j x hx => ?_, by rw [rf.len]; exact hz, fun p hp => ?_⟩
    · have hj : j < zss.length := by
        have := (List.getElem?_eq_some_iff.mp hx).1
        omega
      obtain ⟨ds, p, _, e2, e3, _⟩ := hz2 j _ (List.getElem?_eq_getElem hj)
      rw [hx] at e2
      injection e2 with e2
      exact ⟨p, _, e2, List.getElem?_eq_getElem hj, e3⟩
    · exact q _ _ _ rfl (m.trans r1 (m.trans r2 (m.trans r3 (m.grow i3 (same_new hp))))) (rp_newL i3 hp rf)
end
end Tx

set_option Elab.async false
set_option linter.all false
set_option maxRecDepth 100000
set_option maxHeartbeats 2000000
set_option autoImplicit false
/-! Tx: loops over what makes a tuple each time, while one or two lists are one's own -/
namespace Tx
open PySem L2 RZ
section
variable {K : PySem.W.Frag} {m : Mo} {Γ : G} {ta tb te tv : TE} {tt : TT} {ts tw : TS} {d : D} {ds : List D} {l : Addr} {H0 : Hp} {O O' : OutO}
def ItY (m : Mo) (K : PySem.W.Frag) (wi : TI) (Γ : G) (xs : List D) : Prop := ∀ σ H, ER m K Γ σ H → ∀ Q : It → Hp → Prop, (∀ (J : It) H1, m.R H H1 → (∀ H2, m.I H2 → StK m H1 H2 →
  (∀ i, i < xs.length → J.go i H2) ∧ J.stop xs.length H2 ∧ ∀ i x H', i < xs.length → J.yld i H2 x H' → Same H2 H' ∧ ∃ d, xs[i]? = some d ∧ Rp K m.F H' x d) → Q J H1) → wi σ H Q
theorem ItX.y {wi : TI} {xs : List D} (h : ItX m K wi Γ xs) : ItY m K wi Γ xs := fun σ H e Q q => h σ H e Q fun J H1 r wk => q J H1 r fun H2 _ st => by
  obtain ⟨a, b, c⟩ := wk H2 st
  exact ⟨a, b, fun i x H' hi y => by obtain ⟨e, z⟩ := c i x H' hi y; subst e; exact ⟨Same.refl _, z⟩⟩
theorem ity_enum {ta : TA} {b : D} (h : EvA1 m K ta Γ [b]) (hd : isSeq b ds) : ItY m K (iEnumS K ta) Γ (enumD ds) := fun σ H e Q q =>
  h σ H e _ fun vs es H1 s r1 rs => by
    subst s
    cases rs with
    | cons rv rs =>
      cases rs
      have i1 := m.inv r1 e.i
      obtain ⟨a, ws, rfl, ra, hs⟩ := seq_standsX rv hd
      have hl := ra.len
      have fin : ∀ {H2 : Hp} {T : Addr} {w : V} {i : Nat}, m.I H2 → StK m H1 H2 → H2 T = none → ws[i]? = some w → Same H2 (upd H2 T (.tup [.int (i : Nat), w])) ∧ ∃ d, (enumD ds)[i]? = some d ∧ Rp K m.F (upd H2 T (.tup [.int (i : Nat), w])) (.ref T) d := fun {H2 T w i} i2 st hT hw => by
        obtain ⟨d, hd, rd⟩ := ra.at hw
        exact ⟨same_new hT, _, enumD_at hd, rp_new i2 hT (.cons (.int _) (.cons (rd.go fun a o n e => ⟨n, st a o n e⟩) .nil))⟩
      refine ⟨a, rfl, ?_⟩
      rcases hs with hs | hs
      · refine .inl ⟨⟨ws, hs H1 fun _ _ _ e => e⟩, q _ H1 r1 fun H2 i2 st => ⟨fun i hi => ⟨ws, ws[i]'(by rw [enumD_len] at hi; omega), hs H2 st, List.getElem?_eq_getElem _⟩, ⟨ws, hs H2 st, by rw [enumD_len]; omega⟩, fun i x H' hi y => ?_⟩⟩
        obtain ⟨T, w, rfl, hT, rfl, hw⟩ := y
        exact fin i2 st hT (hw ws (hs H2 st))
      · refine .inr ⟨⟨ws, hs H1 fun _ _ _ e => e⟩, q _ H1 r1 fun H2 i2 st => ⟨fun i hi => ⟨ws, ws[i]'(by rw [enumD_len] at hi; omega), hs H2 st, List.getElem?_eq_getElem _⟩, ⟨ws, hs H2 st, by rw [enumD_len]; omega⟩, fun i x H' hi y => ?_⟩⟩
        obtain ⟨T, w, rfl, hT, rfl, hw⟩ := y
        exact fin i2 st hT (hw ws (hs H2 st))
theorem tup_standsX {H1 : Hp} {v : V} (r : Rp K m.F H1 v (.tup ds)) : ∃ a vs, v = .ref a ∧ RpAll K m.F H1 vs ds ∧ ∀ H, StK m H1 H → SqT K H a vs := by
  cases r with
  | tup n h t => exact ⟨_, _, rfl, t, fun H r => .inl (rd_up h fun o q => r _ o n q)⟩
  | ktup h t => exact ⟨_, _, rfl, t, fun H r => .inr h⟩
theorem ity_zip {ta : TA} {as bs : List D} (h : EvA1 m K ta Γ [.tup as, .tup bs]) : ItY m K (iZipA K ta) Γ (zipD as bs) := fun σ H e Q q =>
  h σ H e _ fun vs es H1 s r1 rs => by
    subst s
    cases rs with
    | cons ra rs =>
      cases rs with
      | cons rb rs =>
        cases rs
        obtain ⟨a, vs1, rfl, rA, hA⟩ := tup_standsX ra
        obtain ⟨b, vs2, rfl, rB, hB⟩ := tup_standsX rb
        have lA := rA.len
        have lB := rB.len
        have z0 : StK m H1 H1 := fun _ _ _ e => e
        refine ⟨a, b, vs1, vs2, rfl, .inr ⟨hA H1 z0, hB H1 z0, q _ _ r1 fun H2 i2 st => ⟨fun i hi => ?_, ?_, fun i x H' hi y => ?_⟩⟩⟩
        · rw [zipD_len] at hi
          exact ⟨vs1, vs2, vs1[i]'(by omega), vs2[i]'(by omega), hA H2 st, hB H2 st, List.getElem?_eq_getElem _, List.getElem?_eq_getElem _⟩
        · exact ⟨vs1, vs2, hA H2 st, hB H2 st, by rw [zipD_len]; omega⟩
        · obtain ⟨T, x1, x2, rfl, hT, rfl, hx1, hx2⟩ := y
          obtain ⟨d1, hd1, rd1⟩ := rA.at (hx1 vs1 (hA H2 st))
          obtain ⟨d2, hd2, rd2⟩ := rB.at (hx2 vs2 (hB H2 st))
          exact ⟨same_new hT, _, zipD_at hd1 hd2, rp_new i2 hT (.cons (rd1.go fun a o n e => ⟨n, st a o n e⟩) (.cons (rd2.go fun a o n e => ⟨n, st a o n e⟩) .nil))⟩
/-- for, over either -/
theorem so_forY {wi : TI} {g : TG} {xs : List D} (hi : ItY (m.ext l) K wi Γ xs) (W : Nat → G → List D → Prop) (hw : W 0 Γ ds)
    (hs : ∀ i d Γ' ds', xs[i]? = some d → W i Γ' ds' → ∃ Γ2 js, TgD (m.ext l) K g Γ' d js Γ2 ∧ SGo m K l H0 ts Γ2 ds' { nx := W (i + 1), rt := O.rt }) (hd : ∀ Γ' ds', W xs.length Γ' ds' → O.nx Γ' ds') : SGo m K l H0 (tFor wi g ts) Γ ds O := fun h0 i0 σ H vs r e hl ra E M => by
  refine hi σ H e _ fun J H1 r1 wk => ?_
  have e1 := e.mv r1
  have kp : ∀ {Ha Hb : Hp} {us : List V}, (m.ext l).I Ha → m.R Ha Hb → Ha l = some (.lst us) → Hb l = some (.lst us) := fun ia r h => m.keep r ia.1 l _ (nFl h0 i0) h
  refine ⟨fun i k σ' H' => k = xs.length - i ∧ i ≤ xs.length ∧ m.R H0 H' ∧ StK (m.ext l) H1 H' ∧ ∃ Γ' ds' vs', W i Γ' ds' ∧ ER (m.ext l) K Γ' σ' H' ∧ H' l = some (.lst vs') ∧ RpAll K (m.ext l).F H' vs' ds', ⟨_, rfl, Nat.zero_le _, m.trans r r1, fun _ _ _ e => e, Γ, ds, vs, hw, e1, kp e.i r1 hl, ra.mv ((m.ext l).keep r1 e.i)⟩, ?_⟩
  rintro i k σ' H' ⟨rfl, hle, r', st, Γ', ds', vs', w, e', hl', ra'⟩
  obtain ⟨go, stop, yld⟩ := wk H' e'.i st
  by_cases hlt : i < xs.length
  · refine .inr ⟨go i hlt, fun σ3 H3 => m.R H0 H3 ∧ StK (m.ext l) H1 H3 ∧ ∃ Γ3 ds3 vs3, W (i + 1) Γ3 ds3 ∧ ER (m.ext l) K Γ3 σ3 H3 ∧ H3 l = some (.lst vs3) ∧ RpAll K (m.ext l).F H3 vs3 ds3, fun σ3 H3 q => ⟨xs.length - (i + 1), by omega, rfl, hlt, q⟩, fun x H2 y => ?_⟩
    obtain ⟨sm, d, hd', rx⟩ := yld i x H2 hlt y
    have r2 : m.R H' H2 := m.grow e'.i.1 sm
    obtain ⟨Γ2, js, tg, body⟩ := hs i d Γ' ds' hd' w
    refine tg x σ' H2 (e'.mv (m := m.ext l) r2) rx _ fun σ3 H3 e3 r3 _ => ?_
    have r23 : m.R H' H3 := m.trans r2 r3
    have ra3 : RpAll K (m.ext l).F H3 vs' ds' := ra'.mv ((m.ext l).keep r23 e'.i)
    have st3 : StK (m.ext l) H1 H3 := fun a o n q => (m.ext l).keep r23 e'.i a o n (st a o n q)
    refine body h0 i0 σ3 H3 vs' (m.trans r' r23) e3 (kp e'.i r23 hl') ra3 _ ⟨fun Γ4 ds4 σ4 H4 vs4 o r4 st4 e4 hl4 ra4 => ⟨r4, st3.trans st4, Γ4, ds4, vs4, o, e4, hl4, ra4⟩, fun d v H4 o r4 rv => M.rt d v H4 o r4 rv⟩
  · have e0 : i = xs.length := by omega
    subst e0
    exact .inl ⟨stop, M.nx Γ' ds' σ' H' vs' (hd Γ' ds' w) r' (fun a o n q => st a o n ((m.ext l).keep r1 e.i a o n q)) e' hl' ra'⟩
/-! ### a list that is put into: what is put in may be made in any way -/
theorem so_setG {i k : Nat} {ti : TE} (hi : Γ[i]? = some (some (.adr l))) (h : ∀ σ H vs, H0 l = none → m.I H0 → ER (m.ext l) K Γ σ H → H l = some (.lst vs) → RpAll K (m.ext l).F H vs ds → ∀ Q : VK, (∀ v H1, m.R H H1 → Rp K (m.ext l).F H1 v d → Q v H1) → te σ H Q) (hk : Ev1 (m.ext l) K ti Γ (dN k)) (hlt : k < ds.length) (kk : O.nx Γ (ds.set k d)) : SGo m K l H0 (tAsg te (gSub (tVar i) ti rSetL)) Γ ds O := fun h0 i0 σ H vs r e hl ra E M =>
  h σ H vs h0 i0 e hl ra _ fun v H1 r1 rv1 => by
    have e1 : ER (m.ext l) K Γ σ H1 := e.mv (m := m.ext l) r1
    have hl1 : H1 l = some (.lst vs) := m.keep r1 e.i.1 l _ (nFl h0 i0) hl
    have ra1 : RpAll K (m.ext l).F H1 vs ds := ra.mv ((m.ext l).keep r1 e.i)
    obtain ⟨w, h1, h2⟩ := e1.at_ i _ hi
    obtain rfl := h2.adrE
    refine ⟨_, h1, hk σ H1 e1 _ fun z dz H2 s2 r2 rz => ?_⟩
    subst s2
    obtain rfl := rz.intE
    have e2 := e1.mv r2
    have hl2 : H2 l = some (.lst vs) := m.keep r2 e1.i.1 l _ (nFl h0 i0) hl1
    have ra2 : RpAll K (m.ext l).F H2 vs ds := ra1.mv ((m.ext l).keep r2 e1.i)
    have rv2 : Rp K (m.ext l).F H2 v d := rv1.mv ((m.ext l).keep r2 e1.i)
    refine ⟨l, vs, k, k, rfl, rfl, hl2, Evl.ixN_nat (by rw [ra.len]; exact hlt), ?_⟩
    have mv : ∀ a o, ¬ (m.ext l).F a → H2 a = some o → (upd H2 l (.lst (vs.set k v))) a = some o := fun a o n q => by rw [upd_ne (fun z => n (.inr z))]; exact q
    have rr : m.R H0 (upd H2 l (.lst (vs.set k v))) := m.chg i0 (m.trans r (m.trans r1 r2)) h0
    refine M.nx Γ _ σ _ (vs.set k v) kk rr (fun a o n q => mv a o n ((m.ext l).keep r2 e1.i a o n ((m.ext l).keep r1 e.i a o n q))) ⟨⟨m.inv rr i0, by rw [upd_same]; exact fun z => nomatch z⟩, e2.len, fun j d h => let ⟨v, h1, h2⟩ := e2.at_ j d h; ⟨v, h1, h2.go fun a o n q => ⟨n, mv a o n q⟩⟩⟩ upd_same ((ra2.setN rv2 k).mv mv)
/-- x[k] = e, e does not read the list -/
theorem so_setX {i k : Nat} {ti : TE} (hi : Γ[i]? = some (some (.adr l))) (h : Ev1 (m.ext l) K te Γ d) (hk : Ev1 (m.ext l) K ti Γ (dN k)) (hlt : k < ds.length) (kk : O.nx Γ (ds.set k d)) : SGo m K l H0 (tAsg te (gSub (tVar i) ti rSetL)) Γ ds O :=
  so_setG hi (fun σ H vs h0 i0 e hl ra Q q => h σ H e _ fun v d' H1 s r1 rv => by subst s; exact q v H1 r1 rv) hk hlt kk
/-- a list that is made new -/
def EvF (m : Mo) (K : PySem.W.Frag) (te : TE) (Γ : G) (ds : List D) : Prop := ∀ σ H, ER m K Γ σ H → ∀ Q : VK, (∀ p H1 vs, m.R H H1 → H p = none → H1 p = some (.lst vs) → RpAll K m.F H1 vs ds → Q (.ref p) H1) → te σ H Q
/-- x[k] = [..], of numbers and tuples of them; it may read the list -/
theorem so_setF {i k n : Nat} {ti : TE} {es : List D} (hi : Γ[i]? = some (some (.adr l))) (h : EvF m K te (Γ.set i (some (.lst ds))) es) (ht : ∀ x ∈ es, ttree n x = true) (hk : Ev1 (m.ext l) K ti Γ (dN k)) (hlt : k < ds.length) (kk : O.nx Γ (ds.set k (.lst es))) : SGo m K l H0 (tAsg te (gSub (tVar i) ti rSetL)) Γ ds O :=
  so_setG hi (fun σ H vs h0 i0 e hl ra Q q => h σ H (er_dis h0 i0 e hi hl ra) _ fun p H1 us r1 hp hp1 rs => by
    have hl1 : H1 l = some (.lst vs) := m.keep r1 e.i.1 l _ (nFl h0 i0) hl
    refine q _ H1 r1 (.lst (fun z => z.elim (fun f => m.fa e.i.1 f hp) fun z => by rw [z, hl] at hp; cases hp) hp1 ?_)
    have go : ∀ {ys : List D} {ws : List V}, (∀ x ∈ ys, ttree n x = true) → RpAll K m.F H1 ws ys → RpAll K (m.ext l).F H1 ws ys := fun {ys} => by
      induction ys with
      | nil => intro ws _ r; cases r; exact .nil
      | cons y ys ih =>
        intro ws hy r
        cases r with
        | cons r1 r2 => exact .cons (Rp.off hl1 n (hy y List.mem_cons_self) r1) (ih (fun x hx => hy x (List.mem_cons_of_mem _ hx)) r2)
    exact go ht rs) hk hlt kk
end
end Tx

set_option Elab.async false
set_option linter.all false
set_option maxRecDepth 100000
set_option maxHeartbeats 2000000
set_option autoImplicit false
/-! Tx: comprehensions as new lists; two lists of one's own -/
namespace Tx
open PySem L2
section
variable {K : PySem.W.Frag} {m : Mo} {Γ : G} {te : TE} {tt : TT}
theorem ef_lcN {wi : TI} {g : TG} {vs : List Nat} {U : List D → Prop} {T : D → Bool → Prop} {V' : D → D → Prop} {js : List Nat} (hj : ∀ j ∈ js, j ∈ vs) (hi : ItD m K wi Γ U) (hu : ∀ xs, U xs → xs.length ≤ 100000)
    (hs : ∀ m', Mo.Le m m' → ∀ xs d, U xs → d ∈ xs → ∃ Γ2, TgD m' K g (wipeG Γ vs) d js Γ2 ∧ EvT m' K tt Γ2 (T d) ∧ (T d true → EvN m' K te Γ2 (V' d))) : ∀ σ H, ER m K Γ σ H → ∀ Q : VK, (∀ p H1 us xs ys, U xs → LcR T V' xs ys → m.R H H1 → H p = none → H1 p = some (.lst us) → RpAll K m.F H1 us ys → Q (.ref p) H1) → (tLc wi g tt te vs) σ H Q := fun σ H e Q q => by
  refine hi σ H e _ fun J xs H1 ht r1 wk => fun Dl hD => ?_
  have e1 := e.mv r1
  have rN : m.R H1 (upd H1 Dl (.lst [])) := m.grow e1.i (same_new hD)
  have nF : ¬ m.F Dl := fun f => m.fa e1.i f hD
  have wkA : ∀ H', m.R H1 H' → (m.ext Dl).I H' → WkD (m.ext Dl) K J H' xs := fun H' r i => wk (m.ext Dl) (m.le_ext Dl) H' i r fun a f n => f.elim (fun f => absurd f n) fun z => z ▸ hD
  -- the word: what the new list holds
  refine ⟨fun i k H' => k = xs.length - i ∧ i ≤ xs.length ∧ m.R H1 H' ∧ ∃ acc ys, H' Dl = some (.lst acc) ∧ RpAll K (m.ext Dl).F H' acc ys ∧ LcR T V' (xs.take i) ys, ⟨_, rfl, Nat.zero_le _, rN, [], [], upd_same, .nil, by simpa using LcR.nil⟩, ?_⟩
  rintro i k H' ⟨rfl, hle, r, acc, ys, hacc, ra, lr⟩
  have eX : ER (m.ext Dl) K Γ σ H' := e1.ext hD r (by rw [hacc]; exact fun z => nomatch z)
  have iX := eX.i
  have wkX := wkA H' r iX
  by_cases hlt : i < xs.length
  · refine .inr ⟨wkX.go i H' (m.refl _) hlt, fun H3 => m.R H1 H3 ∧ ∃ acc ys, H3 Dl = some (.lst acc) ∧ RpAll K (m.ext Dl).F H3 acc ys ∧ LcR T V' (xs.take (i + 1)) ys, fun H3 q => ⟨xs.length - (i + 1), by omega, rfl, hlt, q⟩, fun x H2 y => ?_⟩
    obtain ⟨r2, d, hd', rx⟩ := wkX.yld i H' x H2 (m.refl _) hlt y
    obtain ⟨Γ2, tg, tst, el⟩ := hs (m.ext Dl) (m.le_ext Dl) xs d ht (List.mem_of_getElem? hd')
    have hlen : acc.length < sizeLine := Nat.lt_of_lt_of_le (show acc.length < 100001 by
      have := lr.len; have h2 := ra.len; have h3 := hu xs ht; rw [List.length_take] at this; omega) (by decide)
    have tk : xs.take (i + 1) = xs.take i ++ [d] := by rw [List.take_add_one, hd']; rfl
    have kD : ∀ {Ha Hb : Hp}, (m.ext Dl).I Ha → m.R Ha Hb → Ha Dl = some (.lst acc) → Hb Dl = some (.lst acc) := fun ia r h => m.keep r ia.1 Dl _ nF h
    refine tg x (wipe σ vs) H2 ((eX.mv r2).wipe vs) rx _ fun σ3 H3 e3 r3 w3 => ⟨by rw [w3 vs hj, wipe_wipe], ?_⟩
    have i2 := (m.ext Dl).inv r2 iX
    refine tst σ3 H3 e3 _ fun b H4 tb' r4 => ?_
    have i3 := e3.i
    have i4 := (m.ext Dl).inv r4 i3
    have rr := m.trans r2 (m.trans r3 r4)
    cases b with
    | false =>
      exact ⟨m.trans r rr, acc, ys, kD iX rr hacc, ra.mv ((m.ext Dl).keep rr iX), by rw [tk]; simpa using lr.append (.no tb' .nil)⟩
    | true =>
      refine el tb' σ3 H4 (e3.mv r4) _ fun w dw H5 sv r5 rw' => ?_
      have i5 := (m.ext Dl).inv r5 i4
      have rr5 := m.trans rr r5
      refine ⟨acc, kD iX rr5 hacc, hlen, m.chg e1.i (m.trans r rr5) hD, acc ++ [w], ys ++ [dw], upd_same, ?_, by rw [tk]; exact lr.append (.yes tb' sv .nil)⟩
      have k5 : ∀ a o, ¬ (m.ext Dl).F a → H5 a = some o → (upd H5 Dl (.lst (acc ++ [w]))) a = some o := fun a o n x => by rw [upd_ne (fun z => n (.inr z))]; exact x
      exact (((ra.mv ((m.ext Dl).keep rr5 iX)).append (.cons rw' .nil)).mv k5)
  · have e0 : i = xs.length := by omega
    subst e0
    exact .inl ⟨wkX.stop H' (m.refl _), q Dl H' acc xs ys ht (by simpa using lr) (m.trans r1 r) (Classical.byContradiction fun z => m.had e.i r1 z hD) hacc (ra.weak fun a f => .inl f)⟩
theorem ef_lcM {α : Type} {wi : TI} {g : TG} {vs : List Nat} {xs : List α} {js : List Nat} (enc : α → D) (t : α → Bool) (f : α → D) (hc : ∀ x ∈ xs, ∀ y ∈ xs, enc x = enc y → x = y) (hj : ∀ j ∈ js, j ∈ vs) (hi : ItD1 m K wi Γ (xs.map enc)) (hu : xs.length ≤ 100000)
    (hs : ∀ m', Mo.Le m m' → ∀ x, x ∈ xs → ∃ Γ2, TgD m' K g (wipeG Γ vs) (enc x) js Γ2 ∧ EvT1 m' K tt Γ2 (t x) ∧ (t x = true → Ev1 m' K te Γ2 (f x))) : EvF m K (tLc wi g tt te vs) Γ ((xs.filter t).map f) := fun σ H e Q q =>
  ef_lcN (U := fun x => x = xs.map enc) (T := fun d b => ∃ x ∈ xs, d = enc x ∧ b = t x) (V' := fun d y => ∃ x ∈ xs, d = enc x ∧ y = f x) hj hi (fun x e => by rw [e, List.length_map]; exact hu) (fun m' l x d e hd => by
    subst e
    obtain ⟨x, hx, rfl⟩ := List.mem_map.mp hd
    obtain ⟨Γ2, h1, h2, h3⟩ := hs m' l x hx
    exact ⟨Γ2, h1, h2.mono fun b e => ⟨x, hx, rfl, e⟩, fun ⟨y, hy, e1, e2⟩ => (h3 (by rw [hc x hx y hy e1]; exact e2.symm)).mono fun d e => ⟨x, hx, rfl, e⟩⟩) σ H e Q fun p H1 us zs ys hz lr r hp hp1 rs => by
      subst hz
      have e3 := lr.fnM (t := t) (f := f) (fun x hx b ⟨y, hy, e1, e2⟩ => by rw [hc x hx y hy e1]; exact e2) fun x hx d _ ⟨y, hy, e1, e2⟩ => by rw [hc x hx y hy e1]; exact e2
      rw [e3] at rs
      exact q p H1 us r hp hp1 rs
end
section
variable {K : PySem.W.Frag} {m : Mo} {Γ : G} {ta tb te tv : TE} {tt : TT} {ts tw : TS} {d : D} {as bs : List D} {l k : Addr} {H0 : Hp}
structure OutP where
  nx : G → List D → List D → Prop
  rt : D → Prop
variable {O O' : OutP}
abbrev Mo.ext2 (m : Mo) (l k : Addr) : Mo := (m.ext l).ext k
structure MeetsP (m : Mo) (K : PySem.W.Frag) (l k : Addr) (H0 H : Hp) (O : OutP) (E : Ends) : Prop where
  nx : ∀ Γ' as' bs' σ' H' us' vs', O.nx Γ' as' bs' → m.R H0 H' → StK (m.ext2 l k) H H' → ER (m.ext2 l k) K Γ' σ' H' → H' l = some (.lst us') → H' k = some (.lst vs') → RpAll K (m.ext2 l k).F H' us' as' → RpAll K (m.ext2 l k).F H' vs' bs' → E.nx σ' H'
  rt : ∀ d v H', O.rt d → m.R H0 H' → Rp K m.F H' v d → E.rt v H'
theorem MeetsP.mv {H H1 : Hp} {E : Ends} (M : MeetsP m K l k H0 H O E) (s : StK (m.ext2 l k) H H1) : MeetsP m K l k H0 H1 O E := ⟨fun Γ' as' bs' σ' H' us' vs' o r st => M.nx Γ' as' bs' σ' H' us' vs' o r (s.trans st), M.rt⟩
/-- a statement, while the lists at l and k are one's own; H0: the heap ahead of both -/
def SGp (m : Mo) (K : PySem.W.Frag) (l k : Addr) (H0 : Hp) (ts : TS) (Γ : G) (as bs : List D) (O : OutP) : Prop :=
  H0 l = none → H0 k = none → l ≠ k → m.I H0 → ∀ σ H us vs, m.R H0 H → ER (m.ext2 l k) K Γ σ H → H l = some (.lst us) → H k = some (.lst vs) → RpAll K (m.ext2 l k).F H us as → RpAll K (m.ext2 l k).F H vs bs → ∀ E : Ends, MeetsP m K l k H0 H O E → ts E σ H
theorem er_disp {i : Nat} {σ : L2.St} {H : Hp} {us : List V} (h0 : H0 l = none) (i0 : m.I H0) (hlk : l ≠ k) (e : ER (m.ext2 l k) K Γ σ H) (hi : Γ[i]? = some (some (.adr l))) (hl : H l = some (.lst us)) (ra : RpAll K (m.ext2 l k).F H us as) : ER (m.ext k) K (Γ.set i (some (.lst as))) σ H := by
  refine ⟨⟨e.i.1.1, e.i.2⟩, by rw [List.length_set, e.len], fun j d h => ?_⟩
  have wk : ∀ a, (m.ext k).F a → (m.ext2 l k).F a := fun a f => f.elim (fun f => .inl (.inl f)) .inr
  by_cases z : i = j
  · subst z
    have hlt : i < Γ.length := (List.getElem?_eq_some_iff.mp hi).1
    rw [List.getElem?_set_self hlt] at h
    injection h with h
    injection h with h
    subst h
    obtain ⟨v, h1, h2⟩ := e.at_ i _ hi
    obtain rfl := h2.adrE
    exact ⟨_, h1, .lst (fun f => f.elim (nFl h0 i0) hlk) hl (ra.weak wk)⟩
  · rw [List.getElem?_set_ne z] at h
    obtain ⟨v, h1, h2⟩ := e.at_ j d h
    exact ⟨v, h1, h2.weak wk⟩
theorem sp_dis {i j : Nat} {O : Out} (hi : Γ[i]? = some (some (.adr l))) (hj : Γ[j]? = some (some (.adr k))) (hij : i ≠ j) (h : SG m K ts ((Γ.set i (some (.lst as))).set j (some (.lst bs))) { nx := fun _ => False, rt := O.rt }) : SGp m K l k H0 ts Γ as bs { nx := fun _ _ _ => False, rt := O.rt } := fun h0 k0 hlk i0 σ H us vs r e hl hk ra rb E M => by
  have e1 := er_disp h0 i0 hlk e hi hl ra
  have e2 : ER m K ((Γ.set i (some (.lst as))).set j (some (.lst bs))) σ H := er_dis k0 i0 e1 (by rw [List.getElem?_set_ne hij]; exact hj) hk (rb.weak fun a f => f.elim (fun f => .inl (.inl f)) .inr)
  exact h σ H e2 E ⟨fun _ _ _ o => o.elim, fun d v H' o r' rv => M.rt d v H' o (m.trans r r') rv, fun _ _ _ o => o.elim, fun _ _ _ o => o.elim⟩
theorem sp_seq (N : G → List D → List D → Prop) (h1 : SGp m K l k H0 ts Γ as bs { O with nx := N }) (h2 : ∀ Γ' as' bs', N Γ' as' bs' → SGp m K l k H0 tw Γ' as' bs' O) : SGp m K l k H0 (tSeq ts tw) Γ as bs O := fun h0 k0 hlk i0 σ H us vs r e hl hk ra rb E M =>
  h1 h0 k0 hlk i0 σ H us vs r e hl hk ra rb _ ⟨fun Γ' as' bs' σ' H' us' vs' o r' st e' hl' hk' ra' rb' => h2 Γ' as' bs' o h0 k0 hlk i0 σ' H' us' vs' r' e' hl' hk' ra' rb' E (M.mv st), M.rt⟩
theorem sp_forG {wi : TI} {g : TG} {xs : List D} (hi : ∀ σ H us, H0 l = none → l ≠ k → m.I H0 → ER (m.ext2 l k) K Γ σ H → H l = some (.lst us) → RpAll K (m.ext2 l k).F H us as → ∀ Q : It → Hp → Prop, (∀ (J : It) H1, m.R H H1 → (∀ H2, (m.ext2 l k).I H2 → StK (m.ext2 l k) H1 H2 → (∀ i, i < xs.length → J.go i H2) ∧ J.stop xs.length H2 ∧ ∀ i x H', i < xs.length → J.yld i H2 x H' → Same H2 H' ∧ ∃ d, xs[i]? = some d ∧ Rp K (m.ext2 l k).F H' x d) → Q J H1) → wi σ H Q) (W : Nat → G → List D → List D → Prop) (hw : W 0 Γ as bs)
    (hs : ∀ i d Γ' as' bs', xs[i]? = some d → W i Γ' as' bs' → ∃ Γ2 js, TgD (m.ext2 l k) K g Γ' d js Γ2 ∧ SGp m K l k H0 ts Γ2 as' bs' { nx := W (i + 1), rt := O.rt }) (hd : ∀ Γ' as' bs', W xs.length Γ' as' bs' → O.nx Γ' as' bs') : SGp m K l k H0 (tFor wi g ts) Γ as bs O := fun h0 k0 hlk i0 σ H us vs r e hl hk ra rb E M => by
  refine hi σ H us h0 hlk i0 e hl ra _ fun J H1 r1 wk => ?_
  have e1 := e.mv r1
  have kl : ∀ {Ha Hb : Hp} {us : List V}, (m.ext2 l k).I Ha → m.R Ha Hb → Ha l = some (.lst us) → Hb l = some (.lst us) := fun ia r h => m.keep r ia.1.1 l _ (nFl h0 i0) h
  have kk : ∀ {Ha Hb : Hp} {us : List V}, (m.ext2 l k).I Ha → m.R Ha Hb → Ha k = some (.lst us) → Hb k = some (.lst us) := fun ia r h => m.keep r ia.1.1 k _ (nFl k0 i0) h
  refine ⟨fun i n σ' H' => n = xs.length - i ∧ i ≤ xs.length ∧ m.R H0 H' ∧ StK (m.ext2 l k) H1 H' ∧ ∃ Γ' as' bs' us' vs', W i Γ' as' bs' ∧ ER (m.ext2 l k) K Γ' σ' H' ∧ H' l = some (.lst us') ∧ H' k = some (.lst vs') ∧ RpAll K (m.ext2 l k).F H' us' as' ∧ RpAll K (m.ext2 l k).F H' vs' bs', ⟨_, rfl, Nat.zero_le _, m.trans r r1, fun _ _ _ e => e, Γ, as, bs, us, vs, hw, e1, kl e.i r1 hl, kk e.i r1 hk, ra.mv ((m.ext2 l k).keep r1 e.i), rb.mv ((m.ext2 l k).keep r1 e.i)⟩, ?_⟩
  rintro i n σ' H' ⟨rfl, hle, r', st, Γ', as', bs', us', vs', w, e', hl', hk', ra', rb'⟩
  obtain ⟨go, stop, yld⟩ := wk H' e'.i st
  by_cases hlt : i < xs.length
  · refine .inr ⟨go i hlt, fun σ3 H3 => m.R H0 H3 ∧ StK (m.ext2 l k) H1 H3 ∧ ∃ Γ3 as3 bs3 us3 vs3, W (i + 1) Γ3 as3 bs3 ∧ ER (m.ext2 l k) K Γ3 σ3 H3 ∧ H3 l = some (.lst us3) ∧ H3 k = some (.lst vs3) ∧ RpAll K (m.ext2 l k).F H3 us3 as3 ∧ RpAll K (m.ext2 l k).F H3 vs3 bs3, fun σ3 H3 q => ⟨xs.length - (i + 1), by omega, rfl, hlt, q⟩, fun x H2 y => ?_⟩
    obtain ⟨sm, d, hd', rx⟩ := yld i x H2 hlt y
    have r2 : m.R H' H2 := m.grow e'.i.1.1 sm
    obtain ⟨Γ2, js, tg, body⟩ := hs i d Γ' as' bs' hd' w
    refine tg x σ' H2 (e'.mv (m := m.ext2 l k) r2) rx _ fun σ3 H3 e3 r3 _ => ?_
    have r23 : m.R H' H3 := m.trans r2 r3
    have up := (m.ext2 l k).keep r23 e'.i
    have st3 : StK (m.ext2 l k) H1 H3 := fun a o n q => up a o n (st a o n q)
    refine body h0 k0 hlk i0 σ3 H3 us' vs' (m.trans r' r23) e3 (kl e'.i r23 hl') (kk e'.i r23 hk') (ra'.mv up) (rb'.mv up) _ ⟨fun Γ4 as4 bs4 σ4 H4 us4 vs4 o r4 st4 e4 hl4 hk4 ra4 rb4 => ⟨r4, st3.trans st4, Γ4, as4, bs4, us4, vs4, o, e4, hl4, hk4, ra4, rb4⟩, fun d v H4 o r4 rv => M.rt d v H4 o r4 rv⟩
  · have e0 : i = xs.length := by omega
    subst e0
    exact .inl ⟨stop, M.nx Γ' as' bs' σ' H' us' vs' (hd Γ' as' bs' w) r' (fun a o n q => st a o n ((m.ext2 l k).keep r1 e.i a o n q)) e' hl' hk' ra' rb'⟩
theorem sp_for {wi : TI} {g : TG} {xs : List D} (hi : ItY (m.ext2 l k) K wi Γ xs) (W : Nat → G → List D → List D → Prop) (hw : W 0 Γ as bs)
    (hs : ∀ i d Γ' as' bs', xs[i]? = some d → W i Γ' as' bs' → ∃ Γ2 js, TgD (m.ext2 l k) K g Γ' d js Γ2 ∧ SGp m K l k H0 ts Γ2 as' bs' { nx := W (i + 1), rt := O.rt }) (hd : ∀ Γ' as' bs', W xs.length Γ' as' bs' → O.nx Γ' as' bs') : SGp m K l k H0 (tFor wi g ts) Γ as bs O := sp_forG (fun σ H us _ _ _ e _ _ Q q => hi σ H e Q q) W hw hs hd
/-- for x in range(e): e may read the one -/
theorem sp_forR {ta : TA} {g : TG} {n i : Nat} (hi : Γ[i]? = some (some (.adr l))) (h : EvA1 (m.ext k) K ta (Γ.set i (some (.lst as))) [dN n]) (hn : n ≤ 100000) (W : Nat → G → List D → List D → Prop) (hw : W 0 Γ as bs)
    (hs : ∀ i d Γ' as' bs', ((List.range n).map dN)[i]? = some d → W i Γ' as' bs' → ∃ Γ2 js, TgD (m.ext2 l k) K g Γ' d js Γ2 ∧ SGp m K l k H0 ts Γ2 as' bs' { nx := W (i + 1), rt := O.rt }) (hd : ∀ Γ' as' bs', W n Γ' as' bs' → O.nx Γ' as' bs') : SGp m K l k H0 (tFor (iRng1 ta) g ts) Γ as bs O :=
  sp_forG (xs := (List.range n).map dN) (fun σ H us h0 hlk i0 e hl ra Q q => h σ H (er_disp h0 i0 hlk e hi hl ra) _ fun vs ds H1 s r1 rs => by
    subst s
    cases rs with
    | cons r rs =>
      cases rs
      refine ⟨n, by rw [r.intE], by omega, by omega, q _ H1 r1 fun H2 i2 st => ⟨fun i hi => ?_, ?_, fun i x H' hi y => ?_⟩⟩
      · rw [List.length_map, List.length_range] at hi
        show i < (n : Int).toNat
        omega
      · rw [List.length_map, List.length_range]
        show (n : Int).toNat ≤ n
        omega
      · rw [List.length_map, List.length_range] at hi
        obtain ⟨e, ex⟩ := y
        subst e; subst ex
        exact ⟨Same.refl _, dN i, by rw [List.getElem?_map, List.getElem?_range hi]; rfl, by rw [Int.zero_add]; exact .int _⟩) W hw hs fun Γ' as' bs' w => hd Γ' as' bs' (by rw [List.length_map, List.length_range] at w; exact w)
/-- what changes at one of both: all else stays -/
theorem sp_keep {Γ : G} {σ : L2.St} {H : Hp} {p : Addr} {o : HO} (hp : p = l ∨ p = k) (rr : m.R H0 (upd H p o)) (i0 : m.I H0) (e : ER (m.ext2 l k) K Γ σ H) : (∀ a u, ¬ (m.ext2 l k).F a → H a = some u → (upd H p o) a = some u) ∧ ER (m.ext2 l k) K Γ σ (upd H p o) := by
  have mv : ∀ a u, ¬ (m.ext2 l k).F a → H a = some u → (upd H p o) a = some u := fun a u n q => by
    rw [upd_ne (fun z => n (by rw [z]; exact hp.elim (fun z => .inl (.inr z)) .inr))]
    exact q
  have nz : ∀ a, H a ≠ none → (upd H p o) a ≠ none := fun a n => by
    by_cases z : a = p
    · rw [z, upd_same]; exact fun z => nomatch z
    · rw [upd_ne z]; exact n
  exact ⟨mv, ⟨⟨m.inv rr i0, nz l e.i.1.2⟩, nz k e.i.2⟩, e.len, fun j d h => let ⟨v, h1, h2⟩ := e.at_ j d h; ⟨v, h1, h2.go fun a o n q => ⟨n, mv a o n q⟩⟩⟩
/-- x[n] = e, for the one and for the other -/
theorem sp_setL {i n : Nat} {ti : TE} (hi : Γ[i]? = some (some (.adr l))) (h : Ev1 (m.ext2 l k) K te Γ d) (hx : Ev1 (m.ext2 l k) K ti Γ (dN n)) (hlt : n < as.length) (kk : O.nx Γ (as.set n d) bs) : SGp m K l k H0 (tAsg te (gSub (tVar i) ti rSetL)) Γ as bs O := fun h0 k0 hlk i0 σ H us vs r e hl hk ra rb E M =>
  h σ H e _ fun v d' H1 s r1 rv => by
    subst s
    have e1 : ER (m.ext2 l k) K Γ σ H1 := e.mv (m := m.ext2 l k) r1
    obtain ⟨w, h1, h2⟩ := e1.at_ i _ hi
    obtain rfl := h2.adrE
    refine ⟨_, h1, hx σ H1 e1 _ fun z dz H2 s2 r2 rz => ?_⟩
    subst s2
    obtain rfl := rz.intE
    have r12 : m.R H H2 := m.trans r1 r2
    have e2 := e1.mv r2
    have up := (m.ext2 l k).keep r12 e.i
    have hl2 : H2 l = some (.lst us) := m.keep r12 e.i.1.1 l _ (nFl h0 i0) hl
    have hk2 : H2 k = some (.lst vs) := m.keep r12 e.i.1.1 k _ (nFl k0 i0) hk
    have rr : m.R H0 (upd H2 l (.lst (us.set n v))) := m.chg i0 (m.trans r r12) h0
    obtain ⟨mv, e3⟩ := sp_keep (o := .lst (us.set n v)) (.inl rfl) rr i0 e2
    exact ⟨l, us, n, n, rfl, rfl, hl2, Evl.ixN_nat (by rw [ra.len]; exact hlt), M.nx Γ _ _ σ _ (us.set n v) vs kk rr (fun a o n q => mv a o n (up a o n q)) e3 upd_same ((upd_ne (Ne.symm hlk)).trans hk2) (((ra.mv up).setN (rv.mv ((m.ext2 l k).keep r2 e1.i)) n).mv mv) ((rb.mv up).mv mv)⟩
theorem sp_setK {i n : Nat} {ti : TE} (hi : Γ[i]? = some (some (.adr k))) (h : Ev1 (m.ext2 l k) K te Γ d) (hx : Ev1 (m.ext2 l k) K ti Γ (dN n)) (hlt : n < bs.length) (kk : O.nx Γ as (bs.set n d)) : SGp m K l k H0 (tAsg te (gSub (tVar i) ti rSetL)) Γ as bs O := fun h0 k0 hlk i0 σ H us vs r e hl hk ra rb E M =>
  h σ H e _ fun v d' H1 s r1 rv => by
    subst s
    have e1 : ER (m.ext2 l k) K Γ σ H1 := e.mv (m := m.ext2 l k) r1
    obtain ⟨w, h1, h2⟩ := e1.at_ i _ hi
    obtain rfl := h2.adrE
    refine ⟨_, h1, hx σ H1 e1 _ fun z dz H2 s2 r2 rz => ?_⟩
    subst s2
    obtain rfl := rz.intE
    have r12 : m.R H H2 := m.trans r1 r2
    have e2 := e1.mv r2
    have up := (m.ext2 l k).keep r12 e.i
    have hl2 : H2 l = some (.lst us) := m.keep r12 e.i.1.1 l _ (nFl h0 i0) hl
    have hk2 : H2 k = some (.lst vs) := m.keep r12 e.i.1.1 k _ (nFl k0 i0) hk
    have rr : m.R H0 (upd H2 k (.lst (vs.set n v))) := m.chg i0 (m.trans r r12) k0
    obtain ⟨mv, e3⟩ := sp_keep (o := .lst (vs.set n v)) (.inr rfl) rr i0 e2
    exact ⟨k, vs, n, n, rfl, rfl, hk2, Evl.ixN_nat (by rw [rb.len]; exact hlt), M.nx Γ _ _ σ _ us (vs.set n v) kk rr (fun a o n q => mv a o n (up a o n q)) e3 ((upd_ne hlk).trans hl2) upd_same ((ra.mv up).mv mv) (((rb.mv up).setN (rv.mv ((m.ext2 l k).keep r2 e1.i)) n).mv mv)⟩
/-- found.append(left.pop(e)): e may read left -/
theorem sp_pop {i j : Nat} {S : D → Prop} (hi : Γ[i]? = some (some (.adr l))) (hj : Γ[j]? = some (some (.adr k))) (h : EvN (m.ext k) K te (Γ.set i (some (.lst as))) S) (hS : ∀ d, S d → ∃ n : Nat, d = dN n ∧ n < as.length) (hz : as.length ≤ 1000) (hz2 : bs.length ≤ 1000)
    (kk : ∀ n d, as[n]? = some d → O.nx Γ (as.eraseIdx n) (bs ++ [d])) : SGp m K l k H0 (tDrop (tBM K "list" rAppend (tVar j) (tCons (tBM K "list" rPopAt (tVar i) (tCons te tNil)) tNil))) Γ as bs O := fun h0 k0 hlk i0 σ H us vs r e hl hk ra rb E M => by
  obtain ⟨w, h1, h2⟩ := e.at_ j _ hj
  obtain rfl := h2.adrE
  obtain ⟨w, g1, g2⟩ := e.at_ i _ hi
  obtain rfl := g2.adrE
  refine ⟨_, h1, .inl ⟨rfl, vs, SqL.of hk⟩, ?_⟩
  refine ⟨_, g1, .inl ⟨rfl, us, SqL.of hl⟩, ?_⟩
  refine h σ H (er_disp h0 i0 hlk e hi hl ra) _ fun v d' H1 s r1 rv => ?_
  obtain ⟨n, rfl, hn⟩ := hS d' s
  obtain rfl := rv.intE
  have e1 : ER (m.ext2 l k) K Γ σ H1 := e.mv (m := m.ext2 l k) r1
  have up := (m.ext2 l k).keep r1 e.i
  have hl1 : H1 l = some (.lst us) := m.keep r1 e.i.1.1 l _ (nFl h0 i0) hl
  have hk1 : H1 k = some (.lst vs) := m.keep r1 e.i.1.1 k _ (nFl k0 i0) hk
  have lu := ra.len
  have lv := rb.len
  have hnu : n < us.length := by omega
  obtain ⟨d, hd, rd⟩ := (ra.mv up).at (List.getElem?_eq_getElem hnu)
  have rr : m.R H0 (upd H1 l (.lst (us.eraseIdx n))) := m.chg i0 (m.trans r r1) h0
  obtain ⟨mv, e2⟩ := sp_keep (o := .lst (us.eraseIdx n)) (.inl rfl) rr i0 e1
  refine ⟨l, us, (n : Int), n, us[n], rfl, rfl, hl1, by omega, by omega, ?_, List.getElem?_eq_getElem hnu, ?_⟩
  · unfold seqIndex?
    simp
    omega
  have hk2 : (upd H1 l (.lst (us.eraseIdx n))) k = some (.lst vs) := (upd_ne (Ne.symm hlk)).trans hk1
  have rr2 : m.R H0 (upd (upd H1 l (.lst (us.eraseIdx n))) k (.lst (vs ++ [us[n]]))) := m.chg i0 rr k0
  obtain ⟨mv2, e3⟩ := sp_keep (o := .lst (vs ++ [us[n]])) (.inr rfl) rr2 i0 e2
  refine ⟨k, vs, us[n], rfl, rfl, hk2, Nat.lt_of_lt_of_le (show vs.length < 1001 by omega) (by decide), ?_⟩
  exact M.nx Γ _ _ σ _ (us.eraseIdx n) (vs ++ [us[n]]) (kk n d hd) rr2 (fun a o x q => mv2 a o x (mv a o x (up a o x q))) e3 ((upd_ne hlk).trans upd_same) upd_same ((((ra.mv up).eraseN n).mv mv).mv mv2) (((((rb.mv up).append (.cons rd .nil)).mv mv)).mv mv2)
end
end Tx

set_option Elab.async false
set_option linter.all false
set_option maxRecDepth 100000
set_option maxHeartbeats 2000000
set_option autoImplicit false
/-! Tx: where a second list begins; places in lists -/
namespace Tx
open PySem L2
section
variable {K : PySem.W.Frag} {m : Mo} {Γ : G} {ta tb te tv : TE} {tt : TT} {ts tw : TS} {d : D} {as bs : List D} {l k : Addr} {H0 : Hp}
/-- x = a new list; rest -/
theorem so_own2 {j : Nat} {R : D → Prop} (h : EvL (m.ext l) K te Γ bs) (kk : ∀ k, SGp m K l k H0 tw (Γ.set j (some (.adr k))) as bs { nx := fun _ _ _ => False, rt := R }) : SGo m K l H0 (tSeq (tAsg te (gName j)) tw) Γ as { nx := fun _ _ => False, rt := R } := fun h0 i0 σ H us r e hl ra E M =>
  h σ H e _ fun k H1 vs r1 hk rs => by
    have e1 := e.mv r1
    have hl1 : H1 l = some (.lst us) := m.keep r1 e.i.1 l _ (nFl h0 i0) hl
    have ra1 := ra.mv ((m.ext l).keep r1 e.i)
    have hlk : l ≠ k := fun z => by rw [z, hk] at hl1; cases hl1
    have k0 : H0 k = none := Classical.byContradiction fun z => m.had i0 (m.trans r r1) z hk
    have rN : m.R H1 (upd H1 k (.lst vs)) := m.grow e1.i.1 (same_new hk)
    have eX : ER (m.ext2 l k) K Γ σ (upd H1 k (.lst vs)) := e1.ext hk rN (by rw [upd_same]; exact fun z => nomatch z)
    have up : ∀ {vs' : List V} {ds : List D}, RpAll K (m.ext l).F H1 vs' ds → RpAll K (m.ext2 l k).F (upd H1 k (.lst vs)) vs' ds := fun rs => Rp.goAll (fun a o n q => ⟨fun z => z.elim n fun z => (by rw [z, hk] at q; cases q), same_new hk a o q⟩) rs
    exact kk k h0 k0 hlk i0 _ _ us vs (m.trans r (m.trans r1 rN)) (eX.set j (.adr k)) ((upd_ne hlk).trans hl1) upd_same (up ra1) (up rs) E ⟨fun _ _ _ _ _ _ _ o => o.elim, fun d v H' o r rv => M.rt d v H' o r rv⟩
/-- x, y = a new list, []; rest (the pair itself is not made) -/
theorem sq_two {i j : Nat} {O : Out} (h : EvL m K te Γ as) (kk : ∀ l k H0, SGp m K l k H0 tw ((Γ.set i (some (.adr l))).set j (some (.adr k))) as [] { nx := fun _ _ _ => False, rt := O.rt }) : SG m K (tSeq (tPar i j (tCons te (tCons (tLst tNil) tNil))) tw) Γ O := fun σ H e E M =>
  h σ H e _ fun l H1 us r1 hl rs => by
    have e1 := e.mv r1
    have rN : m.R H1 (upd H1 l (.lst us)) := m.grow e1.i (same_new hl)
    have eX : ER (m.ext l) K Γ σ (upd H1 l (.lst us)) := e1.ext hl rN (by rw [upd_same]; exact fun z => nomatch z)
    have rs' : RpAll K (m.ext l).F (upd H1 l (.lst us)) us as := Rp.goAll (fun a o n q => ⟨fun z => z.elim n fun z => (by rw [z, hl] at q; cases q), same_new hl a o q⟩) rs
    refine ⟨by decide, fun k hk => ?_⟩
    have hlk : l ≠ k := fun z => by rw [← z, upd_same] at hk; cases hk
    have k1 : H1 k = none := by rw [upd_ne (Ne.symm hlk)] at hk; exact hk
    have rK : m.R (upd H1 l (.lst us)) (upd (upd H1 l (.lst us)) k (.lst [])) := m.grow eX.i.1 (same_new hk)
    have eK : ER (m.ext2 l k) K Γ σ (upd (upd H1 l (.lst us)) k (.lst [])) := eX.ext hk rK (by rw [upd_same]; exact fun z => nomatch z)
    have rs2 : RpAll K (m.ext2 l k).F (upd (upd H1 l (.lst us)) k (.lst [])) us as := Rp.goAll (fun a o n q => ⟨fun z => z.elim n fun z => (by rw [z, hk] at q; cases q), same_new hk a o q⟩) rs'
    exact ⟨_, _, rfl, kk l k H1 hl k1 hlk e1.i _ _ us [] (m.trans rN rK) ((eK.set i (.adr l)).set j (.adr k)) ((upd_ne hlk).trans upd_same) upd_same rs2 .nil E ⟨fun _ _ _ _ _ _ _ o => o.elim, fun d v H' o r rv => M.rt d v H' o (m.trans r1 r) rv⟩⟩
/-- x, y = e, f; rest -/
theorem sq_par {i j : Nat} {O : Out} {T : List D → Prop} {tc : TA} (h : EvA m K tc Γ T) (k : ∀ ds, T ds → ∃ d e, ds = [d, e] ∧ SG m K tw ((Γ.set i (some d)).set j (some e)) O) : SG m K (tSeq (tPar i j tc) tw) Γ O := fun σ H e E M =>
  h σ H e _ fun vs ds H1 s r1 rs => by
    obtain ⟨a, b, rfl, q⟩ := k ds s
    cases rs with
    | cons r2 rs =>
      cases rs with
      | cons r3 rs =>
        cases rs
        exact ⟨_, _, rfl, q _ H1 (((e.mv r1).set i r2).set j r3) E (M.mv r1)⟩
/-- list(range(n)) -/
theorem en_rangeL {n : Nat} (h : Ev1 m K ta Γ (dN n)) (hn : n ≤ 1000) : Ev1 m K (tLstRg (tRg1 ta)) Γ (lstN (List.range n)) := fun σ H e Q q =>
  h σ H e _ fun v d H1 s r1 rv => by
    subst s
    have i1 := m.inv r1 e.i
    refine ⟨n, rv.intE, RgOk.of_le (by omega) (by omega) (by omega) (by omega), fun p hp => q _ _ _ rfl (m.trans r1 (m.grow i1 (same_new hp))) (rp_newL i1 hp ?_)⟩
    have : rgV 0 (n : Int) = (List.range n).map fun i : Nat => V.int (i : Int) := by
      unfold rgV
      have e : ((n : Int) - 0).toNat = n := by omega
      rw [e]
      exact List.map_congr_left fun i _ => by rw [Int.zero_add]
    rw [this]
    exact RpAll.map (f := fun i : Nat => V.int (i : Int)) (g := dN) (fun x => .int _) _
theorem ne_idx {t : Nat} : ∀ {ns : List Nat} {j : Nat} (h : j < ns.length), j < ns.idxOf t → ns[j] ≠ t
  | a :: ns, 0, _, h => fun z => by
    rw [List.getElem_cons_zero] at z
    subst z
    simp at h
  | a :: ns, j + 1, hl, h => by
    rw [List.getElem_cons_succ]
    rw [List.idxOf_cons] at h
    cases q : a == t with
    | true => rw [q] at h; simp at h
    | false => rw [q] at h; exact ne_idx _ (by simpa using h)
/-- xs.index(x) -/
theorem en_index {ns : List Nat} {t : Nat} (ha : Ev1 m K ta Γ (lstN ns)) (hb : Ev1 m K tb Γ (dN t)) (ht : t ∈ ns) : Ev1 m K (tBM K "list" (rIndex K) ta (tCons tb tNil)) Γ (dN (ns.idxOf t)) := fun σ H e Q q =>
  ha σ H e _ fun v d H1 s r1 rv => by
    subst s
    obtain ⟨a, vs, rfl, hA, rs⟩ := rv.lstE
    refine ⟨.inl ⟨rfl, vs, SqL.of hA⟩, hb σ H1 (e.mv r1) _ fun y dy H2 s r2 ry => ?_⟩
    subst s
    obtain rfl := ry.intE
    have i1 := m.inv r1 e.i
    rw [show ns.map dN = (ns.map fun k : Nat => (k : Int)).map D.int from dN_ints ns] at rs
    have ev := rs.ints
    have hA2 : H2 a = some (.lst vs) := by
      cases rv with
      | lst n h t => exact m.keep r2 i1 a _ n hA
    have hlt := List.idxOf_lt_length_iff.mpr ht
    have at_ : ∀ j : Nat, vs[j]? = (ns[j]?).map fun k : Nat => V.int (k : Int) := fun j => by rw [ev, List.getElem?_map, List.getElem?_map, Option.map_map]; rfl
    refine ⟨a, vs, .int (t : Int), ns.idxOf t, .int (t : Int), rfl, rfl, SqL.of hA2, rfl, ?_, ?_, ?_, fun j z hj hz => ?_, q _ _ H2 rfl (m.trans r1 r2) (.int _)⟩
    · rw [ev, List.all_eq_true]
      intro x hx
      obtain ⟨y, _, rfl⟩ := List.mem_map.mp hx
      rfl
    · rw [at_, List.getElem?_eq_getElem hlt, List.getElem_idxOf hlt]; rfl
    · simp [eqV]
    · rw [at_, List.getElem?_eq_getElem (by omega)] at hz
      injection hz with hz
      subst hz
      have : ns[j] ≠ t := ne_idx _ (by omega)
      simp [eqV]
      omega
end
end Tx
namespace Tx
open PySem L2
section
variable {K : PySem.W.Frag} {m : Mo} {Γ : G} {te : TE} {d : D} {ds : List D} {l : Addr} {H0 : Hp} {O : OutO}
/-- y = e, while a list is one's own, which e does not read -/
theorem so_asg {i : Nat} (h : Ev1 (m.ext l) K te Γ d) (k : O.nx (Γ.set i (some d)) ds) : SGo m K l H0 (tAsg te (gName i)) Γ ds O := fun h0 i0 σ H vs r e hl ra E M =>
  h σ H e _ fun v d' H1 s r1 rv => by
    subst s
    have e1 : ER (m.ext l) K Γ σ H1 := e.mv (m := m.ext l) r1
    exact M.nx _ _ _ H1 vs k (m.trans r r1) (fun a o n q => (m.ext l).keep r1 e.i a o n q) (e1.set i rv) (m.keep r1 e.i.1 l _ (nFl h0 i0) hl) (ra.mv ((m.ext l).keep r1 e.i))
end
end Tx

set_option Elab.async false
set_option linter.all false
set_option maxRecDepth 100000
set_option maxHeartbeats 2000000
set_option autoImplicit false
/-! Tx: dicts whose keys are tuples of numbers and of such tuples -/
namespace Tx
open PySem PySem.Spec PyProof.Rows L2
mutual
def kd : D → NestedKey
  | .int i => .num i
  | .tup xs => .tup (kds xs)
  | _ => .none
def kds : List D → List NestedKey
  | [] => []
  | x :: xs => kd x :: kds xs
end
theorem kds_map : ∀ xs : List D, kds xs = xs.map kd
  | [] => rfl
  | x :: xs => by rw [kds, kds_map xs]; rfl
def kok : Nat → D → Bool
  | _, .int _ => true
  | n + 1, .tup xs => xs.all (kok n)
  | _, _ => false
theorem kok_off : ∀ {n : Nat} {d : D}, kok n d = true → (∃ i, d = .int i) ∨ ∃ m xs, n = m + 1 ∧ d = .tup xs ∧ ∀ x ∈ xs, kok m x = true
  | n, .int i, _ => .inl ⟨i, rfl⟩
  | n + 1, .tup xs, h => .inr ⟨n, xs, rfl, rfl, List.all_eq_true.mp h⟩
  | 0, .tup _, h => by cases h
  | 0, .non, h => by cases h
  | 0, .bl _, h => by cases h
  | 0, .str _, h => by cases h
  | 0, .lst _, h => by cases h
  | 0, .obj _ _ _, h => by cases h
  | 0, .adr _, h => by cases h
  | 0, .dic, h => by cases h
  | 0, .frl _, h => by cases h
  | 0, .ftp _, h => by cases h
  | 0, .dct _ _ _, h => by cases h
  | _ + 1, .non, h => by cases h
  | _ + 1, .bl _, h => by cases h
  | _ + 1, .str _, h => by cases h
  | _ + 1, .lst _, h => by cases h
  | _ + 1, .obj _ _ _, h => by cases h
  | _ + 1, .adr _, h => by cases h
  | _ + 1, .dic, h => by cases h
  | _ + 1, .frl _, h => by cases h
  | _ + 1, .ftp _, h => by cases h
  | _ + 1, .dct _ _ _, h => by cases h
theorem kd_inj : ∀ (n : Nat) {m : Nat} {a b : D}, kok n a = true → kok m b = true → kd a = kd b → a = b := fun n => by
  induction n with
  | zero =>
    intro m a b ha hb e
    rcases kok_off ha with ⟨i, rfl⟩ | ⟨_, _, z, _⟩
    · rcases kok_off hb with ⟨j, rfl⟩ | ⟨_, ys, rfl, rfl, _⟩
      · rw [kd, kd] at e; injection e with e; rw [e]
      · rw [kd, kd] at e; cases e
    · cases z
  | succ n ih =>
    intro m a b ha hb e
    rcases kok_off ha with ⟨i, rfl⟩ | ⟨n', xs, z, rfl, hx⟩
    · rcases kok_off hb with ⟨j, rfl⟩ | ⟨_, ys, rfl, rfl, _⟩
      · rw [kd, kd] at e; injection e with e; rw [e]
      · rw [kd, kd] at e; cases e
    · cases z
      rcases kok_off hb with ⟨j, rfl⟩ | ⟨k, ys, rfl, rfl, hy⟩
      · rw [kd, kd] at e; cases e
      · rw [kd, kd] at e
        injection e with e
        congr 1
        have go : ∀ {xs ys : List D}, (∀ x ∈ xs, kok n x = true) → (∀ y ∈ ys, kok k y = true) → kds xs = kds ys → xs = ys := fun {xs} => by
          induction xs with
          | nil => intro ys _ _ e; cases ys with | nil => rfl | cons y ys => rw [kds, kds] at e; cases e
          | cons x xs ihx =>
            intro ys hx hy e
            cases ys with
            | nil => rw [kds, kds] at e; cases e
            | cons y ys =>
              rw [kds, kds] at e
              injection e with e1 e2
              rw [ih (hx x List.mem_cons_self) (hy y List.mem_cons_self) e1, ihx (fun z hz => hx z (List.mem_cons_of_mem _ hz)) (fun z hz => hy z (List.mem_cons_of_mem _ hz)) e2]
        exact go hx hy e
theorem kd_depth : ∀ (n : Nat) {d : D}, kok n d = true → (kd d).depth ≤ n := fun n => by
  induction n with
  | zero =>
    intro d h
    rcases kok_off h with ⟨i, rfl⟩ | ⟨_, _, z, _⟩
    · rw [kd, NestedKey.depth]; omega
    · cases z
  | succ n ih =>
    intro d h
    rcases kok_off h with ⟨i, rfl⟩ | ⟨n', xs, z, rfl, hx⟩
    · rw [kd, NestedKey.depth]; omega
    · cases z
      rw [kd, NestedKey.depth]
      have go : ∀ {xs : List D}, (∀ x ∈ xs, kok n x = true) → NestedKey.depthAll (kds xs) ≤ n := fun {xs} => by
        induction xs with
        | nil => intro _; rw [kds, NestedKey.depthAll]; omega
        | cons x xs ihx =>
          intro hx
          rw [kds, NestedKey.depthAll]
          have h1 := ih (hx x List.mem_cons_self)
          have h2 := ihx fun z hz => hx z (List.mem_cons_of_mem _ hz)
          omega
      have := go hx
      omega
section
variable {X : Cx} {pins : List (Addr × Obj)} {σ : L2.St} {H : Hp} {s : Shared} {F : Addr → Prop}
theorem nest_of (I : Inv X pins σ H s) : ∀ (n : Nat) {d : D} {v : V} {u : Value}, kok n d = true → Rp X.K F H v d → RelV v u → NestedIs s.heap (kd d) u := fun n => by
  induction n with
  | zero =>
    intro d v u h r ru
    rcases kok_off h with ⟨i, rfl⟩ | ⟨_, _, z, _⟩
    · obtain rfl := r.intE
      obtain ⟨t, rfl⟩ := ru
      rw [kd]
      exact .int _ _
    · cases z
  | succ n ih =>
    intro d v u h r ru
    rcases kok_off h with ⟨i, rfl⟩ | ⟨n', xs, z, rfl, hx⟩
    · obtain rfl := r.intE
      obtain ⟨t, rfl⟩ := ru
      rw [kd]
      exact .int _ _
    · cases z
      obtain ⟨a, vs, rfl, hs, ra⟩ := r.tupE
      cases ru
      obtain ⟨its, rv, ⟨o, ho, hc, m, hd⟩, _⟩ := I.tuple hs
      rw [kd]
      refine .tup ho hc hd ?_
      have go : ∀ {xs : List D} {vs : List V} {us : List Value}, (∀ x ∈ xs, kok n x = true) → RpAll X.K F H vs xs → Vals vs us → NestedAll s.heap (kds xs) us := fun {xs} => by
        induction xs with
        | nil => intro vs us _ r rv; cases r; cases rv; rw [kds]; exact .nil
        | cons x xs ihx =>
          intro vs us hx r rv
          cases r with
          | cons r1 r2 =>
            cases rv with
            | cons v1 v2 =>
              rw [kds]
              exact .cons (ih (hx x List.mem_cons_self) r1 v1) (ihx (fun z hz => hx z (List.mem_cons_of_mem _ hz)) r2 v2)
      exact go hx ra rv
/-- what may be a key here -/
def kkey (d : D) : Prop := kok 6 d = true ∧ ∃ ts, d = .tup ts
/-- what a dict's keys are -/
structure DOk (w : World) (hs : List Int) (ks : List D) : Prop where
  key : ∀ k ∈ ks, kkey k
  hash : hs = ks.map fun k => (kd k).hash w
  nd : (ks.map kd).Nodup
theorem key_is (I : Inv X pins σ H s) {d : D} {v : V} {u : Value} (h : kkey d) (r : Rp X.K F H v d) (ru : RelV v u) : ∃ b, v = .ref b ∧ u = .ref b ∧ (nestedKind X.prog X.w).is s.heap (kd d) b := by
  obtain ⟨h1, ts, rfl⟩ := h
  obtain ⟨b, vs, rfl, _, _⟩ := r.tupE
  have q := nest_of I 6 h1 r ru
  cases ru
  exact ⟨b, rfl, rfl, q, Nat.le_trans (kd_depth 6 h1) (by decide)⟩
abbrev EntR (e : Int × V × V) (x : DictEntry) : Prop := x.hash = e.1 ∧ RelV e.2.1 x.key ∧ RelV e.2.2 x.val
theorem mk_xs (I : Inv X pins σ H s) : ∀ {es : List (Int × V × V)} {ents : List DictEntry} {ks : List D}, Paired EntR es ents → RpAll X.K F H (es.map (·.2.1)) ks → (∀ k ∈ ks, kkey k) → es.map (·.1) = (ks.map fun k => (kd k).hash X.w) →
    ∃ xs : List (NestedKey × Addr × Value), ents = xs.map (entryOfKey (nestedKind X.prog X.w)) ∧ (∀ x ∈ xs, (nestedKind X.prog X.w).is s.heap x.1 x.2.1) ∧ xs.map (·.1) = ks.map kd ∧ Paired (fun (e : Int × V × V) (x : NestedKey × Addr × Value) => e.2.1 = V.ref x.2.1 ∧ RelV e.2.2 x.2.2) es xs := fun {es} => by
  induction es with
  | nil =>
    intro ents ks p r _ _
    cases p
    cases ks with
    | nil => exact ⟨[], rfl, (fun x hx => nomatch hx), rfl, .nil⟩
    | cons k ks => cases r
  | cons e es ih =>
    intro ents ks p r hk hh
    cases p with
    | @cons _ x _ ents p ps =>
      cases ks with
      | nil => cases r
      | cons k ks =>
        rw [List.map_cons] at r
        cases r with
        | cons r1 r2 =>
          rw [List.map_cons, List.map_cons] at hh
          injection hh with h1 h2
          obtain ⟨xs, e1, e2, e3, e4⟩ := ih ps r2 (fun z hz => hk z (List.mem_cons_of_mem _ hz)) h2
          obtain ⟨p1, p2, p3⟩ := p
          obtain ⟨b, q1, q2, q3⟩ := key_is I (hk k List.mem_cons_self) r1 p2
          refine ⟨(kd k, b, x.val) :: xs, ?_, (fun z hz => ?_), by rw [List.map_cons, List.map_cons, e3], .cons ⟨q1, p3⟩ e4⟩
          · rw [List.map_cons, ← e1]
            congr 1
            unfold entryOfKey
            obtain ⟨hh, kk, vv⟩ := x
            simp only at p1 q2
            rw [p1, h1, q2]
            rfl
          · rcases List.mem_cons.mp hz with rfl | hz
            · exact q3
            · exact e2 z hz
theorem dict_at (I : Inv X pins σ H s) {a : Addr} {es : List (Int × V × V)} {hs : List Int} {ks : List D} (hD : H a = some (.ext (isDict a es))) (he : es.map (·.1) = hs) (hk : RpAll X.K F H (es.map (·.2.1)) ks) (ok : DOk X.w hs ks) :
    ∃ xs : List (NestedKey × Addr × Value), s.heap.DictOfH (nestedKind X.prog X.w) a xs ∧ xs.map (·.1) = ks.map kd ∧ Paired (fun (e : Int × V × V) (x : NestedKey × Addr × Value) => e.2.1 = V.ref x.2.1 ∧ RelV e.2.2 x.2.2) es xs ∧ (a == sysModules) = false ∧ es.length ≤ 10000 := by
  obtain ⟨⟨o, ents, ep, ho, hx, hd, hsm, hl, pr⟩, _⟩ := (show ObjOk X.prog X.w H s.heap a (.ext (isDict a es)) from I.hok a _ hD)
  obtain ⟨xs, e1, e2, e3, e4⟩ := mk_xs I pr hk ok.key (he.trans ok.hash)
  exact ⟨xs, ⟨o, ents, ep, ho, hx, hd, e1, e2, by rw [e3]; exact ok.nd⟩, e3, e4, hsm, hl⟩
theorem atKey_iff {xs : List (NestedKey × Addr × Value)} {k : NestedKey} : (atKey xs k).isSome = decide (k ∈ xs.map (·.1)) := by
  unfold atKey
  rw [Option.isSome_map, Bool.eq_iff_iff, List.find?_isSome, decide_eq_true_iff, List.mem_map]
  constructor
  · rintro ⟨x, hx, e⟩
    exact ⟨x, hx, of_decide_eq_true e⟩
  · rintro ⟨x, hx, e⟩
    exact ⟨x, hx, decide_eq_true e⟩
/-- k in d -/
def rInD (K : PySem.W.Frag) (w : World) : R2 := fun x y H Q => ∃ (F : Addr → Prop) (hs : List Int) (ks vs : List D) (k : D), Rp K F H x k ∧ Rp K F H y (.dct hs ks vs) ∧ DOk w hs ks ∧ kkey k ∧ Q (.bl (decide (kd k ∈ ks.map kd))) H
theorem op_inD (hu : X.A.units + 64 < cLine) : OpR X (compareOp .In) (rInD X.K X.w) := by
  intro pins s σ H x y v u Q I rx ry q0
  obtain ⟨F, hs, ks, vs, k, rk, rd, ok, hk, q⟩ := q0
  obtain ⟨b, rfl, rfl, hb⟩ := key_is I hk rk rx
  cases rd with
  | dct nf hD he r1 r2 =>
    cases ry
    obtain ⟨xs, hm, e1, _, hsm, _⟩ := dict_at I hD he r1 ok
    exact wpAny_in_heap (show X.A.in1.units + 8 < cLine by have z : X.A.in1.units = X.A.units + 1 := rfl; omega) hb hsm hm ⟨.bl _, H, I.tok _, by rw [atKey_iff, e1]; rfl, q⟩
end
end Tx

set_option Elab.async false
set_option linter.all false
set_option maxRecDepth 100000
set_option maxHeartbeats 2000000
set_option autoImplicit false
/-! Tx: dicts with such keys: {}, d[k], d[k] = v, setdefault, tuple(d.values()) -/
namespace Tx
open PySem PySem.Spec PyProof.Rows L2
abbrev Ent := Int × V × V
abbrev dO (a : Addr) (es : List Ent) : HO := .ext (isDict a es)
theorem dO_ok {P : Program} {w : World} {H : Hp} {h : Heap} {a : Addr} {es : List Ent} (z : isDict a es h) : ObjOk P w H h a (dO a es) := by
  have ⟨o, _, _, ho, _⟩ := z
  exact ⟨z, ⟨o, ho⟩, fun h1 h2 q k => let ⟨o, c, p, e, r⟩ := q; ⟨o, c, p, k o e, r⟩⟩
theorem dO_at {P : Program} {w : World} {H : Hp} {h : Heap} {a : Addr} {es : List Ent} (ok : HOk P w H h) (e : H a = some (dO a es)) : isDict a es h := (show ObjOk P w H h a (dO a es) from ok a _ e).1
theorem pAt {α β : Type} {G : α → β → Prop} : ∀ {as : List α} {bs : List β}, Paired G as bs → ∀ {j : Nat} {b : β}, bs[j]? = some b → ∃ a, as[j]? = some a ∧ G a b
  | _, _, .nil, _, _, e => by simp at e
  | _, _, .cons p _, 0, _, e => by simp at e; exact ⟨_, rfl, e ▸ p⟩
  | _, _, .cons _ q, j + 1, _, e => by
    obtain ⟨a, h1, h2⟩ := pAt q (j := j) (by simpa using e)
    exact ⟨a, by simpa using h1, h2⟩
theorem isDict_raw {a : Addr} {es : List Ent} {h : Heap} (z : isDict a es h) : ∃ ents ep, h.DictRaw a ents ep ∧ (a == sysModules) = false ∧ es.length ≤ 10000 ∧ Paired EntR es ents.toList := by
  obtain ⟨o, ents, ep, h1, h2, h3, h4, h5, h6⟩ := z
  exact ⟨ents, ep, ⟨o, h1, h2, h3⟩, h4, h5, h6⟩
theorem isDict_type {s : Shared} {a : Addr} {es : List Ent} (z : isDict a es s.heap) : s.TypeIs (.ref a) "dict" ∧ ∀ b, Value.ref a = .ref b → ∃ ob, s.heap.get? b = some ob ∧ ob.dict = none := by
  obtain ⟨o, ents, ep, h1, h2, h3, _⟩ := z
  exact ⟨⟨o, h1, h2.1⟩, fun b e => by injection e with e; subst e; exact ⟨o, h1, h2.2.1⟩⟩
section
variable {X : Cx} {pins : List (Addr × Obj)} {σ : L2.St} {H : Hp} {s : Shared} {F : Addr → Prop} {a : Addr} {es : List Ent} {hs : List Int} {ks : List D} {k : D} {x y : V} {u r : Value}
/-- a new empty one -/
theorem inv_newD (I : Inv X pins σ H s) (tk : Nat) : Inv X pins σ (upd H s.heap.objs.size (dO s.heap.objs.size [])) { s with heap := s.heap.push { cls := .type "dict", data := .dict #[] }, toks := tk } :=
  I.laid (t' := tk) (fun _ _ q => Heap.get?_push_of_some _ q) (Nat.le_refl _) (dO_ok ⟨_, #[], 0, Heap.get?_push_size _ rfl, ⟨rfl, rfl, rfl⟩, rfl, beq_eq_false_iff_ne.mpr (Nat.ne_of_gt I.big), by decide, .nil⟩)
def tDNewH : TE := fun _ H Q => ∀ p, H p = none → Q (.ref p) (upd H p (dO p []))
theorem pe_dnewH {pos : Pos} : PE X (.Dict [] [] pos) tDNewH := ⟨fun pins s σ H Q I h => wpAny_Dict_empty ⟨.ref s.heap.objs.size, _, inv_newD I s.toks, rfl, h _ (I.hok.fresh (Nat.le_refl _))⟩⟩
/-- a key more -/
theorem ents_more {xs : List (NestedKey × Addr × Value)} {b : Addr} {kk : NestedKey} {ents : Array DictEntry} (e : ents.toList = (xs ++ [(kk, b, r)]).map (entryOfKey (nestedKind X.prog X.w))) (h0 : es.map (·.1) = xs.map fun z => z.1.hash X.w) (p : Paired (fun (e : Ent) (x : NestedKey × Addr × Value) => e.2.1 = V.ref x.2.1 ∧ RelV e.2.2 x.2.2) es xs) (rv : RelV y r) : Paired EntR (es ++ [(kk.hash X.w, .ref b, y)]) ents.toList := by
  rw [e]
  clear e
  induction p with
  | nil => exact .cons ⟨rfl, rfl, rv⟩ .nil
  | @cons e0 x0 es xs p ps ih =>
    rw [List.map_cons, List.map_cons] at h0
    injection h0 with h1 h2
    exact .cons ⟨h1.symm, by rw [p.1]; rfl, p.2⟩ (ih h2)
theorem put_back {h' : Heap} {b : Addr} {xs : List (NestedKey × Addr × Value)} (hm : h'.DictOfH (nestedKind X.prog X.w) a (xs ++ [(kd k, b, r)])) (h0 : es.map (·.1) = xs.map fun z => z.1.hash X.w) (p : Paired (fun (e : Ent) (x : NestedKey × Addr × Value) => e.2.1 = V.ref x.2.1 ∧ RelV e.2.2 x.2.2) es xs) (rv : RelV y r) (hsm : (a == sysModules) = false) (hl : es.length < 10000) :
    isDict a (es ++ [((kd k).hash X.w, .ref b, y)]) h' := by
  obtain ⟨o, ents, ep, h1, h2, h3, h4, _, _⟩ := hm
  exact ⟨o, ents, ep, h1, h2, h3, hsm, by rw [List.length_append]; simp; omega, ents_more h4 h0 p rv⟩
theorem hash_xs {xs : List (NestedKey × Addr × Value)} (he : es.map (·.1) = hs) (e : xs.map (·.1) = ks.map kd) (ok : DOk X.w hs ks) : es.map (·.1) = xs.map fun z => z.1.hash X.w := by
  rw [he, ok.hash, show (xs.map fun z => z.1.hash X.w) = (xs.map (·.1)).map (NestedKey.hash X.w) from by rw [List.map_map]; rfl, e, List.map_map]; rfl
/-- d[k] = v, k not there -/
theorem put_ok {E : Value → Shared → Prop} {A : Around} {Q : Unit → Shared → Prop} (hu : A.units + 8 < cLine) (I : Inv X pins σ H s) (hD : H a = some (dO a es)) (he : es.map (·.1) = hs) (hk : RpAll X.K F H (es.map (·.2.1)) ks) (ok : DOk X.w hs ks) (kk : kkey k) (rk : Rp X.K F H x k) (rx : RelV x u) (rv : RelV y r) (new : kd k ∉ ks.map kd) (hl : es.length < 10000)
    (h : ∀ s', Inv X pins σ (upd H a (dO a (es ++ [((kd k).hash X.w, x, y)]))) s' → Q () s') : wpAny (model X.prog X.w) A (dictSet a u r) Q E s := by
  obtain ⟨b, rfl, rfl, hb⟩ := key_is I kk rk rx
  obtain ⟨xs, hm, e1, e2, hsm, _⟩ := dict_at I hD he hk ok
  have lx : xs.length = es.length := (Paired.length e2).symm
  have none_ : atKey xs (kd k) = none := by
    have z := @atKey_iff xs (kd k)
    rw [e1, decide_eq_false new] at z
    exact Option.not_isSome_iff_eq_none.mp (by rw [z]; exact Bool.false_ne_true)
  refine wpAny_dictSet_heap (by exact hu) hb hm (fun h' hm' same => ?_) (by rw [lx, sizeLine_eq]; omega)
  rw [storedH_new none_] at hm'
  have z := put_back hm' (hash_xs he e1 ok) e2 rv hsm hl
  have ⟨o, _, _, ho, _⟩ := z
  exact h _ (I.write (e := a) (by rw [hD]; trivial) (.inl rfl) (fun c u ne q => (same.2 c ne).trans q) ⟨o, ho⟩ (dO_ok z))
theorem getK {xs : List (NestedKey × Addr × Value)} (hm : s.heap.DictOfH (nestedKind X.prog X.w) a xs) (e1 : xs.map (·.1) = ks.map kd) (e2 : Paired (fun (e : Ent) (x : NestedKey × Addr × Value) => e.2.1 = V.ref x.2.1 ∧ RelV e.2.2 x.2.2) es xs) {j : Nat} (hj : ks[j]? = some k) : ∃ e p, es[j]? = some e ∧ atKey xs (kd k) = some p ∧ RelV e.2.2 p.2 := by
  obtain ⟨o, _, _, _, _, _, _, _, nd⟩ := hm
  have z : (xs.map (·.1))[j]? = some (kd k) := by rw [e1, List.getElem?_map, hj]; rfl
  rw [List.getElem?_map] at z
  obtain ⟨x, hx, ex⟩ := Option.map_eq_some_iff.mp z
  obtain ⟨e, he, _, rv⟩ := pAt e2 hx
  obtain ⟨x1, x2⟩ := x
  exact ⟨e, x2, he, atKey_of_get nd (by rw [hx]; simp only at ex; rw [ex]), rv⟩
/-- setdefault as a call -/
theorem setd_ok {E : Value → Shared → Prop} {A : Around} {Q : Value → Shared → Prop} (hu : A.units + 16 < cLine) (I : Inv X pins σ H s) (hD : H a = some (dO a es)) (he : es.map (·.1) = hs) (hk : RpAll X.K F H (es.map (·.2.1)) ks) (ok : DOk X.w hs ks) (kk : kkey k) (rk : Rp X.K F H x k) (rx : RelV x u) (rv : RelV y r) (hl : es.length < 10000)
    (h1 : ∀ (j : Nat) (e : Ent), ks[j]? = some k → es[j]? = some e → ∀ (v : Value) (s' : Shared), Inv X pins σ H s' → RelV e.2.2 v → Q v s') (h2 : kd k ∉ ks.map kd → ∀ s', Inv X pins σ (upd H a (dO a (es ++ [((kd k).hash X.w, x, y)]))) s' → Q r s') : wpAny (model X.prog X.w) A (call (.builtin "dict.setdefault") [.ref a, u, r]) Q E s := by
  obtain ⟨b, rfl, rfl, hb⟩ := key_is I kk rk rx
  obtain ⟨xs, hm, e1, e2, hsm, _⟩ := dict_at I hD he hk ok
  have lx : xs.length = es.length := (Paired.length e2).symm
  refine call_setdefault_heap (show A.in1.units + 8 < cLine by have z : A.in1.units = A.units + 1 := rfl; omega) hb hsm hm (fun p hp => ?_) (fun none_ h' hm' same => ?_) (by rw [lx, sizeLine_eq]; omega)
  · have z : kd k ∈ ks.map kd := by
      have q := @atKey_iff xs (kd k)
      rw [hp, e1] at q
      exact of_decide_eq_true q.symm
    obtain ⟨k2, hk2, ek⟩ := List.mem_map.mp z
    have e3 : k2 = k := kd_inj 6 (ok.key k2 hk2).1 kk.1 ek
    rw [e3] at hk2
    obtain ⟨j, hj⟩ := List.mem_iff_getElem?.mp hk2
    obtain ⟨e, p2, he2, hp2, rv2⟩ := getK hm e1 e2 hj
    rw [hp] at hp2
    injection hp2 with hp2
    subst hp2
    exact h1 j e hj he2 _ _ (I.tok _) rv2
  · rw [storedH_new none_] at hm'
    have z := put_back hm' (hash_xs he e1 ok) e2 rv hsm hl
    have ⟨o, _, _, ho, _⟩ := z
    refine h2 (fun z => ?_) _ (I.write (e := a) (by rw [hD]; trivial) (.inl rfl) (fun c u ne q => (same.2 c ne).trans q) ⟨o, ho⟩ (dO_ok ‹_›))
    have q := @atKey_iff xs (kd k)
    rw [none_, e1, decide_eq_true z] at q
    cases q
def tDSd (K : PySem.W.Frag) (w : World) (td ty tx : TE) : TE := fun σ H Q => td σ H fun x H1 => ∃ a, x = .ref a ∧ (∃ es, H1 a = some (dO a es)) ∧ ty σ H1 fun y H2 => tx σ H2 fun z H3 => ∃ (F : Addr → Prop) (es : List Ent) (hs : List Int) (ks : List D) (k : D), H3 a = some (dO a es) ∧ es.map (·.1) = hs ∧ RpAll K F H3 (es.map (·.2.1)) ks ∧ DOk w hs ks ∧ kkey k ∧ Rp K F H3 y k ∧ es.length < 10000 ∧
  (∀ (j : Nat) (e : Ent), ks[j]? = some k → es[j]? = some e → Q e.2.2 H3) ∧ (kd k ∉ ks.map kd → Q z (upd H3 a (dO a (es ++ [((kd k).hash w, y, z)]))))
theorem pe_dsd {o e f : Expr} {td ty tx : TE} {apos cpos : Pos} (hu : X.A.units + 64 < cLine) (ho : PE X o td) (h1 : PE X e ty) (h2 : PE X f tx) (m : M2 X o "setdefault" apos e f cpos) : PE X (.Call (.Attribute o "setdefault" apos) [e, f] [] cpos) (tDSd X.K X.w td ty tx) := by
  refine ⟨fun pins s σ H Q I h => wpAny_Call_method m.base m.few m.line PySem.F.plainAttrs_dict PySem.F.slot_dict_setdefault PySem.F.type_dict_setdefault (thn (ho.run pins s σ H _ I h) fun u s1 ⟨x, H1, I1, rx, a, ex, ⟨es, d⟩, q1⟩ => ?_)⟩
  subst ex
  cases rx
  obtain ⟨t1, t2⟩ := isDict_type (dO_at I1.hok d)
  refine ⟨t1, t2, ?_⟩
  rw [m.trees]
  refine Calls.callWith_builtin rfl (Calls.evalArgs_plain (Calls.spliced_cons (thn (h1.run pins s1 σ H1 _ I1 q1) fun iv s2 ⟨y, H2, I2, ry, q2⟩ => Calls.spliced_cons (thn (h2.run pins s2 σ H2 _ I2 q2) fun fv s3 ⟨z, H3, I3, rz, F, es, hs, ks, k, a1, a2, a3, a4, a5, a6, a7, q3, q4⟩ => Calls.spliced_nil ?_))))
  exact setd_ok (by omega) I3 a1 a2 a3 a4 a5 a6 ry rz a7 (fun j e0 b1 b2 v s4 I4 rv => ⟨_, _, I4, rv, q3 j e0 b1 b2⟩) fun nw s4 I4 => ⟨z, _, I4, rz, q4 nw⟩
/-- d[k], there -/
def rIxD (K : PySem.W.Frag) (w : World) : R2 := fun x y H Q => ∃ (F : Addr → Prop) (a : Addr) (es : List Ent) (hs : List Int) (ks : List D) (k : D) (j : Nat) (e : Ent), x = .ref a ∧ H a = some (dO a es) ∧ es.map (·.1) = hs ∧ RpAll K F H (es.map (·.2.1)) ks ∧ DOk w hs ks ∧ kkey k ∧ Rp K F H y k ∧ ks[j]? = some k ∧ es[j]? = some e ∧ Q e.2.2 H
theorem ix_D (hu : X.A.units + 64 < cLine) : IxR X (rIxD X.K X.w) := by
  intro va sl pins s σ H x y v u Q I rx ry q hsub
  obtain ⟨F, a, es, hs, ks, k, j, e, rfl, hD, he, hk, ok, kk, rk, hj, hje, q⟩ := q
  cases rx
  obtain ⟨b, rfl, rfl, hb⟩ := key_is I kk rk ry
  obtain ⟨xs, hm, e1, e2, hsm, _⟩ := dict_at I hD he hk ok
  obtain ⟨e', p, he', hp, rv⟩ := getK hm e1 e2 hj
  rw [hje] at he'
  injection he' with he'
  subst he'
  refine tail_any hm.typeIs slot_dict_getitem.lookup (wpAny_getItem_heap (show X.A.in1.units + 8 < cLine by have z : X.A.in1.units = X.A.units + 1 := rfl; omega) hb hm hp ⟨_, H, I.tok _, rv, q⟩) hsub
end
end Tx

set_option Elab.async false
set_option linter.all false
set_option maxRecDepth 100000
set_option maxHeartbeats 2000000
set_option autoImplicit false
/-! Tx: tuple(d.values()) -/
namespace TxDV
open PySem PySem.W PySem.Calls PyProof.Rows PyProof.V PySem.Spec
section
variable {prog : Program} {w : World} {A : Around} {E : Value → Shared → Prop} {s : Shared} {p a : Addr} {ents : Array DictEntry} {ep : Nat}
abbrev IsVal (ents : Array DictEntry) (i : Nat) (v : Value) : Prop := ∃ hi : i < ents.size, v = ents[i].val
theorem new_vals {Q1 : Value → Shared → Prop} (hh : A.handled = none) (hv : s.heap.IsValuesView p a) (hm : s.heap.DictRaw a ents ep) (hn : ents.size ≤ sizeLine)
    (h : ∀ (h1 : Heap) (tk : Nat) (acc : Array Value), (∀ b o, s.heap.get? b = some o → h1.get? b = some o) → ItemsOf (IsVal ents) acc ents.size → Q1 (.ref h1.objs.size) { s with heap := h1.push { cls := .type "tuple", data := .seq acc }, toks := tk }) : codeAny (model prog w) A (.call (.builtin "tuple.__new__") ⟨[.type "tuple", .ref p], []⟩) (wants Q1 E) s := by
  refine codeAny_of_tree (show wpAny _ A.in1 (do checkBuiltinCall "tuple.__new__" ⟨[.type "tuple", .ref p], []⟩; again (.builtin "tuple.__new__" ⟨[.type "tuple", .ref p], []⟩)) _ _ s from ?_)
  refine wpAny_bind (wpAny_of_eq (F.newCall_tuple_1 _) (wpAny_pure ⟨plainId_quiet F.plain_tuple_new _, codeAny_builtin F.entry_tuple_new ?_⟩))
  rw [Around.under_plainId F.plain_tuple_new _]
  have h1 := sub_tuple_self; have h2 := init_tuple_lookup; have h3 := madeHere_tuple
  have h4 : s.TypeIs (.ref p) "dict_values" := hv.typeIs
  have h5 : A.in1.handled = none := hh
  wp_walk using wpAny_typeOf h4, kdu_collect (A := A.in1) (KdlSrc.rawValues (prog := prog) (w := w) (r := p) (d := a) (es := ents) (ep := ep)) h5 ⟨hv, hm⟩ hn
  intro g tk acc hk hacc
  show wpAny _ _ (Builtin.Tuple.tupleExact acc.toList.toArray >>= fun v => ret v) _ _ _
  unfold Builtin.Tuple.tupleExact
  rw [Array.toArray_toList]
  exact wpAny_bind (wpAny_newObj_type (wpAny_pure (h g tk acc hk hacc)) (Nat.le_trans (Nat.le_of_eq hacc.1) hn))
theorem call_vals {Q : Value → Shared → Prop} (hh : A.handled = none) (hv : s.heap.IsValuesView p a) (hm : s.heap.DictRaw a ents ep) (hn : ents.size ≤ sizeLine)
    (hQ : ∀ (h1 : Heap) (tk : Nat) (acc : Array Value), (∀ b o, s.heap.get? b = some o → h1.get? b = some o) → ItemsOf (IsVal ents) acc ents.size → Q (.ref h1.objs.size) { s with heap := h1.push { cls := .type "tuple", data := .seq acc }, toks := tk }) : wpAny (model prog w) A (call (.type "tuple") [.ref p]) Q E s := by
  refine callType_codes (Q₁ := fun obj t => t.TypeIs obj "tuple" ∧ Q obj t) F.called_tuple (F.typeCall_tuple_1 _) F.entry_object_init (new_vals (A := A.in1) hh hv hm hn fun g tk acc hk hacc => ⟨⟨_, Heap.get?_push_size _ rfl, rfl⟩, hQ g tk acc hk hacc⟩) fun obj t z => ?_
  exact ⟨z.1, F.args_object_init_2 obj _, object_init_meets F.called_tuple.init.lookup F.called_tuple.made (by decide) prog w A.in1 _ t ⟨z.1, rfl, z.2⟩⟩
end
end TxDV
namespace Tx
open PySem PySem.Spec PyProof.Rows L2
/-- the values of the dict at a -/
def valO (p a : Addr) : HO := .ext fun h => h.IsValuesView p a
theorem valO_ok {P : Program} {w : World} {H : Hp} {h : Heap} {p a : Addr} (z : h.IsValuesView p a) : ObjOk P w H h p (valO p a) := by
  have ⟨o, ho, _⟩ := z
  exact ⟨z, ⟨o, ho⟩, fun h1 h2 q k => let ⟨o, e, r⟩ := q; ⟨o, k o e, r⟩⟩
def tVals (te : TE) : TE := fun σ H Q => te σ H fun x H1 => ∃ a es, x = .ref a ∧ H1 a = some (dO a es) ∧ ∀ p, H1 p = none → Q (.ref p) (upd H1 p (valO p a))
def rTupV : List V → Hp → VK → Prop := fun vs H Q => ∃ p a es, vs = [.ref p] ∧ H p = some (valO p a) ∧ H a = some (dO a es) ∧ ∀ q, H q = none → Q (.ref q) (upd H q (.tup (es.map (·.2.2))))
section
variable {X : Cx}
theorem pe_vals {o : Expr} {to : TE} {apos cpos : Pos} (ho : PE X o to) (hbase : attributeBase o "values" X.env (eval o X.env) = eval o X.env := by rfl) (hline : (apos.endLine == cpos.line) = true := by rfl) : PE X (.Call (.Attribute o "values" apos) [] [] cpos) (tVals to) := by
  refine ⟨fun pins s σ H Q I h => wpAny_Call_method0_late hbase hline (thn (ho.run pins s σ H _ I h) fun v s1 ⟨x, H1, I1, r1, a, es, ex, hD, q⟩ => ?_)⟩
  subst ex
  cases r1
  obtain ⟨t1, t2⟩ := isDict_type (dO_at I1.hok hD)
  obtain ⟨ents, ep, hr, hsm, _, _⟩ := isDict_raw (dO_at I1.hok hD)
  refine ⟨"dict", _, PySem.F.plainAttrs_dict, PySem.F.slot_dict_values, PySem.F.type_dict_values, t1, t2, Calls.callWith_builtin rfl (PySem.evalArgs_none ?_)⟩
  refine call_meetsIn PySem.F.slot_dict_values t1 PySem.F.entry_dict_values (PySem.F.args_dict_values_1 _) (meets_dict_values_raw a hsm) ⟨⟨ents, ep, hr⟩, ?_⟩
  exact ⟨.ref s1.heap.objs.size, _, I1.laid (t' := s1.toks) (fun _ _ q => Heap.get?_push_of_some _ q) (Nat.le_refl _) (valO_ok ⟨_, Heap.get?_push_size _ rfl, rfl, rfl⟩), rfl, q _ (I1.hok.fresh (Nat.le_refl _))⟩
theorem vals_of_ents : ∀ {es : List Ent} {l : List DictEntry}, Paired EntR es l → Vals (es.map (·.2.2)) (l.map (·.val))
  | _, _, .nil => .nil
  | _, _, .cons p q => .cons p.2.2 (vals_of_ents q)
theorem cr_tupV (hc : X.calm = true) : CallR X (.type "tuple") rTupV := by
  intro pins s σ H vs us Q I rs h
  obtain ⟨p, a, es, rfl, hp, ha, q⟩ := h
  obtain ⟨u, rfl, ru⟩ := Vals.one rs
  cases ru
  obtain ⟨ents, ep, hr, hsm, hl, pr⟩ := isDict_raw (dO_at I.hok ha)
  have hv : s.heap.IsValuesView p a := (show ObjOk X.prog X.w H s.heap p (valO p a) from I.hok p _ hp).1
  have sz : ents.size = es.length := by rw [← Array.length_toList]; exact (Paired.length pr).symm
  refine TxDV.call_vals (I.ok.hd hc) hv hr (by rw [sz, sizeLine_eq]; omega) fun g tk acc hk hacc => ?_
  have I1 : Inv X pins σ H { s with heap := g, toks := tk } := I.kept (t' := tk) hk
  have e : acc.toList = ents.toList.map (·.val) := by
    refine List.ext_getElem (by rw [Array.length_toList, List.length_map, Array.length_toList]; exact hacc.1) fun i h1 h2 => ?_
    have hi : i < acc.size := by rw [Array.length_toList] at h1; exact h1
    obtain ⟨_, z⟩ := hacc.2 i acc[i] (Array.getElem?_eq_getElem hi)
    rw [Array.getElem_toList, z, List.getElem_map, Array.getElem_toList]
  have rv : Vals (es.map (·.2.2)) acc.toList := by rw [e]; exact vals_of_ents pr
  have I2 : Inv X pins σ (upd H g.objs.size (.tup (es.map (·.2.2)))) { s with heap := g.push { cls := .type "tuple", data := .seq acc }, toks := tk } :=
    I1.laid (t' := tk) (fun b o e => Heap.get?_push_of_some _ e) (Nat.le_refl _) (show ObjOk X.prog X.w _ _ _ (.tup _) from ⟨by rw [List.length_map, sizeLine_eq]; omega, acc.toList, rv, by rw [Array.toArray_toList]; exact IsTup.new _ _⟩)
  exact ⟨.ref g.objs.size, _, I2, rfl, q _ (I1.hok.fresh (Nat.le_refl _))⟩
end
end Tx

set_option Elab.async false
set_option linter.all false
set_option maxRecDepth 100000
set_option maxHeartbeats 2000000
set_option autoImplicit false
/-! Tx: an object of one's own, of any kind (OwnW), while it is filled; a dict of one's own -/
namespace Tx
open PySem PySem.Spec PyProof.Rows L2
/-- what stands at l while it is one's own: α its content -/
structure OwnW (m : Mo) (K : PySem.W.Frag) (l : Addr) (α : Type) where
  at_ : Hp → α → Prop
  keep : ∀ {H H' : Hp} {x : α}, at_ H x → H' l = H l → (∀ a o, ¬ (m.ext l).F a → H a = some o → H' a = some o) → at_ H' x
  view : α → D
  see : ∀ {H : Hp} {x : α}, ¬ m.F l → at_ H x → Rp K m.F H (.ref l) (view x)
  some_ : ∀ {H : Hp} {x : α}, at_ H x → ∃ o, H l = some o
structure OutW (α : Type) where
  nx : G → α → Prop
  rt : D → Prop
section
variable {K : PySem.W.Frag} {m : Mo} {Γ : G} {ta tb te tv tk : TE} {tt : TT} {ts tw : TS} {d : D} {l : Addr} {H0 : Hp} {α : Type} {W : OwnW m K l α} {x : α} {O O' : OutW α}
structure MeetsW (W : OwnW m K l α) (H0 H : Hp) (O : OutW α) (E : Ends) : Prop where
  nx : ∀ Γ' x' σ' H', O.nx Γ' x' → m.R H0 H' → StK (m.ext l) H H' → ER (m.ext l) K Γ' σ' H' → W.at_ H' x' → E.nx σ' H'
  rt : ∀ d v H', O.rt d → m.R H0 H' → Rp K m.F H' v d → E.rt v H'
theorem MeetsW.mv {H H1 : Hp} {E : Ends} (M : MeetsW W H0 H O E) (s : StK (m.ext l) H H1) : MeetsW W H0 H1 O E := ⟨fun Γ' x' σ' H' o r st => M.nx Γ' x' σ' H' o r (s.trans st), M.rt⟩
/-- a statement, while what stands at l is one's own -/
def SGw (W : OwnW m K l α) (H0 : Hp) (ts : TS) (Γ : G) (x : α) (O : OutW α) : Prop :=
  H0 l = none → m.I H0 → ∀ σ H, m.R H0 H → ER (m.ext l) K Γ σ H → W.at_ H x → ∀ E : Ends, MeetsW W H0 H O E → ts E σ H
theorem ow_mv {σ : L2.St} {H H1 : Hp} (h0 : H0 l = none) (i0 : m.I H0) (e : ER (m.ext l) K Γ σ H) (a : W.at_ H x) (r : m.R H H1) : W.at_ H1 x := by
  obtain ⟨o, ho⟩ := W.some_ a
  exact W.keep a (by rw [ho]; exact m.keep r e.i.1 l _ (nFl h0 i0) ho) fun b u n q => (m.ext l).keep r e.i b u n q
theorem ew_dis {i : Nat} {σ : L2.St} {H : Hp} (h0 : H0 l = none) (i0 : m.I H0) (e : ER (m.ext l) K Γ σ H) (hi : Γ[i]? = some (some (.adr l))) (a : W.at_ H x) : ER m K (Γ.set i (some (W.view x))) σ H := by
  refine ⟨e.i.1, by rw [List.length_set, e.len], fun j d h => ?_⟩
  by_cases z : i = j
  · subst z
    rw [List.getElem?_set_self (List.getElem?_eq_some_iff.mp hi).1] at h
    injection h with h; injection h with h; subst h
    obtain ⟨v, h1, h2⟩ := e.at_ i _ hi
    obtain rfl := h2.adrE
    exact ⟨_, h1, W.see (nFl h0 i0) a⟩
  · rw [List.getElem?_set_ne z] at h
    obtain ⟨v, h1, h2⟩ := e.at_ j d h
    exact ⟨v, h1, h2.weak fun a f => .inl f⟩
theorem sw_dis {i : Nat} {O : Out} (hi : Γ[i]? = some (some (.adr l))) (k : SG m K ts (Γ.set i (some (W.view x))) { nx := fun _ => False, rt := O.rt }) : SGw W H0 ts Γ x { nx := fun _ _ => False, rt := O.rt } := fun h0 i0 σ H r e a E M =>
  k σ H (ew_dis h0 i0 e hi a) E ⟨fun _ _ _ o => o.elim, fun d v H' o r' rv => M.rt d v H' o (m.trans r r') rv, fun _ _ _ o => o.elim, fun _ _ _ o => o.elim⟩
theorem sw_next (h : O.nx Γ x) : SGw W H0 tNext Γ x O := fun h0 i0 σ H r e a E M => M.nx _ _ _ _ h r (fun _ _ _ e => e) e a
theorem sw_seq (N : G → α → Prop) (h1 : SGw W H0 ts Γ x { O with nx := N }) (h2 : ∀ Γ' x', N Γ' x' → SGw W H0 tw Γ' x' O) : SGw W H0 (tSeq ts tw) Γ x O := fun h0 i0 σ H r e a E M =>
  h1 h0 i0 σ H r e a _ ⟨fun Γ' x' σ' H' o r' st e' a' => h2 Γ' x' o h0 i0 σ' H' r' e' a' E (M.mv st), M.rt⟩
/-- a test that sees it as data -/
theorem sw_if {i : Nat} {b : Bool} (hi : Γ[i]? = some (some (.adr l))) (h : EvT1 m K tt (Γ.set i (some (W.view x))) b) (h1 : b = true → SGw W H0 ts Γ x O) (h2 : b = false → SGw W H0 tw Γ x O) : SGw W H0 (tIfS tt ts tw) Γ x O := fun h0 i0 σ H r e a E M =>
  h σ H (ew_dis h0 i0 e hi a) _ fun b' H1 s r1 => by
    subst s
    have e1 : ER (m.ext l) K Γ σ H1 := e.mv (m := m.ext l) r1
    have st1 : StK (m.ext l) H H1 := fun b u n q => (m.ext l).keep r1 e.i b u n q
    cases b' with
    | true => exact h1 rfl h0 i0 σ H1 (m.trans r r1) e1 (ow_mv h0 i0 e a r1) E (M.mv st1)
    | false => exact h2 rfl h0 i0 σ H1 (m.trans r r1) e1 (ow_mv h0 i0 e a r1) E (M.mv st1)
/-- a test that doesn't look at it -/
theorem sw_ifX {b : Bool} (h : EvT1 (m.ext l) K tt Γ b) (h1 : b = true → SGw W H0 ts Γ x O) (h2 : b = false → SGw W H0 tw Γ x O) : SGw W H0 (tIfS tt ts tw) Γ x O := fun h0 i0 σ H r e a E M =>
  h σ H e _ fun b' H1 s r1 => by
    subst s
    have e1 : ER (m.ext l) K Γ σ H1 := e.mv (m := m.ext l) r1
    have st1 : StK (m.ext l) H H1 := fun b u n q => (m.ext l).keep r1 e.i b u n q
    cases b' with
    | true => exact h1 rfl h0 i0 σ H1 (m.trans r r1) e1 (ow_mv h0 i0 e a r1) E (M.mv st1)
    | false => exact h2 rfl h0 i0 σ H1 (m.trans r r1) e1 (ow_mv h0 i0 e a r1) E (M.mv st1)
theorem sw_asg {i : Nat} (h : Ev1 (m.ext l) K te Γ d) (k : O.nx (Γ.set i (some d)) x) : SGw W H0 (tAsg te (gName i)) Γ x O := fun h0 i0 σ H r e a E M =>
  h σ H e _ fun v d' H1 s r1 rv => by
    subst s
    exact M.nx _ x _ H1 k (m.trans r r1) (fun b u n q => (m.ext l).keep r1 e.i b u n q) ((e.mv (m := m.ext l) r1).set i rv) (ow_mv h0 i0 e a r1)
/-- something that changes it -/
theorem sw_do {S : α → Prop} (h : ∀ σ H, H0 l = none → m.I H0 → m.R H0 H → ER (m.ext l) K Γ σ H → W.at_ H x → ∀ Q : VK, (∀ v H' x', S x' → m.R H0 H' → StK (m.ext l) H H' → ER (m.ext l) K Γ σ H' → W.at_ H' x' → Q v H') → te σ H Q) (k : ∀ x', S x' → O.nx Γ x') : SGw W H0 (tDrop te) Γ x O := fun h0 i0 σ H r e a E M =>
  h σ H h0 i0 r e a _ fun v H' x' s r' st e' a' => M.nx Γ x' σ H' (k x' s) r' st e' a'
theorem sw_for {wi : TI} {g : TG} {xs : List D} (hi : ItX (m.ext l) K wi Γ xs) (V : Nat → G → α → Prop) (hv : V 0 Γ x)
    (hs : ∀ i d Γ' x', xs[i]? = some d → V i Γ' x' → ∃ Γ2 js, TgD (m.ext l) K g Γ' d js Γ2 ∧ SGw W H0 ts Γ2 x' { nx := V (i + 1), rt := O.rt }) (hd : ∀ Γ' x', V xs.length Γ' x' → O.nx Γ' x') : SGw W H0 (tFor wi g ts) Γ x O := fun h0 i0 σ H r e a E M => by
  refine hi σ H e _ fun J H1 r1 wk => ?_
  have r01 : m.R H0 H1 := m.trans r r1
  refine ⟨fun i k σ' H' => k = xs.length - i ∧ i ≤ xs.length ∧ m.R H0 H' ∧ StK (m.ext l) H1 H' ∧ ∃ Γ' x', V i Γ' x' ∧ ER (m.ext l) K Γ' σ' H' ∧ W.at_ H' x', ⟨_, rfl, Nat.zero_le _, r01, fun _ _ _ e => e, Γ, x, hv, e.mv r1, ow_mv h0 i0 e a r1⟩, ?_⟩
  rintro i k σ' H' ⟨rfl, hle, r', st, Γ', x', w, e', a'⟩
  obtain ⟨go, stop, yld⟩ := wk H' st
  by_cases hlt : i < xs.length
  · refine .inr ⟨go i hlt, fun σ3 H3 => m.R H0 H3 ∧ StK (m.ext l) H1 H3 ∧ ∃ Γ3 x3, V (i + 1) Γ3 x3 ∧ ER (m.ext l) K Γ3 σ3 H3 ∧ W.at_ H3 x3, fun σ3 H3 q => ⟨xs.length - (i + 1), by omega, rfl, hlt, q⟩, fun y H2 yy => ?_⟩
    obtain ⟨e2, d, hd', rx⟩ := yld i y H2 hlt yy
    subst e2
    obtain ⟨Γ2, js, tg, body⟩ := hs i d Γ' x' hd' w
    refine tg y σ' H2 e' rx _ fun σ3 H3 e3 r3 _ => ?_
    have st3 : StK (m.ext l) H1 H3 := fun a o n q => (m.ext l).keep r3 e'.i a o n (st a o n q)
    exact body h0 i0 σ3 H3 (m.trans r' r3) e3 (ow_mv h0 i0 e' a' r3) _ ⟨fun Γ4 x4 σ4 H4 o r4 st4 e4 a4 => ⟨r4, st3.trans st4, Γ4, x4, o, e4, a4⟩, fun d v H4 o r4 rv => M.rt d v H4 o r4 rv⟩
  · have e0 : i = xs.length := by omega
    subst e0
    exact .inl ⟨stop, M.nx Γ' x' σ' H' (hd Γ' x' w) r' (fun a o n q => st a o n ((m.ext l).keep r1 e.i a o n q)) e' a'⟩
end
/-! ### a dict of one's own -/
structure DX where
  hs : List Int
  ks : List D
  vs : List D
def DX.nil : DX := ⟨[], [], []⟩
def DX.more (w : World) (x : DX) (k v : D) : DX := ⟨x.hs ++ [(kd k).hash w], x.ks ++ [k], x.vs ++ [v]⟩
noncomputable def DX.setd (w : World) (x : DX) (k v : D) : DX := open Classical in if kd k ∈ x.ks.map kd then x else x.more w k v
def dctW (m : Mo) (K : PySem.W.Frag) (w : World) (l : Addr) : OwnW m K l DX where
  at_ := fun H x => DOk w x.hs x.ks ∧ ∃ es, H l = some (dO l es) ∧ es.map (·.1) = x.hs ∧ RpAll K (m.ext l).F H (es.map (·.2.1)) x.ks ∧ RpAll K (m.ext l).F H (es.map (·.2.2)) x.vs
  keep := fun a e k => by
    obtain ⟨o, es, h1, h2, h3, h4⟩ := a
    exact ⟨o, es, e.trans h1, h2, RpAll.mv k h3, RpAll.mv k h4⟩
  view := fun x => .dct x.hs x.ks x.vs
  see := fun n a => let ⟨o, es, h1, h2, h3, h4⟩ := a; .dct n h1 h2 (h3.weak fun a f => .inl f) (h4.weak fun a f => .inl f)
  some_ := fun a => let ⟨_, _, h1, _⟩ := a; ⟨_, h1⟩
theorem DOk.nil {w : World} : DOk w [] [] := ⟨(fun _ h => nomatch h), rfl, List.nodup_nil⟩
theorem DOk.more {w : World} {x : DX} {k v : D} (o : DOk w x.hs x.ks) (kk : kkey k) (new : kd k ∉ x.ks.map kd) : DOk w (x.more w k v).hs (x.more w k v).ks where
  key := fun z hz => (List.mem_append.mp hz).elim (o.key z) fun q => by rw [List.mem_singleton.mp q]; exact kk
  hash := by show _ ++ _ = _; rw [DX.more, List.map_append, o.hash]; rfl
  nd := by
    show ((x.ks ++ [k]).map kd).Nodup
    rw [List.map_append, List.nodup_append]
    refine ⟨o.nd, by simp, fun a ha b hb e => new ?_⟩
    have z : b = kd k := by simpa using hb
    rw [← z, ← e]
    exact ha
section
variable {K : PySem.W.Frag} {m : Mo} {w : World} {Γ : G} {te tv tk : TE} {ts tw : TS} {k v : D} {l : Addr} {H0 : Hp} {x : DX} {O : OutW DX}
theorem sq_newD {i : Nat} {O : Out} (kk : ∀ l H0, SGw (dctW m K w l) H0 tw (Γ.set i (some (.adr l))) DX.nil { nx := fun _ _ => False, rt := O.rt }) : SG m K (tSeq (tAsg tDNewH (gName i)) tw) Γ O := fun σ H e E M l hl => by
  have rN : m.R H (upd H l (dO l [])) := m.grow e.i (same_new hl)
  have eX : ER (m.ext l) K Γ σ (upd H l (dO l [])) := e.ext hl rN (by rw [upd_same]; exact fun z => nomatch z)
  exact kk l H hl e.i _ _ rN (eX.set i (.adr l)) ⟨.nil, [], upd_same, rfl, .nil, .nil⟩ E ⟨fun _ _ _ _ o => o.elim, fun d v H' o r rv => M.rt d v H' o r rv⟩
theorem upd_w {σ : L2.St} {H1 : Hp} {es : List Ent} (h0 : H0 l = none) (i0 : m.I H0) (r : m.R H0 H1) (e : ER (m.ext l) K Γ σ H1) : m.R H0 (upd H1 l (dO l es)) ∧ (∀ a o, ¬ (m.ext l).F a → H1 a = some o → (upd H1 l (dO l es)) a = some o) ∧ ER (m.ext l) K Γ σ (upd H1 l (dO l es)) := by
  have mv : ∀ a o, ¬ (m.ext l).F a → H1 a = some o → (upd H1 l (dO l es)) a = some o := fun a o n q => by rw [upd_ne (fun z => n (.inr z))]; exact q
  have rr : m.R H0 (upd H1 l (dO l es)) := m.chg i0 r h0
  exact ⟨rr, mv, ⟨m.inv rr i0, by rw [upd_same]; exact fun z => nomatch z⟩, e.len, fun j d h => let ⟨v, h1, h2⟩ := e.at_ j d h; ⟨v, h1, h2.go fun a o n q => ⟨n, mv a o n q⟩⟩⟩
theorem at_more {H1 : Hp} {y z : V} {es : List Ent} (ok : DOk w x.hs x.ks) (kk : kkey k) (new : kd k ∉ x.ks.map kd) (h2 : es.map (·.1) = x.hs) (h3 : RpAll K (m.ext l).F H1 (es.map (·.2.1)) x.ks) (h4 : RpAll K (m.ext l).F H1 (es.map (·.2.2)) x.vs) (rk : Rp K (m.ext l).F H1 y k) (rv : Rp K (m.ext l).F H1 z v) (mv : ∀ a o, ¬ (m.ext l).F a → H1 a = some o → (upd H1 l (dO l (es ++ [((kd k).hash w, y, z)]))) a = some o) :
    (dctW m K w l).at_ (upd H1 l (dO l (es ++ [((kd k).hash w, y, z)]))) (x.more w k v) := by
  refine ⟨ok.more kk new, es ++ [((kd k).hash w, y, z)], upd_same, ?_, ?_, ?_⟩
  · rw [List.map_append, h2]; rfl
  · rw [List.map_append]; exact (h3.append (.cons rk .nil)).mv mv
  · rw [List.map_append]; exact (h4.append (.cons rv .nil)).mv mv
/-- d.setdefault(k, v) -/
theorem sw_setd {i : Nat} (hi : Γ[i]? = some (some (.adr l))) (hk : Ev1 (m.ext l) K tk Γ k) (hv : Ev1 (m.ext l) K tv Γ v) (kk : kkey k) (hz : x.ks.length < 10000) (kn : O.nx Γ (x.setd w k v)) : SGw (dctW m K w l) H0 (tDrop (tDSd K w (tVar i) tk tv)) Γ x O :=
  sw_do (S := fun x' => x' = x.setd w k v) (fun σ H h0 i0 r e a Q q => by
    obtain ⟨u, h1, h2⟩ := e.at_ i _ hi
    obtain rfl := h2.adrE
    obtain ⟨ok, es, e1, e2, e3, e4⟩ := a
    refine ⟨_, h1, l, rfl, ⟨es, e1⟩, hk σ H e _ fun y ky H1 s1 r1 ry => hv σ H1 (e.mv (m := m.ext l) r1) _ fun z vz H2 s2 r2 rz => ?_⟩
    subst s1 s2
    have e12 := (e.mv (m := m.ext l) r1)
    have eb := e12.mv (m := m.ext l) r2
    have nl := nFl (m := m) h0 i0
    have at2 : H2 l = some (dO l es) := m.keep r2 e12.i.1 l _ nl (m.keep r1 e.i.1 l _ nl e1)
    have k12 : ∀ a o, ¬ (m.ext l).F a → H a = some o → H2 a = some o := fun a o n q => (m.ext l).keep r2 e12.i a o n ((m.ext l).keep r1 e.i a o n q)
    have ry2 := ry.mv fun a o n q => (m.ext l).keep r2 e12.i a o n q
    have rr := m.trans r (m.trans r1 r2)
    refine ⟨(m.ext l).F, es, x.hs, x.ks, ky, at2, e2, e3.mv k12, ok, kk, ry2, by have := congrArg List.length e2; have h3 := e3.len; rw [List.length_map] at h3; omega, fun j e0 hj _ => ?_, fun new => ?_⟩
    · refine q _ H2 x ?_ rr (fun a o n z => k12 a o n z) eb ⟨ok, es, at2, e2, e3.mv k12, e4.mv k12⟩
      rw [DX.setd, if_pos (List.mem_map.mpr ⟨_, List.mem_of_getElem? hj, rfl⟩)]
    · obtain ⟨r3, mv, e3'⟩ := upd_w (es := es ++ [((kd ky).hash w, y, z)]) h0 i0 rr eb
      exact q _ _ (x.more w ky vz) (by rw [DX.setd, if_neg new]) r3 (fun a o n z => mv a o n (k12 a o n z)) e3' (at_more ok kk new e2 (e3.mv k12) (e4.mv k12) ry2 rz mv)) fun x' e => e ▸ kn
/-- tuple(d.values()) -/
theorem en_tupV {hs : List Int} {ks vs : List D} (h : Ev1 m K te Γ (.dct hs ks vs)) : Ev1 m K (tCB rTupV (tCons (tVals te) tNil)) Γ (.tup vs) := fun σ H e Q q =>
  h σ H e _ fun v d H1 s r1 rv => by
    subst s
    cases rv with
    | dct nf hD he rk rv =>
      rename_i a es
      have i1 := m.inv r1 e.i
      refine ⟨a, es, rfl, hD, fun p hp => ?_⟩
      have r2 : m.R H1 (upd H1 p (valO p a)) := m.grow i1 (same_new hp)
      have i2 := m.inv r2 i1
      have ne : a ≠ p := fun z => by rw [z, hp] at hD; cases hD
      refine ⟨p, a, es, rfl, upd_same, by rw [upd_ne ne]; exact hD, fun t ht => ?_⟩
      exact q _ _ _ rfl (m.trans r1 (m.trans r2 (m.grow i2 (same_new ht)))) (rp_new i2 ht (rv.mv (m.keep r2 i1)))
end
end Tx

set_option Elab.async false
set_option linter.all false
set_option maxRecDepth 100000
set_option maxHeartbeats 2000000
/-! Tx: a dict comprehension whose keys are tuples -/
namespace TxDC
open PySem PySem.Spec PyProof.Rows L2 Tx TxS
/-- what it asks: each pair that comes is put at the end of the dict at D, under a new key -/
def tDcH (K : PySem.W.Frag) (w : World) (wi : TI) (g : TG) (tt : TT) (tk tv : TE) (vs : List Nat) : TE := fun σ H Q => wi σ H fun J H1 => ∀ D, H1 D = none →
  ∃ W : Nat → Nat → Hp → Prop, (∃ k0, W 0 k0 (upd H1 D (dO D []))) ∧ ∀ i k H2, W i k H2 → (J.stop i H2 ∧ Q (.ref D) H2) ∨ (J.go i H2 ∧
    ∃ Nx : Hp → Prop, (∀ H3, Nx H3 → ∃ k1, k1 < k ∧ W (i + 1) k1 H3) ∧ ∀ x H3, J.yld i H2 x H3 → g x (wipe σ vs) H3 fun σ2 H4 => wipe σ2 vs = wipe σ vs ∧ tt σ2 H4 fun b H5 =>
      if b = true then tk σ2 H5 fun y H6 => tv σ2 H6 fun z H7 => ∃ (F : Addr → Prop) (es : List Ent) (hs : List Int) (ks : List Tx.D) (k : Tx.D), H7 D = some (dO D es) ∧ es.map (·.1) = hs ∧ RpAll K F H7 (es.map (·.2.1)) ks ∧ DOk w hs ks ∧ kkey k ∧ Rp K F H7 y k ∧ es.length < 10000 ∧ kd k ∉ ks.map kd ∧ Nx (upd H7 D (dO D (es ++ [((kd k).hash w, y, z)]))) else Nx H5)
section
variable {X : Cx} {σ : L2.St} {kx vx tg iter : Expr} {ifs : List Expr} {sc : Scope} {own : List (PySem.Str × Nat)} {pos pos2 : Pos} {wi : TI} {g : TG} {tt : TT} {tk tv : TE}
theorem dc_core {pins : List (Addr × Obj)} {s : Shared} {H : Hp} {Q : VK} {use : Option (Value → Sem Unit)} {Qf : Value → Shared → Prop} (hc : X.calm = true) (hu : X.A.units + 8 < cLine) (hN : X.N.Nodup) (I : Inv X pins σ H s) (hi : PI X tg iter wi) (ok : BlkOk X.N X.env.scope sc own)
    (hg : ∀ s H C cl fp, PG (X.blk s H sc (compEnvC sc cl C X.env) fp) tg g) (ht : ∀ s H C cl fp, PTs (X.blk s H sc (compEnvC sc cl C X.env) fp) ifs tt) (hk : ∀ s H C cl fp, PE (X.blk s H sc (compEnvC sc cl C X.env) fp) kx tk) (hv : ∀ s H C cl fp, PE (X.blk s H sc (compEnvC sc cl C X.env) fp) vx tv)
    (hs : ∀ x, foldedSetIterable iter X.env x = pure x) (h : tDcH X.K X.w wi g tt tk tv (own.map (·.2)) σ H Q)
    (out : ∀ D C t m H', Inv X pins σ H' t → Q (.ref D) H' → t.heap.Ns C m → FpOk X pins H' C → compPost (model X.prog X.w) X.A X.xe use Qf (.ref D) C (.ok .next) t) :
    wpAny (model X.prog X.w) X.A (comprehension (.DictComp kx vx [⟨tg, iter, ifs, 0⟩] sc pos) sc X.env pos2 newDict false (eval iter X.env) use) Qf X.xe s := by
  refine wpAny_comprehension_free (use := use) rfl hs (closure_ok fun y hy e => (ok.free y hy e).elim (fun k => I.ok.has _ (.inl k)) fun k => I.ok.has _ (.inr k)) ok.kind (fun y hy e => by rw [ok.uniq y hy, e]) (thn (hi.run pins s σ H _ I h) fun _ _ came => thn came fun _ t came2 => ?_)
  obtain ⟨itA, fp, seen, J, H2, rfl, I2, T, at0, away, asks⟩ := came2
  refine wpAny_newObj_type (newEnv_comp ?_)
  generalize eD : t.heap.objs.size = D
  obtain ⟨W, ⟨k0, w0⟩, turns⟩ := asks D (I2.hok.fresh (Nat.le_of_eq eD))
  generalize e3 : ({ t with heap := t.heap.push { cls := .type "dict", data := .dict #[] } } : Shared) = s3
  have p3 : s3.heap = t.heap.push { cls := .type "dict", data := .dict #[] } := by rw [← e3]
  have z3 : s3.heap.objs.size = t.heap.objs.size + 1 := by rw [p3, Heap.size_push]
  generalize eH : upd H2 D (dO D []) = H3 at w0
  have I3 : Inv X pins σ H3 s3 := by rw [← e3, ← eH, ← eD]; exact inv_newD I2 t.toks
  have own3 : ∀ b ∈ fp, FpOk X pins H3 b ∧ b < s3.heap.objs.size := fun b hb => by
    obtain ⟨_, e, _⟩ := T.obj _ _ at0 b hb
    have lt : b < t.heap.objs.size := Heap.lt_size e
    refine ⟨⟨?_, (away b hb).2⟩, by rw [z3]; exact Nat.lt_succ_of_lt lt⟩; rw [← eH, upd_ne (by rw [← eD]; exact Nat.ne_of_lt lt)]; exact (away b hb).1
  have at3 : seen 0 s3.heap := T.keep _ _ _ at0 fun _ _ _ e => by rw [p3]; exact Heap.get?_push_of_some _ e
  have I4 := block_start I3 ok hN own3
  let cl := cellsFrom (s3.heap.objs.size + 1) sc.names (cloFrom X.env.cells sc.names [])
  have gT := hg s3 H3 s3.heap.objs.size cl fp; have gI := ht s3 H3 s3.heap.objs.size cl fp; have gK := hk s3 H3 s3.heap.objs.size cl fp; have gV := hv s3 H3 s3.heap.objs.size cl fp
  show codeAny _ _ (.compStart (.DictComp kx vx [⟨tg, iter, ifs, 0⟩] sc pos) 0 (.ref itA) (.ref D) (compEnvC sc cl s3.heap.objs.size X.env)) (compPost (model X.prog X.w) X.A X.xe use Qf (.ref D) s3.heap.objs.size) { s3 with heap := pushCells (s3.heap.push { cls := .type "dict", data := .dict #[] }) sc.names }
  generalize eB : compEnvC sc cl s3.heap.objs.size X.env = ce at gT gI gK gV ⊢
  have I4 : Inv (X.blk s3 H3 sc ce fp) [] (wipe σ (own.map (·.2))) H3 { s3 with heap := pushCells (s3.heap.push { cls := .type "dict", data := .dict #[] }) sc.names } := by rw [← eB]; exact I4
  have loc : ce.locals = s3.heap.objs.size := by rw [← eB]; rfl
  generalize e4 : ({ s3 with heap := pushCells (s3.heap.push { cls := .type "dict", data := .dict #[] }) sc.names } : Shared) = s4 at I4 ⊢
  have at4 : seen 0 s4.heap := T.keep _ _ _ at3 fun _ _ _ e => by rw [← e4]; exact pushCells_keeps _ _ _ _ (Heap.get?_push_of_some _ e)
  have mine : ∀ {σ' : L2.St} {H' : Hp} {t : Shared}, Inv (X.blk s3 H3 sc ce fp) [] σ' H' t → (∀ b ∈ fp, H' b = none) → ∀ b ∈ fp, FpOk (X.blk s3 H3 sc ce fp) [] H' b := fun I' none_ b hb => ⟨none_ b hb, (I'.ok.exf b hb).1, I'.ok.exfs b hb, .inl hb, fun x c e => (I'.ok.exf b hb).2 x c e, fun p hp => by
    have hp : p ∈ ([] : List (Addr × Obj)) ++ [] := hp
    simp at hp⟩
  have all : codeAny (model X.prog X.w) X.A (.compLoop (.DictComp kx vx [⟨tg, iter, ifs, 0⟩] sc pos) 0 (.ref itA) (.ref D) ce) (compPost (model X.prog X.w) X.A X.xe use Qf (.ref D) s3.heap.objs.size) s4 := by
    refine compLoop_anyD (Here (X.blk s3 H3 sc ce fp) σ (own.map (·.2)) seen fp W) ?_ k0 ⟨0, H3, I4, at4, fun b hb => (own3 b hb).1.1, w0⟩
    rintro k s5 ⟨i, H5, I5, at5, no5, w5⟩
    rcases turns i k H5 w5 with ⟨ends, fin⟩ | ⟨goes, Nx, next, one⟩
    · refine thnF (T.done (X.blk s3 H3 sc ce fp) rfl rfl rfl hc i [] s5 _ H5 (fun _ _ => False) I5 (mine I5 no5) at5 ends) fun r s6 ⟨hr, I6⟩ => ?_
      subst hr
      have back : Inv X pins σ H5 s6 := I3.call' (ch := fp) I6.os I6.base I6.hok I6.bare fun b hb => let q := (own3 b hb).1.2; ⟨q.2.2.1, q.1, q.2.2.2.1, q.2.2.2.2⟩
      have free : H5 s3.heap.objs.size = none := loc ▸ (show H5 ce.locals = none from I6.free)
      obtain ⟨m, ns, _⟩ := I6.loc
      exact out D s3.heap.objs.size s6 m H5 back fin (loc ▸ (show s6.heap.Ns ce.locals m from ns)) (I3.fpOk (Nat.le_refl _) free)
    · refine thnF (T.item (X.blk s3 H3 sc ce fp) rfl rfl rfl hc i [] s5 _ H5 (fun _ _ => False) I5 (mine I5 no5) at5 goes) fun r s6 ⟨u, hr, came6⟩ => ?_
      subst hr
      refine thnF came6 fun _ s7 ⟨x, H7, I7, r7, y7, at7, no7⟩ => thnF (gT.run _ s7 _ H7 x u _ (I7.pinned (mine I7 no7) (T.obj _ _ at7)) r7 (one x H7 y7)) fun _ s8 ⟨σ8, H8, I8, same, q8⟩ => thnF (gI.run _ s8 σ8 H8 _ I8 q8) fun b s9 ⟨H9, I9, q9⟩ => ?_
      cases b with
      | false => simp only [Bool.false_eq_true, if_false] at q9 ⊢; exact turn_next T at7 next same I9 q9
      | true =>
        simp only [if_true] at q9 ⊢
        refine thnF (gK.run _ s9 σ8 H9 _ I9 q9) fun z s10 ⟨y, H10, I10, ry, q10⟩ => thnF (gV.run _ s10 σ8 H10 _ I10 q10) fun z2 s11 ⟨v, H11, I11, rv, F, es, hs', ks, kk, a1, a2, a3, a4, a5, a6, a7, a8, nx⟩ => ?_
        exact put_ok (X := X.blk s3 H3 sc ce fp) (F := F) hu I11 a1 a2 a3 a4 a5 a6 ry rv a8 a7 fun _ I12 => turn_next T at7 next same I12 nx
  exact codeAny_compStart_dict all (T.self X.A 0 _ _ _ at4 all)
/-- as a value -/
theorem pe_dcH (hc : X.calm = true) (hu : X.A.units + 8 < cLine) (hN : X.N.Nodup) (hi : PI X tg iter wi) (ok : BlkOk X.N X.env.scope sc own)
    (hg : ∀ s H C cl fp, PG (X.blk s H sc (compEnvC sc cl C X.env) fp) tg g) (ht : ∀ s H C cl fp, PTs (X.blk s H sc (compEnvC sc cl C X.env) fp) ifs tt) (hk : ∀ s H C cl fp, PE (X.blk s H sc (compEnvC sc cl C X.env) fp) kx tk) (hv : ∀ s H C cl fp, PE (X.blk s H sc (compEnvC sc cl C X.env) fp) vx tv)
    (hs : ∀ x, foldedSetIterable iter X.env x = pure x := by intro _; rfl) : PE X (.DictComp kx vx [⟨tg, iter, ifs, 0⟩] sc pos) (tDcH X.K X.w wi g tt tk tv (own.map (·.2))) :=
  ⟨fun pins s σ H Q I h => by
    rw [arm_eval_DictComp]
    exact dc_core hc hu hN I hi ok hg ht hk hv hs h fun D C t m H' I' q ns f => ⟨m, ns, fun h'' sb => ⟨.ref D, H', I'.turned (t' := t.toks) (fun b o ne e => (sb.2 b ne).trans e) f.1 f.2.1 f.2.2.2.1 f.2.2.2.2.1 f.2.2.2.2.2, rfl, q⟩⟩⟩
end
end TxDC
namespace Tx
open PySem PySem.Spec PyProof.Rows L2 TxDC
section
variable {K : PySem.W.Frag} {m : Mo} {Γ : G} {tk tv : TE} {tt : TT} {w : World}
/-- {k: v for ..}, no test, all keys different -/
theorem en_dcH {α : Type} {wi : TI} {g : TG} {vs : List Nat} {xs : List α} {js : List Nat} (enc : α → D) (fk fv : α → D) (hj : ∀ j ∈ js, j ∈ vs) (hi : ItD1 m K wi Γ (xs.map enc)) (hu : xs.length < 10000) (kk : ∀ x ∈ xs, kkey (fk x)) (nd : (xs.map fun x => kd (fk x)).Nodup)
    (hs : ∀ m', Mo.Le m m' → ∀ x, x ∈ xs → ∃ Γ2, TgD m' K g (wipeG Γ vs) (enc x) js Γ2 ∧ EvT1 m' K tt Γ2 true ∧ Ev1 m' K tk Γ2 (fk x) ∧ Ev1 m' K tv Γ2 (fv x)) :
    Ev1 m K (tDcH K w wi g tt tk tv vs) Γ (.dct (xs.map fun x => (kd (fk x)).hash w) (xs.map fk) (xs.map fv)) := fun σ H e Q q => by
  refine hi σ H e _ fun J zs H1 hz r1 wk => fun Dl hD => ?_
  subst hz
  have e1 := e.mv r1
  have nF : ¬ m.F Dl := fun f => m.fa e1.i f hD
  have rN : m.R H1 (upd H1 Dl (dO Dl [])) := m.grow e1.i (same_new hD)
  have wkA : ∀ H', m.R H1 H' → (m.ext Dl).I H' → WkD (m.ext Dl) K J H' (xs.map enc) := fun H' r i => wk (m.ext Dl) (m.le_ext Dl) H' i r fun a f n => f.elim (fun f => absurd f n) fun z => z ▸ hD
  let part : Nat → DX := fun i => ⟨(xs.take i).map fun x => (kd (fk x)).hash w, (xs.take i).map fk, (xs.take i).map fv⟩
  refine ⟨fun i k H' => k = xs.length - i ∧ i ≤ xs.length ∧ m.R H1 H' ∧ (dctW m K w Dl).at_ H' (part i), ⟨_, rfl, Nat.zero_le _, rN, ⟨.nil, [], upd_same, rfl, .nil, .nil⟩⟩, ?_⟩
  rintro i k H' ⟨rfl, hle, r, at_⟩
  have eX : ER (m.ext Dl) K Γ σ H' := e1.ext hD r (by obtain ⟨_, _, z, _⟩ := at_; rw [z]; exact fun z => nomatch z)
  have iX := eX.i
  have wkX := wkA H' r iX
  have hlen : (xs.map enc).length = xs.length := List.length_map _
  by_cases hlt : i < xs.length
  · refine .inr ⟨wkX.go i H' (m.refl _) (by rw [hlen]; exact hlt), fun H3 => m.R H1 H3 ∧ (dctW m K w Dl).at_ H3 (part (i + 1)), fun H3 z => ⟨xs.length - (i + 1), by omega, rfl, hlt, z⟩, fun x H2 y => ?_⟩
    obtain ⟨r2, d, hd, rx⟩ := wkX.yld i H' x H2 (m.refl _) (by rw [hlen]; exact hlt) y
    rw [List.getElem?_map, List.getElem?_eq_getElem hlt] at hd
    injection hd with hd
    subst hd
    obtain ⟨Γ2, tg, tst, ek, ev⟩ := hs (m.ext Dl) (m.le_ext Dl) xs[i] (List.getElem_mem hlt)
    have tk1 : xs.take (i + 1) = xs.take i ++ [xs[i]] := take_one (List.getElem?_eq_getElem hlt)
    refine tg x (wipe σ vs) H2 ((eX.mv r2).wipe vs) rx _ fun σ3 H3 e3 r3 w3 => ⟨by rw [w3 vs hj, wipe_wipe], ?_⟩
    refine tst σ3 H3 e3 _ fun b H4 tb r4 => ?_
    subst tb
    rw [if_pos rfl]
    refine ek σ3 H4 (e3.mv r4) _ fun y dk H5 sk r5 ry => ev σ3 H5 ((e3.mv r4).mv r5) _ fun z dv H6 sv r6 rz => ?_
    subst sk sv
    have rr : m.R H' H6 := m.trans r2 (m.trans r3 (m.trans r4 (m.trans r5 r6)))
    obtain ⟨ok, es, b1, b2, b3, b4⟩ := ow_mv (W := dctW m K w Dl) (H0 := H1) hD e1.i eX at_ rr
    have new : kd (fk xs[i]) ∉ (part i).ks.map kd := fun z => by
      have nd' := nd
      rw [show xs.map (fun x => kd (fk x)) = (xs.take (i + 1)).map (fun x => kd (fk x)) ++ (xs.drop (i + 1)).map (fun x => kd (fk x)) from by rw [← List.map_append, List.take_append_drop], List.nodup_append, tk1, List.map_append, List.nodup_append] at nd'
      refine nd'.1.2.2 (kd (fk xs[i])) ?_ (kd (fk xs[i])) (by simp) rfl
      have z' : kd (fk xs[i]) ∈ ((xs.take i).map fk).map kd := z
      rw [List.map_map] at z'
      exact z'
    have ry6 : Rp K (m.ext Dl).F H6 y (fk xs[i]) := ry.mv fun a o n q => (m.ext Dl).keep r6 ((e3.mv r4).mv r5).i a o n q
    have e6 := ((e3.mv r4).mv r5).mv (m := m.ext Dl) r6
    obtain ⟨r7, mv, _⟩ := upd_w (es := es ++ [((kd (fk xs[i])).hash w, y, z)]) (H0 := H1) hD e1.i (m.trans r rr) e6
    have more := at_more (m := m) ok (kk _ (List.getElem_mem hlt)) new b2 b3 b4 ry6 rz mv
    refine ⟨(m.ext Dl).F, es, _, _, fk xs[i], b1, b2, b3, ok, kk _ (List.getElem_mem hlt), ry6, ?_, new, r7, ?_⟩
    · have h2 := congrArg List.length b2
      have h3 := b3.len
      simp only [part, List.length_map, List.length_take] at h2 h3
      omega
    · have ep : part (i + 1) = (part i).more w (fk xs[i]) (fv xs[i]) := by
        simp only [part, DX.more, tk1, List.map_append, List.map_cons, List.map_nil]
      rw [ep]
      exact more
  · have e0 : i = xs.length := by omega
    subst e0
    have sees := (dctW m K w Dl).see nF at_
    simp only [part, List.take_length] at sees
    exact .inl ⟨by have := wkX.stop H' (m.refl _); rw [hlen] at this; exact this, q _ _ _ rfl (m.trans r1 r) sees⟩
end
end Tx

set_option Elab.async false
set_option linter.all false
set_option maxRecDepth 100000
set_option maxHeartbeats 2000000
set_option autoImplicit false
/-! Tx: o[k] by the own `__getitem__` -/
namespace Tx
open PySem PySem.Spec PyProof.Rows L2
/-- the own method, as a subscript asks for it -/
structure IxK (P : Program) (w : World) (K : PySem.W.Frag) (mg : Str → Option Value) (base : Heap) (C : Addr) (n : Nat) (sp : Sp) : Prop where
  ex : ∃ f, PySem.W.findIn K (.ref C) "__getitem__" = some (some (.ref f)) ∧ PySem.W.isFn K (.ref f) = true ∧ PySem.W.fnIn K f = true ∧ ∃ fd ps, FnOk P w K mg base CX0 n f fd ps sp ∧ Binds K fd ps []
def rIxO (C : Addr) (sp : Sp) : R2 := fun x y H Q => ∃ (a dx : Addr) (fs : List (Str × V)), x = .ref a ∧ H a = some (.ins C dx fs) ∧ sp [.ref a, y] H Q E0
def rIxU (K : PySem.W.Frag) (C : Addr) (sp : Sp) : R2 := fun x y H Q => rIx K x y H Q ∨ rIxO C sp x y H Q
theorem pe_ixU {X : Cx} {C : Addr} {n k : Nat} {sp : Sp} {a b : Expr} {ta tb : TE} {pos : Pos} (O : IxK X.prog X.w X.K X.mg X.base C n sp) (hr : Room k X.A) (hk : n + 1 ≤ k) (ha : PE X a ta) (hb : PE X b tb) (hs : PlainIx b)
    (own : ∀ (x : Addr) (i : Value), subscripted b true (.ref x) i = runValue (.builtin "lifetime.subscript" ⟨[.ref x, i], []⟩) := by intro _ _; with_unfolding_all rfl) : PE X (.Subscript a b pos) (tOp (rIxU X.K C sp) ta tb) := by
  refine ⟨fun pins s σ H Q I h => Subscript_ (binT ha hb I h fun v u s2 x y H2 I2 rx ry q => ?_)⟩
  rcases q with q | ⟨p, dx, fs, rfl, hp, hsp⟩
  · exact ix_seq a b pins s2 σ H2 x y v u Q I2 rx ry q (hs _ _)
  cases rx
  obtain ⟨f, h1, h2, h3, fd, ps, F, hbi⟩ := O.ex
  obtain ⟨_, J, _⟩ := ins_get I2.hok hp
  obtain ⟨od, J, _⟩ := J.look
  obtain ⟨m, hF⟩ := I2.fr
  exact PySem.W.sub_K hF I2.ok.mod.kin J h1 h3 h2 (run_own F hbi (hr.mono hk).in1 rfl I2 (rr2 p ry) hsp) (own p u)
section
variable {K : PySem.W.Frag} {m : Mo} {C : Addr} {ns : List Str} {xs : List D} {y d : D} {pre : List D → Prop} {Sf : List D → D → Prop}
theorem o_ixOS (hp : pre [.obj C ns xs, y]) (hn : ∀ z, Sf [.obj C ns xs, y] z → z = d) : Op1 m K (rIxU K C (spS K pre Sf)) (.obj C ns xs) y d := fun vx vy H I rv ry Q q => by
  obtain ⟨a, dx, fs, rfl, ha, _⟩ := rv.ins
  exact .inr ⟨a, dx, fs, rfl, ha, m.F, [.obj C ns xs, y], fun a f => m.fa I f, .cons rv (.cons ry .nil), hp, fun v z H' sd sm rz => q _ _ H' (hn z sd) (m.grow I sm) rz⟩
theorem o_ixP {sp : Sp} {x : D} (h : Op1 m K (rIx K) x y d) : Op1 m K (rIxU K C sp) x y d := fun vx vy H I rx ry Q q => .inl (h vx vy H I rx ry Q q)
end
end Tx

set_option Elab.async false
set_option linter.all false
set_option maxRecDepth 100000
set_option maxHeartbeats 2000000
/-! Tx: a set comprehension of numbers with two sources -/
namespace TxS2
open PySem PySem.Spec PyProof.Rows L2 PpSet Tx TxS
section
variable {prog : Program} {w : World} {A : Around} {R : Result → Shared → Prop} {s : Shared} {elt t0 i0 t1 i1 : Expr} {f0 f1 : List Expr} {sc : Scope} {pos : Pos} {it acc : Value} {env : Env}
/-- the comprehension of two sources -/
abbrev two (elt t0 i0 t1 i1 : Expr) (f0 f1 : List Expr) (sc : Scope) (pos : Pos) : Expr := .SetComp elt [⟨t0, i0, f0, 0⟩, ⟨t1, i1, f1, 0⟩] sc pos
/-- the tests of a turn, one after the other -/
abbrev tests (fs : List Expr) (env : Env) : Sem Bool := forIn fs true fun c r => if r = true then do let ok ← isTrue c env (eval c env); pure (ForInStep.yield ok) else pure (ForInStep.yield r)
theorem turn_out : compTurn (two elt t0 i0 t1 i1 f0 f1 sc pos) 0 it acc env = (do
  standAt i0.pos; let r ← pyNext it
  match r with
  | none => pure (.done .next)
  | some v => do
    letOwnedTupleGo t0 it v; assign t0 env v; let ok ← tests f0 env
    if ok = true then do
      let x ← eval i1 env; standAt i1.pos; let x ← foldedSetIterable i1 env x
      let i ← holding [x] (pyIter x); let _ ← runOwn (.compStart (two elt t0 i0 t1 i1 f0 f1 sc pos) 1 i acc env) env
      again (.compLoop (two elt t0 i0 t1 i1 f0 f1 sc pos) 0 it acc env)
    else again (.compLoop (two elt t0 i0 t1 i1 f0 f1 sc pos) 0 it acc env)) := by rfl
theorem turn_in : compTurn (two elt t0 i0 t1 i1 f0 f1 sc pos) 1 it acc env = (do
  standAt i1.pos; let r ← pyNext it
  match r with
  | none => pure (.done .next)
  | some v => do
    letOwnedTupleGo t1 it v; assign t1 env v; let ok ← tests f1 env
    if ok = true then do
      (do let x ← eval elt env; standAt elt.pos; let _ ← call (.builtin "set.add") [acc, x])
      again (.compLoop (two elt t0 i0 t1 i1 f0 f1 sc pos) 1 it acc env)
    else again (.compLoop (two elt t0 i0 t1 i1 f0 f1 sc pos) 1 it acc env)) := by rfl
/-- a raise is noted -/
abbrev Out (prog : Program) (w : World) (A : Around) (env : Env) (R : Result → Shared → Prop) : Value → Shared → Prop := notedBy (model prog w) A env fun e s' => R (.error e) s'
theorem loop_out (plain : ∀ x, foldedSetIterable i1 env x = pure x) (J : Nat → Shared → Prop)
    (turn : ∀ n s, J n s → wpAny (model prog w) A (pyNext it) (fun r a => match r with
      | none => R (.ok .next) a
      | some v => wpAny (model prog w) A (letOwnedTupleGo t0 it v) (fun _ b => wpAny (model prog w) A (assign t0 env v) (fun _ c => wpAny (model prog w) A (tests f0 env) (fun ok d =>
          if ok = true then wpAny (model prog w) A (eval i1 env) (fun x e => wpAny (model prog w) A (pyIter x) (fun i f => codeAny (model prog w) A (.compStart (two elt t0 i0 t1 i1 f0 f1 sc pos) 1 i acc env) (fun r s' => match r with | .ok _ => ∃ m, m < n ∧ J m s' | .error _ => False) f) (Out prog w A env R) e) (Out prog w A env R) d
          else ∃ m, m < n ∧ J m d) (Out prog w A env R) c) (Out prog w A env R) b) (Out prog w A env R) a) (Out prog w A env R) s)
    (n : Nat) (h : J n s) : codeAny (model prog w) A (.compLoop (two elt t0 i0 t1 i1 f0 f1 sc pos) 0 it acc env) R s := by
  refine codeAny_loop rfl J (fun n s hJ => ?_) n h
  show wpAny _ A ((compTurn (two elt t0 i0 t1 i1 f0 f1 sc pos) 0 it acc env).onRaise (fun x => do noteFrame x env; theTreesLotGoes x)) _ _ s
  refine wpAny_noted ?_; rw [turn_out]; refine wpAny_bind (wpAny_standAt (wpAny_bind (wpAny_mono (turn n s hJ) (fun r a ha => ?_) fun _ _ z => z)))
  cases r with
  | none => exact wpAny_pure ha
  | some v =>
    refine wpAny_bind (wpAny_mono ha (fun _ b hb => wpAny_bind (wpAny_mono hb (fun _ c hc => wpAny_bind (wpAny_mono hc (fun ok d hd => ?_) fun _ _ z => z)) fun _ _ z => z)) fun _ _ z => z)
    cases ok with
    | false => exact wpAny_pure ⟨rfl, hd⟩
    | true =>
      refine wpAny_bind (wpAny_mono hd (fun x e he => wpAny_bind (wpAny_standAt (wpAny_bind (wpAny_of_eq (plain x) (wpAny_bind (wpAny_holding (wpAny_mono he (fun i f hf => ?_) fun _ _ z => z))))))) fun _ _ z => z)
      refine wpAny_bind (wpAny_runOwn ?_)
      rw [Around.mark_none]
      refine codeAny_mono hf fun r s' hr => ?_
      cases r with
      | error e => exact hr.elim
      | ok f => first | exact wpAny_pure ⟨rfl, hr⟩ | exact wpAny_bind (wpAny_pure (wpAny_pure ⟨rfl, hr⟩))
theorem loop_in (J : Nat → Shared → Prop)
    (turn : ∀ n s, J n s → wpAny (model prog w) A (pyNext it) (fun r a => match r with
      | none => R (.ok .next) a
      | some v => wpAny (model prog w) A (letOwnedTupleGo t1 it v) (fun _ b => wpAny (model prog w) A (assign t1 env v) (fun _ c => wpAny (model prog w) A (tests f1 env) (fun ok d =>
          if ok = true then wpAny (model prog w) A (eval elt env) (fun x e => wpAny (model prog w) A (call (.builtin "set.add") [acc, x]) (fun _ f => ∃ m, m < n ∧ J m f) (Out prog w A env R) e) (Out prog w A env R) d
          else ∃ m, m < n ∧ J m d) (Out prog w A env R) c) (Out prog w A env R) b) (Out prog w A env R) a) (Out prog w A env R) s)
    (n : Nat) (h : J n s) : codeAny (model prog w) A (.compLoop (two elt t0 i0 t1 i1 f0 f1 sc pos) 1 it acc env) R s := by
  refine codeAny_loop rfl J (fun n s hJ => ?_) n h
  show wpAny _ A ((compTurn (two elt t0 i0 t1 i1 f0 f1 sc pos) 1 it acc env).onRaise (fun x => do noteFrame x env; theTreesLotGoes x)) _ _ s
  refine wpAny_noted ?_; rw [turn_in]; refine wpAny_bind (wpAny_standAt (wpAny_bind (wpAny_mono (turn n s hJ) (fun r a ha => ?_) fun _ _ z => z)))
  cases r with
  | none => exact wpAny_pure ha
  | some v =>
    refine wpAny_bind (wpAny_mono ha (fun _ b hb => wpAny_bind (wpAny_mono hb (fun _ c hc => wpAny_bind (wpAny_mono hc (fun ok d hd => ?_) fun _ _ z => z)) fun _ _ z => z)) fun _ _ z => z)
    cases ok with
    | false => exact wpAny_pure ⟨rfl, hd⟩
    | true => exact wpAny_bind (wpAny_bind (wpAny_mono hd (fun x e he => wpAny_bind (wpAny_standAt (wpAny_bind (wpAny_mono he (fun _ f hf => wpAny_pure (wpAny_pure ⟨rfl, hf⟩)) fun _ _ z => z)))) fun _ _ z => z))
/-- the second source begins -/
theorem start1 (h0 : codeAny (model prog w) A (.compLoop (two elt t0 i0 t1 i1 f0 f1 sc pos) 1 it acc env) R s) (h : wpAny (model prog w) A (pyIter it) (fun i t => codeAny (model prog w) A (.compLoop (two elt t0 i0 t1 i1 f0 f1 sc pos) 1 i acc env) R t) (Out prog w A env R) s) : codeAny (model prog w) A (.compStart (two elt t0 i0 t1 i1 f0 f1 sc pos) 1 it acc env) R s := by
  refine codeAny_of_tree (show wpAny _ _ ((compStart (two elt t0 i0 t1 i1 f0 f1 sc pos) 1 it acc env).onRaise (fun x => do noteFrame x env; standAt theWindowsPlace)) _ _ s from wpAny_notedAt ?_)
  unfold compStart
  refine (show wpAny _ _ (ask >>= _) _ _ s from wpAny_bind (wpAny_askSetting (wpAny_ite ?_)))
  split
  · first | exact wpAny_bind (wpAny_pure (wpAny_pure (And.intro rfl h0))) | exact wpAny_pure (And.intro rfl h0)
  · first | exact wpAny_bind (wpAny_rule (wpAny_bind (wpAny_standAt (wpAny_bind (wpAny_mono h (fun i t z => wpAny_pure (And.intro rfl z)) fun _ _ x => x))))) | (refine wpAny_bind (wpAny_rule ?_); show wpAny _ _ (standAt i1.pos >>= _) _ _ s; exact wpAny_bind (wpAny_standAt (wpAny_bind (wpAny_mono h (fun i t z => wpAny_pure (And.intro rfl z)) fun _ _ x => x))))
end
/-- what such a comprehension asks -/
def tSetI2 (w : World) (wi : TI) (g : TG) (tt : TT) (wi1 : TI) (g1 : TG) (tt1 : TT) (te : TE) (vs vs1 : List Nat) : TE := fun σ H Q => wi σ H fun J H1 => ∀ D, H1 D = none →
  ∃ W : Nat → Nat → Hp → Prop, (∃ k0, W 0 k0 (upd H1 D (SetO w D (fun _ => false) 0))) ∧ ∀ i k H2, W i k H2 → (J.stop i H2 ∧ Q (.ref D) H2) ∨ (J.go i H2 ∧ ∃ Nx : Hp → Prop, (∀ H3, Nx H3 → ∃ k1, k1 < k ∧ W (i + 1) k1 H3) ∧
    ∀ x H3, J.yld i H2 x H3 → g x (wipe σ vs) H3 fun σ2 H4 => wipe σ2 vs = wipe σ vs ∧ tt σ2 H4 fun b H5 => if b = true then wi1 σ2 H5 fun J1 H6 => ∃ W1 : Nat → Nat → Hp → Prop, (∃ k2, W1 0 k2 H6) ∧ ∀ j k2 H7, W1 j k2 H7 →
      (J1.stop j H7 ∧ Nx H7) ∨ (J1.go j H7 ∧ ∃ Nx1 : Hp → Prop, (∀ H8, Nx1 H8 → ∃ k3, k3 < k2 ∧ W1 (j + 1) k3 H8) ∧ ∀ x H8, J1.yld j H7 x H8 → g1 x (wipe σ2 vs1) H8 fun σ3 H9 => wipe σ3 vs1 = wipe σ2 vs1 ∧ tt1 σ3 H9 fun b H10 =>
        if b = true then te σ3 H10 fun y H11 => ∃ (c : Int) (S : Int → Bool) (n : Nat), y = .int c ∧ H11 D = some (SetO w D S n) ∧ n + 1 < scanBound ∧ Nx1 (upd H11 D (SetO w D (fun j => S j || decide (j = c)) (if S c = true then n else n + 1))) else Nx1 H10)
      else Nx H5)
theorem wipe_sub {σ : L2.St} {vs : List Nat} : ∀ {us : List Nat}, (∀ i ∈ us, i ∈ vs) → wipe (wipe σ us) vs = wipe σ vs
  | [], _ => rfl
  | u :: us, h => (wipe_set (h u List.mem_cons_self)).trans (wipe_sub fun i hi => h i (List.mem_cons_of_mem _ hi))
/-- as Here, with pins -/
def HereP (B : Cx) (p0 : List (Addr × Obj)) (τ : L2.St) (seen : Nat → Heap → Prop) (fp : List Addr) (W : Nat → Nat → Hp → Prop) (k : Nat) (t : Shared) : Prop := ∃ i H, Inv B p0 τ H t ∧ seen i t.heap ∧ (∀ b ∈ fp, H b = none) ∧ W i k H
theorem turn_nextP {B : Cx} {P : Program} {w : World} {F : PySem.W.Frag} {tg : Expr} {p0 : List (Addr × Obj)} {σ : L2.St} {vs : List Nat} {J : It} {itA : Addr} {fp : List Addr} {seen : Nat → Heap → Prop} (T : Turn P w F tg J fp itA seen) {W : Nat → Nat → Hp → Prop} {Nx : Hp → Prop} {k i : Nat} {τ : L2.St} {t t' : Shared} {H : Hp} (at_ : seen (i + 1) t.heap)
    (next : ∀ H, Nx H → ∃ j, j < k ∧ W (i + 1) j H) (same : wipe τ vs = wipe σ vs) (I : Inv B (p0 ++ pinsAt fp t.heap) τ H t') (nx : Nx H) : ∃ j, j < k ∧ HereP B p0 (wipe σ vs) seen fp W j t' := by
  obtain ⟨j, lt, w'⟩ := next H nx
  have stay : ∀ b ∈ fp, ∀ o, t.heap.get? b = some o → t'.heap.get? b = some o ∧ H b = none := fun b hb o e => let p := I.pin (b, o) (List.mem_append_right _ (List.mem_append_right _ (mem_pinsAt hb e))); ⟨p.1, p.2.1⟩
  refine ⟨j, lt, i + 1, H, I.unpinned.weak (by rw [← same, wipe_length]) (fun a v e => (wipe_some (same ▸ e)).1), T.keep _ _ _ at_ fun b hb o e => (stay b hb o e).1, fun b hb => ?_, w'⟩
  obtain ⟨o, e, _⟩ := T.obj _ _ at_ b hb; exact (stay b hb o e).2
section
variable {X : Cx} {σ : L2.St} {elt tg iter tg1 iter1 : Expr} {ifs ifs1 : List Expr} {sc : Scope} {own : List (PySem.Str × Nat)} {vs1 : List Nat} {pos pos2 : Pos} {wi wi1 : TI} {g g1 : TG} {tt tt1 : TT} {te : TE}
theorem core2 {pins : List (Addr × Obj)} {s : Shared} {H : Hp} {Q : VK} {use : Option (Value → Sem Unit)} {Qf : Value → Shared → Prop} (hc : X.calm = true) (hN : X.N.Nodup) (I : Inv X pins σ H s) (hi : PI X tg iter wi) (ok : BlkOk X.N X.env.scope sc own) (sub : ∀ i ∈ vs1, i ∈ own.map (·.2))
    (hg : ∀ s H C cl fp, PG (X.blk s H sc (compEnvC sc cl C X.env) fp) tg g) (ht : ∀ s H C cl fp, PTs (X.blk s H sc (compEnvC sc cl C X.env) fp) ifs tt) (hi1 : ∀ s H C cl fp, PI (X.blk s H sc (compEnvC sc cl C X.env) fp) tg1 iter1 wi1) (hg1 : ∀ s H C cl fp, PG (X.blk s H sc (compEnvC sc cl C X.env) fp) tg1 g1)
    (ht1 : ∀ s H C cl fp, PTs (X.blk s H sc (compEnvC sc cl C X.env) fp) ifs1 tt1) (he : ∀ s H C cl fp, PE (X.blk s H sc (compEnvC sc cl C X.env) fp) elt te) (hs : ∀ x, foldedSetIterable iter X.env x = pure x) (hs1 : ∀ env x, foldedSetIterable iter1 env x = pure x) (h : tSetI2 X.w wi g tt wi1 g1 tt1 te (own.map (·.2)) vs1 σ H Q)
    (out : ∀ D C t m H', Inv X pins σ H' t → Q (.ref D) H' → t.heap.Ns C m → FpOk X pins H' C → compPost (model X.prog X.w) X.A X.xe use Qf (.ref D) C (.ok .next) t) :
    wpAny (model X.prog X.w) X.A (comprehension (two elt tg iter tg1 iter1 ifs ifs1 sc pos) sc X.env pos2 (newSet (.type "set")) false (eval iter X.env) use) Qf X.xe s := by
  refine wpAny_comprehension_free (use := use) rfl hs (closure_ok fun y hy e => (ok.free y hy e).elim (fun k => I.ok.has _ (.inl k)) fun k => I.ok.has _ (.inr k)) ok.kind (fun y hy e => by rw [ok.uniq y hy, e]) (thn (hi.run pins s σ H _ I h) fun _ _ came => thn came fun _ t came2 => ?_)
  obtain ⟨itA, fp, seen, J, H2, rfl, I2, T, at0, away, asks⟩ := came2
  refine newSet_ok (newEnv_comp ?_)
  generalize eD : t.heap.objs.size = D
  obtain ⟨W, ⟨k0, w0⟩, turns⟩ := asks D (I2.hok.fresh (Nat.le_of_eq eD))
  generalize e3 : ({ t with heap := t.heap.push (emptySet X.w) } : Shared) = s3
  have p3 : s3.heap = t.heap.push (emptySet X.w) := by rw [← e3]
  have z3 : s3.heap.objs.size = t.heap.objs.size + 1 := by rw [p3, Heap.size_push]
  generalize eH : upd H2 D (SetO X.w D (fun _ => false) 0) = H3 at w0
  have I3 : Inv X pins σ H3 s3 := by
    rw [← e3, ← eH]; refine I2.laid (t' := t.toks) (fun _ _ e => Heap.get?_push_of_some _ e) (Nat.le_of_eq eD) ?_; rw [← eD]; exact setO_new (setR_fresh X.w)
  have own3 : ∀ b ∈ fp, FpOk X pins H3 b ∧ b < s3.heap.objs.size := fun b hb => by
    obtain ⟨_, e, _⟩ := T.obj _ _ at0 b hb
    have lt : b < t.heap.objs.size := Heap.lt_size e
    refine ⟨⟨?_, (away b hb).2⟩, by rw [z3]; exact Nat.lt_succ_of_lt lt⟩; rw [← eH, upd_ne (by rw [← eD]; exact Nat.ne_of_lt lt)]; exact (away b hb).1
  have at3 : seen 0 s3.heap := T.keep _ _ _ at0 fun _ _ _ e => by rw [p3]; exact Heap.get?_push_of_some _ e
  have I4 := block_start I3 ok hN own3
  let cl := cellsFrom (s3.heap.objs.size + 1) sc.names (cloFrom X.env.cells sc.names [])
  have gT := hg s3 H3 s3.heap.objs.size cl fp; have gI := ht s3 H3 s3.heap.objs.size cl fp; have gE := he s3 H3 s3.heap.objs.size cl fp; have gJ := hi1 s3 H3 s3.heap.objs.size cl fp; have gT1 := hg1 s3 H3 s3.heap.objs.size cl fp; have gI1 := ht1 s3 H3 s3.heap.objs.size cl fp
  show codeAny _ _ (.compStart (two elt tg iter tg1 iter1 ifs ifs1 sc pos) 0 (.ref itA) (.ref D) (compEnvC sc cl s3.heap.objs.size X.env)) (compPost (model X.prog X.w) X.A X.xe use Qf (.ref D) s3.heap.objs.size) { s3 with heap := pushCells (s3.heap.push { cls := .type "dict", data := .dict #[] }) sc.names }
  generalize eB : compEnvC sc cl s3.heap.objs.size X.env = ce at gT gI gE gJ gT1 gI1 ⊢
  have I4 : Inv (X.blk s3 H3 sc ce fp) [] (wipe σ (own.map (·.2))) H3 { s3 with heap := pushCells (s3.heap.push { cls := .type "dict", data := .dict #[] }) sc.names } := by rw [← eB]; exact I4
  have loc : ce.locals = s3.heap.objs.size := by rw [← eB]; rfl
  generalize e4 : ({ s3 with heap := pushCells (s3.heap.push { cls := .type "dict", data := .dict #[] }) sc.names } : Shared) = s4 at I4 ⊢
  have at4 : seen 0 s4.heap := T.keep _ _ _ at3 fun _ _ _ e => by rw [← e4]; exact pushCells_keeps _ _ _ _ (Heap.get?_push_of_some _ e)
  have mine : ∀ {σ' : L2.St} {H' : Hp} {t : Shared}, Inv (X.blk s3 H3 sc ce fp) [] σ' H' t → (∀ b ∈ fp, H' b = none) → ∀ b ∈ fp, FpOk (X.blk s3 H3 sc ce fp) [] H' b := fun I' none_ b hb => ⟨none_ b hb, (I'.ok.exf b hb).1, I'.ok.exfs b hb, .inl hb, fun x c e => (I'.ok.exf b hb).2 x c e, fun p hp => by
    have hp : p ∈ ([] : List (Addr × Obj)) ++ [] := hp
    simp at hp⟩
  have all : codeAny (model X.prog X.w) X.A (.compLoop (two elt tg iter tg1 iter1 ifs ifs1 sc pos) 0 (.ref itA) (.ref D) ce) (compPost (model X.prog X.w) X.A X.xe use Qf (.ref D) s3.heap.objs.size) s4 := by
    refine loop_out (hs1 ce) (HereP (X.blk s3 H3 sc ce fp) [] (wipe σ (own.map (·.2))) seen fp W) ?_ k0 ⟨0, H3, I4, at4, fun b hb => (own3 b hb).1.1, w0⟩
    rintro k s5 ⟨i, H5, I5, at5, no5, w5⟩
    rcases turns i k H5 w5 with ⟨ends, fin⟩ | ⟨goes, Nx, next, one⟩
    · refine thnF (T.done (X.blk s3 H3 sc ce fp) rfl rfl rfl hc i [] s5 _ H5 (fun _ _ => False) I5 (mine I5 no5) at5 ends) fun r s6 ⟨hr, I6⟩ => ?_
      subst hr
      have back : Inv X pins σ H5 s6 := I3.call' (ch := fp) I6.os I6.base I6.hok I6.bare fun b hb => let q := (own3 b hb).1.2; ⟨q.2.2.1, q.1, q.2.2.2.1, q.2.2.2.2⟩
      have free : H5 s3.heap.objs.size = none := loc ▸ (show H5 ce.locals = none from I6.free)
      obtain ⟨m, ns, _⟩ := I6.loc
      exact out D s3.heap.objs.size s6 m H5 back fin (loc ▸ (show s6.heap.Ns ce.locals m from ns)) (I3.fpOk (Nat.le_refl _) free)
    · refine thnF (T.item (X.blk s3 H3 sc ce fp) rfl rfl rfl hc i [] s5 _ H5 (fun _ _ => False) I5 (mine I5 no5) at5 goes) fun r s6 ⟨u, hr, came6⟩ => ?_
      subst hr
      refine thnF came6 fun _ s7 ⟨x, H7, I7, r7, y7, at7, no7⟩ => thnF (gT.run _ s7 _ H7 x u _ (I7.pinned (mine I7 no7) (T.obj _ _ at7)) r7 (one x H7 y7)) fun _ s8 ⟨σ8, H8, I8, same, q8⟩ => thnF (gI.run _ s8 σ8 H8 _ I8 q8) fun b s9 ⟨H9, I9, q9⟩ => ?_
      cases b with
      | false => simp only [Bool.false_eq_true, if_false] at q9 ⊢; exact turn_nextP T at7 next same I9 q9
      | true =>
        simp only [if_true] at q9 ⊢
        refine thnF (gJ.run _ s9 σ8 H9 _ I9 q9) fun _ _ cameA => thnF cameA fun _ s11 cameB => ?_
        obtain ⟨it1, fp1, seen1, J1, H11, rfl, I11, T1, atB, awayB, W1, ⟨k1, w1⟩, turns1⟩ := cameB
        have mine1 : ∀ {H' : Hp}, (∀ b ∈ fp1, H' b = none) → ∀ b ∈ fp1, FpOk (X.blk s3 H3 sc ce fp) ([] ++ pinsAt fp s7.heap) H' b := fun no b hb => ⟨no b hb, (awayB b hb).2⟩
        have inner : codeAny (model X.prog X.w) X.A (.compLoop (two elt tg iter tg1 iter1 ifs ifs1 sc pos) 1 (.ref it1) (.ref D) ce) (fun r s' => match r with | .ok _ => ∃ m, m < k ∧ HereP (X.blk s3 H3 sc ce fp) [] (wipe σ (own.map (·.2))) seen fp W m s' | .error _ => False) s11 := by
          refine loop_in (HereP (X.blk s3 H3 sc ce fp) ([] ++ pinsAt fp s7.heap) (wipe σ8 vs1) seen1 fp1 W1) ?_ k1 ⟨0, H11, I11.weak (wipe_length _ _) (fun j v e => (wipe_some e).1), atB, fun b hb => (awayB b hb).1, w1⟩
          rintro k2 s12 ⟨j, H12, I12, at12, no12, w12⟩
          rcases turns1 j k2 H12 w12 with ⟨ends1, nx⟩ | ⟨goes1, Nx1, next1, one1⟩
          · refine thnF (T1.done (X.blk s3 H3 sc ce fp) rfl rfl rfl hc j _ s12 _ H12 (fun _ _ => False) I12 (mine1 no12) at12 ends1) fun r s13 ⟨hr, I13⟩ => ?_
            subst hr
            exact turn_nextP T at7 next ((wipe_sub sub).trans same) I13 nx
          · refine thnF (T1.item (X.blk s3 H3 sc ce fp) rfl rfl rfl hc j _ s12 _ H12 (fun _ _ => False) I12 (mine1 no12) at12 goes1) fun r s13 ⟨u1, hr, came13⟩ => ?_
            subst hr
            refine thnF came13 fun _ s14 ⟨x1, H14, I14, r14, y14, at14, no14⟩ => thnF (gT1.run _ s14 _ H14 x1 u1 _ (I14.pinned (mine1 no14) (T1.obj _ _ at14)) r14 (one1 x1 H14 y14)) fun _ s15 ⟨σ15, H15, I15, same1, q15⟩ => thnF (gI1.run _ s15 σ15 H15 _ I15 q15) fun b s16 ⟨H16, I16, q16⟩ => ?_
            cases b with
            | false => simp only [Bool.false_eq_true, if_false] at q16 ⊢; exact turn_nextP T1 at14 next1 same1 I16 q16
            | true =>
              simp only [if_true] at q16 ⊢
              refine thnF (gE.run _ s16 σ15 H16 _ I16 q16) fun z s17 ⟨_, H17, I17, rz, c, S0, n0, ey, atD, few, nx⟩ => ?_
              subst ey
              obtain ⟨tk, rfl⟩ := (show ∃ tk, z = Value.int c tk from rz)
              exact addI_ok (X := X.blk s3 H3 sc ce fp) I17 atD few fun _ I18 => turn_nextP T1 at14 next1 same1 I18 nx
        exact start1 inner (T1.self X.A 0 _ _ _ atB inner)
  exact codeAny_compStart_set all (T.self X.A 0 _ _ _ at4 all)
/-- as a value -/
theorem pe_setI2 (hc : X.calm = true) (hN : X.N.Nodup) (hi : PI X tg iter wi) (ok : BlkOk X.N X.env.scope sc own) (sub : ∀ i ∈ vs1, i ∈ own.map (·.2))
    (hg : ∀ s H C cl fp, PG (X.blk s H sc (compEnvC sc cl C X.env) fp) tg g) (ht : ∀ s H C cl fp, PTs (X.blk s H sc (compEnvC sc cl C X.env) fp) ifs tt) (hi1 : ∀ s H C cl fp, PI (X.blk s H sc (compEnvC sc cl C X.env) fp) tg1 iter1 wi1) (hg1 : ∀ s H C cl fp, PG (X.blk s H sc (compEnvC sc cl C X.env) fp) tg1 g1)
    (ht1 : ∀ s H C cl fp, PTs (X.blk s H sc (compEnvC sc cl C X.env) fp) ifs1 tt1) (he : ∀ s H C cl fp, PE (X.blk s H sc (compEnvC sc cl C X.env) fp) elt te) (hs : ∀ x, foldedSetIterable iter X.env x = pure x := by intro _; rfl) (hs1 : ∀ env x, foldedSetIterable iter1 env x = pure x := by intro _ _; rfl) :
    PE X (two elt tg iter tg1 iter1 ifs ifs1 sc pos) (tSetI2 X.w wi g tt wi1 g1 tt1 te (own.map (·.2)) vs1) :=
  ⟨fun pins s σ H Q I h => by
    rw [eval_SetComp]
    exact core2 hc hN I hi ok sub hg ht hi1 hg1 ht1 he hs hs1 h fun D C t m H' I' q ns f => ⟨m, ns, fun h'' sb => ⟨.ref D, H', I'.turned (t' := t.toks) (fun b o ne e => (sb.2 b ne).trans e) f.1 f.2.1 f.2.2.2.1 f.2.2.2.2.1 f.2.2.2.2.2, rfl, q⟩⟩⟩
end
end TxS2

set_option Elab.async false
set_option linter.all false
set_option maxRecDepth 100000
set_option maxHeartbeats 2000000
set_option autoImplicit false
/-! Tx: sorted of such a set -/
namespace Tx
open PySem L2 TxS2
section
variable {K : PySem.W.Frag} {m : Mo} {Γ : G} {te : TE} {tt tt1 : TT} {w : World}
theorem er_stk {Γ2 : G} {σ2 : L2.St} {H H' : Hp} (e : ER m K Γ2 σ2 H) (st : StK m H H') (i : m.I H') : ER m K Γ2 σ2 H' := ⟨i, e.len, fun j d h => let ⟨v, h1, h2⟩ := e.at_ j d h; ⟨v, h1, h2.mv fun a o n q => st a o n q⟩⟩
theorem rp_intsL (F : Addr → Prop) (H : Hp) : ∀ l : List Int, RpAll K F H (l.map V.int) (l.map D.int)
  | [] => .nil
  | _ :: l => .cons (.int _) (rp_intsL F H l)
theorem en_sortSet2 {α : Type} {wi wi1 : TI} {g g1 : TG} {vs vs1 : List Nat} {xs : List α} {js js1 : List Nat} (enc : α → D) (ys : α → List Int) (hj : ∀ j ∈ js, j ∈ vs) (hj1 : ∀ j ∈ js1, j ∈ vs1) (hi : ItD1 m K wi Γ (xs.map enc)) (hu : (xs.flatMap ys).length < 60)
    (hs : ∀ m', Mo.Le m m' → ∀ x, x ∈ xs → ∃ Γ2, TgD m' K g (wipeG Γ vs) (enc x) js Γ2 ∧ EvT1 m' K tt Γ2 true ∧ ItX m' K wi1 Γ2 ((ys x).map D.int) ∧ ∀ y ∈ ys x, ∃ Γ3, TgD m' K g1 (wipeG Γ2 vs1) (.int y) js1 Γ3 ∧ EvT1 m' K tt1 Γ3 true ∧ Ev1 m' K te Γ3 (.int y)) :
    EvN m K (tCB (rSortedSet w) (tCons (tSetI2 w wi g tt wi1 g1 tt1 te vs vs1) tNil)) Γ (fun d => ∃ ns : List Int, d = .lst (ns.map D.int) ∧ ns.Pairwise (· < ·) ∧ ∀ k, k ∈ ns ↔ k ∈ xs.flatMap ys) := fun σ H e Q q => by
  refine (show tSetI2 w wi g tt wi1 g1 tt1 te vs vs1 σ H (fun x H2 => rSortedSet w [x] H2 Q) from ?_)
  refine hi σ H e _ fun J zs H1 hz r1 wk => fun Dl hD => ?_
  subst hz
  have e1 := e.mv r1
  have nF : ¬ m.F Dl := fun f => m.fa e1.i f hD
  have rN : m.R H1 (upd H1 Dl (SetO w Dl (fun _ => false) 0)) := m.grow e1.i (same_new hD)
  have wkA : ∀ H', m.R H1 H' → (m.ext Dl).I H' → WkD (m.ext Dl) K J H' (xs.map enc) := fun H' r i => wk (m.ext Dl) (m.le_ext Dl) H' i r fun a f n => f.elim (fun f => absurd f n) fun z => z ▸ hD
  have hlen : (xs.map enc).length = xs.length := List.length_map _
  refine ⟨fun i k H' => k = xs.length - i ∧ i ≤ xs.length ∧ m.R H1 H' ∧ ∃ S n, H' Dl = some (SetO w Dl S n) ∧ n ≤ ((xs.take i).flatMap ys).length ∧ ∀ j, S j = true ↔ j ∈ (xs.take i).flatMap ys, ⟨_, rfl, Nat.zero_le _, rN, _, 0, upd_same, Nat.le_refl 0, fun j => by simp⟩, ?_⟩
  rintro i k H' ⟨rfl, hle, r, S, n, hS, hn, hm⟩
  have eX : ER (m.ext Dl) K Γ σ H' := e1.ext hD r (by rw [hS]; exact fun z => nomatch z)
  have wkX := wkA H' r eX.i
  by_cases hlt : i < xs.length
  · refine .inr ⟨wkX.go i H' (m.refl _) (by rw [hlen]; exact hlt), fun H3 => m.R H1 H3 ∧ ∃ S n, H3 Dl = some (SetO w Dl S n) ∧ n ≤ ((xs.take (i + 1)).flatMap ys).length ∧ ∀ j, S j = true ↔ j ∈ (xs.take (i + 1)).flatMap ys, fun H3 z => ⟨xs.length - (i + 1), by omega, rfl, hlt, z⟩, fun x H2 y => ?_⟩
    obtain ⟨r2, d, hd, rx⟩ := wkX.yld i H' x H2 (m.refl _) (by rw [hlen]; exact hlt) y
    rw [List.getElem?_map, List.getElem?_eq_getElem hlt] at hd
    injection hd with hd
    subst hd
    obtain ⟨Γ2, tg, tst, itx, el⟩ := hs (m.ext Dl) (m.le_ext Dl) xs[i] (List.getElem_mem hlt)
    have tk : xs.take (i + 1) = xs.take i ++ [xs[i]] := take_one (List.getElem?_eq_getElem hlt)
    have tf : (xs.take (i + 1)).flatMap ys = (xs.take i).flatMap ys ++ ys xs[i] := by rw [tk, List.flatMap_append]; simp
    have tot : ((xs.take i).flatMap ys).length + (ys xs[i]).length < 60 := by
      have z : xs.flatMap ys = (xs.take (i + 1)).flatMap ys ++ (xs.drop (i + 1)).flatMap ys := by rw [← List.flatMap_append, List.take_append_drop]
      rw [z, tf, List.length_append, List.length_append] at hu
      omega
    refine tg x (wipe σ vs) H2 ((eX.mv r2).wipe vs) rx _ fun σ3 H3 e3 r3 w3 => ⟨by rw [w3 vs hj, wipe_wipe], ?_⟩
    refine tst σ3 H3 e3 _ fun b H4 tb r4 => ?_
    subst tb
    rw [if_pos rfl]
    have e4 := e3.mv r4
    refine itx σ3 H4 e4 _ fun J1 H6 r6 wk1 => ?_
    have e6 := e4.mv r6
    have r16 : m.R H1 H6 := m.trans r (m.trans r2 (m.trans r3 (m.trans r4 r6)))
    have hS6 : H6 Dl = some (SetO w Dl S n) := m.keep (m.trans r2 (m.trans r3 (m.trans r4 r6))) eX.i.1 Dl _ nF hS
    refine ⟨fun j k2 H7 => k2 = (ys xs[i]).length - j ∧ j ≤ (ys xs[i]).length ∧ m.R H1 H7 ∧ StK (m.ext Dl) H6 H7 ∧ ∃ S n, H7 Dl = some (SetO w Dl S n) ∧ n ≤ ((xs.take i).flatMap ys).length + j ∧ ∀ z, S z = true ↔ z ∈ (xs.take i).flatMap ys ++ (ys xs[i]).take j, ⟨_, rfl, Nat.zero_le _, r16, fun _ _ _ z => z, S, n, hS6, by omega, fun z => by rw [hm]; simp⟩, ?_⟩
    rintro j k2 H7 ⟨rfl, hle1, r7, st7, S7, n7, hS7, hn7, hm7⟩
    have i7 : (m.ext Dl).I H7 := ⟨m.inv r7 e1.i, by rw [hS7]; exact fun z => nomatch z⟩
    have e7 : ER (m.ext Dl) K Γ2 σ3 H7 := er_stk e6 st7 i7
    obtain ⟨go, stop, yld⟩ := wk1 H7 st7
    by_cases hlt1 : j < (ys xs[i]).length
    · refine .inr ⟨go j (by rw [List.length_map]; exact hlt1), fun H8 => m.R H1 H8 ∧ StK (m.ext Dl) H6 H8 ∧ ∃ S n, H8 Dl = some (SetO w Dl S n) ∧ n ≤ ((xs.take i).flatMap ys).length + (j + 1) ∧ ∀ z, S z = true ↔ z ∈ (xs.take i).flatMap ys ++ (ys xs[i]).take (j + 1), fun H8 z => ⟨(ys xs[i]).length - (j + 1), by omega, rfl, hlt1, z⟩, fun x1 H8 y1 => ?_⟩
      obtain ⟨e2, d1, hd1, rx1⟩ := yld j x1 H8 (by rw [List.length_map]; exact hlt1) y1
      subst e2
      rw [List.getElem?_map, List.getElem?_eq_getElem hlt1] at hd1
      injection hd1 with hd1
      subst hd1
      obtain ⟨Γ3, tg1, tst1, el1⟩ := el _ (List.getElem_mem hlt1)
      refine tg1 x1 (wipe σ3 vs1) H8 (e7.wipe vs1) rx1 _ fun σ5 H9 e9 r9 w9 => ⟨by rw [w9 vs1 hj1, wipe_wipe], ?_⟩
      refine tst1 σ5 H9 e9 _ fun b H10 tb r10 => ?_
      subst tb
      rw [if_pos rfl]
      refine el1 σ5 H10 (e9.mv r10) _ fun v dv H11 sv r11 rv => ?_
      subst sv
      have rr : m.R H8 H11 := m.trans r9 (m.trans r10 r11)
      have hS11 : H11 Dl = some (SetO w Dl S7 n7) := m.keep rr i7.1 Dl _ nF hS7
      refine ⟨(ys xs[i])[j], S7, n7, rv.intE, hS11, by unfold scanBound; omega, m.chg e1.i (m.trans r7 rr) hD, fun a o n q => ?_, _, _, upd_same, by split <;> omega, fun z => ?_⟩
      · rw [upd_ne (fun z => n (.inr z))]
        exact (m.ext Dl).keep rr i7 a o n (st7 a o n q)
      · rw [Bool.or_eq_true, hm7, decide_eq_true_iff, take_one (List.getElem?_eq_getElem hlt1), ← List.append_assoc]
        simp only [List.mem_append, List.mem_singleton]
    · have e0 : j = (ys xs[i]).length := by omega
      subst e0
      refine .inl ⟨by rw [List.length_map] at stop; exact stop, r7, S7, n7, hS7, by rw [tf, List.length_append]; exact hn7, fun z => ?_⟩
      rw [hm7, tf, List.take_length]
  · have e0 : i = xs.length := by omega
    subst e0
    have iN : m.I H' := m.inv r e1.i
    refine .inl ⟨by have := wkX.stop H' (m.refl _); rw [hlen] at this; exact this, ?_⟩
    rw [List.take_length] at hn hm
    refine ⟨Dl, S, n, rfl, hS, by omega, fun ns p hp1 hp2 _ hp3 => ?_⟩
    exact q _ (.lst (ns.map D.int)) _ ⟨ns, rfl, hp1, fun k => by rw [hp2, hm]⟩ (m.trans r1 (m.trans r (m.grow iN (same_new hp3)))) (.lst (fun z => m.fa iN z hp3) upd_same (rp_intsL _ _ ns))
end
end Tx

set_option Elab.async false
set_option linter.all false
set_option maxRecDepth 100000
set_option maxHeartbeats 2000000
set_option autoImplicit false
/-! Tx: len(set(..)) of different numbers -/
namespace Tx
open PySem PySem.Spec PyProof.Rows L2 PpSet
def rLenSet (w : World) : List V → Hp → VK → Prop := fun vs H Q => ∃ (l : Addr) (S : Int → Bool) (n : Nat) (ns : List Int), vs = [V.ref l] ∧ H l = some (SetO w l S n) ∧ ns.Nodup ∧ (∀ k, S k = true ↔ k ∈ ns) ∧ Q (.int (ns.length : Nat)) H
theorem cr_lenSet {X : Cx} : CallR X (.builtin "len") (rLenSet X.w) := by
  intro pins s σ H vs us Q I r q0
  obtain ⟨l, S, n, ns, rfl, hl, nd, hm, q⟩ := q0
  rw [Vals.ref1 r]
  obtain ⟨o, es, ep, t, ho, hex, hd, _, nd', hS, hb, hf, hn, _, _⟩ := setO_get I hl
  have p : (es.toList.map keyOf).Perm ns := (List.perm_ext_iff_of_nodup nd' nd).mpr fun k => (hS k).symm.trans (hm k)
  have e : es.size = ns.length := by have := p.length_eq; rw [List.length_map, Array.length_toList] at this; exact this
  exact call_len_set ho hex hd hf (by unfold scanBound at hb; omega) ⟨.int (ns.length : Nat), H, I.tok _, ⟨_, by rw [e]⟩, q⟩
section
variable {K : PySem.W.Frag} {m : Mo} {Γ : G} {te : TE} {w : World}
theorem en_lenSet {b : D} {ns : List Int} (h : Ev1 m K te Γ b) (hb : b = .tup (ns.map D.int) ∨ b = .lst (ns.map D.int)) (hu : ns.length < 60) (nd : ns.Nodup) : Ev1 m K (tCB (rLenSet w) (tCons (tCB (rSetU K w) (tCons te tNil)) tNil)) Γ (.int (ns.length : Nat)) := fun σ H e Q q =>
  h σ H e _ fun v d H1 s r1 rv => by
    subst s
    have i1 := m.inv r1 e.i
    have fin : ∀ (l : Addr) (c : Nat), c ≤ ns.length → H1 l = none → (rLenSet w) [V.ref l] (upd H1 l (SetO w l (fun j => decide (j ∈ ns)) c)) Q := fun l c hcn hl =>
      ⟨l, _, c, ns, rfl, upd_same, nd, fun k => decide_eq_true_iff, q _ _ _ rfl (m.trans r1 (m.grow i1 (same_new hl))) (.int _)⟩
    rcases hb with hb | hb
    · subst hb
      obtain ⟨a, vs, rfl, ha, ra⟩ := rv.tupE
      rw [ra.ints] at ha
      exact .inl ⟨a, ns, rfl, ha, hu, fin⟩
    · subst hb
      obtain ⟨a, vs, rfl, ha, ra⟩ := rv.lstE
      rw [ra.ints] at ha
      exact .inr ⟨a, ns, rfl, SqL.of ha, hu, fin⟩
end
/-- powers of greater numbers -/
def CPowW (i j : Int) : Prop := 0 ≤ j ∧ (Builtin.Int.intBits i : Int) * j ≤ 2 ^ 27
theorem op_powW {X : Cx} : OpR X (binaryOp .Pow) (rI CPowW fun i j => .int (i ^ j.toNat)) := opI fun _ _ _ _ _ _ _ hc q => pow_int hc.1 hc.2 q
end Tx

set_option Elab.async false
set_option linter.all false
set_option maxRecDepth 100000
set_option maxHeartbeats 2000000
set_option autoImplicit false
/-! Tx: return [x.pop(e) for .. in ..], x a list of one's own -/
namespace Tx
open PySem L2
theorem perm_out {α : Type} : ∀ {l : List α} {i : Nat} (h : i < l.length), (l[i] :: l.eraseIdx i).Perm l
  | a :: l, 0, _ => List.Perm.refl _
  | a :: l, i + 1, h => by
    have q := perm_out (l := l) (i := i) (by simpa using h)
    exact (List.Perm.swap a (l[i]'(by simpa using h)) (l.eraseIdx i)).symm.symm.trans (q.cons a)
section
variable {K : PySem.W.Frag} {m : Mo} {Γ : G} {te : TE} {ds : List D} {l : Addr} {H0 : Hp} {O : OutO}
theorem so_retPop {i n : Nat} {wi : TI} {g : TG} {vs js : List Nat} {xs : List D} {S : Nat → D → Prop} (hi : Γ[i]? = some (some (.adr l))) (hn : ds.length = n) (hz : n ≤ 1000) (hx : xs.length = n) (hj : ∀ j ∈ js, j ∈ vs) (hit : ItX (m.ext l) K wi Γ xs)
    (hint : ∀ d ∈ xs, ∃ z : Int, d = .int z)
    (hs : ∀ (Dl : Addr) (j : Nat) (d : D) (left : List D), xs[j]? = some d → left.length = n - j → ∃ Γ2, TgD (m.ext2 l Dl) K g (wipeG Γ vs) d js Γ2 ∧ Γ2[i]? = some (some (.adr l)) ∧ EvN (m.ext Dl) K te (Γ2.set i (some (.lst left))) (S left.length)) (hS : ∀ c d, S c d → ∃ k : Nat, d = dN k ∧ k < c)
    (kk : ∀ zs, zs.Perm ds → O.rt (.lst zs)) : SGo m K l H0 (tRet (tLc wi g tYes (tBM K "list" rPopAt (tVar i) (tCons te tNil)) vs)) Γ ds O := fun h0 i0 σ H vs0 r e hl ra E M => by
  refine (show tLc wi g tYes (tBM K "list" rPopAt (tVar i) (tCons te tNil)) vs σ H (fun v H' => E.rt v H') from ?_)
  refine hit σ H e _ fun J H1 r1 wk => fun Dl hD => ?_
  have r01 : m.R H0 H1 := m.trans r r1
  have k0 : H0 Dl = none := Classical.byContradiction fun z => m.had i0 r01 z hD
  have hl1 : H1 l = some (.lst vs0) := m.keep r1 e.i.1 l _ (nFl h0 i0) hl
  have hlk : l ≠ Dl := fun z => by rw [z, hD] at hl1; cases hl1
  have ra1 : RpAll K (m.ext l).F H1 vs0 ds := ra.mv ((m.ext l).keep r1 e.i)
  have e1 := e.mv r1
  have rN : m.R H1 (upd H1 Dl (.lst [])) := m.grow e1.i.1 (same_new hD)
  have eX : ER (m.ext2 l Dl) K Γ σ (upd H1 Dl (.lst [])) := e1.ext hD rN (by rw [upd_same]; exact fun z => nomatch z)
  refine ⟨fun j k H' => k = n - j ∧ j ≤ n ∧ m.R H0 H' ∧ StK (m.ext2 l Dl) H1 H' ∧ ER (m.ext2 l Dl) K Γ σ H' ∧ ∃ (acc left : List D) (av lv : List V), H' Dl = some (.lst av) ∧ H' l = some (.lst lv) ∧ RpAll K (m.ext2 l Dl).F H' av acc ∧ RpAll K (m.ext2 l Dl).F H' lv left ∧ acc.length = j ∧ left.length = n - j ∧ (acc ++ left).Perm ds,
    ⟨_, rfl, Nat.zero_le _, m.trans r01 rN, fun a o q z => by rw [upd_ne (fun y => q (.inr y))]; exact z, eX, [], ds, [], vs0, upd_same, (upd_ne hlk).trans hl1, .nil, ?_, rfl, by omega, List.Perm.refl _⟩, ?_⟩
  · exact Rp.goAll (fun a o q z => ⟨fun y => y.elim q fun y => (by rw [y, hD] at z; cases z), same_new hD a o z⟩) ra1
  rintro j k H' ⟨rfl, hle, r', st, e', acc, left, av, lv, hDl, hl', rac, rle, la, ll, pm⟩
  obtain ⟨go, stop, yld⟩ := wk H' fun a o q z => st a o (fun y => y.elim q fun y => (by rw [y, hD] at z; cases z)) z
  by_cases hlt : j < n
  · refine .inr ⟨go j (by omega), fun H3 => m.R H0 H3 ∧ StK (m.ext2 l Dl) H1 H3 ∧ ER (m.ext2 l Dl) K Γ σ H3 ∧ ∃ (acc left : List D) (av lv : List V), H3 Dl = some (.lst av) ∧ H3 l = some (.lst lv) ∧ RpAll K (m.ext2 l Dl).F H3 av acc ∧ RpAll K (m.ext2 l Dl).F H3 lv left ∧ acc.length = j + 1 ∧ left.length = n - (j + 1) ∧ (acc ++ left).Perm ds, fun H3 q => ⟨n - (j + 1), by omega, rfl, hlt, q⟩, fun x H2 y => ?_⟩
    obtain ⟨e2, d, hd', rx⟩ := yld j x H2 (by omega) y
    subst e2
    obtain ⟨z, rfl⟩ := hint d (List.mem_of_getElem? hd')
    obtain rfl := rx.intE
    obtain ⟨Γ2, tg, hi2, ev⟩ := hs Dl j _ left hd' ll
    refine tg (.int z) (wipe σ vs) H2 (e'.wipe vs) (.int z) _ fun σ3 H3 e3 r3 w3 => ⟨by rw [w3 vs hj, wipe_wipe], ?_⟩
    refine et_yes σ3 H3 e3 _ fun b H4 tb r4 => ?_
    subst tb
    rw [if_pos rfl]
    have e4 := e3.mv r4
    have r24 : m.R H2 H4 := m.trans r3 r4
    have up4 := (m.ext2 l Dl).keep r24 e'.i
    have hl4 : H4 l = some (.lst lv) := m.keep r24 e'.i.1.1 l _ (nFl h0 i0) hl'
    have hD4 : H4 Dl = some (.lst av) := m.keep r24 e'.i.1.1 Dl _ (nFl k0 i0) hDl
    obtain ⟨w, g1, g2⟩ := e4.at_ i _ hi2
    obtain rfl := g2.adrE
    refine ⟨_, g1, .inl ⟨rfl, lv, SqL.of hl4⟩, ?_⟩
    refine ev σ3 H4 (er_disp h0 i0 hlk e4 hi2 hl4 (rle.mv up4)) _ fun v d' H5 s r5 rv => ?_
    obtain ⟨c, rfl, hc⟩ := hS _ d' s
    obtain rfl := rv.intE
    have r25 : m.R H2 H5 := m.trans r24 r5
    have up5 := (m.ext2 l Dl).keep r25 e'.i
    have hl5 : H5 l = some (.lst lv) := m.keep r5 e4.i.1.1 l _ (nFl h0 i0) hl4
    have hD5 : H5 Dl = some (.lst av) := m.keep r5 e4.i.1.1 Dl _ (nFl k0 i0) hD4
    have e5 : ER (m.ext2 l Dl) K Γ σ H5 := e'.mv (m := m.ext2 l Dl) r25
    have lu := rle.len
    have lv' := rac.len
    have hnu : c < lv.length := by omega
    obtain ⟨dx, hdx, rdx⟩ := (rle.mv up5).at (List.getElem?_eq_getElem hnu)
    have rr : m.R H0 (upd H5 l (.lst (lv.eraseIdx c))) := m.chg i0 (m.trans r' r25) h0
    obtain ⟨mv, e6⟩ := sp_keep (o := .lst (lv.eraseIdx c)) (.inl rfl) rr i0 e5
    refine ⟨l, lv, (c : Int), c, lv[c], rfl, rfl, hl5, by omega, by omega, ?_, List.getElem?_eq_getElem hnu, ?_⟩
    · unfold seqIndex?
      simp
      omega
    have hD6 : (upd H5 l (.lst (lv.eraseIdx c))) Dl = some (.lst av) := (upd_ne (Ne.symm hlk)).trans hD5
    have rr2 : m.R H0 (upd (upd H5 l (.lst (lv.eraseIdx c))) Dl (.lst (av ++ [lv[c]]))) := m.chg i0 rr k0
    obtain ⟨mv2, e7⟩ := sp_keep (o := .lst (av ++ [lv[c]])) (.inr rfl) rr2 i0 e6
    have hcl : c < left.length := by omega
    have hdx' : left[c] = dx := by rw [List.getElem?_eq_getElem hcl] at hdx; exact Option.some.inj hdx
    refine ⟨av, hD6, Nat.lt_of_lt_of_le (show av.length < 1001 by omega) (by decide), rr2, fun a o q z => mv2 a o q (mv a o q (up5 a o q (st a o q z))), e7, acc ++ [dx], left.eraseIdx c, _, _, upd_same, (upd_ne hlk).trans upd_same, ((((rac.mv up5).append (.cons rdx .nil)).mv mv)).mv mv2, (((rle.mv up5).eraseN c).mv mv).mv mv2, by rw [List.length_append, la]; rfl, by rw [List.length_eraseIdx, if_pos hcl]; omega, ?_⟩
    have p1 : (left[c] :: left.eraseIdx c).Perm left := perm_out hcl
    rw [hdx'] at p1
    rw [List.append_assoc]
    exact (p1.append_left acc).trans pm
  · have ej : j = n := by omega
    subst ej
    have lnil : left = [] := List.length_eq_zero_iff.mp (by omega)
    subst lnil
    rw [List.append_nil] at pm
    exact .inl ⟨by rw [← hx]; exact stop, M.rt _ _ _ (kk acc pm) r' (.lst (nFl k0 i0) hDl (rac.weak fun a f => .inl (.inl f)))⟩
end
end Tx

set_option Elab.async false
set_option linter.all false
set_option maxRecDepth 100000
set_option maxHeartbeats 2000000
set_option autoImplicit false
/-! Tx: a list of one's own that begins with something drawn; a loop of drawn length over it -/
namespace Tx
open PySem L2
section
variable {K : PySem.W.Frag} {m : Mo} {Γ : G} {ts tw : TS} {ds : List D} {l : Addr} {H0 : Hp} {O : OutO}
theorem sq_newLN {i : Nat} {ta : TA} {T : List D → Prop} {O : Out} (h : EvA m K ta Γ T) (hz : ∀ ds, T ds → ds.length ≤ 100000) (k : ∀ l H0 ds, T ds → SGo m K l H0 tw (Γ.set i (some (.adr l))) ds { nx := fun _ _ => False, rt := O.rt }) : SG m K (tSeq (tAsg (tLst ta) (gName i)) tw) Γ O := fun σ H e E M =>
  h σ H e _ fun vs ds' H1 s r1 rs => ⟨Nat.le_trans (show vs.length ≤ 100000 by have := hz _ s; have := rs.len; omega) (by decide), fun l hl => by
    have e1 := e.mv r1
    have rN : m.R H1 (upd H1 l (.lst vs)) := m.grow e1.i (same_new hl)
    have eX : ER (m.ext l) K Γ σ (upd H1 l (.lst vs)) := e1.ext hl rN (by rw [upd_same]; exact fun z => nomatch z)
    exact k l H1 ds' s hl e1.i _ _ vs rN (eX.set i (.adr l)) upd_same (Rp.goAll (fun a o n q => ⟨fun z => z.elim n fun z => (by rw [z, hl] at q; cases q), same_new hl a o q⟩) rs) E ⟨fun _ _ _ _ _ o => o.elim, fun d v H' o r rv => M.rt d v H' o (m.trans r1 r) rv⟩⟩
/-- for .. in range(e), e drawn -/
theorem so_forRN {ta : TA} {g : TG} {b : Nat} (h : EvA (m.ext l) K ta Γ fun ds => ∃ n : Nat, ds = [dN n] ∧ n < b) (hb : b ≤ 1000) (V : Nat → G → List D → Prop) (hv : V 0 Γ ds)
    (hs : ∀ i Γ' ds', i + 1 < b → V i Γ' ds' → ∃ Γ2 js, TgD (m.ext l) K g Γ' (dN i) js Γ2 ∧ SGo m K l H0 ts Γ2 ds' { nx := V (i + 1), rt := O.rt }) (hd : ∀ i Γ' ds', V i Γ' ds' → O.nx Γ' ds') : SGo m K l H0 (tFor (iRng1 ta) g ts) Γ ds O := fun h0 i0 σ H vs r e hl ra E M => by
  have key : ∀ (n : Nat), n < b → ∀ (σ' : L2.St) (H' : Hp), m.R H0 H' → ER (m.ext l) K Γ σ' H' → H' l = some (.lst vs) → RpAll K (m.ext l).F H' vs ds → MeetsO m K l H0 H' O E → tFor (iRng1 (tCons (tC (.int n)) tNil)) g ts E σ' H' := fun n hn σ' H' r' e' hl' ra' M' =>
    so_for (xs := (List.range n).map dN) (itx_rng (ea_cons (en_int n) ea_nil) (by omega)) V hv (fun i d Γ' ds' hx w => by
      have hi := (List.getElem?_eq_some_iff.mp hx).1
      rw [List.length_map, List.length_range] at hi
      rw [List.getElem?_map, List.getElem?_range hi] at hx
      injection hx with hx
      subst hx
      exact hs i Γ' ds' (by omega) w) (fun Γ' ds' w => hd _ Γ' ds' w) h0 i0 σ' H' vs r' e' hl' ra' E M'
  refine h σ H e _ fun ws ds' H1 ⟨n, s, hn⟩ r1 rs => ?_
  subst s
  cases rs with
  | cons rv rs =>
    cases rs
    obtain rfl := rv.intE
    exact key n hn σ H1 (m.trans r r1) (e.mv r1) (m.keep r1 e.i.1 l _ (nFl h0 i0) hl) (ra.mv ((m.ext l).keep r1 e.i)) (M.mv fun a o n q => (m.ext l).keep r1 e.i a o n q)
end
end Tx

set_option Elab.async false
set_option linter.all false
set_option maxRecDepth 100000
set_option maxHeartbeats 2000000
set_option autoImplicit false
/-! Tx: x[:e] of a list, both drawn; a list times a number -/
namespace Tx
open PySem L2
section
variable {K : PySem.W.Frag} {m : Mo} {Γ : G} {te th ta tb : TE}
theorem en_slLN {b : Nat} {S : List D → Prop} {R : Nat → Prop} (h : EvN m K te Γ fun d => ∃ ds, d = .lst ds ∧ S ds) (hh : EvN m K th Γ fun d => ∃ k : Nat, d = dN k ∧ k ≤ b ∧ R k) (hb : ∀ ds, S ds → b ≤ ds.length) : EvN m K (tSl (rSlL K) te tNoPart (tPart th)) Γ (fun d => ∃ (ds : List D) (k : Nat), d = .lst (ds.take k) ∧ S ds ∧ k ≤ b ∧ R k) := fun σ H e Q q =>
  h σ H e _ fun v d H1 ⟨ds, ed, hS⟩ r1 rv => hh σ H1 (e.mv r1) _ fun u du H2 ⟨k, eu, hk, hR⟩ r2 ru => by
    subst ed; subst eu
    refine ⟨k, ru.intE, ?_⟩
    have i1 := m.inv r1 e.i
    obtain ⟨a, vs, rfl, ha, ra⟩ := (rv.mv (m.keep r2 i1)).lstE
    have len := ra.len
    refine ⟨a, vs, rfl, SqL.of ha, fun p hp => q _ (.lst (ds.take k)) _ ⟨ds, k, rfl, hS, hk, hR⟩ (m.trans r1 (m.trans r2 (m.grow (m.inv r2 i1) (same_new hp)))) (rp_newL (m.inv r2 i1) hp ?_)⟩
    rw [← cutD_to (Nat.le_trans hk (hb ds hS))]
    unfold cutV cutD
    rw [len]
    exact RpAll.takeN _ (RpAll.dropN _ ra)
theorem en_mulLs {n : Nat} {ds : List D} (h : Ev1 m K ta Γ (.lst ds)) (hn : Ev1 m K tb Γ (dN n)) (hz : ds.length * n ≤ 100000) (hn2 : n ≤ 100000) : Ev1 m K (tOp (rMulL K) ta tb) Γ (.lst (List.replicate n ds).flatten) := fun σ H e Q q =>
  h σ H e _ fun v d' H1 s r1 rv => hn σ H1 (e.mv r1) _ fun w dw H2 s2 r2 rw' => by
    subst s; subst s2
    have i1 := m.inv r1 e.i
    have i2 := m.inv r2 i1
    obtain ⟨a, vs, rfl, ha, ra⟩ := (rv.mv (m.keep r2 i1)).lstE
    obtain rfl := rw'.intE
    refine .inr ⟨a, n, vs, rfl, rfl, ha, by omega, by omega, Nat.le_trans (show vs.length * (n : Int).toNat ≤ 100000 by rw [ra.len, Int.toNat_natCast]; exact hz) (by decide), fun p hp => ?_⟩
    rw [Int.toNat_natCast]
    exact q _ _ _ rfl (m.trans r1 (m.trans r2 (m.grow i2 (same_new hp)))) (rp_newL i2 hp (RpAll.repL ra n))
end
end Tx

set_option Elab.async false
set_option linter.all false
set_option maxRecDepth 100000
set_option maxHeartbeats 2000000
set_option autoImplicit false
/-! Tx: repr of a number or None; truth values: their place in a list, sorted ones -/
namespace Tx
open PySem PySem.Spec PyProof.Rows L2
section
variable {X : Cx}
def rRepr : List V → Hp → VK → Prop := fun vs H Q => (∃ i : Int, vs = [V.int i] ∧ i.natAbs.log2 < 1920 ∧ Q (.str (toString i)) H) ∨ (vs = [V.non] ∧ Q (.str "None") H)
theorem cr_repr : CallR X (.builtin "repr") rRepr := by
  intro pins s σ H vs us Q I r h
  cases r with
  | nil => rcases h with ⟨i, e, _⟩ | ⟨e, _⟩ <;> cases e
  | cons r1 r2 =>
    cases r2 with
    | cons _ _ => rcases h with ⟨i, e, _⟩ | ⟨e, _⟩ <;> cases e
    | nil =>
      rcases h with ⟨i, e, hz, q⟩ | ⟨e, q⟩
      · injection e with e _
        subst e
        obtain ⟨t, rfl⟩ := r1
        exact PySem.P.repr_of_int hz ⟨V.str (toString i), H, I.tok _, ⟨_, rfl⟩, q⟩
      · injection e with e _
        subst e
        cases r1
        exact PySem.P.repr_of_none ⟨V.str "None", H, I.tok _, ⟨_, rfl⟩, q⟩
/-- sorted(bs), bs an ascending list of truth values -/
def rSortB (K : PySem.W.Frag) : List V → Hp → VK → Prop := fun vs H Q => ∃ (a : Addr) (bs : List Bool), vs = [V.ref a] ∧ SqL K H a (bs.map V.bl) ∧ bs.Pairwise (fun x y => x = true → y = true) ∧ bs.length < 64 ∧ ∀ p : Addr, H p = none → Q (.ref p) (upd H p (.lst (bs.map V.bl)))
theorem each_bls : ∀ {bs : List Bool} {its : List Value}, Vals (bs.map V.bl) its → PySem.W.EachIs (fun v (b : Bool) => v = Value.bool b) its bs
  | [], _, .nil => .nil
  | _ :: _, _, .cons r t => .cons r (each_bls t)
theorem vals_bls : ∀ {bs : List Bool} {its : List Value}, PySem.W.EachIs (fun v (b : Bool) => v = Value.bool b) its bs → Vals (bs.map V.bl) its
  | _, _, .nil => .nil
  | _, _, .cons r t => .cons r (vals_bls t)
theorem le_bls {a b : Bool} (h : a = true → b = true) : PySem.W.dataLe false PyData.bool a b = true := by
  rw [PySem.W.dataLe_eq]
  cases a <;> cases b <;> first | rfl | exact absurd (h rfl) Bool.false_ne_true
theorem cr_sortB (hu : X.A.units + 65 < cLine) : CallR X (.builtin "sorted") (rSortB X.K) := by
  intro pins s σ H vs us Q I r h
  obtain ⟨a, bs, rfl, hs, up, h64, q⟩ := h
  rw [Vals.ref1 r]
  obtain ⟨its, rv, hl, _⟩ := I.list hs
  have e := each_bls rv
  have hlen : bs.length ≤ sizeLine := small64 h64
  refine PySem.W.sorted_data (enc := PyData.bool) hl.isList e (e.mono fun v b z => ⟨[], by rw [z]; exact .bool b⟩) (PySem.W.AllAlike.of fun b b' => by simp [PySem.W.alike]) (PySem.W.Sortable.others fun b => ⟨nofun, nofun⟩) hlen (fun b _ => by simp only [PyData.depth]; omega) fun out ho eo => ?_
  rw [List.mergeSort_of_pairwise (up.imp fun {a b} z => le_bls z)] at eo
  obtain ⟨ep, he'⟩ := PyProof.Rows.sortedAll_at s.heap its (List.toArray out)
  exact ⟨.ref _, upd H (s.heap.objs.size + 1) (.lst (bs.map V.bl)), I.laid (t' := s.toks) (fun _ _ => PyProof.Rows.sortedAll_old) (Nat.le_succ _) ⟨by rw [List.length_map]; exact hlen, out, ep, vals_bls eo, he'⟩, rfl, q _ (I.hok.fresh (Nat.le_succ _))⟩
end
section
variable {K : PySem.W.Frag} {m : Mo} {Γ : G} {te ta tb : TE}
def rtext : D → Str
  | .int i => toString i
  | _ => "None"
theorem c_repr {d : D} (h : (∃ k : Nat, d = dN k ∧ k < 1000) ∨ d = .non) : Ca1 m K rRepr [d] (.str (rtext d)) := fun vs H I rs Q q => by
  cases rs with
  | cons rv rs =>
    cases rs
    rcases h with ⟨k, rfl, hk⟩ | rfl
    · obtain rfl := rv.intE
      exact .inl ⟨(k : Int), rfl, log_le (by omega), q _ _ H rfl (m.refl H) (.str _)⟩
    · cases rv
      exact .inr ⟨rfl, q _ _ H rfl (m.refl H) (.str _)⟩
theorem c_sortB {bs : List Bool} (up : bs.Pairwise (fun x y => x = true → y = true)) (h : bs.length < 64) : Ca1 m K (rSortB K) [.lst (bs.map D.bl)] (.lst (bs.map D.bl)) := fun vs H I rs Q q => by
  cases rs with
  | cons rv rs =>
    cases rs
    obtain ⟨a, ws, rfl, hs, ra⟩ := rv.lstE
    have e := ra.bls
    subst e
    exact ⟨a, bs, rfl, SqL.of hs, up, h, fun p hp => q _ (.lst (bs.map D.bl)) _ rfl (m.grow I (same_new hp)) (rp_newL I hp ra)⟩
/-- bs.index(True) -/
theorem en_indexB {bs : List Bool} {j : Nat} (ha : Ev1 m K ta Γ (.lst (bs.map D.bl))) (hb : Ev1 m K tb Γ (.bl true)) (hj : bs[j]? = some true) (hno : ∀ i, i < j → bs[i]? = some false) : Ev1 m K (tBM K "list" (rIndex K) ta (tCons tb tNil)) Γ (dN j) := fun σ H e Q q =>
  ha σ H e _ fun v d H1 s r1 rv => by
    subst s
    obtain ⟨a, vs, rfl, hA, rs⟩ := rv.lstE
    refine ⟨.inl ⟨rfl, vs, SqL.of hA⟩, hb σ H1 (e.mv r1) _ fun y dy H2 s r2 ry => ?_⟩
    subst s
    cases ry
    have i1 := m.inv r1 e.i
    have ev := rs.bls
    have hA2 : H2 a = some (.lst vs) := by
      cases rv with
      | lst n h t => exact m.keep r2 i1 a _ n hA
    have at_ : ∀ i : Nat, vs[i]? = (bs[i]?).map V.bl := fun i => by rw [ev, List.getElem?_map]
    refine ⟨a, vs, .bl true, j, .bl true, rfl, rfl, SqL.of hA2, rfl, ?_, ?_, ?_, fun i z hi hz => ?_, q _ _ H2 rfl (m.trans r1 r2) (.int _)⟩
    · rw [ev, List.all_eq_true]
      intro x hx
      obtain ⟨y, _, rfl⟩ := List.mem_map.mp hx
      rfl
    · rw [at_, hj]; rfl
    · rfl
    · rw [at_, hno i hi] at hz
      injection hz with hz
      subst hz
      rfl
end
end Tx

set_option Elab.async false
set_option linter.all false
set_option maxRecDepth 100000
set_option maxHeartbeats 1000000
set_option autoImplicit false
/-! A dict of one's own whose keys are numbers; what reads it while a list is made. -/
namespace Tx
open PySem PySem.Spec PyProof.Rows L2
/-- the keys ks stand in the dict at l, each with what g tells of it -/
def NumAt (K : PySem.W.Frag) (F : Addr → Prop) (g : Nat → D) (l : Addr) (H : Hp) (ks : List Nat) : Prop :=
  ∃ kvs : List (Key × V), H l = some (.dK kvs) ∧ kvs.length ≤ ks.length ∧ ∀ k ∈ ks, ∃ v, valV kvs (.inl (k : Int)) = some v ∧ Rp K F H v (g k)
def numW (m : Mo) (K : PySem.W.Frag) (l : Addr) (g : Nat → D) : OwnW m K l (List Nat) where
  at_ := NumAt K (m.ext l).F g l
  keep := fun a e k => let ⟨kvs, h1, h2, h3⟩ := a; ⟨kvs, e.trans h1, h2, fun i hi => let ⟨v, q1, q2⟩ := h3 i hi; ⟨v, q1, q2.mv k⟩⟩
  view := fun _ => .adr l
  see := fun _ _ => .adr l
  some_ := fun ⟨_, h1, _⟩ => ⟨_, h1⟩
section
variable {K : PySem.W.Frag} {m : Mo} {Γ : G} {te tv tk : TE} {tt : TT} {ts tw : TS} {d : D} {l : Addr} {H0 : Hp} {g : Nat → D} {ks : List Nat}
theorem sq_newN {i : Nat} {O : Out} (g : Nat → D) (kk : ∀ l H0, SGw (numW m K l g) H0 tw (Γ.set i (some (.adr l))) [] { nx := fun _ _ => False, rt := O.rt }) : SG m K (tSeq (tAsg tDNewK (gName i)) tw) Γ O := fun σ H e E M l hl => by
  have rN : m.R H (upd H l (.dK [])) := m.grow e.i (same_new hl)
  have eX : ER (m.ext l) K Γ σ (upd H l (.dK [])) := e.ext hl rN (by rw [upd_same]; exact fun z => nomatch z)
  exact kk l H hl e.i _ _ rN (eX.set i (.adr l)) ⟨[], upd_same, Nat.le_refl _, fun _ h => nomatch h⟩ E ⟨fun _ _ _ _ o => o.elim, fun d v H' o r rv => M.rt d v H' o r rv⟩
/-- d[k] = v -/
theorem sw_putN {i : Nat} {k : Nat} {O : OutW (List Nat)} (hi : Γ[i]? = some (some (.adr l))) (hv : Ev1 (m.ext l) K tv Γ (g k)) (hk : Ev1 (m.ext l) K tk Γ (dN k)) (hz : ks.length < 10000) (kn : O.nx Γ (ks ++ [k])) : SGw (numW m K l g) H0 (tAsg tv (gSub (tVar i) tk rSetD)) Γ ks O := fun h0 i0 σ H r e a E M =>
  hv σ H e _ fun v dv H1 s r1 rv => by
    subst s
    obtain ⟨u, h1, h2⟩ := e.at_ i _ hi
    obtain rfl := h2.adrE
    refine ⟨_, h1, hk σ H1 (e.mv (m := m.ext l) r1) _ fun y dy H2 s2 r2 ry => ?_⟩
    subst s2
    obtain rfl := ry.intE
    have e1 := e.mv (m := m.ext l) r1
    have e2 := e1.mv (m := m.ext l) r2
    have nl := nFl (m := m) h0 i0
    obtain ⟨kvs, q1, q2, q3⟩ := a
    have at2 : H2 l = some (.dK kvs) := m.keep r2 e1.i.1 l _ nl (m.keep r1 e.i.1 l _ nl q1)
    have k12 : ∀ a o, ¬ (m.ext l).F a → H a = some o → H2 a = some o := fun a o n q => (m.ext l).keep r2 e1.i a o n ((m.ext l).keep r1 e.i a o n q)
    have rr := m.trans r (m.trans r1 r2)
    have r3 : m.R H0 (upd H2 l (.dK (putK kvs (.inl (k : Int)) v))) := m.chg i0 rr h0
    have mv : ∀ a o, ¬ (m.ext l).F a → H2 a = some o → (upd H2 l (.dK (putK kvs (.inl (k : Int)) v))) a = some o := fun a o n q => by rw [upd_ne (fun z => n (.inr z))]; exact q
    have rv2 := rv.mv fun a o n q => (m.ext l).keep r2 e1.i a o n q
    have e3 : ER (m.ext l) K Γ σ (upd H2 l (.dK (putK kvs (.inl (k : Int)) v))) := ⟨⟨m.inv r3 i0, by rw [upd_same]; exact fun z => nomatch z⟩, e2.len, fun j d h => let ⟨v, h1, h2⟩ := e2.at_ j d h; ⟨v, h1, h2.go fun a o n q => ⟨n, mv a o n q⟩⟩⟩
    refine ⟨l, _, rfl, DPut.k (k := .inl (k : Int)) at2 (Nat.lt_of_lt_of_le (show kvs.length < 10000 by omega) (by decide)), ?_⟩
    refine M.nx Γ _ σ _ kn r3 (fun a o n q => mv a o n (k12 a o n q)) e3 ⟨_, upd_same, ?_, fun j hj => ?_⟩
    · have := length_putK kvs (.inl (k : Int)) v
      rw [List.length_append, List.length_singleton]
      omega
    · rw [valV_put]
      by_cases z : j = k
      · subst z
        exact ⟨v, by rw [if_pos rfl], rv2.mv mv⟩
      · rw [if_neg (by intro q; injection q with q; omega)]
        rcases List.mem_append.mp hj with q | q
        · obtain ⟨v', a1, a2⟩ := q3 j q
          exact ⟨v', a1, (a2.mv k12).mv mv⟩
        · exact absurd (List.mem_singleton.mp q) z
/-- the dict as it stands, while something is reckoned -/
def numMo (m : Mo) (K : PySem.W.Frag) (l : Addr) (g : Nat → D) (ks : List Nat) (H1 : Hp) (nl : ¬ m.F l) (i1 : m.I H1) : Mo where
  F := (m.ext l).F
  R := m.R
  I := fun H => (m.ext l).I H ∧ m.R H1 H ∧ NumAt K (fun a => (m.ext l).F a ∨ H1 a = none) g l H ks
  refl := m.refl
  trans := m.trans
  keep := fun r i a o n e => (m.ext l).keep r i.1 a o n e
  grow := fun i r => m.grow i.1.1 r
  inv := fun {H H'} r i => ⟨(m.ext l).inv r i.1, m.trans i.2.1 r, by
    obtain ⟨kvs, h1, h2, h3⟩ := i.2.2
    exact ⟨kvs, m.keep r i.1.1 l _ nl h1, h2, fun k hk => let ⟨v, q1, q2⟩ := h3 k hk; ⟨v, q1, q2.mv fun a o n e => (m.ext l).keep r i.1 a o (fun z => n (.inl z)) e⟩⟩⟩
  fa := fun i f => (m.ext l).fa i.1 f
  chg := fun i r h => m.chg i.1.1 r h
  had := fun i r n => m.had i.1.1 r n
/-- what stands behind r leans only on what there was -/
theorem Rp.there {F : Addr → Prop} {H : Hp} {d : D} {v : V} (r : Rp K F H v d) : Rp K (fun a => F a ∨ H a = none) H v d := r.go fun a o n e => ⟨fun z => z.elim n (fun z => by rw [z] at e; cases e), e⟩
theorem sw_read {O : Out} (k : ∀ H1 nl i1, SG (numMo m K l g ks H1 nl i1) K ts Γ { nx := fun _ => False, rt := O.rt }) : SGw (numW m K l g) H0 ts Γ ks { nx := fun _ _ => False, rt := O.rt } := fun h0 i0 σ H r e a E M => by
  have nl := nFl (m := m) h0 i0
  refine k H nl e.i.1 σ H ⟨⟨e.i, m.refl H, ?_⟩, e.len, e.at_⟩ E ⟨fun _ _ _ o => o.elim, fun d v H' o r' rv => M.rt d v H' o (m.trans r r') (rv.weak fun a f => .inl f), fun _ _ _ o => o.elim, fun _ _ _ o => o.elim⟩
  obtain ⟨kvs, h1, h2, h3⟩ := a
  exact ⟨kvs, h1, h2, fun k hk => let ⟨v, q1, q2⟩ := h3 k hk; ⟨v, q1, q2.there⟩⟩
/-- d[k], while a list is made -/
theorem en_getN {H1 : Hp} {nl : ¬ m.F l} {i1 : m.I H1} {Dl : Addr} {i k : Nat} (hD : H1 Dl = none) (hi : Γ[i]? = some (some (.adr l))) (hk : Ev1 ((numMo m K l g ks H1 nl i1).ext Dl) K tk Γ (dN k)) (mem : k ∈ ks) : Ev1 ((numMo m K l g ks H1 nl i1).ext Dl) K (tDGet (tVar i) tk) Γ (g k) := fun σ H e Q q => by
  obtain ⟨u, h1, h2⟩ := e.at_ i _ hi
  obtain rfl := h2.adrE
  refine ⟨_, h1, hk σ H e _ fun y dy H2 s2 r2 ry => ?_⟩
  subst s2
  obtain rfl := ry.intE
  have e2 := e.mv (m := (numMo m K l g ks H1 nl i1).ext Dl) r2
  obtain ⟨kvs, q1, q2, q3⟩ := e2.i.1.2.2
  obtain ⟨v, a1, a2⟩ := q3 k mem
  have dg : DGet H2 l (.int (k : Int)) (some v) := a1 ▸ DGet.k (k := .inl (k : Int)) q1
  exact ⟨l, v, rfl, dg, q v _ H2 rfl r2 (a2.weak fun a f => f.elim .inl fun z => .inr (by rw [z]; exact hD))⟩
/-- a list that is made while J holds of the new list's address -/
theorem en_lcX {wi : TI} {tg : TG} {vs : List Nat} {U : List D → Prop} {T : D → Bool → Prop} {V' : D → D → Prop} {js : List Nat} (hj : ∀ j ∈ js, j ∈ vs) (hi : ItD m K wi Γ U) (hu : ∀ xs, U xs → xs.length ≤ 100000)
    (hs : ∀ Dl, (∃ H, m.I H ∧ H Dl = none) → ∀ xs d, U xs → d ∈ xs → ∃ Γ2, TgD (m.ext Dl) K tg (wipeG Γ vs) d js Γ2 ∧ EvT (m.ext Dl) K tt Γ2 (T d) ∧ (T d true → EvN (m.ext Dl) K te Γ2 (V' d))) : EvN m K (tLc wi tg tt te vs) Γ (fun r => ∃ xs ys, U xs ∧ LcR T V' xs ys ∧ r = .lst ys) := fun σ H e Q q => by
  refine hi σ H e _ fun J xs H1 ht r1 wk => fun Dl hD => ?_
  have e1 := e.mv r1
  have rN : m.R H1 (upd H1 Dl (.lst [])) := m.grow e1.i (same_new hD)
  have nF : ¬ m.F Dl := fun f => m.fa e1.i f hD
  have wkA : ∀ H', m.R H1 H' → (m.ext Dl).I H' → WkD (m.ext Dl) K J H' xs := fun H' r i => wk (m.ext Dl) (m.le_ext Dl) H' i r fun a f n => f.elim (fun f => absurd f n) fun z => z ▸ hD
  refine ⟨fun i k H' => k = xs.length - i ∧ i ≤ xs.length ∧ m.R H1 H' ∧ ∃ acc ys, H' Dl = some (.lst acc) ∧ RpAll K (m.ext Dl).F H' acc ys ∧ LcR T V' (xs.take i) ys, ⟨_, rfl, Nat.zero_le _, rN, [], [], upd_same, .nil, by simpa using LcR.nil⟩, ?_⟩
  rintro i k H' ⟨rfl, hle, r, acc, ys, hacc, ra, lr⟩
  have eX : ER (m.ext Dl) K Γ σ H' := e1.ext hD r (by rw [hacc]; exact fun z => nomatch z)
  have iX := eX.i
  have wkX := wkA H' r iX
  by_cases hlt : i < xs.length
  · refine .inr ⟨wkX.go i H' (m.refl _) hlt, fun H3 => m.R H1 H3 ∧ ∃ acc ys, H3 Dl = some (.lst acc) ∧ RpAll K (m.ext Dl).F H3 acc ys ∧ LcR T V' (xs.take (i + 1)) ys, fun H3 q => ⟨xs.length - (i + 1), by omega, rfl, hlt, q⟩, fun x H2 y => ?_⟩
    obtain ⟨r2, d, hd', rx⟩ := wkX.yld i H' x H2 (m.refl _) hlt y
    obtain ⟨Γ2, tg, tst, el⟩ := hs Dl ⟨H1, e1.i, hD⟩ xs d ht (List.mem_of_getElem? hd')
    have hlen : acc.length < sizeLine := Nat.lt_of_lt_of_le (show acc.length < 100001 by
      have := lr.len; have h2 := ra.len; have h3 := hu xs ht; rw [List.length_take] at this; omega) (by decide)
    have tk : xs.take (i + 1) = xs.take i ++ [d] := by rw [List.take_add_one, hd']; rfl
    have kD : ∀ {Ha Hb : Hp}, (m.ext Dl).I Ha → m.R Ha Hb → Ha Dl = some (.lst acc) → Hb Dl = some (.lst acc) := fun ia r h => m.keep r ia.1 Dl _ nF h
    refine tg x (wipe σ vs) H2 ((eX.mv r2).wipe vs) rx _ fun σ3 H3 e3 r3 w3 => ⟨by rw [w3 vs hj, wipe_wipe], ?_⟩
    refine tst σ3 H3 e3 _ fun b H4 tb' r4 => ?_
    have i3 := e3.i
    have i4 := (m.ext Dl).inv r4 i3
    have rr := m.trans r2 (m.trans r3 r4)
    cases b with
    | false =>
      exact ⟨m.trans r rr, acc, ys, kD iX rr hacc, ra.mv ((m.ext Dl).keep rr iX), by rw [tk]; simpa using lr.append (.no tb' .nil)⟩
    | true =>
      refine el tb' σ3 H4 (e3.mv r4) _ fun w dw H5 sv r5 rw' => ?_
      have i5 := (m.ext Dl).inv r5 i4
      have rr5 := m.trans rr r5
      refine ⟨acc, kD iX rr5 hacc, hlen, m.chg e1.i (m.trans r rr5) hD, acc ++ [w], ys ++ [dw], upd_same, ?_, by rw [tk]; exact lr.append (.yes tb' sv .nil)⟩
      have k5 : ∀ a o, ¬ (m.ext Dl).F a → H5 a = some o → (upd H5 Dl (.lst (acc ++ [w]))) a = some o := fun a o n x => by rw [upd_ne (fun z => n (.inr z))]; exact x
      exact (((ra.mv ((m.ext Dl).keep rr5 iX)).append (.cons rw' .nil)).mv k5)
  · have e0 : i = xs.length := by omega
    subst e0
    exact .inl ⟨wkX.stop H' (m.refl _), q _ _ H' ⟨xs, ys, ht, by simpa using lr, rfl⟩ (m.trans r1 r) (.lst nF hacc (ra.weak fun a f => .inl f))⟩
/-- tuple(range(n)) -/
theorem en_rangeT {n : Nat} {ta : TE} (h : Ev1 m K ta Γ (dN n)) (hn : n ≤ 1000) : Ev1 m K (tTupRg (tRg1 ta)) Γ (tupN (List.range n)) := fun σ H e Q q =>
  h σ H e _ fun v d H1 s r1 rv => by
    subst s
    have i1 := m.inv r1 e.i
    refine ⟨n, rv.intE, RgOk.of_le (by omega) (by omega) (by omega) (by omega), fun p hp => q _ _ _ rfl (m.trans r1 (m.grow i1 (same_new hp))) (rp_new i1 hp ?_)⟩
    have : rgV 0 (n : Int) = (List.range n).map fun i : Nat => V.int (i : Int) := by
      unfold rgV
      have e : ((n : Int) - 0).toNat = n := by omega
      rw [e]
      exact List.map_congr_left fun i _ => by rw [Int.zero_add]
    rw [this]
    exact RpAll.map (f := fun i : Nat => V.int (i : Int)) (g := dN) (fun x => .int _) _
theorem hu1 {k : Nat} {A : Around} (hr : Room k A) : A.units + 1 < cLine := by have := hr.un; omega
theorem it_rngN {K : PySem.W.Frag} {m : Mo} {Γ : G} {ta : TA} {b : Nat} (h : EvA m K ta Γ fun ds => ∃ n : Nat, ds = [dN n] ∧ n < b) (hb : b ≤ 1000) : ItD m K (iRng1 ta) Γ (fun xs => ∃ n, n < b ∧ xs = (List.range n).map dN) := fun σ H e Q q =>
  h σ H e _ fun vs ds H1 ⟨n, s, hn⟩ r1 rs => by
    subst s
    cases rs with
    | cons rv rs =>
      cases rs
      obtain rfl := rv.intE
      refine (show iRng1 (tCons (tC (.int (n : Int))) tNil) σ H1 Q from it_rng (m := m) (K := K) (Γ := Γ) (n := n) (ea_cons (en_int n) ea_nil) (by omega) σ H1 (e.mv r1) Q fun J xs H2 ex r2 wk => ?_)
      exact q J xs H2 ⟨n, hn, ex⟩ (m.trans r1 r2) wk
end
end Tx

set_option Elab.async false
set_option linter.all false
set_option maxRecDepth 100000
set_option maxHeartbeats 4000000
set_option autoImplicit false
namespace K63
open PySem L2 Tx
def top (i : Nat) : Stmt := PySem.Challenge.pw_poolmaps_k63_whole_telling_plans_of_kind.main.body.getD i (.Pass ⟨0, 0, 0, 0⟩)
abbrev s_wall : Stmt := top 0
def st_InvalidNumber (i : Nat) : Stmt := (C8.clsBody (top 5)).getD i (.Pass ⟨0, 0, 0, 0⟩)
abbrev s_InvalidNumber___init : Stmt := st_InvalidNumber 0
def st_TooMany (i : Nat) : Stmt := (C8.clsBody (top 6)).getD i (.Pass ⟨0, 0, 0, 0⟩)
abbrev s_TooMany___init : Stmt := st_TooMany 0
abbrev s_is_number : Stmt := top 8
abbrev s_are_numbers : Stmt := top 9
abbrev s_are_all_numbers : Stmt := top 10
abbrev s_is_pair : Stmt := top 11
abbrev s_check_number : Stmt := top 12
abbrev s_is_entry : Stmt := top 18
abbrev s_are_entries : Stmt := top 19
abbrev s_is_kind_table : Stmt := top 20
def st_Kind (i : Nat) : Stmt := (C8.clsBody (top 21)).getD i (.Pass ⟨0, 0, 0, 0⟩)
abbrev s_Kind___init : Stmt := st_Kind 0
abbrev s_Kind_table : Stmt := st_Kind 1
abbrev s_Kind_states : Stmt := st_Kind 2
abbrev s_Kind_operations : Stmt := st_Kind 3
abbrev s_Kind_answers : Stmt := st_Kind 4
abbrev s_Kind_step : Stmt := st_Kind 5
abbrev s_Kind_after : Stmt := st_Kind 6
abbrev s_Kind_states_from : Stmt := st_Kind 7
abbrev s_Kind_relabeled : Stmt := st_Kind 8
abbrev s_Kind___mul : Stmt := st_Kind 9
abbrev s_Kind___rmul : Stmt := st_Kind 10
abbrev s_Kind___contains : Stmt := st_Kind 11
abbrev s_Kind___len : Stmt := st_Kind 12
abbrev s_Kind___eq : Stmt := st_Kind 13
abbrev s_Kind___str : Stmt := st_Kind 14
abbrev s_check_few_parts : Stmt := top 22
abbrev s_side_by_side : Stmt := top 23
abbrev s_check_kind : Stmt := top 24
abbrev s_flag_kind : Stmt := top 25
abbrev s_adder_kind : Stmt := top 26
abbrev s_swap_kind : Stmt := top 27
abbrev s_cell_kind : Stmt := top 28
abbrev s_sticky_kind : Stmt := top 29
def st_Plan (i : Nat) : Stmt := (C8.clsBody (top 31)).getD i (.Pass ⟨0, 0, 0, 0⟩)
abbrev s_Plan___init : Stmt := st_Plan 0
abbrev s_Plan_kind : Stmt := st_Plan 1
abbrev s_Plan_start : Stmt := st_Plan 2
abbrev s_Plan_operations : Stmt := st_Plan 3
abbrev s_Plan_seen : Stmt := st_Plan 4
abbrev s_Plan_turned : Stmt := st_Plan 5
abbrev s_Plan___eq : Stmt := st_Plan 6
abbrev s_Plan___str : Stmt := st_Plan 7
abbrev s_check_plan : Stmt := top 32
abbrev s_confusions : Stmt := top 33
abbrev s_tells : Stmt := top 34
abbrev s_telling_plans : Stmt := top 35
abbrev s_law_jug : Stmt := top 37
abbrev s_law_pour : Stmt := top 38
abbrev s_law_one_of : Stmt := top 39
abbrev s_law_order_of : Stmt := top 40
abbrev s_law_table : Stmt := top 41
abbrev s_law_plain_kind : Stmt := top 42
abbrev s_law_any_table : Stmt := top 43
abbrev s_law_seen : Stmt := top 44
abbrev s_law_confusions : Stmt := top 45
abbrev s_law_plan_drawn : Stmt := top 46
abbrev s_law_made_plan : Stmt := top 47
abbrev s_law_all_telling : Stmt := top 48
abbrev s_law_known_right : Stmt := top 49
abbrev s_law_pairs : Stmt := top 50
abbrev s_law_sides_right : Stmt := top 51
abbrev s_law_right : Stmt := top 52
abbrev s_law : Stmt := top 53
structure Txt (K : PySem.W.Frag) (mg : Str → Option Value) (C : Addr) : Prop where
  isinstance : mg "isinstance" = none
  int : mg "int" = none
  bool : mg "bool" = none
  tuple : mg "tuple" = none
  list : mg "list" = none
  str : mg "str" = none
  all : mg "all" = none
  any : mg "any" = none
  len : mg "len" = none
  range : mg "range" = none
  enumerate : mg "enumerate" = none
  sorted : mg "sorted" = none
  sum : mg "sum" = none
  max : mg "max" = none
  min : mg "min" = none
  abs : mg "abs" = none
  set : mg "set" = none
  zip : mg "zip" = none
  k_MAX_STATES : ∃ u, mg "MAX_STATES" = some u ∧ RelV (.int 12) u
  k_MAX_OPERATIONS : ∃ u, mg "MAX_OPERATIONS" = some u ∧ RelV (.int 8) u
  k_MAX_ANSWER : ∃ u, mg "MAX_ANSWER" = some u ∧ RelV (.int 99) u
  k_MAX_VALUES : ∃ u, mg "MAX_VALUES" = some u ∧ RelV (.int 7) u
  g_Kind : mg "Kind" = some (.ref C)
/-! ### tables as data -/
abbrev Ent := Nat × Nat
abbrev Tb := List (List Ent)
def entD (p : Ent) : D := .tup [dN p.1, dN p.2]
def rowT (r : List Ent) : D := .tup (r.map entD)
def tabD (T : Tb) : D := .tup (T.map rowT)
theorem map_inj {α : Type} {f : α → D} (h : ∀ x y, f x = f y → x = y) : ∀ {a b : List α}, a.map f = b.map f → a = b
  | [], [], _ => rfl
  | [], _ :: _, e => by simp at e
  | _ :: _, [], e => by simp at e
  | x :: a, y :: b, e => by
    rw [List.map_cons, List.map_cons] at e
    injection e with e1 e2
    rw [h x y e1, map_inj h e2]
theorem entD_inj {p q : Ent} (e : entD p = entD q) : p = q := by
  injection e with e
  injection e with e1 e
  injection e with e2
  exact Prod.ext (dN_inj e1) (dN_inj e2)
theorem rowT_inj {a b : List Ent} (e : rowT a = rowT b) : a = b := by injection e with e; exact map_inj (fun _ _ => entD_inj) e
theorem tabD_inj {a b : Tb} (e : tabD a = tabD b) : a = b := by injection e with e; exact map_inj (fun _ _ => rowT_inj) e
theorem tupN_inj {a b : List Nat} (e : tupN a = tupN b) : a = b := by injection e with e; exact map_inj (fun _ _ => dN_inj) e
theorem pur_ent (p : Ent) : pur 1 (entD p) = true := pur_tup fun x hx => by
  simp only [List.mem_cons, List.not_mem_nil, or_false] at hx
  rcases hx with rfl | rfl <;> rfl
theorem pur_row (r : List Ent) : pur 2 (rowT r) = true := pur_tup fun x hx => by obtain ⟨p, _, rfl⟩ := List.mem_map.mp hx; exact pur_ent p
theorem pur_tab (T : Tb) : pur 3 (tabD T) = true := pur_tup fun x hx => by obtain ⟨r, _, rfl⟩ := List.mem_map.mp hx; exact pur_row r
def nops (T : Tb) : Nat := (T.getD 0 []).length
structure KOk (T : Tb) : Prop where
  s1 : 1 ≤ T.length
  s12 : T.length ≤ 12
  o1 : 1 ≤ nops T
  o8 : nops T ≤ 8
  row : ∀ r ∈ T, r.length = nops T
  ent : ∀ r ∈ T, ∀ p ∈ r, p.1 < T.length ∧ p.2 ≤ 99
/-- the entry at a state and an operation -/
def at2 (T : Tb) (s o : Nat) : Ent := (T.getD s []).getD o (0, 0)
theorem row_mem {T : Tb} {s : Nat} (hs : s < T.length) : T.getD s [] ∈ T := by rw [List.getD_eq_getElem?_getD, List.getElem?_eq_getElem hs]; exact List.getElem_mem hs
theorem row_get {T : Tb} {s : Nat} (hs : s < T.length) : T[s]? = some (T.getD s []) := by rw [List.getD_eq_getElem?_getD, List.getElem?_eq_getElem hs]; rfl
theorem KOk.rl {T : Tb} (k : KOk T) {s : Nat} (hs : s < T.length) : (T.getD s []).length = nops T := k.row _ (row_mem hs)
theorem KOk.at_mem {T : Tb} (k : KOk T) {s o : Nat} (hs : s < T.length) (ho : o < nops T) : at2 T s o ∈ T.getD s [] := by
  have h : o < (T.getD s []).length := by rw [k.rl hs]; exact ho
  unfold at2
  rw [List.getD_eq_getElem?_getD (l := T.getD s []), List.getElem?_eq_getElem h]
  exact List.getElem_mem h
theorem KOk.at_get {T : Tb} (k : KOk T) {s o : Nat} (hs : s < T.length) (ho : o < nops T) : (T.getD s [])[o]? = some (at2 T s o) := by
  have h : o < (T.getD s []).length := by rw [k.rl hs]; exact ho
  unfold at2
  rw [List.getD_eq_getElem?_getD (l := T.getD s []), List.getElem?_eq_getElem h]
  rfl
theorem KOk.lt {T : Tb} (k : KOk T) {s o : Nat} (hs : s < T.length) (ho : o < nops T) : (at2 T s o).1 < T.length := (k.ent _ (row_mem hs) _ (k.at_mem hs ho)).1
theorem nops_of {T : Tb} {n : Nat} (h1 : 1 ≤ T.length) (h : ∀ r ∈ T, r.length = n) : nops T = n := h _ (row_mem (by omega))
section
variable {P : Program} {w : World} {K : PySem.W.Frag} {mg : Str → Option Value} {base : Heap} {C : Addr}
theorem sc_is_number : FnScope ["value", "low", "high"] ["value", "low", "high"] (defScope s_is_number) := ⟨rfl, rfl, rfl, by decide +kernel, rfl, by decide +kernel, by decide +kernel⟩
def numB (d : D) (lo hi : Int) : Bool := match d with
  | .int i => decide (lo ≤ i) && decide (i ≤ hi)
  | _ => false
def pre_num (ds : List D) : Prop := ∃ (d : D) (lo hi : Int), ds = [d, .int lo, .int hi] ∧ ((∃ i, d = .int i) ∨ ∃ b, d = .bl b)
def F_num (ds : List D) : D := match ds with
  | [d, .int lo, .int hi] => .bl (numB d lo hi)
  | _ => .non
theorem num_true {k : Nat} {lo hi : Int} (h1 : lo ≤ k) (h2 : (k : Int) ≤ hi) : F_num [dN k, .int lo, .int hi] = .bl true := by
  show D.bl (decide (lo ≤ (k : Int)) && decide ((k : Int) ≤ hi)) = _
  rw [decide_eq_true h1, decide_eq_true h2]
  rfl
theorem ok_is_number {f : Addr} {fd : FuncData} (Fu : Fun K "is_number" "is_number" s_is_number f fd) (T : Txt K mg C) : FnOk P w K mg base CX0 1 f fd ["value", "low", "high"] (spF K pre_num F_num) := by
  refine fn_pure Fu sc_is_number (fun ds h => by obtain ⟨d, lo, hi, rfl, _⟩ := h; rfl) fun cdv A outer s H E hr => ⟨_, (pss_one (ps_ret (pe_and (pe_callB (r := rIsi K) call_isi (by rfl) T.isinstance (by decide +kernel) (pa_cons (pv 0) (pa_cons (pe_bltn (v := .ty "int") rfl T.int (by decide +kernel) rfl) pa_nil))) (pe_and (pe_not (pe_callB (r := rIsi K) call_isi (by rfl) T.isinstance (by decide +kernel) (pa_cons (pv 0) (pa_cons (pe_bltn (v := .ty "bool") rfl T.bool (by decide +kernel) rfl) pa_nil)))) (pe_one (pe_chain op_le op_le (pv 1) (pv 0) (pv 2))))))), fun F ds hp => ?_⟩
  obtain ⟨d, lo, hi, rfl, hd⟩ := hp
  rcases hd with ⟨i, rfl⟩ | ⟨b, rfl⟩
  · refine sg_ret (d := .bl (numB (.int i) lo hi)) ?_ rfl
    exact Ev1.is (en_and (p := true) (Ev1.is (en_isInt (d := .int i) (en_var 0 rfl) rfl) rfl) fun _ => en_and (p := true) (Ev1.is (en_not (en_isBool (d := .int i) (en_var 0 rfl) rfl)) rfl) fun _ => en_chain (en_var 1 rfl) (en_var 0 rfl) (fun _ => en_var 2 rfl) o_bl fun _ => o_bl) rfl
  · refine sg_ret (d := .bl false) ?_ rfl
    exact Ev1.is (en_and (p := true) (k := false) (Ev1.is (en_isInt (d := .bl b) (en_var 0 rfl) rfl) rfl) fun _ => Ev1.is (en_and (p := false) (k := false) (Ev1.is (en_not (en_isBool (d := .bl b) (en_var 0 rfl) rfl)) rfl) fun e => nomatch e) rfl) rfl
abbrev CIsNum (P : Program) (w : World) (K : PySem.W.Frag) (mg : Str → Option Value) (base : Heap) : Prop := C8.Cal P w K mg base 1 "is_number" (spF K pre_num F_num) []
theorem sc_check_number : FnScope ["value", "low", "high"] ["value", "low", "high"] (defScope s_check_number) := ⟨rfl, rfl, rfl, by decide +kernel, rfl, by decide +kernel, by decide +kernel⟩
def pre_chk (ds : List D) : Prop := ∃ (k : Nat) (lo hi : Int), ds = [dN k, .int lo, .int hi] ∧ lo ≤ k ∧ (k : Int) ≤ hi
theorem ok_check_number {f : Addr} {fd : FuncData} (Fu : Fun K "check_number" "check_number" s_check_number f fd) (T : Txt K mg C) (c_is_number : CIsNum P w K mg base) : FnOk P w K mg base CX0 2 f fd ["value", "low", "high"] (spF K pre_chk fun _ => .non) := by
  refine fn_pure Fu sc_check_number (fun ds h => by obtain ⟨k, lo, hi, rfl, _⟩ := h; rfl) fun cdv A outer s H E hr => ⟨_, (pss_one (ps_if (pt_not (pt_val (C8.pe_c c_is_number hr (by decide) rfl (pa_cons (pv 0) (pa_cons (pv 1) (pa_cons (pv 2) pa_nil)))))) (pss_one ps_never) pss_nil)), fun F ds hp => ?_⟩
  obtain ⟨k, lo, hi, rfl, h1, h2⟩ := hp
  exact sg_if (b := false) (EvT1.is (et_not (et_B (Ev1.is (en_callF (ds := [dN k, .int lo, .int hi]) (ea_cons (en_var 0 rfl) (ea_cons (en_var 1 rfl) (ea_cons (en_var 2 rfl) ea_nil))) ⟨_, lo, hi, rfl, .inl ⟨_, rfl⟩⟩) (num_true h1 h2)))) rfl) (fun e => nomatch e) (fun _ => sg_next rfl)
theorem sc_are_numbers : FnScope ["value", "low", "high", "part"] ["value", "low", "high"] (defScope s_are_numbers) := ⟨rfl, rfl, rfl, by decide +kernel, rfl, by decide +kernel, by decide +kernel⟩
def pre_nums (ds : List D) : Prop := ∃ (l : List Nat) (hi : Int), ds = [tupN l, .int 0, .int hi] ∧ l.length ≤ 1000 ∧ ∀ x ∈ l, (x : Int) ≤ hi
theorem ok_are_numbers {f : Addr} {fd : FuncData} (Fu : Fun K "are_numbers" "are_numbers" s_are_numbers f fd) (T : Txt K mg C) : FnOk P w K mg base CX0 1 f fd ["value", "low", "high"] (spF K pre_nums fun _ => .bl true) := by
  refine fn_pure Fu sc_are_numbers (fun ds h => by obtain ⟨l, hi, rfl, _⟩ := h; rfl) fun cdv A outer s H E hr => ⟨_, (pss_one (ps_ret (pe_and (pe_callB (r := rIsi K) call_isi (by rfl) T.isinstance (by decide +kernel) (pa_cons (pv 0) (pa_cons (pe_bltn (v := .ty "tuple") rfl T.tuple (by decide +kernel) rfl) pa_nil))) (pe_one (pe_callB (r := rAll K) (cr_all rfl) (by rfl) T.all (by decide +kernel) (pa_cons (pe_lc (own := [("part", 3)]) rfl sc_are_numbers.nd (show PI _ _ _ (iSeq K _) from pi_seq (pv 0)) (blkOk_by (by kernel_rfl)) (fun _ _ _ _ _ => (pg_name (i := 3) sc_are_numbers.nd rfl (by first | exact Or.inl rfl | exact Or.inr rfl))) (fun _ _ _ _ _ => pts_nil) (fun _ _ _ _ _ => (pe_and (pe_callB (r := rIsi K) call_isi (by rfl) T.isinstance (by decide +kernel) (pa_cons (pv 3) (pa_cons (pe_bltn (v := .ty "int") rfl T.int (by decide +kernel) rfl) pa_nil))) (pe_and (pe_not (pe_callB (r := rIsi K) call_isi (by rfl) T.isinstance (by decide +kernel) (pa_cons (pv 3) (pa_cons (pe_bltn (v := .ty "bool") rfl T.bool (by decide +kernel) rfl) pa_nil)))) (pe_one (pe_chain op_le op_le (pv 1) (pv 3) (pv 2))))))) pa_nil)))))), fun F ds hp => ?_⟩
  obtain ⟨l, hi, rfl, hl, hh⟩ := hp
  refine sg_ret (d := .bl true) ?_ rfl
  refine Ev1.is (en_and (p := true) (k := true) (en_isTup (d := tupN l) (en_var 0 rfl) rfl) fun _ => ?_) rfl
  refine Ev1.is (en_allM (xs := l) dN (fun _ => true) (fun x _ y _ e => dN_inj e) (js := [3]) (by simp) (it_seq (en_var 0 rfl) (.inl rfl)) (by omega) fun m' le k hk => ⟨_, tg_name 3, ?_⟩) (by rw [List.all_eq_true.mpr (fun _ _ => rfl)])
  refine Ev1.is (en_and (p := true) (Ev1.is (en_isInt (d := dN k) (en_var 3 rfl) rfl) rfl) fun _ => en_and (p := true) (Ev1.is (en_not (en_isBool (d := dN k) (en_var 3 rfl) rfl)) rfl) fun _ => en_chain (en_var 1 rfl) (en_var 3 rfl) (fun _ => en_var 2 rfl) o_bl fun _ => o_bl) ?_
  have e1 : decide ((0 : Int) ≤ (k : Int)) = true := decide_eq_true (by omega)
  have e2 : decide ((k : Int) ≤ hi) = true := decide_eq_true (hh k hk)
  rw [e1, e2]
  rfl
theorem sc_is_pair : FnScope ["value"] ["value"] (defScope s_is_pair) := ⟨rfl, rfl, rfl, by decide +kernel, rfl, by decide +kernel, by decide +kernel⟩
def pairB (d : D) : Bool := match d with
  | .tup xs => decide (xs.length = 2)
  | _ => false
def pre_pair (ds : List D) : Prop := ∃ d : D, ds = [d] ∧ ((∃ xs, d = .tup xs) ∨ (∃ xs, d = .lst xs) ∨ d = .non ∨ ∃ i, d = .int i)
def F_pair (ds : List D) : D := match ds with
  | [d] => .bl (pairB d)
  | _ => .non
theorem ok_is_pair {f : Addr} {fd : FuncData} (Fu : Fun K "is_pair" "is_pair" s_is_pair f fd) (T : Txt K mg C) : FnOk P w K mg base CX0 1 f fd ["value"] (spF K pre_pair F_pair) := by
  refine fn_pure Fu sc_is_pair (fun ds h => by obtain ⟨p, rfl, _⟩ := h; rfl) fun cdv A outer s H E hr => ⟨_, (pss_one (ps_ret (pe_and (pe_callB (r := rIsi K) call_isi (by rfl) T.isinstance (by decide +kernel) (pa_cons (pv 0) (pa_cons (pe_bltn (v := .ty "tuple") rfl T.tuple (by decide +kernel) rfl) pa_nil))) (pe_one (pe_cmpR (r := rEqD K) (op_eqD hr.units) (pe_callB (r := rLenS K) cr_len (by rfl) T.len (by decide +kernel) (pa_cons (pv 0) pa_nil)) pe_int (nomark _)))))), fun F ds hp => ?_⟩
  obtain ⟨d, rfl, h⟩ := hp
  rcases h with ⟨xs, rfl⟩ | h
  · refine sg_ret (d := .bl (pairB (.tup xs))) (Ev1.is (en_and (p := true) (k := pairB (.tup xs)) (en_isTup (d := .tup xs) (en_var 0 rfl) rfl) fun _ => ?_) rfl) rfl
    refine Ev1.is (en_op1 (en_cb1 (ea_cons (en_var 0 rfl) ea_nil) (c_len (.inl rfl))) (en_int 2) o_eqI) ?_
    exact congrArg D.bl (decide_eq_decide.mpr (by omega))
  · have no : pairB d = false := by rcases h with ⟨xs, rfl⟩ | rfl | ⟨i, rfl⟩ <;> rfl
    refine sg_ret (d := .bl false) ?_ (by show D.bl false = D.bl (pairB d); rw [no])
    rcases h with ⟨xs, rfl⟩ | rfl | ⟨i, rfl⟩
    · exact Ev1.is (en_and (p := false) (k := false) (en_isTup (d := .lst xs) (en_var 0 rfl) rfl) fun e => nomatch e) rfl
    · exact Ev1.is (en_and (p := false) (k := false) (en_isTup (d := .non) (en_var 0 rfl) rfl) fun e => nomatch e) rfl
    · exact Ev1.is (en_and (p := false) (k := false) (en_isTup (d := .int i) (en_var 0 rfl) rfl) fun e => nomatch e) rfl
abbrev CIsPair (P : Program) (w : World) (K : PySem.W.Frag) (mg : Str → Option Value) (base : Heap) : Prop := C8.Cal P w K mg base 1 "is_pair" (spF K pre_pair F_pair) []
section
variable {m : Mo} {Γ : G} {te : TE}
theorem ev_fst {p : Ent} (e : Ev1 m K te Γ (entD p)) : Ev1 m K (tOp (rIx K) te (tC (.int 0))) Γ (dN p.1) := en_op1 e (en_int 0) (o_ix (d := dN p.1) (i := 0) (.inl rfl) (atI_of (i := 0) rfl))
theorem ev_snd {p : Ent} (e : Ev1 m K te Γ (entD p)) : Ev1 m K (tOp (rIx K) te (tC (.int 1))) Γ (dN p.2) := en_op1 e (en_int 1) (o_ix (d := dN p.2) (i := 1) (.inl rfl) (atI_of (i := 1) rfl))
theorem ev_row {tj : TE} {T : Tb} {s : Nat} (e : Ev1 m K te Γ (tabD T)) (j : Ev1 m K tj Γ (dN s)) (hs : s < T.length) : Ev1 m K (tOp (rIx K) te tj) Γ (rowT (T.getD s [])) := en_op1 e j (o_ix (d := rowT (T.getD s [])) (i := (s : Int)) (.inl rfl) (atI_of (by rw [List.getElem?_map, row_get hs]; rfl)))
theorem ev_at {tj tk : TE} {T : Tb} {s o : Nat} (e : Ev1 m K te Γ (tabD T)) (j : Ev1 m K tj Γ (dN s)) (k : Ev1 m K tk Γ (dN o)) (ok : KOk T) (hs : s < T.length) (ho : o < nops T) : Ev1 m K (tOp (rIx K) (tOp (rIx K) te tj) tk) Γ (entD (at2 T s o)) := en_op1 (ev_row e j hs) k (o_ix (d := entD (at2 T s o)) (i := (o : Int)) (.inl rfl) (atI_of (by rw [List.getElem?_map, ok.at_get hs ho]; rfl)))
theorem ev_tl {T : Tb} (e : Ev1 m K te Γ (tabD T)) : Ev1 m K (tCB (rLenS K) (tCons te tNil)) Γ (dN T.length) := Ev1.is (en_cb1 (ea_cons e ea_nil) (c_len (.inl rfl))) (by rw [List.length_map])
theorem ev_rl {r : List Ent} (e : Ev1 m K te Γ (rowT r)) : Ev1 m K (tCB (rLenS K) (tCons te tNil)) Γ (dN r.length) := Ev1.is (en_cb1 (ea_cons e ea_nil) (c_len (.inl rfl))) (by rw [List.length_map])
theorem ev_less {n : Nat} (e : Ev1 m K te Γ (dN n)) (h : 1 ≤ n) : Ev1 m K (tOp (rI0 fun i j => .int (i - j)) te (tC (.int 1))) Γ (dN (n - 1)) := Ev1.is (en_op1 e (en_int 1) o_int) (by show D.int _ = D.int _; congr 1; omega)
end
theorem sc_is_entry : FnScope ["value", "states"] ["value", "states"] (defScope s_is_entry) := ⟨rfl, rfl, rfl, by decide +kernel, rfl, by decide +kernel, by decide +kernel⟩
def pre_ent (ds : List D) : Prop := ∃ (p : Ent) (n : Nat), ds = [entD p, dN n] ∧ p.1 < n ∧ p.2 ≤ 99
theorem ok_is_entry {f : Addr} {fd : FuncData} (Fu : Fun K "is_entry" "is_entry" s_is_entry f fd) (T : Txt K mg C) (c_is_pair : CIsPair P w K mg base) (c_is_number : CIsNum P w K mg base) : FnOk P w K mg base CX0 2 f fd ["value", "states"] (spF K pre_ent fun _ => .bl true) := by
  refine fn_pure Fu sc_is_entry (fun ds h => by obtain ⟨p, n, rfl, _⟩ := h; rfl) fun cdv A outer s H E hr => ⟨_, (pss_one (ps_ret (pe_and (C8.pe_c c_is_pair hr (by decide) rfl (pa_cons (pv 0) pa_nil)) (pe_and (C8.pe_c c_is_number hr (by decide) rfl (pa_cons (pe_ix (r := rIx K) ix_seq (pv 0) pe_int (fun _ _ => rfl)) (pa_cons pe_int (pa_cons (pe_op op_sub (pv 1) pe_int) pa_nil)))) (pe_one (C8.pe_c c_is_number hr (by decide) rfl (pa_cons (pe_ix (r := rIx K) ix_seq (pv 0) pe_int (fun _ _ => rfl)) (pa_cons pe_int (pa_cons (C8.pe_gc rfl T.k_MAX_ANSWER) pa_nil))))))))), fun F ds hp => ?_⟩
  obtain ⟨p, n, rfl, h1, h2⟩ := hp
  refine sg_ret (d := .bl true) (Ev1.is (en_and (p := true) (k := true) (Ev1.is (en_callF (ds := [entD p]) (ea_cons (en_var 0 rfl) ea_nil) ⟨_, rfl, .inl ⟨_, rfl⟩⟩) rfl) fun _ => Ev1.is (en_and (p := true) (k := true) (Ev1.is (en_callF (ds := [dN p.1, .int 0, .int ((n : Int) - 1)]) (ea_cons (ev_fst (en_var 0 rfl)) (ea_cons (en_int 0) (ea_cons (en_op1 (en_var 1 rfl) (en_int 1) o_int) ea_nil))) ⟨_, _, _, rfl, .inl ⟨_, rfl⟩⟩) (num_true (by omega) (by omega))) fun _ => ?_) rfl) rfl) rfl
  exact Ev1.is (en_callF (ds := [dN p.2, .int 0, .int 99]) (ea_cons (ev_snd (en_var 0 rfl)) (ea_cons (en_int 0) (ea_cons (en_int 99) ea_nil))) ⟨_, _, _, rfl, .inl ⟨_, rfl⟩⟩) (num_true (by omega) (by omega))
theorem sc_are_entries : FnScope ["value", "states", "entry"] ["value", "states"] (defScope s_are_entries) := ⟨rfl, rfl, rfl, by decide +kernel, rfl, by decide +kernel, by decide +kernel⟩
def pre_ents (ds : List D) : Prop := ∃ (r : List Ent) (n : Nat), ds = [rowT r, dN n] ∧ 1 ≤ r.length ∧ r.length ≤ 8 ∧ ∀ p ∈ r, p.1 < n ∧ p.2 ≤ 99
theorem ok_are_entries {f : Addr} {fd : FuncData} (Fu : Fun K "are_entries" "are_entries" s_are_entries f fd) (T : Txt K mg C) (c_is_entry : C8.Cal P w K mg base 2 "is_entry" (spF K pre_ent fun _ => .bl true) []) : FnOk P w K mg base CX0 3 f fd ["value", "states"] (spF K pre_ents fun _ => .bl true) := by
  refine fn_pure Fu sc_are_entries (fun ds h => by obtain ⟨r, n, rfl, _⟩ := h; rfl) fun cdv A outer s H E hr => ⟨_, (pss_cons (ps_if (PW.pt (pw_or (pt_not (pt_val (pe_callB (r := rIsi K) call_isi (by rfl) T.isinstance (by decide +kernel) (pa_cons (pv 0) (pa_cons (pe_bltn (v := .ty "tuple") rfl T.tuple (by decide +kernel) rfl) pa_nil))))) (pw_or1 (pt_not (pt_chain op_le op_le pe_int (pe_callB (r := rLenS K) cr_len (by rfl) T.len (by decide +kernel) (pa_cons (pv 0) pa_nil)) (C8.pe_gc rfl T.k_MAX_OPERATIONS)))))) (pss_one (ps_ret pe_bl)) pss_nil) (pss_one (ps_ret (pe_callB (r := rAll K) (cr_all rfl) (by rfl) T.all (by decide +kernel) (pa_cons (pe_lc (own := [("entry", 2)]) rfl sc_are_entries.nd (show PI _ _ _ (iSeq K _) from pi_seq (pv 0)) (blkOk_by (by kernel_rfl)) (fun _ _ _ _ _ => (pg_name (i := 2) sc_are_entries.nd rfl (by first | exact Or.inl rfl | exact Or.inr rfl))) (fun _ _ _ _ _ => pts_nil) (fun _ _ _ _ _ => (C8.pe_c c_is_entry hr (by decide) rfl (pa_cons (pv 2) (pa_cons (pv 1) pa_nil))))) pa_nil))))), fun F ds hp => ?_⟩
  obtain ⟨r, n, rfl, h1, h8, hh⟩ := hp
  refine sg_seqIf (b := false) ?_ (fun e => nomatch e) fun _ => ?_
  · refine EvT1.is (et_or (et_not (et_B (en_isTup (d := rowT r) (en_var 0 rfl) rfl))) fun _ => et_not (et_test (en_chain (en_int 1) (ev_rl (en_var 0 rfl)) (fun _ => en_int 8) o_bl fun _ => o_bl))) ?_
    have e1 : decide ((1 : Int) ≤ (r.length : Int)) = true := decide_eq_true (by omega)
    have e2 : decide ((r.length : Int) ≤ 8) = true := decide_eq_true (by omega)
    rw [e1, e2]
    rfl
  · refine sg_ret (d := .bl true) (Ev1.is (en_allM (xs := r) entD (fun _ => true) (fun x _ y _ e => entD_inj e) (js := [2]) (by simp) (it_seq (d := rowT r) (en_var 0 rfl) (.inl rfl)) (by omega) fun m' le p hp => ⟨_, tg_name 2, en_callF (ds := [entD p, dN n]) (ea_cons (en_var 2 rfl) (ea_cons (en_var 1 rfl) ea_nil)) ⟨p, n, rfl, (hh p hp).1, (hh p hp).2⟩⟩) (by rw [List.all_eq_true.mpr (fun _ _ => rfl)])) rfl
theorem sc_is_kind_table : FnScope ["value", "entries"] ["value"] (defScope s_is_kind_table) := ⟨rfl, rfl, rfl, by decide +kernel, rfl, by decide +kernel, by decide +kernel⟩
def pre_tab (ds : List D) : Prop := ∃ T : Tb, ds = [tabD T] ∧ KOk T
theorem ok_is_kind_table {f : Addr} {fd : FuncData} (Fu : Fun K "is_kind_table" "is_kind_table" s_is_kind_table f fd) (T : Txt K mg C) (c_are_entries : C8.Cal P w K mg base 3 "are_entries" (spF K pre_ents fun _ => .bl true) []) : FnOk P w K mg base CX0 4 f fd ["value"] (spF K pre_tab fun _ => .bl true) := by
  refine fn_pure Fu sc_is_kind_table (fun ds h => by obtain ⟨r, rfl, _⟩ := h; rfl) fun cdv A outer s H E hr => ⟨_, (pss_cons (ps_if (PW.pt (pw_or (pt_not (pt_val (pe_callB (r := rIsi K) call_isi (by rfl) T.isinstance (by decide +kernel) (pa_cons (pv 0) (pa_cons (pe_bltn (v := .ty "tuple") rfl T.tuple (by decide +kernel) rfl) pa_nil))))) (pw_or1 (pt_not (pt_chain op_le op_le pe_int (pe_callB (r := rLenS K) cr_len (by rfl) T.len (by decide +kernel) (pa_cons (pv 0) pa_nil)) (C8.pe_gc rfl T.k_MAX_STATES)))))) (pss_one (ps_ret pe_bl)) pss_nil) (pss_cons (ps_if (pt_not (pt_val (pe_callB (r := rAll K) (cr_all rfl) (by rfl) T.all (by decide +kernel) (pa_cons (pe_lc (own := [("entries", 1)]) rfl sc_is_kind_table.nd (show PI _ _ _ (iSeq K _) from pi_seq (pv 0)) (blkOk_by (by kernel_rfl)) (fun _ _ _ _ _ => (pg_name (i := 1) sc_is_kind_table.nd rfl (by first | exact Or.inl rfl | exact Or.inr rfl))) (fun _ _ _ _ _ => pts_nil) (fun _ _ _ _ _ => (C8.pe_c c_are_entries hr (by decide) rfl (pa_cons (pv 1) (pa_cons (pe_callB (r := rLenS K) cr_len (by rfl) T.len (by decide +kernel) (pa_cons (pv 0) pa_nil)) pa_nil))))) pa_nil)))) (pss_one (ps_ret pe_bl)) pss_nil) (pss_one (ps_ret (pe_callB (r := rAll K) (cr_all rfl) (by rfl) T.all (by decide +kernel) (pa_cons (pe_lc (own := [("entries", 1)]) rfl sc_is_kind_table.nd (show PI _ _ _ (iSeq K _) from pi_seq (pv 0)) (blkOk_by (by kernel_rfl)) (fun _ _ _ _ _ => (pg_name (i := 1) sc_is_kind_table.nd rfl (by first | exact Or.inl rfl | exact Or.inr rfl))) (fun _ _ _ _ _ => pts_nil) (fun _ _ _ _ _ => (pe_cmpR (r := rEqD K) (op_eqD hr.units) (pe_callB (r := rLenS K) cr_len (by rfl) T.len (by decide +kernel) (pa_cons (pv 1) pa_nil)) (pe_callB (r := rLenS K) cr_len (by rfl) T.len (by decide +kernel) (pa_cons (pe_ix (r := rIx K) ix_seq (pv 0) pe_int (fun _ _ => rfl)) pa_nil)) (nomark _)))) pa_nil)))))), fun F ds hp => ?_⟩
  obtain ⟨M, rfl, ok⟩ := hp
  have s1 := ok.s1
  have s12 := ok.s12
  refine sg_seqIf (b := false) ?_ (fun e => nomatch e) fun _ => sg_seqIf (b := false) ?_ (fun e => nomatch e) fun _ => ?_
  · refine EvT1.is (et_or (et_not (et_B (en_isTup (d := tabD M) (en_var 0 rfl) rfl))) fun _ => et_not (et_test (en_chain (en_int 1) (ev_tl (en_var 0 rfl)) (fun _ => en_int 12) o_bl fun _ => o_bl))) ?_
    have e1 : decide ((1 : Int) ≤ (M.length : Int)) = true := decide_eq_true (by omega)
    have e2 : decide ((M.length : Int) ≤ 12) = true := decide_eq_true (by omega)
    rw [e1, e2]
    rfl
  · refine EvT1.is (et_not (et_B (en_allM (xs := M) rowT (fun _ => true) (fun x _ y _ e => rowT_inj e) (js := [1]) (by simp) (it_seq (d := tabD M) (en_var 0 rfl) (.inl rfl)) (by omega) fun m' le r hr => ⟨_, tg_name 1, en_callF (ds := [rowT r, dN M.length]) (ea_cons (en_var 1 rfl) (ea_cons (ev_tl (en_var 0 rfl)) ea_nil)) ⟨r, M.length, rfl, by rw [ok.row r hr]; exact ok.o1, by rw [ok.row r hr]; exact ok.o8, ok.ent r hr⟩⟩))) (by rw [List.all_eq_true.mpr (fun _ _ => rfl)]; rfl)
  · refine sg_ret (d := .bl true) (Ev1.is (en_allM (xs := M) rowT (fun _ => true) (fun x _ y _ e => rowT_inj e) (js := [1]) (by simp) (it_seq (d := tabD M) (en_var 0 rfl) (.inl rfl)) (by omega) fun m' le r hr => ⟨_, tg_name 1, ?_⟩) (by rw [List.all_eq_true.mpr (fun _ _ => rfl)])) rfl
    refine Ev1.is (en_op1 (ev_rl (r := r) (en_var 1 rfl)) (ev_rl (ev_row (s := 0) (en_var 0 rfl) (en_int 0) (by omega))) o_eqI) ?_
    rw [ok.row r hr]
    exact congrArg D.bl (decide_eq_true rfl)
/-! ### the class -/
structure KindC (K : PySem.W.Frag) (C : Addr) : Prop where
  cl : Cls K C
  tab : NoAttr K C "_table"
abbrev kindNs : List Str := ["_table"]
abbrev kindD (C : Addr) (T : Tb) : D := .obj C kindNs [tabD T]
theorem kindD_inj {C : Addr} {T U : Tb} (e : kindD C T = kindD C U) : T = U := by
  injection e with _ _ e
  injection e with e
  exact tabD_inj e
theorem sc_Kind___init : FnScope ["self", "table"] ["self", "table"] (defScope s_Kind___init) := ⟨rfl, rfl, rfl, by decide +kernel, rfl, by decide +kernel, by decide +kernel⟩
def S_Kind (ds xs : List D) : Prop := ∀ T : Tb, ds = [tabD T] → xs = [tabD T]
theorem ok_Kind_init {f : Addr} {fd : FuncData} (Fu : FunD K "__init__" "Kind.__init__" (defArgs s_Kind___init) (defBody s_Kind___init) (defScope s_Kind___init) [] [] f fd) (T : Txt K mg C) (W : KindC K C) (c_is_kind_table : C8.Cal P w K mg base 4 "is_kind_table" (spF K pre_tab fun _ => .bl true) []) : FnOk P w K mg base CX0 5 f fd ["self", "table"] (spIS K C pre_tab kindNs S_Kind) := by
  refine fn_init Fu sc_Kind___init (fun ds h => by obtain ⟨M, rfl, _⟩ := h; rfl) fun cdv A outer s H E hr => ⟨_, (pss_cons (ps_if (pt_not (pt_val (C8.pe_c c_is_kind_table hr (by decide) rfl (pa_cons (pv 1) pa_nil)))) (pss_one ps_never) pss_nil) (pss_one (ps_fld (pv 0) (pv 1) rfl))), fun F x ds hp hF => ?_⟩
  obtain ⟨M, rfl, ok⟩ := hp
  refine si_if (EvT1.is (et_not (et_B (en_callF (ds := [tabD M]) (ea_cons (en_var 1 rfl) ea_nil) ⟨M, rfl, ok⟩))) rfl) ?_
  exact si_seqNext (si_fld (d := tabD M) hF (fun dx fvs => en_var 1 rfl) rfl W.cl W.tab (by decide) (by decide) (si_end ⟨rfl, fun U e => by rw [tabD_inj (List.cons.inj e).1]; rfl⟩))
def pre_kd (C : Addr) (ds : List D) : Prop := ∃ T : Tb, ds = [kindD C T] ∧ KOk T
def S_kd (C : Addr) (g : Tb → D) (ds : List D) (d : D) : Prop := ∀ T : Tb, ds = [kindD C T] → d = g T
theorem s_kd {g : Tb → D} {T : Tb} : S_kd C g [kindD C T] (g T) := fun U e => by rw [kindD_inj (List.cons.inj e).1]
theorem ev_tab {m : Mo} {Γ : G} {te : TE} {T : Tb} (e : Ev1 m K te Γ (kindD C T)) (W : KindC K C) : Ev1 m K (tFld K te "_table") Γ (tabD T) := en_fld e W.cl W.tab rfl
theorem sc_Kind_operations : FnScope ["self"] ["self"] (defScope s_Kind_operations) := ⟨rfl, rfl, rfl, by decide +kernel, rfl, by decide +kernel, by decide +kernel⟩
theorem ok_Kind_operations {f : Addr} {fd : FuncData} (Fu : Fun K "operations" "Kind.operations" s_Kind_operations f fd) (T : Txt K mg C) (W : KindC K C) : FnOk P w K mg base CX0 1 f fd ["self"] (spS K (pre_kd C) (S_kd C fun T => dN (nops T))) := by
  refine fn_pure Fu sc_Kind_operations (fun ds h => by obtain ⟨M, rfl, _⟩ := h; rfl) fun cdv A outer s H E hr => ⟨_, (pss_one (ps_ret (pe_callB (r := rLenS K) cr_len (by rfl) T.len (by decide +kernel) (pa_cons (pe_ix (r := rIx K) ix_seq (show PE _ _ (tFld K _ "_table") from pe_fld (pv 0) rfl) pe_int (fun _ _ => rfl)) pa_nil)))), fun F ds hp => ?_⟩
  obtain ⟨M, rfl, ok⟩ := hp
  exact sg_ret (ev_rl (ev_row (s := 0) (ev_tab (en_var 0 rfl) W) (en_int 0) (by have := ok.s1; omega))) (s_kd (g := fun T => dN (nops T)))
theorem sc_Kind___len : FnScope ["self"] ["self"] (defScope s_Kind___len) := ⟨rfl, rfl, rfl, by decide +kernel, rfl, by decide +kernel, by decide +kernel⟩
theorem ok_Kind_len {f : Addr} {fd : FuncData} (Fu : Fun K "__len__" "Kind.__len__" s_Kind___len f fd) (T : Txt K mg C) (W : KindC K C) : FnOk P w K mg base CX0 1 f fd ["self"] (spS K (pre_kd C) (S_kd C fun T => dN T.length)) := by
  refine fn_pure Fu sc_Kind___len (fun ds h => by obtain ⟨M, rfl, _⟩ := h; rfl) fun cdv A outer s H E hr => ⟨_, (pss_one (ps_ret (pe_callB (r := rLenS K) cr_len (by rfl) T.len (by decide +kernel) (pa_cons (show PE _ _ (tFld K _ "_table") from pe_fld (pv 0) rfl) pa_nil)))), fun F ds hp => ?_⟩
  obtain ⟨M, rfl, ok⟩ := hp
  exact sg_ret (ev_tl (ev_tab (en_var 0 rfl) W)) (s_kd (g := fun T => dN T.length))
theorem sc_Kind___eq : FnScope ["self", "other"] ["self", "other"] (defScope s_Kind___eq) := ⟨rfl, rfl, rfl, by decide +kernel, rfl, by decide +kernel, by decide +kernel⟩
def eqK (T U : Tb) : Bool := PyData.eqv (tabD T).py (tabD U).py
def pre_keq (C : Addr) (ds : List D) : Prop := ∃ (T : Tb) (x : D), ds = [kindD C T, x] ∧ KOk T ∧ ((∃ U, x = kindD C U ∧ KOk U) ∨ ∃ U, x = tabD U)
def S_keq (C : Addr) (ds : List D) (d : D) : Prop := (∀ T U : Tb, ds = [kindD C T, kindD C U] → d = .bl (eqK T U)) ∧ ∀ T U : Tb, ds = [kindD C T, tabD U] → d = .bl false
theorem ok_Kind_eq {f : Addr} {fd : FuncData} (Fu : Fun K "__eq__" "Kind.__eq__" s_Kind___eq f fd) (T : Txt K mg C) (W : KindC K C) (ic : C8.InsC K C) (kn : PySem.W.kitOne K (.type "tuple") (.ref C) = some false) : FnOk P w K mg base CX0 1 f fd ["self", "other"] (spS K (pre_keq C) (S_keq C)) := by
  refine fn_pure Fu sc_Kind___eq (fun ds h => by obtain ⟨M, x, rfl, _⟩ := h; rfl) fun cdv A outer s H E hr => ⟨_, (pss_one (ps_ret (pe_and (pe_callB (r := rIsi K) call_isi (by rfl) T.isinstance (by decide +kernel) (pa_cons (pv 1) (pa_cons (C8.pe_gc (v := .ref C) rfl ⟨_, T.g_Kind, rfl⟩) pa_nil))) (pe_one (pe_cmpR (r := rEqD K) (op_eqD hr.units) (show PE _ _ (tFld K _ "_table") from pe_fld (pv 0) rfl) (show PE _ _ (tFld K _ "_table") from pe_fld (pv 1) rfl) (nomark _)))))), fun F ds hp => ?_⟩
  obtain ⟨M, x, rfl, ok, h⟩ := hp
  rcases h with ⟨U, rfl, ok'⟩ | ⟨U, rfl⟩
  · refine sg_ret (d := .bl (eqK M U)) (Ev1.is (en_and (p := true) (k := eqK M U) (en_isiC (en_var 1 rfl) ic) fun _ => en_op1 (ev_tab (en_var 0 rfl) W) (ev_tab (en_var 1 rfl) W) (o_eqP (n := 3) (by decide) (pur_tab M) (pur_tab U))) rfl) ⟨fun M' U' e => ?_, fun M' U' e => ?_⟩
    · injection e with e e2
      injection e2 with e2
      rw [kindD_inj e, kindD_inj e2]
    · injection e with e e2
      injection e2 with e2
      cases e2
  · refine sg_ret (d := .bl false) (Ev1.is (en_and (p := false) (k := false) (en_isiN (d := tabD U) (t := "tuple") (en_var 1 rfl) rfl kn) fun e => nomatch e) rfl) ⟨fun M' U' e => ?_, fun M' U' e => rfl⟩
    injection e with e e2
    injection e2 with e2
    cases e2
def pre_st (C : Addr) (ds : List D) : Prop := ∃ (T : Tb) (s o : Nat), ds = [kindD C T, dN s, dN o] ∧ KOk T ∧ s < T.length ∧ o < nops T
def S_st (C : Addr) (ds : List D) (d : D) : Prop := ∀ (T : Tb) (s o : Nat), ds = [kindD C T, dN s, dN o] → d = entD (at2 T s o)
abbrev CChk (P : Program) (w : World) (K : PySem.W.Frag) (mg : Str → Option Value) (base : Heap) : Prop := C8.Cal P w K mg base 2 "check_number" (spF K pre_chk fun _ => .non) []
theorem ev_chk {m : Mo} {Γ : G} {ta tc : TE} {E : XK} {k n : Nat} (ha : Ev1 m K ta Γ (dN k)) (hc : Ev1 m K tc Γ (dN n)) (h : k ≤ n) : Ev1 m K (tCall (spF K pre_chk fun _ => .non) [] E (tCons ta (tCons (tC (.int 0)) (tCons tc tNil)))) Γ .non :=
  en_callF (ds := [dN k, .int 0, dN n]) (ea_cons ha (ea_cons (en_int 0) (ea_cons hc ea_nil))) ⟨k, 0, n, rfl, by omega, by omega⟩
end
end K63

set_option Elab.async false
set_option linter.all false
set_option maxRecDepth 100000
set_option maxHeartbeats 1000000
set_option autoImplicit false
/-! A list of lists of one's own: the last of them grows, a new one may be put behind it. -/
namespace Tx
open PySem PySem.Spec PyProof.Rows L2
def F2 (m : Mo) (c l : Addr) : Addr → Prop := fun a => m.F a ∨ a = c ∨ a = l
/-- ys: the earlier lists; zs: what the last one holds; B: ahead of the loop -/
def NsAt (m mm : Mo) (K : PySem.W.Frag) (l : Addr) (H0 B H : Hp) (ys zs : List D) : Prop :=
  ∃ (bs : List V) (c : Addr) (cs : List V), H l = some (.lst (bs ++ [.ref c])) ∧ c ≠ l ∧ H0 c = none ∧ (mm.F c ∨ B c = none) ∧ H c = some (.lst cs) ∧ RpAll K (F2 m c l) H cs zs ∧ RpAll K (F2 m c l) H bs ys
structure NJ (m : Mo) (K : PySem.W.Frag) (a0 l : Addr) (H0 B : Hp) (Γ : G) (σ : L2.St) (H : Hp) (ys zs : List D) : Prop where
  h0 : H0 l = none
  i0 : m.I H0
  r : m.R H0 H
  st : StK ((m.ext a0).ext l) B H
  er : ER ((m.ext a0).ext l) K Γ σ H
  ns : NsAt m ((m.ext a0).ext l) K l H0 B H ys zs
theorem atI_last {α : Type} (bs : List α) (c : α) : atI (bs ++ [c]) (-1) = some c := by
  have e : ixN (bs ++ [c]).length (-1) = some bs.length := by
    unfold ixN
    rw [if_neg (by decide), List.length_append, List.length_singleton, if_pos (by omega)]
    congr 1
    omega
  unfold atI
  rw [e]
  simp
def flatG (Γ : G) : Prop := ∀ (j : Nat) (d : D), Γ[j]? = some (some d) → (∃ i, d = .int i) ∨ ∃ a, d = .adr a
section
variable {K : PySem.W.Frag} {m : Mo} {Γ : G} {te : TE} {a0 l : Addr} {H0 B H H' : Hp} {σ : L2.St} {ys zs : List D}
theorem flat_er {mm : Mo} (f : flatG Γ) (e : ER mm K Γ σ H) (i : mm.I H') : ER mm K Γ σ H' := ⟨i, e.len, fun j d h => by
  obtain ⟨v, h1, h2⟩ := e.at_ j d h
  rcases f j d h with ⟨k, rfl⟩ | ⟨a, rfl⟩
  · exact ⟨v, h1, by obtain rfl := h2.intE; exact .int _⟩
  · exact ⟨v, h1, by obtain rfl := h2.adrE; exact .adr _⟩⟩
theorem NJ.mv (J : NJ m K a0 l H0 B Γ σ H ys zs) (r : m.R H H') : NJ m K a0 l H0 B Γ σ H' ys zs := by
  obtain ⟨bs, c, cs, h1, h2, h3, h4, h5, h6, h7⟩ := J.ns
  have iH : m.I H := J.er.i.1.1
  have k : ∀ a o, ¬ m.F a → H a = some o → H' a = some o := m.keep r iH
  have nF : ∀ {a}, H0 a = none → ¬ m.F a := fun h f => m.fa J.i0 f h
  exact ⟨J.h0, J.i0, m.trans J.r r, fun a o n q => ((m.ext a0).ext l).keep r J.er.i a o n (J.st a o n q), J.er.mv (m := (m.ext a0).ext l) r, bs, c, cs, k l _ (nF J.h0) h1, h2, h3, h4, k c _ (nF h3) h5, h6.mv fun a o n q => k a o (fun z => n (.inl z)) q, h7.mv fun a o n q => k a o (fun z => n (.inl z)) q⟩
theorem NJ.view (J : NJ m K a0 l H0 B Γ σ H ys zs) : Rp K m.F H (.ref l) (.lst (ys ++ [.lst zs])) := by
  obtain ⟨bs, c, cs, h1, h2, h3, h4, h5, h6, h7⟩ := J.ns
  have nF : ∀ {a}, H0 a = none → ¬ m.F a := fun h f => m.fa J.i0 f h
  exact .lst (nF J.h0) h1 ((h7.weak fun a f => .inl f).append (.cons (.lst (nF h3) h5 (h6.weak fun a f => .inl f)) .nil))
theorem NJ.see (J : NJ m K a0 l H0 B Γ σ H ys zs) {i : Nat} (hi : Γ[i]? = some (some (.adr l))) : ER m K (Γ.set i (some (.lst (ys ++ [.lst zs])))) σ H := by
  refine ⟨J.er.i.1.1, by rw [List.length_set, J.er.len], fun j d h => ?_⟩
  by_cases z : i = j
  · subst z
    rw [List.getElem?_set_self (List.getElem?_eq_some_iff.mp hi).1] at h
    injection h with h; injection h with h; subst h
    obtain ⟨v, h1, h2⟩ := J.er.at_ i _ hi
    obtain rfl := h2.adrE
    exact ⟨_, h1, J.view⟩
  · rw [List.getElem?_set_ne z] at h
    obtain ⟨v, h1, h2⟩ := J.er.at_ j d h
    exact ⟨v, h1, h2.weak fun a f => .inl (.inl f)⟩
theorem NJ.test (J : NJ m K a0 l H0 B Γ σ H ys zs) {i : Nat} (hi : Γ[i]? = some (some (.adr l))) {tt : TT} {T : Bool → Prop} (h : EvT m K tt (Γ.set i (some (.lst (ys ++ [.lst zs])))) T) {Q : Bool → Hp → Prop} (q : ∀ b H', T b → NJ m K a0 l H0 B Γ σ H' ys zs → Q b H') : tt σ H Q :=
  h σ H (J.see hi) Q fun b H' s r => q b H' s (J.mv r)
/-- found.append([]) -/
theorem NJ.push (J : NJ m K a0 l H0 B Γ σ H ys zs) (f : flatG Γ) {i : Nat} (hi : Γ[i]? = some (some (.adr l))) (hz : ys.length ≤ 1000) {Q : VK} (q : ∀ v H', NJ m K a0 l H0 B Γ σ H' (ys ++ [.lst zs]) [] → Q v H') : tBM K "list" rAppend (tVar i) (tCons (tLst tNil) tNil) σ H Q := by
  obtain ⟨bs, c, cs, h1, h2, h3, h4, h5, h6, h7⟩ := J.ns
  have nF : ∀ {a}, H0 a = none → ¬ m.F a := fun h f => m.fa J.i0 f h
  obtain ⟨w, e1, e2⟩ := J.er.at_ i _ hi
  obtain rfl := e2.adrE
  refine ⟨_, e1, .inl ⟨rfl, _, SqL.of h1⟩, ?_⟩
  refine ⟨Nat.zero_le _, fun p hp => ?_⟩
  have pl : p ≠ l := fun z => by rw [z, h1] at hp; cases hp
  have pc : p ≠ c := fun z => by rw [z, h5] at hp; cases hp
  have pa : p ≠ a0 := fun z => J.er.i.1.2 (z ▸ hp)
  have hp0 : H0 p = none := by
    cases z : H0 p with
    | none => rfl
    | some o => exact absurd hp (m.had J.i0 J.r (by rw [z]; exact fun z => nomatch z))
  have u1 : (upd H p (.lst [])) l = some (.lst (bs ++ [.ref c])) := by rw [upd_ne (fun z => pl z.symm)]; exact h1
  refine ⟨l, bs ++ [.ref c], .ref p, rfl, rfl, u1, Nat.lt_of_lt_of_le (show (bs ++ [V.ref c]).length < 1002 by have := h7.len; rw [List.length_append, List.length_singleton]; omega) (by decide), ?_⟩
  have r1 : m.R H0 (upd H p (.lst [])) := m.chg J.i0 J.r hp0
  have r2 : m.R H0 (upd (upd H p (.lst [])) l (.lst (bs ++ [.ref c] ++ [.ref p]))) := m.chg J.i0 r1 J.h0
  have kp : ∀ a, a ≠ p → a ≠ l → (upd (upd H p (.lst [])) l (.lst (bs ++ [.ref c] ++ [.ref p]))) a = H a := fun a n1 n2 => by rw [upd_ne n2, upd_ne n1]
  refine q _ _ ⟨J.h0, J.i0, r2, fun a o n z => ?_, flat_er f J.er ⟨⟨m.inv r2 J.i0, ?_⟩, by rw [upd_same]; exact fun z => nomatch z⟩, bs ++ [.ref c], p, [], by rw [upd_same], pl, hp0, .inr ?_, ?_, .nil, ?_⟩
  · have z2 := J.st a o n z
    rw [kp a (fun e => by rw [e, hp] at z2; cases z2) (fun e => n (.inr e))]
    exact z2
  · by_cases al : a0 = l
    · rw [al, upd_same]; exact fun z => nomatch z
    · rw [kp a0 (fun z => pa z.symm) al]; exact J.er.i.1.2
  · cases z : B p with
    | none => rfl
    | some o =>
      by_cases fp : ((m.ext a0).ext l).F p
      · exact absurd hp (((m.ext a0).ext l).fa J.er.i fp)
      · have := J.st p o fp z
        rw [hp] at this; cases this
  · rw [upd_ne pl, upd_same]
  · refine RpAll.append ?_ (.cons (.lst (fun z => ?_) (by rw [kp c (fun z => pc z.symm) h2]; exact h5) ?_) .nil)
    · refine Rp.goAll (fun a o n e => ⟨fun z => ?_, ?_⟩) h7
      · rcases z with z | z | z
        · exact n (.inl z)
        · rw [z, hp] at e; cases e
        · exact n (.inr (.inr z))
      · rw [kp a (fun z => by rw [z, hp] at e; cases e) (fun z => n (.inr (.inr z)))]; exact e
    · rcases z with z | z | z
      · exact nF h3 z
      · exact pc z.symm
      · exact h2 z
    · refine Rp.goAll (fun a o n e => ⟨fun z => ?_, ?_⟩) h6
      · rcases z with z | z | z
        · exact n (.inl z)
        · rw [z, hp] at e; cases e
        · exact n (.inr (.inr z))
      · rw [kp a (fun z => by rw [z, hp] at e; cases e) (fun z => n (.inr (.inr z)))]; exact e
/-- found[-1].append(x), x a number -/
theorem NJ.app (J : NJ m K a0 l H0 B Γ σ H ys zs) (f : flatG Γ) {i j : Nat} {k : Int} (hi : Γ[i]? = some (some (.adr l))) (hj : Γ[j]? = some (some (.int k))) (hz : zs.length ≤ 1000) {Q : VK} (q : ∀ v H', NJ m K a0 l H0 B Γ σ H' ys (zs ++ [.int k]) → Q v H') : tBM K "list" rAppend (tOp (rIx K) (tVar i) (tUn (rU fun i => .int (-i)) (tC (.int 1)))) (tCons (tVar j) tNil) σ H Q := by
  obtain ⟨bs, c, cs, h1, h2, h3, h4, h5, h6, h7⟩ := J.ns
  have nF : ∀ {a}, H0 a = none → ¬ m.F a := fun h f => m.fa J.i0 f h
  obtain ⟨w, e1, e2⟩ := J.er.at_ i _ hi
  obtain rfl := e2.adrE
  obtain ⟨u, g1, g2⟩ := J.er.at_ j _ hj
  obtain rfl := g2.intE
  have atl : atI (bs ++ [V.ref c]) (-1) = some (.ref c) := atI_last bs _
  refine ⟨_, e1, 1, rfl, .inl ⟨l, _, -1, .ref c, rfl, rfl, SqL.of h1, atl, ?_⟩⟩
  refine ⟨.inl ⟨rfl, _, SqL.of h5⟩, _, g1, ?_⟩
  refine ⟨c, cs, .int k, rfl, rfl, h5, Nat.lt_of_lt_of_le (show cs.length < 1001 by have := h6.len; omega) (by decide), ?_⟩
  have r2 : m.R H0 (upd H c (.lst (cs ++ [.int k]))) := m.chg J.i0 J.r h3
  have kp : ∀ a, a ≠ c → (upd H c (.lst (cs ++ [.int k]))) a = H a := fun a n => upd_ne n
  refine q _ _ ⟨J.h0, J.i0, r2, fun a o n z => ?_, flat_er f J.er ⟨⟨m.inv r2 J.i0, ?_⟩, by rw [kp l (fun z => h2 z.symm), h1]; exact fun z => nomatch z⟩, bs, c, cs ++ [.int k], by rw [kp l (fun z => h2 z.symm)]; exact h1, h2, h3, h4, upd_same, ?_, ?_⟩
  · have z2 := J.st a o n z
    rw [kp a (fun e => ?_)]
    · exact z2
    · rcases h4 with h4 | h4
      · exact n (e ▸ h4)
      · rw [e, h4] at z; cases z
  · by_cases ac : a0 = c
    · rw [ac, upd_same]; exact fun z => nomatch z
    · rw [kp a0 ac]; exact J.er.i.1.2
  · exact (h6.mv fun a o n e => by rw [kp a (fun z => n (.inr (.inl z)))]; exact e).append (.cons (.int _) .nil)
  · exact h7.mv fun a o n e => by rw [kp a (fun z => n (.inr (.inl z)))]; exact e
theorem itx_seqN {S : D → Prop} {T : List D → Prop} (h : EvN m K te Γ S) (hd : ∀ d, S d → ∃ ds, isSeq d ds ∧ T ds) : ∀ σ H, ER m K Γ σ H → ∀ Q : It → Hp → Prop, (∀ (J : It) xs H1, T xs → m.R H H1 → (∀ H2, StK m H1 H2 →
  (∀ i, i < xs.length → J.go i H2) ∧ J.stop xs.length H2 ∧ ∀ i x H', i < xs.length → J.yld i H2 x H' → H' = H2 ∧ ∃ d, xs[i]? = some d ∧ Rp K m.F H2 x d) → Q J H1) → (iSeq K te) σ H Q := fun σ H e Q q =>
  h σ H e _ fun v d H1 s r1 rv => by
    obtain ⟨ds, hsq, ht⟩ := hd d s
    obtain ⟨a, vs, rfl, ra, hs⟩ := seq_standsX rv hsq
    have hl := ra.len
    have i1 := m.inv r1 e.i
    refine ⟨a, rfl, ?_⟩
    rcases hs with hs | hs
    · refine .inl ⟨⟨vs, hs H1 fun _ _ _ e => e⟩, q _ ds H1 ht r1 fun H2 st => ⟨fun i hi => ⟨vs, vs[i], hs H2 st, by simp [hl, hi]⟩, ⟨vs, hs H2 st, by omega⟩, fun i x H' hi y => ?_⟩⟩
      obtain ⟨e, y⟩ := y
      subst e
      obtain ⟨d, hd, rd⟩ := ra.at (y vs (hs H' st))
      exact ⟨rfl, d, hd, rd.go fun a o n e => ⟨n, st a o n e⟩⟩
    · refine .inr ⟨⟨vs, hs H1 fun _ _ _ e => e⟩, q _ ds H1 ht r1 fun H2 st => ⟨fun i hi => ⟨vs, vs[i], hs H2 st, by simp [hl, hi]⟩, ⟨vs, hs H2 st, by omega⟩, fun i x H' hi y => ?_⟩⟩
      obtain ⟨e, y⟩ := y
      subst e
      obtain ⟨d, hd, rd⟩ := ra.at (y vs (hs H' st))
      exact ⟨rfl, d, hd, rd.go fun a o n e => ⟨n, st a o n e⟩⟩
/-- found = [[]], a loop that changes it, and what comes behind -/
theorem sg_nest {i : Nat} {g : TG} {tb tw : TS} {S : D → Prop} {U : List D → Prop} {O : Out} (fl : ∀ l, flatG (Γ.set i (some (.adr l)))) (hi : i < Γ.length)
    (hte : ∀ a0 l, EvN ((m.ext a0).ext l) K te (Γ.set i (some (.adr l))) S) (hd : ∀ d, S d → ∃ ds, isSeq d ds ∧ U ds) (W : Addr → List D → Nat → G → List D → List D → Prop)
    (w0 : ∀ l xs, U xs → W l xs 0 (Γ.set i (some (.adr l))) [] []) (wi : ∀ l xs k Γ' ys zs, W l xs k Γ' ys zs → Γ'[i]? = some (some (.adr l)))
    (hs : ∀ a0 l H0 B xs k d Γ' ys zs, U xs → xs[k]? = some d → W l xs k Γ' ys zs → ∃ Γ2 js, TgD ((m.ext a0).ext l) K g Γ' d js Γ2 ∧ ∀ σ H, NJ m K a0 l H0 B Γ2 σ H ys zs → ∀ E : Ends, (∀ Γ3 σ' H' ys' zs', W l xs (k + 1) Γ3 ys' zs' → NJ m K a0 l H0 B Γ3 σ' H' ys' zs' → E.nx σ' H') → tb E σ H)
    (hw : ∀ l xs Γ' ys zs, U xs → W l xs xs.length Γ' ys zs → SG m K tw (Γ'.set i (some (.lst (ys ++ [.lst zs])))) { nx := fun _ => False, rt := O.rt }) :
    SG m K (tSeq (tAsg (tLst (tCons (tLst tNil) tNil)) (gName i)) (tSeq (tFor (iSeq K te) g tb) tw)) Γ O := fun σ H e E M => by
  refine ⟨Nat.zero_le _, fun a0 ha0 => ⟨(show 1 ≤ sizeLine by decide), fun l hl => ?_⟩⟩
  have al : a0 ≠ l := fun z => by rw [z, upd_same] at hl; cases hl
  have hl0 : H l = none := by rw [upd_ne (fun z => al z.symm)] at hl; exact hl
  have r1 : m.R H (upd H a0 (.lst [])) := m.grow e.i (same_new ha0)
  have r2 : m.R H (upd (upd H a0 (.lst [])) l (.lst [.ref a0])) := m.chg e.i r1 hl0
  have e1 : ER (m.ext a0) K Γ σ (upd H a0 (.lst [])) := e.ext ha0 r1 (by rw [upd_same]; exact fun z => nomatch z)
  have e2 : ER ((m.ext a0).ext l) K Γ σ (upd (upd H a0 (.lst [])) l (.lst [.ref a0])) := e1.ext hl (m.grow e1.i.1 (same_new hl)) (by rw [upd_same]; exact fun z => nomatch z)
  have e3 := e2.set i (.adr l : Rp K ((m.ext a0).ext l).F _ (.ref l) (.adr l))
  change tSeq (tFor (iSeq K te) g tb) tw E (σ.set i (some (.ref l))) (upd (upd H a0 (.lst [])) l (.lst [.ref a0]))
  unfold tSeq tFor
  refine itx_seqN (hte a0 l) hd _ _ e3 _ fun J xs H1 ht rr wk => ?_
  have r3 : m.R H H1 := m.trans r2 rr
  have kp : ∀ a o, ¬ m.F a → (upd (upd H a0 (.lst [])) l (.lst [.ref a0])) a = some o → H1 a = some o := m.keep rr e2.i.1.1
  have nF : ∀ {a}, H a = none → ¬ m.F a := fun h f => m.fa e.i f h
  have J0 : NJ m K a0 l H H1 (Γ.set i (some (.adr l))) (σ.set i (some (.ref l))) H1 [] [] := ⟨hl0, e.i, r3, fun _ _ _ e => e, e3.mv (m := (m.ext a0).ext l) rr, [], a0, [], kp l _ (nF hl0) upd_same, al, ha0, .inl (.inl (.inr rfl)), kp a0 _ (nF ha0) (by rw [upd_ne al, upd_same]), .nil, .nil⟩
  refine ⟨fun k mm σ' H' => mm = xs.length - k ∧ k ≤ xs.length ∧ ∃ Γ' ys zs, W l xs k Γ' ys zs ∧ NJ m K a0 l H H1 Γ' σ' H' ys zs, ⟨_, rfl, Nat.zero_le _, _, [], [], w0 l xs ht, J0⟩, ?_⟩
  rintro k mm σ' H' ⟨rfl, hle, Γ', ys, zs, w, J'⟩
  obtain ⟨go, stop, yld⟩ := wk H' J'.st
  by_cases hlt : k < xs.length
  · refine .inr ⟨go k hlt, fun σ3 H3 => ∃ Γ3 y3 z3, W l xs (k + 1) Γ3 y3 z3 ∧ NJ m K a0 l H H1 Γ3 σ3 H3 y3 z3, fun σ3 H3 q => ⟨xs.length - (k + 1), by omega, rfl, hlt, q⟩, fun y H2 yy => ?_⟩
    obtain ⟨e2, d, hd', rx⟩ := yld k y H2 hlt yy
    subst e2
    obtain ⟨Γ2, js, tg, body⟩ := hs a0 l H H1 xs k d Γ' ys zs ht hd' w
    refine tg y σ' H2 J'.er rx _ fun σ3 H3 e3' r3' _ => ?_
    have J3 := J'.mv (H' := H3) r3'
    exact body σ3 H3 ⟨J3.h0, J3.i0, J3.r, J3.st, e3', J3.ns⟩ _ fun Γ4 σ4 H4 y4 z4 o j4 => ⟨Γ4, y4, z4, o, j4⟩
  · have e0 : k = xs.length := by omega
    subst e0
    refine .inl ⟨stop, ?_⟩
    exact hw l xs Γ' ys zs ht w σ' H' (J'.see (wi _ _ _ _ _ _ w)) E ⟨fun _ _ _ o => o.elim, fun d v H2 o r' rv => M.rt d v H2 o (m.trans J'.r r') rv, fun _ _ _ o => o.elim, fun _ _ _ o => o.elim⟩
end
end Tx

set_option Elab.async false
set_option linter.all false
set_option maxRecDepth 100000
set_option maxHeartbeats 1000000
set_option autoImplicit false
/-! Sorted sets over two sources of any items; stores by a target; an own operator. -/
namespace Tx
open PySem L2 TxS2
section
variable {K : PySem.W.Frag} {m : Mo} {Γ : G} {te : TE} {tt tt1 : TT} {w : World}
theorem en_sortSet2P {α : Type} {wi wi1 : TI} {g g1 : TG} {vs vs1 : List Nat} {xs : List α} {js js1 : List Nat} (enc : α → D) (ys : α → List Int) (ye : α → List D) (hly : ∀ x, (ye x).length = (ys x).length) (hj : ∀ j ∈ js, j ∈ vs) (hj1 : ∀ j ∈ js1, j ∈ vs1) (hi : ItD1 m K wi Γ (xs.map enc)) (hu : (xs.flatMap ys).length < 60)
    (hs : ∀ m', Mo.Le m m' → ∀ x, x ∈ xs → ∃ Γ2, TgD m' K g (wipeG Γ vs) (enc x) js Γ2 ∧ EvT1 m' K tt Γ2 true ∧ ItX m' K wi1 Γ2 (ye x) ∧ ∀ (j : Nat) (d : D) (y : Int), (ye x)[j]? = some d → (ys x)[j]? = some y → ∃ Γ3, TgD m' K g1 (wipeG Γ2 vs1) d js1 Γ3 ∧ EvT1 m' K tt1 Γ3 true ∧ Ev1 m' K te Γ3 (.int y)) :
    EvN m K (tCB (rSortedSet w) (tCons (tSetI2 w wi g tt wi1 g1 tt1 te vs vs1) tNil)) Γ (fun d => ∃ ns : List Int, d = .lst (ns.map D.int) ∧ ns.Pairwise (· < ·) ∧ ∀ k, k ∈ ns ↔ k ∈ xs.flatMap ys) := fun σ H e Q q => by
  refine (show tSetI2 w wi g tt wi1 g1 tt1 te vs vs1 σ H (fun x H2 => rSortedSet w [x] H2 Q) from ?_)
  refine hi σ H e _ fun J zs H1 hz r1 wk => fun Dl hD => ?_
  subst hz
  have e1 := e.mv r1
  have nF : ¬ m.F Dl := fun f => m.fa e1.i f hD
  have rN : m.R H1 (upd H1 Dl (SetO w Dl (fun _ => false) 0)) := m.grow e1.i (same_new hD)
  have wkA : ∀ H', m.R H1 H' → (m.ext Dl).I H' → WkD (m.ext Dl) K J H' (xs.map enc) := fun H' r i => wk (m.ext Dl) (m.le_ext Dl) H' i r fun a f n => f.elim (fun f => absurd f n) fun z => z ▸ hD
  have hlen : (xs.map enc).length = xs.length := List.length_map _
  refine ⟨fun i k H' => k = xs.length - i ∧ i ≤ xs.length ∧ m.R H1 H' ∧ ∃ S n, H' Dl = some (SetO w Dl S n) ∧ n ≤ ((xs.take i).flatMap ys).length ∧ ∀ j, S j = true ↔ j ∈ (xs.take i).flatMap ys, ⟨_, rfl, Nat.zero_le _, rN, _, 0, upd_same, Nat.le_refl 0, fun j => by simp⟩, ?_⟩
  rintro i k H' ⟨rfl, hle, r, S, n, hS, hn, hm⟩
  have eX : ER (m.ext Dl) K Γ σ H' := e1.ext hD r (by rw [hS]; exact fun z => nomatch z)
  have wkX := wkA H' r eX.i
  by_cases hlt : i < xs.length
  · refine .inr ⟨wkX.go i H' (m.refl _) (by rw [hlen]; exact hlt), fun H3 => m.R H1 H3 ∧ ∃ S n, H3 Dl = some (SetO w Dl S n) ∧ n ≤ ((xs.take (i + 1)).flatMap ys).length ∧ ∀ j, S j = true ↔ j ∈ (xs.take (i + 1)).flatMap ys, fun H3 z => ⟨xs.length - (i + 1), by omega, rfl, hlt, z⟩, fun x H2 y => ?_⟩
    obtain ⟨r2, d, hd, rx⟩ := wkX.yld i H' x H2 (m.refl _) (by rw [hlen]; exact hlt) y
    rw [List.getElem?_map, List.getElem?_eq_getElem hlt] at hd
    injection hd with hd
    subst hd
    obtain ⟨Γ2, tg, tst, itx, el⟩ := hs (m.ext Dl) (m.le_ext Dl) xs[i] (List.getElem_mem hlt)
    have tk : xs.take (i + 1) = xs.take i ++ [xs[i]] := take_one (List.getElem?_eq_getElem hlt)
    have tf : (xs.take (i + 1)).flatMap ys = (xs.take i).flatMap ys ++ ys xs[i] := by rw [tk, List.flatMap_append]; simp
    have tot : ((xs.take i).flatMap ys).length + (ys xs[i]).length < 60 := by
      have z : xs.flatMap ys = (xs.take (i + 1)).flatMap ys ++ (xs.drop (i + 1)).flatMap ys := by rw [← List.flatMap_append, List.take_append_drop]
      rw [z, tf, List.length_append, List.length_append] at hu
      omega
    refine tg x (wipe σ vs) H2 ((eX.mv r2).wipe vs) rx _ fun σ3 H3 e3 r3 w3 => ⟨by rw [w3 vs hj, wipe_wipe], ?_⟩
    refine tst σ3 H3 e3 _ fun b H4 tb r4 => ?_
    subst tb
    rw [if_pos rfl]
    have e4 := e3.mv r4
    refine itx σ3 H4 e4 _ fun J1 H6 r6 wk1 => ?_
    have e6 := e4.mv r6
    have r16 : m.R H1 H6 := m.trans r (m.trans r2 (m.trans r3 (m.trans r4 r6)))
    have hS6 : H6 Dl = some (SetO w Dl S n) := m.keep (m.trans r2 (m.trans r3 (m.trans r4 r6))) eX.i.1 Dl _ nF hS
    refine ⟨fun j k2 H7 => k2 = (ys xs[i]).length - j ∧ j ≤ (ys xs[i]).length ∧ m.R H1 H7 ∧ StK (m.ext Dl) H6 H7 ∧ ∃ S n, H7 Dl = some (SetO w Dl S n) ∧ n ≤ ((xs.take i).flatMap ys).length + j ∧ ∀ z, S z = true ↔ z ∈ (xs.take i).flatMap ys ++ (ys xs[i]).take j, ⟨_, rfl, Nat.zero_le _, r16, fun _ _ _ z => z, S, n, hS6, by omega, fun z => by rw [hm]; simp⟩, ?_⟩
    rintro j k2 H7 ⟨rfl, hle1, r7, st7, S7, n7, hS7, hn7, hm7⟩
    have i7 : (m.ext Dl).I H7 := ⟨m.inv r7 e1.i, by rw [hS7]; exact fun z => nomatch z⟩
    have e7 : ER (m.ext Dl) K Γ2 σ3 H7 := er_stk e6 st7 i7
    obtain ⟨go, stop, yld⟩ := wk1 H7 st7
    by_cases hlt1 : j < (ys xs[i]).length
    · refine .inr ⟨go j (by rw [hly]; exact hlt1), fun H8 => m.R H1 H8 ∧ StK (m.ext Dl) H6 H8 ∧ ∃ S n, H8 Dl = some (SetO w Dl S n) ∧ n ≤ ((xs.take i).flatMap ys).length + (j + 1) ∧ ∀ z, S z = true ↔ z ∈ (xs.take i).flatMap ys ++ (ys xs[i]).take (j + 1), fun H8 z => ⟨(ys xs[i]).length - (j + 1), by omega, rfl, hlt1, z⟩, fun x1 H8 y1 => ?_⟩
      obtain ⟨e2, d1, hd1, rx1⟩ := yld j x1 H8 (by rw [hly]; exact hlt1) y1
      subst e2
      obtain ⟨Γ3, tg1, tst1, el1⟩ := el j d1 _ hd1 (List.getElem?_eq_getElem hlt1)
      refine tg1 x1 (wipe σ3 vs1) H8 (e7.wipe vs1) rx1 _ fun σ5 H9 e9 r9 w9 => ⟨by rw [w9 vs1 hj1, wipe_wipe], ?_⟩
      refine tst1 σ5 H9 e9 _ fun b H10 tb r10 => ?_
      subst tb
      rw [if_pos rfl]
      refine el1 σ5 H10 (e9.mv r10) _ fun v dv H11 sv r11 rv => ?_
      subst sv
      have rr : m.R H8 H11 := m.trans r9 (m.trans r10 r11)
      have hS11 : H11 Dl = some (SetO w Dl S7 n7) := m.keep rr i7.1 Dl _ nF hS7
      refine ⟨(ys xs[i])[j], S7, n7, rv.intE, hS11, by unfold scanBound; omega, m.chg e1.i (m.trans r7 rr) hD, fun a o n q => ?_, _, _, upd_same, by split <;> omega, fun z => ?_⟩
      · rw [upd_ne (fun z => n (.inr z))]
        exact (m.ext Dl).keep rr i7 a o n (st7 a o n q)
      · rw [Bool.or_eq_true, hm7, decide_eq_true_iff, take_one (List.getElem?_eq_getElem hlt1), ← List.append_assoc]
        simp only [List.mem_append, List.mem_singleton]
    · have e0 : j = (ys xs[i]).length := by omega
      subst e0
      refine .inl ⟨by rw [hly] at stop; exact stop, r7, S7, n7, hS7, by rw [tf, List.length_append]; exact hn7, fun z => ?_⟩
      rw [hm7, tf, List.take_length]
  · have e0 : i = xs.length := by omega
    subst e0
    have iN : m.I H' := m.inv r e1.i
    refine .inl ⟨by have := wkX.stop H' (m.refl _); rw [hlen] at this; exact this, ?_⟩
    rw [List.take_length] at hn hm
    refine ⟨Dl, S, n, rfl, hS, by omega, fun ns p hp1 hp2 _ hp3 => ?_⟩
    exact q _ (.lst (ns.map D.int)) _ ⟨ns, rfl, hp1, fun k => by rw [hp2, hm]⟩ (m.trans r1 (m.trans r (m.grow iN (same_new hp3)))) (.lst (fun z => m.fa iN z hp3) upd_same (rp_intsL _ _ ns))
end
section
variable {K : PySem.W.Frag} {m : Mo} {Γ : G} {te : TE} {tw : TS} {d : D} {l : Addr} {H0 : Hp} {ds : List D}
/-- x, y = e: by its target -/
theorem sg_asgT {g : TG} {js : List Nat} {Γ2 : G} {O : Out} (h : Ev1 m K te Γ d) (tg : TgD m K g Γ d js Γ2) (k : O.nx Γ2) : SG m K (tAsg te g) Γ O := fun σ H e E M =>
  h σ H e _ fun v d' H1 s r1 rv => by
    subst s
    exact tg v σ H1 (e.mv r1) rv _ fun σ2 H2 e2 r2 _ => M.nx Γ2 σ2 H2 k (m.trans r1 r2) e2
theorem so_asgT {g : TG} {js : List Nat} {Γ2 : G} {O : OutO} (h : Ev1 (m.ext l) K te Γ d) (tg : TgD (m.ext l) K g Γ d js Γ2) (k : O.nx Γ2 ds) : SGo m K l H0 (tAsg te g) Γ ds O := fun h0 i0 σ H us r e hl ra E M =>
  h σ H e _ fun v d' H1 s r1 rv => by
    subst s
    refine tg v σ H1 (e.mv r1) rv _ fun σ2 H2 e2 r2 _ => ?_
    have rr : m.R H H2 := m.trans r1 r2
    exact M.nx Γ2 ds σ2 H2 us k (m.trans r rr) (fun a o n q => (m.ext l).keep rr e.i a o n q) e2 (m.keep rr e.i.1 l _ (nFl h0 i0) hl) (ra.mv ((m.ext l).keep rr e.i))
end
section
variable {K : PySem.W.Frag} {m : Mo} {Γ : G} {te : TE} {tt tt1 : TT}
/-- a comprehension whose second source may make objects -/
theorem en_lc2Y {wi wi1 : TI} {g g1 : TG} {vs vs1 : List Nat} {xs : List D} {js js1 : List Nat} (t : D → Bool) (sub : D → List D) (t1 : D → D → Bool) (f : D → D → D) (hj : ∀ j ∈ js, j ∈ vs) (hj1 : ∀ j ∈ js1, j ∈ vs1) (hv : ∀ j ∈ vs1, j ∈ vs) (hi : ItD1 m K wi Γ xs) (c : Nat) (hc : ∀ d ∈ xs, (sub d).length ≤ c) (hu : xs.length * c ≤ 100000)
    (hs : ∀ m', Mo.Le m m' → ∀ d, d ∈ xs → ∃ Γ2, TgD m' K g (wipeG Γ vs) d js Γ2 ∧ EvT1 m' K tt Γ2 (t d) ∧ (t d = true → ItY m' K wi1 Γ2 (sub d) ∧ ∀ d1, d1 ∈ sub d → ∃ Γ3, TgD m' K g1 (wipeG Γ2 vs1) d1 js1 Γ3 ∧ EvT1 m' K tt1 Γ3 (t1 d d1) ∧ (t1 d d1 = true → Ev1 m' K te Γ3 (f d d1)))) :
    Ev1 m K (tLc2 wi g tt wi1 g1 tt1 te vs vs1) Γ (.lst ((xs.filter t).flatMap fun d => ((sub d).filter (t1 d)).map (f d))) := fun σ H e Q q => by
  have outL : ∀ zs : List D, (∀ d ∈ zs, d ∈ xs) → ((zs.filter t).flatMap fun d => ((sub d).filter (t1 d)).map (f d)).length ≤ zs.length * c := fun zs => by
    induction zs with
    | nil => intro _; simp
    | cons z zs ih =>
      intro hz
      have h1 := ih fun d hd => hz d (List.mem_cons_of_mem _ hd)
      have h2 := hc z (hz z List.mem_cons_self)
      have h3 := List.length_filter_le (t1 z) (sub z)
      rw [List.filter_cons]
      split
      · rw [List.flatMap_cons, List.length_append, List.length_map, List.length_cons, Nat.add_mul]; omega
      · rw [List.length_cons, Nat.add_mul]; omega
  refine hi σ H e _ fun J zs H1 ht r1 wk => fun Dl hD => ?_
  subst ht
  have e1 := e.mv r1
  have rN : m.R H1 (upd H1 Dl (.lst [])) := m.grow e1.i (same_new hD)
  have nF : ¬ m.F Dl := fun f => m.fa e1.i f hD
  have wkA : ∀ H', m.R H1 H' → (m.ext Dl).I H' → WkD (m.ext Dl) K J H' zs := fun H' r i => wk (m.ext Dl) (m.le_ext Dl) H' i r fun a f n => f.elim (fun f => absurd f n) fun z => z ▸ hD
  refine ⟨fun i k H' => k = zs.length - i ∧ i ≤ zs.length ∧ m.R H1 H' ∧ ∃ acc, H' Dl = some (.lst acc) ∧ RpAll K (m.ext Dl).F H' acc (((zs.take i).filter t).flatMap fun d => ((sub d).filter (t1 d)).map (f d)), ⟨_, rfl, Nat.zero_le _, rN, [], upd_same, .nil⟩, ?_⟩
  rintro i k H' ⟨rfl, hle, r, acc, hacc, ra⟩
  have eX : ER (m.ext Dl) K Γ σ H' := e1.ext hD r (by rw [hacc]; exact fun z => nomatch z)
  have iX := eX.i
  have wkX := wkA H' r iX
  by_cases hlt : i < zs.length
  · refine .inr ⟨wkX.go i H' (m.refl _) hlt, fun H3 => m.R H1 H3 ∧ ∃ acc, H3 Dl = some (.lst acc) ∧ RpAll K (m.ext Dl).F H3 acc (((zs.take (i + 1)).filter t).flatMap fun d => ((sub d).filter (t1 d)).map (f d)), fun H3 q => ⟨zs.length - (i + 1), by omega, rfl, hlt, q⟩, fun x H2 y => ?_⟩
    obtain ⟨r2, d, hd', rx⟩ := wkX.yld i H' x H2 (m.refl _) hlt y
    have hdm := List.mem_of_getElem? hd'
    obtain ⟨Γ2, tg, tst, el⟩ := hs (m.ext Dl) (m.le_ext Dl) d hdm
    have tk := take_one hd'
    have kD : ∀ {Ha Hb : Hp} {ac : List V}, (m.ext Dl).I Ha → m.R Ha Hb → Ha Dl = some (.lst ac) → Hb Dl = some (.lst ac) := fun ia r h => m.keep r ia.1 Dl _ nF h
    refine tg x (wipe σ vs) H2 ((eX.mv r2).wipe vs) rx _ fun σ3 H3 e3 r3 w3 => ⟨by rw [w3 vs hj, wipe_wipe], ?_⟩
    have i2 := (m.ext Dl).inv r2 iX
    refine tst σ3 H3 e3 _ fun b H4 tb' r4 => ?_
    subst tb'
    have i3 := e3.i
    have i4 := (m.ext Dl).inv r4 i3
    have rr := m.trans r2 (m.trans r3 r4)
    cases hb : t d with
    | false =>
      refine ⟨m.trans r rr, acc, kD iX rr hacc, ?_⟩
      rw [tk, List.filter_append, List.filter_cons, hb]
      simpa using ra.mv ((m.ext Dl).keep rr iX)
    | true =>
      obtain ⟨hi1, hin⟩ := el hb
      refine hi1 σ3 H4 (e3.mv r4) _ fun J1 H5 r5 wk1 => ?_
      have i5 := (m.ext Dl).inv r5 i4
      have rr5 := m.trans rr r5
      have e5 := (e3.mv r4).mv r5
      refine ⟨fun j k H' => k = (sub d).length - j ∧ j ≤ (sub d).length ∧ m.R H1 H' ∧ StK (m.ext Dl) H5 H' ∧ ∃ acc, H' Dl = some (.lst acc) ∧ RpAll K (m.ext Dl).F H' acc ((((zs.take i).filter t).flatMap fun d => ((sub d).filter (t1 d)).map (f d)) ++ (((sub d).take j).filter (t1 d)).map (f d)),
        ⟨_, rfl, Nat.zero_le _, m.trans r rr5, fun _ _ _ e => e, acc, kD iX rr5 hacc, by simpa using ra.mv ((m.ext Dl).keep rr5 iX)⟩, ?_⟩
      rintro j k H6 ⟨rfl, hle1, r6, st6, acc6, hacc6, ra6⟩
      have i6 : (m.ext Dl).I H6 := ⟨m.inv r6 e1.i, by rw [hacc6]; exact fun z => nomatch z⟩
      obtain ⟨go1, stop1, yld1⟩ := wk1 H6 i6 st6
      have e6 : ER (m.ext Dl) K Γ2 σ3 H6 := ⟨i6, e5.len, fun i d h => let ⟨v, h1, h2⟩ := e5.at_ i d h; ⟨v, h1, h2.go fun a o n e => ⟨n, st6 a o n e⟩⟩⟩
      by_cases hlt1 : j < (sub d).length
      · refine .inr ⟨go1 j hlt1, fun H7 => m.R H1 H7 ∧ StK (m.ext Dl) H5 H7 ∧ ∃ acc, H7 Dl = some (.lst acc) ∧ RpAll K (m.ext Dl).F H7 acc ((((zs.take i).filter t).flatMap fun d => ((sub d).filter (t1 d)).map (f d)) ++ (((sub d).take (j + 1)).filter (t1 d)).map (f d)), fun H7 q => ⟨(sub d).length - (j + 1), by omega, rfl, hlt1, q⟩, fun x H7 y => ?_⟩
        obtain ⟨sm7, d1, hd1, rx1⟩ := yld1 j x H7 hlt1 y
        have r67 : m.R H6 H7 := m.grow i6.1 sm7
        obtain ⟨Γ3, tg1, tst1, el1⟩ := hin d1 (List.mem_of_getElem? hd1)
        have tk1 := take_one hd1
        refine tg1 x (wipe σ3 vs1) H7 ((e6.mv (m := m.ext Dl) r67).wipe vs1) rx1 _ fun σ4 H8 e8 r8 w8 => ⟨by rw [w8 vs1 hj1, wipe_wipe], ?_⟩
        refine tst1 σ4 H8 e8 _ fun b H9 tb' r9 => ?_
        subst tb'
        have i8 := e8.i
        have i9 := (m.ext Dl).inv r9 i8
        have r89 := m.trans r67 (m.trans r8 r9)
        have st9 : StK (m.ext Dl) H5 H9 := fun a o n e => (m.ext Dl).keep r89 i6 a o n (st6 a o n e)
        cases hb1 : t1 d d1 with
        | false =>
          refine ⟨m.trans r6 r89, st9, acc6, kD i6 r89 hacc6, ?_⟩
          rw [tk1, List.filter_append, List.filter_cons, hb1]
          simpa using ra6.mv ((m.ext Dl).keep r89 i6)
        | true =>
          refine el1 hb1 σ4 H9 (e8.mv r9) _ fun w dw H10 sv r10 rw' => ?_
          subst sv
          have r10' := m.trans r89 r10
          have hlen : acc6.length < sizeLine := by
            have h1 := ra6.len
            have h2 := outL (zs.take i) fun d hd => List.mem_of_mem_take hd
            have h3 := List.length_filter_le (t1 d) ((sub d).take j)
            rw [List.length_append, List.length_map] at h1
            rw [List.length_take] at h2 h3
            have h4 := hc d hdm
            have h5 : min i zs.length * c + c ≤ zs.length * c := by
              have : (min i zs.length + 1) * c ≤ zs.length * c := Nat.mul_le_mul_right c (by omega)
              rw [Nat.add_mul, Nat.one_mul] at this
              exact this
            exact Nat.lt_of_lt_of_le (show acc6.length < 100001 by omega) (by decide)
          refine ⟨acc6, kD i6 r10' hacc6, hlen, m.chg e1.i (m.trans r6 r10') hD, fun a o n e => ?_, acc6 ++ [w], upd_same, ?_⟩
          · rw [upd_ne (fun z => n (.inr z))]
            exact (m.ext Dl).keep r10' i6 a o n (st6 a o n e)
          · have k5 : ∀ a o, ¬ (m.ext Dl).F a → H10 a = some o → (upd H10 Dl (.lst (acc6 ++ [w]))) a = some o := fun a o n x => by rw [upd_ne (fun z => n (.inr z))]; exact x
            have := (((ra6.mv ((m.ext Dl).keep r10' i6)).append (.cons rw' .nil)).mv k5)
            rw [tk1, List.filter_append, List.filter_cons, hb1, if_pos rfl, List.map_append, ← List.append_assoc]
            exact this
      · have e0 : j = (sub d).length := by omega
        subst e0
        refine .inl ⟨stop1, r6, acc6, hacc6, ?_⟩
        rw [tk, List.filter_append, List.filter_cons, hb, if_pos rfl, List.flatMap_append]
        rw [List.take_length] at ra6
        simpa using ra6
  · have e0 : i = zs.length := by omega
    subst e0
    rw [List.take_length] at ra
    exact .inl ⟨wkX.stop H' (m.refl _), q _ _ H' rfl (m.trans r1 r) (.lst nF hacc (ra.weak fun a f => .inl f))⟩
end
/-- an own operator, both operands of the class -/
structure MulK (P : Program) (w : World) (K : PySem.W.Frag) (mg : Str → Option Value) (base : Heap) (C : Addr) (n : Nat) (sp : Sp) : Prop where
  ex : ∃ f, PySem.W.findIn K (.ref C) "__mul__" = some (some (.ref f)) ∧ PySem.W.isFn K (.ref f) = true ∧ PySem.W.selfFirst K C = true ∧ ∃ fd ps, FnOk P w K mg base CX0 n f fd ps sp ∧ Binds K fd ps []
def rMulO (C : Addr) (sp : Sp) : R2 := fun x y H Q => ∃ (a dx : Addr) (fs : List (Str × V)) (b dy : Addr) (gs : List (Str × V)), x = .ref a ∧ H a = some (.ins C dx fs) ∧ y = .ref b ∧ H b = some (.ins C dy gs) ∧ sp [.ref a, .ref b] H (fun v H' => (∃ c, v = .ref c) ∧ Q v H') E0
theorem op_mulO {X : Cx} {C : Addr} {n k : Nat} {sp : Sp} (O : MulK X.prog X.w X.K X.mg X.base C n sp) (hr : Room k X.A) (hk : n + 1 ≤ k) : OpR X (binaryOp .Mult) (rMulO C sp) := by
  intro pins s σ H x y v u Q I rx ry h
  obtain ⟨a, dx, fs, b, dy, gs, rfl, ha, rfl, hb, q⟩ := h
  obtain ⟨f, h1, h2, h3, fd, ps, F, hbi⟩ := O.ex
  cases rx
  cases ry
  obtain ⟨_, J, _⟩ := ins_get I.hok ha
  obtain ⟨od, J, _⟩ := J.look
  obtain ⟨_, J2, _⟩ := ins_get I.hok hb
  obtain ⟨od2, J2, _⟩ := J2.look
  obtain ⟨m, hF⟩ := I.fr
  refine PySem.W.binop_K hF I.ok.mod.kin J J2.type h3 h1 h2 (wpAny_mono (run_own F hbi (hr.mono (by omega)) rfl I (rr2 (x := .ref b) (u := .ref b) a rfl) q) (fun w s' z => ?_) fun _ _ e => e)
  obtain ⟨z', H', I', rz, ⟨c, ec⟩, qz⟩ := z
  subst ec
  cases rz
  exact ⟨.ref c, H', I', rfl, qz⟩
section
variable {K : PySem.W.Frag} {m : Mo} {C : Addr} {ns ns2 : List Str} {xs ys : List D} {d : D} {pre : List D → Prop} {Sf : List D → D → Prop}
theorem o_mulOS {nz : List Str} {zs : List D} (hp : pre [.obj C ns xs, .obj C ns2 ys]) (hn : ∀ z, Sf [.obj C ns xs, .obj C ns2 ys] z → z = .obj C nz zs) : Op1 m K (rMulO C (spS K pre Sf)) (.obj C ns xs) (.obj C ns2 ys) (.obj C nz zs) := fun vx vy H I rv ry Q q => by
  obtain ⟨a, dx, fs, rfl, ha, _⟩ := rv.ins
  obtain ⟨b, dy, gs, rfl, hb, _⟩ := ry.ins
  refine ⟨a, dx, fs, b, dy, gs, rfl, ha, rfl, hb, m.F, [.obj C ns xs, .obj C ns2 ys], fun a f => m.fa I f, .cons rv (.cons ry .nil), hp, fun v z H' sd sm rz => ?_⟩
  have e := hn z sd
  subst e
  obtain ⟨c, dz, hs, rfl, hc, hh⟩ := rz.ins
  exact ⟨⟨c, rfl⟩, q _ _ H' rfl (m.grow I sm) rz⟩
end
end Tx

set_option Elab.async false
set_option linter.all false
set_option maxRecDepth 100000
set_option maxHeartbeats 1000000
set_option autoImplicit false
/-! sorted(d) of a dict whose keys are numbers; a dict and a list of one's own that grow together. -/
namespace Tx
open PySem PySem.Spec PyProof.Rows L2
theorem ints_at : ∀ {us : List Value} {ns : List Int}, us.length = ns.length → (∀ (j : Nat) (v : Value), us[j]? = some v → ∃ (i : Int) (t : Tok), ns[j]? = some i ∧ v = Value.int i t) → PyProof.Rows.IntsAre us ns
  | [], [], _, _ => .nil
  | u :: us, n :: ns, hl, h => by
    obtain ⟨i, t, e1, e2⟩ := h 0 u rfl
    obtain rfl : n = i := Option.some.inj e1
    subst e2
    exact .cons _ _ (ints_at (Nat.succ.inj hl) fun j v e => h (j + 1) v (by rw [List.getElem?_cons_succ]; exact e))
  | [], _ :: _, hl, _ => by simp at hl
  | _ :: _, [], hl, _ => by simp at hl
def rSortN : List V → Hp → VK → Prop := fun xs H Q => ∃ (a : Addr) (kvs : List (Key × V)) (ks : List Int), xs = [.ref a] ∧ H a = some (.dK kvs) ∧ kvs.map (·.1) = ks.map Sum.inl ∧ ks.length < 64 ∧
  ∀ (ns : List Int) (p : Addr), ns.Perm ks → ns.Pairwise (· ≤ ·) → H p = none → Q (.ref p) (upd H p (.lst (ns.map V.int)))
theorem cr_sortN {X : Cx} (hc : X.calm = true) : CallR X (.builtin "sorted") rSortN := by
  intro pins s σ H xs us Q I r q
  obtain ⟨a, kvs, ks, rfl, hd, hks, h64, q⟩ := q
  rw [Vals.ref1 r]
  obtain ⟨z, lo, vs, rel, dd⟩ := dk_of I.hok hd
  obtain ⟨ep, hat⟩ := dd.dictAt
  have hkeys : vs.map (·.1) = ks.map Sum.inl := rel.keys.symm.trans hks
  have hl : vs.length = ks.length := by have e := congrArg List.length hkeys; rwa [List.length_map, List.length_map] at e
  refine Calls.call_function_entry PyProof.Rows.kind_sorted PyProof.Rows.plain_sorted PyProof.Rows.entry_sorted (PyProof.Rows.args_sorted1 _) ?_
  unfold Builtin.«sorted»
  refine wpAny_bind (m := checkCount "sorted" 1 1 _) (wpAny_pure ?_)
  refine wpAny_bind (PySem.W.kdu_collect (A := X.A.in1) (PySem.W.kdl_dict (knd := mixKind X.prog X.w) (kvs := vs) (ep := ep) lo) (I.ok.hd hc) hat (by rw [hl, sizeLine_eq]; omega) fun h' tk acc hk hacc => ?_)
  have al : acc.toList.length = ks.length := by rw [Array.length_toList, hacc.1, hl]
  have hI : PyProof.Rows.IntsAre acc.toList ks := ints_at al fun j v e => by
    obtain ⟨k, x, e1, e2⟩ := hacc.2 j v (by rw [← Array.getElem?_toList]; exact e)
    have e3 : (ks.map Sum.inl : List Key)[j]? = some k := by rw [← hkeys, List.getElem?_map, e1]; rfl
    rw [List.getElem?_map] at e3
    obtain ⟨i, e4, e5⟩ := Option.map_eq_some_iff.mp e3
    subst e5
    obtain ⟨t, ev⟩ := Value.isInt_shape (k := i) (v := v) e2
    exact ⟨i, t, e4, ev⟩
  have I1 : Inv X pins σ H { s with heap := h', toks := tk } := I.kept hk
  refine wpAny_bind (wpAny_newList ?_ (by rw [al, sizeLine_eq]; omega))
  have hoL : (h'.push (seqObj "list" acc.toList.toArray 0)).get? h'.objs.size = some (seqObj "list" acc.toList.toArray 0) := Heap.get?_push_size _ rfl
  show wpAny _ _ _ _ _ { s with heap := h'.push (seqObj "list" acc.toList.toArray 0), toks := tk }
  refine wpAny_bind (wpAny_holding (wpAny_call_entry PyProof.Rows.slot_list_sort ⟨_, hoL, rfl⟩ PyProof.Rows.entry_list_sort
    (PyProof.Rows.list_sort_treeK PyProof.Rows.intKind_oneLt (s := { s with heap := h'.push (seqObj "list" acc.toList.toArray 0), toks := tk }) hoL hI.keysOfInt (fun v₁ v₂ rest e => PyProof.Rows.keyKind_ints (by rw [← e]; exact hI)) (by rw [al]; exact h64) fun st' hp hs => ⟨_, rfl, ?_⟩)
    (PyProof.Rows.args_list_sort _)))
  obtain ⟨ns, g1, g2, g3⟩ := PyProof.Rows.sorted_out hI hp (PyProof.Rows.sortedTo_of_int hs)
  obtain ⟨e', he'⟩ := PyProof.Rows.sortedHeap_at (vs := acc.toList) (out := (PyProof.Rows.arrOf st').map (·.2)) hoL
  have hlen : (ns.map V.int).length ≤ sizeLine := by rw [List.length_map, g2.length_eq, sizeLine_eq]; omega
  refine wpAny_pure ⟨_, rfl, .ref h'.objs.size, upd H h'.objs.size (.lst (ns.map V.int)), I1.laid (t' := tk) (fun b u e => ?_) (Nat.le_refl _)
    (show ObjOk X.prog X.w _ _ _ (.lst (ns.map V.int)) from ⟨hlen, ((PyProof.Rows.arrOf st').map (·.2)).toList, e', vals_of_ints g1, by rw [Array.toArray_toList]; exact he'⟩), rfl, q ns _ g2 g3 (I1.hok.fresh (Nat.le_refl _))⟩
  have hb : b < h'.objs.size := Heap.lt_size e
  rw [PyProof.Rows.sortedHeap_old (Nat.ne_of_lt hb) (by rw [size_push']; exact Nat.lt_succ_of_lt hb)]
  exact Heap.get?_push_of_some _ e
end Tx

set_option Elab.async false
set_option linter.all false
set_option maxRecDepth 100000
set_option maxHeartbeats 1000000
set_option autoImplicit false
/-! A dict (numbers, True) and a list of numbers of one's own, side by side. -/
namespace Tx
open PySem PySem.Spec PyProof.Rows L2
def kvT (ks : List Nat) : List (Key × V) := ks.map fun k : Nat => (.inl (k : Int), .bl true)
def qsV (qs : List Nat) : List V := qs.map fun k : Nat => V.int (k : Int)
/-- both as they stand -/
def qMo (m : Mo) (ld lq : Addr) (ks qs : List Nat) : Mo where
  F := ((m.ext ld).ext lq).F
  R := m.R
  I := fun H => ((m.ext ld).ext lq).I H ∧ ¬ m.F ld ∧ ¬ m.F lq ∧ H ld = some (.dK (kvT ks)) ∧ H lq = some (.lst (qsV qs))
  refl := m.refl
  trans := m.trans
  keep := fun r i a o n e => ((m.ext ld).ext lq).keep r i.1 a o n e
  grow := fun i r => m.grow i.1.1.1 r
  inv := fun r i => ⟨((m.ext ld).ext lq).inv r i.1, i.2.1, i.2.2.1, m.keep r i.1.1.1 ld _ i.2.1 i.2.2.2.1, m.keep r i.1.1.1 lq _ i.2.2.1 i.2.2.2.2⟩
  fa := fun i f => ((m.ext ld).ext lq).fa i.1 f
  chg := fun i r h => m.chg i.1.1.1 r h
  had := fun i r n => m.had i.1.1.1 r n
structure QJ (m : Mo) (K : PySem.W.Frag) (ld lq : Addr) (H0 B : Hp) (Γ : G) (σ : L2.St) (H : Hp) (ks qs : List Nat) : Prop where
  hd : H0 ld = none
  hq : H0 lq = none
  i0 : m.I H0
  r : m.R H0 H
  st : StK ((m.ext ld).ext lq) B H
  er : ER (qMo m ld lq ks qs) K Γ σ H
/-- a statement while both are one's own -/
def SGq (m : Mo) (K : PySem.W.Frag) (ld lq : Addr) (H0 : Hp) (ts : TS) (Γ : G) (ks qs : List Nat) (N : G → List Nat → List Nat → Prop) (R : D → Prop) : Prop :=
  ∀ (B : Hp) (σ : L2.St) (H : Hp), QJ m K ld lq H0 B Γ σ H ks qs → ∀ E : Ends, (∀ Γ' ks' qs' σ' H', N Γ' ks' qs' → QJ m K ld lq H0 B Γ' σ' H' ks' qs' → E.nx σ' H') → (∀ d v H', R d → m.R H0 H' → Rp K m.F H' v d → E.rt v H') → ts E σ H
section
variable {m : Mo} {K : PySem.W.Frag} {ld lq : Addr} {H0 B H H' : Hp} {Γ : G} {σ : L2.St} {ks qs : List Nat} {ts tw : TS} {te tk : TE} {N : G → List Nat → List Nat → Prop} {R : D → Prop}
theorem QJ.mv (J : QJ m K ld lq H0 B Γ σ H ks qs) {Γ' : G} {σ' : L2.St} (r : m.R H H') (e : ER (qMo m ld lq ks qs) K Γ' σ' H') : QJ m K ld lq H0 B Γ' σ' H' ks qs :=
  ⟨J.hd, J.hq, J.i0, m.trans J.r r, fun a o n q => (qMo m ld lq ks qs).keep r J.er.i a o n (J.st a o n q), e⟩
theorem q_seq (M : G → List Nat → List Nat → Prop) (h1 : SGq m K ld lq H0 ts Γ ks qs M R) (h2 : ∀ Γ' ks' qs', M Γ' ks' qs' → SGq m K ld lq H0 tw Γ' ks' qs' N R) : SGq m K ld lq H0 (tSeq ts tw) Γ ks qs N R := fun B σ H J E hn hr =>
  h1 B σ H J _ (fun Γ' ks' qs' σ' H' w J' => h2 Γ' ks' qs' w B σ' H' J' E hn hr) hr
/-- what changes neither -/
theorem q_lift {M : G → Prop} (h : SG (qMo m ld lq ks qs) K ts Γ { nx := M, rt := R }) (k : ∀ Γ', M Γ' → N Γ' ks qs) : SGq m K ld lq H0 ts Γ ks qs N R := fun B σ H J E hn hr =>
  h σ H J.er E ⟨fun Γ' σ' H' w r e => hn Γ' ks qs σ' H' (k Γ' w) (J.mv r e), fun d v H' w r rv => hr d v H' w (m.trans J.r r) (rv.weak fun a f => .inl (.inl f)), fun _ _ _ o => o.elim, fun _ _ _ o => o.elim⟩
theorem q_if {tt : TT} {T : Bool → Prop} (h : EvT (qMo m ld lq ks qs) K tt Γ T) (h1 : T true → SGq m K ld lq H0 ts Γ ks qs N R) (h2 : T false → SGq m K ld lq H0 tw Γ ks qs N R) : SGq m K ld lq H0 (tIfS tt ts tw) Γ ks qs N R := fun B σ H J E hn hr =>
  h σ H J.er _ fun b H1 t r1 => by
    have J1 := J.mv r1 (J.er.mv r1)
    cases b with
    | true => exact h1 t B σ H1 J1 E hn hr
    | false => exact h2 t B σ H1 J1 E hn hr
theorem q_next (h : N Γ ks qs) : SGq m K ld lq H0 tNext Γ ks qs N R := fun B σ H J E hn _ => hn Γ ks qs σ H h J
def flatS (Γ : G) : Prop := ∀ (j : Nat) (d : D), Γ[j]? = some (some d) → True
/-- the heap where only these two have changed -/
theorem q_upd {ks' qs' : List Nat} {p : Addr} {o : HO} (J : QJ m K ld lq H0 B Γ σ H ks qs) (hp : p = ld ∨ p = lq) (e1 : (upd H p o) ld = some (.dK (kvT ks'))) (e2 : (upd H p o) lq = some (.lst (qsV qs'))) : QJ m K ld lq H0 B Γ σ (upd H p o) ks' qs' := by
  have h0 : H0 p = none := hp.elim (fun e => e ▸ J.hd) fun e => e ▸ J.hq
  have fp : ((m.ext ld).ext lq).F p := hp.elim (fun e => .inl (.inr e)) fun e => .inr e
  have r2 : m.R H0 (upd H p o) := m.chg J.i0 J.r h0
  have kp : ∀ a u, ¬ ((m.ext ld).ext lq).F a → H a = some u → (upd H p o) a = some u := fun a u n q => by rw [upd_ne (fun z : a = p => n (by rw [z]; exact fp))]; exact q
  refine ⟨J.hd, J.hq, J.i0, r2, fun a u n q => kp a u n (J.st a u n q), ⟨⟨⟨m.inv r2 J.i0, by rw [e1]; exact fun z => nomatch z⟩, by rw [e2]; exact fun z => nomatch z⟩, J.er.i.2.1, J.er.i.2.2.1, e1, e2⟩, J.er.len, fun j d h => ?_⟩
  obtain ⟨v, a1, a2⟩ := J.er.at_ j d h
  exact ⟨v, a1, a2.mv kp⟩
theorem QJ.ne (J : QJ m K ld lq H0 B Γ σ H ks qs) : ld ≠ lq := fun z => by
  have h1 := J.er.i.2.2.2.1
  rw [z, J.er.i.2.2.2.2] at h1
  cases h1
theorem kv_val {k : Nat} : ∀ {ks : List Nat}, (valV (kvT ks) (.inl (k : Int))).isSome = decide (k ∈ ks)
  | [] => rfl
  | j :: ks => by
    have ih := kv_val (k := k) (ks := ks)
    show (valV ((.inl (j : Int), .bl true) :: kvT ks) (.inl (k : Int))).isSome = _
    by_cases e : j = k
    · subst e
      rw [valV_pos rfl]
      simp
    · rw [valV_neg (by intro z; injection z with z; omega), ih]
      have : ¬ k = j := fun z => e z.symm
      simp [this]
theorem kv_put {k : Nat} {ks : List Nat} (h : k ∉ ks) : putK (kvT ks) (.inl (k : Int)) (.bl true) = kvT (ks ++ [k]) := by
  have e : valV (kvT ks) (.inl (k : Int)) = none := by
    have := kv_val (k := k) (ks := ks)
    rw [decide_eq_false h] at this
    exact Option.not_isSome_iff_eq_none.mp (by rw [this]; decide)
  rw [putK_new _ e]
  unfold kvT
  rw [List.map_append]
  rfl
/-- reached[k] = True -/
theorem q_put {i : Nat} {k : Nat} (hi : Γ[i]? = some (some (.adr ld))) (hk : Ev1 (qMo m ld lq ks qs) K tk Γ (dN k)) (new : k ∉ ks) (hz : ks.length < 1000) (h : N Γ (ks ++ [k]) qs) : SGq m K ld lq H0 (tAsg (tC (.bl true)) (gSub (tVar i) tk rSetD)) Γ ks qs N R := fun B σ H J E hn hr => by
  obtain ⟨u, a1, a2⟩ := J.er.at_ i _ hi
  obtain rfl := a2.adrE
  refine ⟨_, a1, hk σ H J.er _ fun y dy H1 s r1 ry => ?_⟩
  subst s
  obtain rfl := ry.intE
  have J1 := J.mv r1 (J.er.mv r1)
  have e1 := J1.er.i.2.2.2.1
  refine ⟨ld, _, rfl, DPut.k (k := .inl (k : Int)) e1 (Nat.lt_of_lt_of_le (show (kvT ks).length < 1000 by unfold kvT; rw [List.length_map]; exact hz) (by decide)), ?_⟩
  exact hn Γ _ qs σ _ h (q_upd J1 (.inl rfl) (by rw [upd_same, kv_put new]) (by rw [upd_ne (fun z => J1.ne z.symm)]; exact J1.er.i.2.2.2.2))
/-- queue.append(k) -/
theorem q_push {i : Nat} {k : Nat} (hi : Γ[i]? = some (some (.adr lq))) (hk : Ev1 (qMo m ld lq ks qs) K tk Γ (dN k)) (hz : qs.length < 1000) (h : N Γ ks (qs ++ [k])) : SGq m K ld lq H0 (tDrop (tBM K "list" rAppend (tVar i) (tCons tk tNil))) Γ ks qs N R := fun B σ H J E hn hr => by
  obtain ⟨u, a1, a2⟩ := J.er.at_ i _ hi
  obtain rfl := a2.adrE
  refine ⟨_, a1, .inl ⟨rfl, _, SqL.of J.er.i.2.2.2.2⟩, hk σ H J.er _ fun y dy H1 s r1 ry => ?_⟩
  subst s
  obtain rfl := ry.intE
  have J1 := J.mv r1 (J.er.mv r1)
  have e1 := J1.er.i.2.2.2.2
  refine ⟨lq, _, .int (k : Int), rfl, rfl, e1, Nat.lt_of_lt_of_le (show (qsV qs).length < 1000 by unfold qsV; rw [List.length_map]; exact hz) (by decide), ?_⟩
  refine hn Γ ks (qs ++ [k]) σ _ h (q_upd J1 (.inr rfl) (by rw [upd_ne J1.ne]; exact J1.er.i.2.2.2.1) ?_)
  rw [upd_same]
  unfold qsV
  rw [List.map_append]
  rfl
theorem q_for {wi : TI} {g : TG} {xs : List D} (hi : ItX (qMo m ld lq ks qs) K wi Γ xs) (V : Nat → G → List Nat → List Nat → Prop) (hv : V 0 Γ ks qs)
    (hs : ∀ i d Γ' ks' qs', xs[i]? = some d → V i Γ' ks' qs' → ∃ Γ2 js, TgD (qMo m ld lq ks' qs') K g Γ' d js Γ2 ∧ SGq m K ld lq H0 ts Γ2 ks' qs' (V (i + 1)) R) (hd : ∀ Γ' ks' qs', V xs.length Γ' ks' qs' → N Γ' ks' qs') : SGq m K ld lq H0 (tFor wi g ts) Γ ks qs N R := fun B σ H J E hn hr => by
  refine hi σ H J.er _ fun It H1 r1 wk => ?_
  have J1 := J.mv r1 (J.er.mv r1)
  refine ⟨fun i k σ' H' => k = xs.length - i ∧ i ≤ xs.length ∧ ∃ Γ' ks' qs', V i Γ' ks' qs' ∧ QJ m K ld lq H0 H1 Γ' σ' H' ks' qs', ⟨_, rfl, Nat.zero_le _, Γ, ks, qs, hv, ⟨J1.hd, J1.hq, J1.i0, J1.r, fun _ _ _ e => e, J1.er⟩⟩, ?_⟩
  rintro i k σ' H' ⟨rfl, hle, Γ', ks', qs', w, J'⟩
  obtain ⟨go, stop, yld⟩ := wk H' J'.st
  by_cases hlt : i < xs.length
  · refine .inr ⟨go i hlt, fun σ3 H3 => ∃ Γ3 k3 q3, V (i + 1) Γ3 k3 q3 ∧ QJ m K ld lq H0 H1 Γ3 σ3 H3 k3 q3, fun σ3 H3 q => ⟨xs.length - (i + 1), by omega, rfl, hlt, q⟩, fun y H2 yy => ?_⟩
    obtain ⟨e2, d, hd', rx⟩ := yld i y H2 hlt yy
    subst e2
    obtain ⟨Γ2, js, tg, body⟩ := hs i d Γ' ks' qs' hd' w
    refine tg y σ' H2 J'.er rx _ fun σ3 H3 e3 r3 _ => ?_
    exact body H1 σ3 H3 (J'.mv r3 e3) _ (fun Γ4 k4 q4 σ4 H4 o J4 => ⟨Γ4, k4, q4, o, J4⟩) hr
  · have e0 : i = xs.length := by omega
    subst e0
    exact .inl ⟨stop, hn Γ' ks' qs' σ' H' (hd Γ' ks' qs' w) ⟨J'.hd, J'.hq, J'.i0, J'.r, fun a o n q => J'.st a o n (J1.st a o n q), J'.er⟩⟩
theorem q_while {tt : TT} (V : Nat → G → List Nat → List Nat → Prop) (m0 : Nat) (hv : V m0 Γ ks qs)
    (hs : ∀ k Γ' ks' qs', V k Γ' ks' qs' → ∃ T : Bool → Prop, EvT (qMo m ld lq ks' qs') K tt Γ' T ∧ (T true → SGq m K ld lq H0 ts Γ' ks' qs' (fun Γ2 k2 q2 => ∃ k', k' < k ∧ V k' Γ2 k2 q2) R) ∧ (T false → N Γ' ks' qs')) : SGq m K ld lq H0 (tWhile tt ts) Γ ks qs N R := fun B σ H J E hn hr => by
  refine ⟨fun k σ' H' => ∃ Γ' ks' qs', V k Γ' ks' qs' ∧ QJ m K ld lq H0 B Γ' σ' H' ks' qs', ⟨m0, Γ, ks, qs, hv, J⟩, ?_⟩
  rintro k σ' H' ⟨Γ', ks', qs', w, J'⟩
  obtain ⟨T, ht, h1, h2⟩ := hs k Γ' ks' qs' w
  refine ht σ' H' J'.er _ fun b H2 s r2 => ?_
  have J2 := J'.mv r2 (J'.er.mv r2)
  cases b with
  | true =>
    show ∃ N : L2.St → Hp → Prop, _ ∧ _
    refine ⟨fun σ3 H3 => ∃ k', k' < k ∧ ∃ Γ3 k3 q3, V k' Γ3 k3 q3 ∧ QJ m K ld lq H0 B Γ3 σ3 H3 k3 q3, fun σ3 H3 q => q, ?_⟩
    exact h1 s B σ' H2 J2 _ (fun Γ3 k3 q3 σ3 H3 ⟨k', hk, w3⟩ J3 => ⟨k', hk, Γ3, k3, q3, w3, J3⟩) hr
  | false => exact hn Γ' ks' qs' σ' H2 (h2 s) J2
/-! what reads them -/
theorem en_qix {i j : Nat} {k : Nat} (hi : Γ[i]? = some (some (.adr lq))) (hj : Ev1 (qMo m ld lq ks qs) K tk Γ (dN j)) (h : qs[j]? = some k) : Ev1 (qMo m ld lq ks qs) K (tOp (rIx K) (tVar i) tk) Γ (dN k) := fun σ H e Q q => by
  obtain ⟨u, a1, a2⟩ := e.at_ i _ hi
  obtain rfl := a2.adrE
  refine ⟨_, a1, hj σ H e _ fun y dy H1 s r1 ry => ?_⟩
  subst s
  obtain rfl := ry.intE
  have e1 := (e.mv r1).i.2.2.2.2
  refine .inl ⟨lq, _, (j : Int), V.int (k : Int), rfl, rfl, SqL.of e1, ?_, q _ _ H1 rfl r1 (.int _)⟩
  have hl := (List.getElem?_eq_some_iff.mp h).1
  unfold atI qsV
  rw [Evl.ixN_nat (by rw [List.length_map]; exact hl)]
  show (qs.map _)[j]? = _
  rw [List.getElem?_map, h]
  rfl
theorem en_qlen {i : Nat} (hi : Γ[i]? = some (some (.adr lq))) : Ev1 (qMo m ld lq ks qs) K (tCB (rLenS K) (tCons (tVar i) tNil)) Γ (dN qs.length) := fun σ H e Q q => by
  obtain ⟨u, a1, a2⟩ := e.at_ i _ hi
  obtain rfl := a2.adrE
  refine ⟨_, a1, _, _, rfl, .inl ⟨_, SqL.of e.i.2.2.2.2, rfl⟩, ?_⟩
  have : (qsV qs).length = qs.length := by unfold qsV; rw [List.length_map]
  rw [this]
  exact q _ _ H rfl (m.refl H) (.int _)
theorem et_qnot {i j : Nat} {k : Nat} (hj : Ev1 (qMo m ld lq ks qs) K tk Γ (dN k)) (hi : Γ[i]? = some (some (.adr ld))) : EvT1 (qMo m ld lq ks qs) K (tB (tDNotIn tk (tVar i))) Γ (!decide (k ∈ ks)) := fun σ H e Q q => by
  refine hj σ H e _ fun y dy H1 s r1 ry => ?_
  subst s
  obtain rfl := ry.intE
  have e1 := e.mv r1
  obtain ⟨u, a1, a2⟩ := e1.at_ i _ hi
  obtain rfl := a2.adrE
  refine ⟨_, a1, ld, valV (kvT ks) (.inl (k : Int)), rfl, DGet.k (k := .inl (k : Int)) e1.i.2.2.2.1, _, rfl, ?_⟩
  rw [kv_val]
  exact q _ H1 rfl r1
theorem en_qsort {i : Nat} (hi : Γ[i]? = some (some (.adr ld))) (h64 : ks.length < 64) : Ev1 (qMo m ld lq ks qs) K (tCB rSortN (tCons (tVar i) tNil)) Γ (.lst ((srt (ks.map fun k : Nat => (k : Int))).map D.int)) := fun σ H e Q q => by
  obtain ⟨u, a1, a2⟩ := e.at_ i _ hi
  obtain rfl := a2.adrE
  refine ⟨_, a1, ld, kvT ks, ks.map fun k : Nat => (k : Int), rfl, e.i.2.2.2.1, by unfold kvT; rw [List.map_map, List.map_map]; rfl, by rw [List.length_map]; exact h64, fun ns p hp up hn => ?_⟩
  have e1 : ns = srt (ks.map fun k : Nat => (k : Int)) := srt_of hp up
  subst e1
  exact q _ _ _ rfl (m.grow e.i.1.1.1 (same_new hn)) (.lst (fun f => (qMo m ld lq ks qs).fa e.i f hn) upd_same (rp_intsL _ _ _))
/-- reached = {k: True}; queue = [k]; .. -/
theorem sq_newQ {i j : Nat} {k : Nat} {O : Out} (hk : Γ[1]? = some (some (dN k))) (hk2 : ∀ ld : Addr, (Γ.set i (some (.adr ld)))[1]? = some (some (dN k))) (kk : ∀ ld lq H0, SGq m K ld lq H0 tw ((Γ.set i (some (.adr ld))).set j (some (.adr lq))) [k] [k] (fun _ _ _ => False) O.rt) : SG m K (tSeq (tAsg (tDisp [(tVar 1, tC (.bl true))]) (gName i)) (tSeq (tAsg (tLst (tCons (tVar 1) tNil)) (gName j)) tw)) Γ O := fun σ H e E M => by
  intro ld hld
  obtain ⟨u, a1, a2⟩ := e.at_ 1 _ hk
  obtain rfl := a2.intE
  have r1 : m.R H (upd H ld (.dK [])) := m.grow e.i (same_new hld)
  refine ⟨_, a1, upd_same, [(.inl (k : Int), .bl true)], rfl, (show 1 ≤ 15 by decide), ?_⟩
  have eqd : upd (upd H ld (.dK [])) ld (.dK (mergeK [] [(.inl (k : Int), .bl true)])) = upd H ld (.dK (kvT [k])) := by
    funext a
    by_cases z : a = ld
    · subst z; rw [upd_same, upd_same]; rfl
    · rw [upd_ne z, upd_ne z, upd_ne z]
  rw [eqd]
  have rD : m.R H (upd H ld (.dK (kvT [k]))) := m.grow e.i (same_new hld)
  have eD : ER (m.ext ld) K Γ σ (upd H ld (.dK (kvT [k]))) := e.ext hld rD (by rw [upd_same]; exact fun z => nomatch z)
  have eD2 := eD.set i (.adr ld : Rp K (m.ext ld).F _ (.ref ld) (.adr ld))
  change tSeq (tAsg (tLst (tCons (tVar 1) tNil)) (gName j)) tw E (σ.set i (some (.ref ld))) (upd H ld (.dK (kvT [k])))
  obtain ⟨u2, b1, b2⟩ := eD2.at_ 1 _ (hk2 ld)
  obtain rfl := b2.intE
  refine ⟨_, b1, (show 1 ≤ sizeLine by decide), fun lq hlq => ?_⟩
  have ne : lq ≠ ld := fun z => by rw [z, upd_same] at hlq; cases hlq
  have hlq0 : H lq = none := by rw [upd_ne ne] at hlq; exact hlq
  have rQ : m.R H (upd (upd H ld (.dK (kvT [k]))) lq (.lst (qsV [k]))) := m.chg e.i rD hlq0
  have eQ : ER ((m.ext ld).ext lq) K (Γ.set i (some (.adr ld))) (σ.set i (some (.ref ld))) (upd (upd H ld (.dK (kvT [k]))) lq (.lst (qsV [k]))) := eD2.ext hlq (m.grow eD2.i.1 (same_new hlq)) (by rw [upd_same]; exact fun z => nomatch z)
  have eQ2 := eQ.set j (.adr lq : Rp K ((m.ext ld).ext lq).F _ (.ref lq) (.adr lq))
  have nF : ∀ {a}, H a = none → ¬ m.F a := fun h f => m.fa e.i f h
  exact kk ld lq H (upd (upd H ld (.dK (kvT [k]))) lq (.lst (qsV [k]))) _ _ ⟨hld, hlq0, e.i, rQ, fun _ _ _ e => e, ⟨⟨eQ2.i, nF hld, nF hlq0, by rw [upd_ne (fun z => ne z.symm), upd_same], upd_same⟩, eQ2.len, eQ2.at_⟩⟩ E (fun _ _ _ _ _ o => o.elim) fun d v H' o r rv => M.rt d v H' o r rv
end
end Tx

set_option Elab.async false
set_option linter.all false
set_option maxRecDepth 100000
set_option maxHeartbeats 1000000
set_option autoImplicit false
/-! A list of lists of one's own, all there from the first: x[i][j] = e. -/
namespace Tx
open PySem PySem.Spec PyProof.Rows L2
def Mo.exts (m : Mo) (as : List Addr) : Mo where
  F := fun a => m.F a ∨ a ∈ as
  R := m.R
  I := fun H => m.I H ∧ ∀ a ∈ as, H a ≠ none
  refl := m.refl
  trans := m.trans
  keep := fun r i a o n e => m.keep r i.1 a o (fun z => n (.inl z)) e
  grow := fun i r => m.grow i.1 r
  inv := fun r i => ⟨m.inv r i.1, fun a ha => m.had i.1 r (i.2 a ha)⟩
  fa := fun i f => f.elim (fun f => m.fa i.1 f) fun e => i.2 _ e
  chg := fun i r h => m.chg i.1 r h
  had := fun i r n => m.had i.1 r n
abbrev mX (m : Mo) (as : List Addr) (l : Addr) : Mo := (m.exts as).ext l
structure MJ (m : Mo) (K : PySem.W.Frag) (as : List Addr) (l : Addr) (H0 B : Hp) (Γ : G) (σ : L2.St) (H : Hp) (M : List (List D)) : Prop where
  h0 : H0 l = none
  fr : ∀ a ∈ as, H0 a = none
  i0 : m.I H0
  nd : as.Nodup
  nl : l ∉ as
  r : m.R H0 H
  st : StK (mX m as l) B H
  er : ER (mX m as l) K Γ σ H
  hl : H l = some (.lst (as.map V.ref))
  len : M.length = as.length
  rows : ∀ (i : Nat) (a : Addr) (row : List D), as[i]? = some a → M[i]? = some row → ∃ vs, H a = some (.lst vs) ∧ RpAll K (mX m as l).F H vs row
def SGm (m : Mo) (K : PySem.W.Frag) (as : List Addr) (l : Addr) (H0 : Hp) (ts : TS) (Γ : G) (M : List (List D)) (N : G → List (List D) → Prop) (R : D → Prop) : Prop :=
  ∀ (B : Hp) (σ : L2.St) (H : Hp), MJ m K as l H0 B Γ σ H M → ∀ E : Ends, (∀ Γ' M' σ' H', N Γ' M' → MJ m K as l H0 B Γ' σ' H' M' → E.nx σ' H') → (∀ d v H', R d → m.R H0 H' → Rp K m.F H' v d → E.rt v H') → ts E σ H
section
variable {m : Mo} {K : PySem.W.Frag} {as : List Addr} {l : Addr} {H0 B H H' : Hp} {Γ : G} {σ : L2.St} {M : List (List D)} {ts tw : TS} {te tk : TE} {N : G → List (List D) → Prop} {R : D → Prop}
theorem MJ.nF (J : MJ m K as l H0 B Γ σ H M) {a : Addr} (h : H0 a = none) : ¬ m.F a := fun f => m.fa J.i0 f h
theorem MJ.mv (J : MJ m K as l H0 B Γ σ H M) {Γ' : G} {σ' : L2.St} (r : m.R H H') (e : ER (mX m as l) K Γ' σ' H') : MJ m K as l H0 B Γ' σ' H' M :=
  ⟨J.h0, J.fr, J.i0, J.nd, J.nl, m.trans J.r r, fun a o n q => (mX m as l).keep r J.er.i a o n (J.st a o n q), e, m.keep r J.er.i.1.1 l _ (J.nF J.h0) J.hl, J.len, fun i a row h1 h2 => by
    obtain ⟨vs, q1, q2⟩ := J.rows i a row h1 h2
    exact ⟨vs, m.keep r J.er.i.1.1 a _ (J.nF (J.fr a (List.mem_of_getElem? h1))) q1, q2.mv ((mX m as l).keep r J.er.i)⟩⟩
theorem MJ.view (J : MJ m K as l H0 B Γ σ H M) : Rp K m.F H (.ref l) (.lst (M.map D.lst)) := by
  refine .lst (J.nF J.h0) J.hl ?_
  have go : ∀ (bs : List Addr) (L : List (List D)), bs.length = L.length → (∀ a ∈ bs, a ∈ as) → (∀ (i : Nat) (a : Addr) (row : List D), bs[i]? = some a → L[i]? = some row → ∃ vs, H a = some (.lst vs) ∧ RpAll K (mX m as l).F H vs row) → RpAll K m.F H (bs.map V.ref) (L.map D.lst) := fun bs => by
    induction bs with
    | nil => intro L h _ _; cases L with | nil => exact .nil | cons r L => simp at h
    | cons b bs ih =>
      intro L h hm hr
      cases L with
      | nil => simp at h
      | cons row L =>
        obtain ⟨vs, q1, q2⟩ := hr 0 b row rfl rfl
        exact .cons (.lst (J.nF (J.fr b (hm b List.mem_cons_self))) q1 (q2.weak fun a f => .inl (.inl f))) (ih L (by simpa using h) (fun a ha => hm a (List.mem_cons_of_mem _ ha)) fun i a row h1 h2 => hr (i + 1) a row (by simpa using h1) (by simpa using h2))
  exact go as M J.len.symm (fun a ha => ha) J.rows
theorem MJ.see (J : MJ m K as l H0 B Γ σ H M) {i : Nat} (hi : Γ[i]? = some (some (.adr l))) : ER m K (Γ.set i (some (.lst (M.map D.lst)))) σ H := by
  refine ⟨J.er.i.1.1, by rw [List.length_set, J.er.len], fun j d h => ?_⟩
  by_cases z : i = j
  · subst z
    rw [List.getElem?_set_self (List.getElem?_eq_some_iff.mp hi).1] at h
    injection h with h; injection h with h; subst h
    obtain ⟨v, h1, h2⟩ := J.er.at_ i _ hi
    obtain rfl := h2.adrE
    exact ⟨_, h1, J.view⟩
  · rw [List.getElem?_set_ne z] at h
    obtain ⟨v, h1, h2⟩ := J.er.at_ j d h
    exact ⟨v, h1, h2.weak fun a f => .inl (.inl f)⟩
theorem m_seq (W : G → List (List D) → Prop) (h1 : SGm m K as l H0 ts Γ M W R) (h2 : ∀ Γ' M', W Γ' M' → SGm m K as l H0 tw Γ' M' N R) : SGm m K as l H0 (tSeq ts tw) Γ M N R := fun B σ H J E hn hr =>
  h1 B σ H J _ (fun Γ' M' σ' H' w J' => h2 Γ' M' w B σ' H' J' E hn hr) hr
/-- what sees it as data, and ends -/
theorem m_dis {i : Nat} (hi : Γ[i]? = some (some (.adr l))) (k : SG m K ts (Γ.set i (some (.lst (M.map D.lst)))) { nx := fun _ => False, rt := R }) : SGm m K as l H0 ts Γ M (fun _ _ => False) R := fun B σ H J E hn hr =>
  k σ H (J.see hi) E ⟨fun _ _ _ o => o.elim, fun d v H' o r rv => hr d v H' o (m.trans J.r r) rv, fun _ _ _ o => o.elim, fun _ _ _ o => o.elim⟩
/-- x[a][b] = e -/
theorem m_set {i a b : Nat} {d : D} {tv ti tj : TE} {row : List D} (hi : Γ[i]? = some (some (.adr l))) (hv : Ev1 (mX m as l) K tv Γ d) (ha : Ev1 (mX m as l) K ti Γ (dN a)) (hb : Ev1 (mX m as l) K tj Γ (dN b)) (hr : M[a]? = some row) (hbl : b < row.length) (k : N Γ (M.set a (row.set b d))) : SGm m K as l H0 (tAsg tv (gSub (tOp (rIx K) (tVar i) ti) tj rSetL)) Γ M N R := fun B σ H J E hn _ => by
  refine hv σ H J.er _ fun v dv H1 s r1 rv => ?_
  subst s
  have J1 := J.mv r1 (J.er.mv (m := mX m as l) r1)
  obtain ⟨u, a1, a2⟩ := J1.er.at_ i _ hi
  obtain rfl := a2.adrE
  refine ⟨_, a1, ha σ H1 J1.er _ fun y dy H2 s2 r2 ry => ?_⟩
  subst s2
  obtain rfl := ry.intE
  have J2 := J1.mv r2 (J1.er.mv (m := mX m as l) r2)
  have al : a < as.length := by rw [← J.len]; exact (List.getElem?_eq_some_iff.mp hr).1
  obtain ⟨c, hc⟩ : ∃ c, as[a]? = some c := ⟨_, List.getElem?_eq_getElem al⟩
  have cm : c ∈ as := List.mem_of_getElem? hc
  refine .inl ⟨l, as.map V.ref, (a : Int), .ref c, rfl, rfl, SqL.of J2.hl, ?_, ?_⟩
  · unfold atI
    rw [Evl.ixN_nat (by rw [List.length_map]; exact al)]
    show (as.map V.ref)[a]? = _
    rw [List.getElem?_map, hc]
    rfl
  refine hb σ H2 J2.er _ fun z dz H3 s3 r3 rz => ?_
  subst s3
  obtain rfl := rz.intE
  have J3 := J2.mv r3 (J2.er.mv (m := mX m as l) r3)
  obtain ⟨vs, q1, q2⟩ := J3.rows a c row hc hr
  have rv3 : Rp K (mX m as l).F H3 v dv := (rv.mv ((mX m as l).keep r2 J1.er.i)).mv ((mX m as l).keep r3 J2.er.i)
  refine ⟨c, vs, (b : Int), b, rfl, rfl, q1, Evl.ixN_nat (by rw [q2.len]; exact hbl), ?_⟩
  have lc : l ≠ c := fun z => J.nl (z ▸ cm)
  have rr : m.R H0 (upd H3 c (.lst (vs.set b v))) := m.chg J.i0 J3.r (J.fr c cm)
  have mv : ∀ x o, ¬ (mX m as l).F x → H3 x = some o → (upd H3 c (.lst (vs.set b v))) x = some o := fun x o n q => by rw [upd_ne (fun z : x = c => n (.inl (.inr (z ▸ cm))))]; exact q
  have had : ∀ x, H3 x ≠ none → (upd H3 c (.lst (vs.set b v))) x ≠ none := fun x h => by
    by_cases e : x = c
    · rw [e, upd_same]; exact fun z => nomatch z
    · rw [upd_ne e]; exact h
  refine hn Γ _ σ _ k ⟨J.h0, J.fr, J.i0, J.nd, J.nl, rr, fun x o n q => mv x o n (J3.st x o n q), ⟨⟨⟨m.inv rr J.i0, fun x hx => had x (J3.er.i.1.2 x hx)⟩, had l J3.er.i.2⟩, J3.er.len, fun j d h => let ⟨v, h1, h2⟩ := J3.er.at_ j d h; ⟨v, h1, h2.mv mv⟩⟩, by rw [upd_ne lc]; exact J3.hl, by rw [List.length_set]; exact J3.len, fun j x row' h1 h2 => ?_⟩
  by_cases e : a = j
  · subst e
    rw [hc] at h1
    injection h1 with h1
    subst h1
    rw [List.getElem?_set_self (by rw [J.len]; exact al)] at h2
    injection h2 with h2
    subst h2
    exact ⟨vs.set b v, upd_same, (RpAll.set rv3 b q2).mv mv⟩
  · rw [List.getElem?_set_ne e] at h2
    obtain ⟨ws, w1, w2⟩ := J3.rows j x row' h1 h2
    have xc : x ≠ c := fun z => e (by
      subst z
      have hj := (List.getElem?_eq_some_iff.mp h1).1
      exact (List.getElem_inj (h₀ := al) (h₁ := hj) J.nd).mp (by rw [(List.getElem?_eq_some_iff.mp hc).2, (List.getElem?_eq_some_iff.mp h1).2]))
    exact ⟨ws, by rw [upd_ne xc]; exact w1, w2.mv mv⟩
theorem m_for {wi : TI} {g : TG} {xs : List D} (hi : ItY (mX m as l) K wi Γ xs) (V : Nat → G → List (List D) → Prop) (hv : V 0 Γ M)
    (hs : ∀ i d Γ' M', xs[i]? = some d → V i Γ' M' → ∃ Γ2 js, TgD (mX m as l) K g Γ' d js Γ2 ∧ SGm m K as l H0 ts Γ2 M' (V (i + 1)) R) (hd : ∀ Γ' M', V xs.length Γ' M' → N Γ' M') : SGm m K as l H0 (tFor wi g ts) Γ M N R := fun B σ H J E hn hr => by
  refine hi σ H J.er _ fun It H1 r1 wk => ?_
  have J1 := J.mv r1 (J.er.mv (m := mX m as l) r1)
  refine ⟨fun i k σ' H' => k = xs.length - i ∧ i ≤ xs.length ∧ ∃ Γ' M', V i Γ' M' ∧ MJ m K as l H0 H1 Γ' σ' H' M', ⟨_, rfl, Nat.zero_le _, Γ, M, hv, ⟨J1.h0, J1.fr, J1.i0, J1.nd, J1.nl, J1.r, fun _ _ _ e => e, J1.er, J1.hl, J1.len, J1.rows⟩⟩, ?_⟩
  rintro i k σ' H' ⟨rfl, hle, Γ', M', w, J'⟩
  obtain ⟨go, stop, yld⟩ := wk H' J'.er.i J'.st
  by_cases hlt : i < xs.length
  · refine .inr ⟨go i hlt, fun σ3 H3 => ∃ Γ3 M3, V (i + 1) Γ3 M3 ∧ MJ m K as l H0 H1 Γ3 σ3 H3 M3, fun σ3 H3 q => ⟨xs.length - (i + 1), by omega, rfl, hlt, q⟩, fun y H2 yy => ?_⟩
    obtain ⟨sm, d, hd', rx⟩ := yld i y H2 hlt yy
    have r2 : m.R H' H2 := m.grow J'.er.i.1.1 sm
    have J2 := J'.mv r2 (J'.er.mv (m := mX m as l) r2)
    obtain ⟨Γ2, js, tg, body⟩ := hs i d Γ' M' hd' w
    refine tg y σ' H2 J2.er rx _ fun σ3 H3 e3 r3 _ => ?_
    exact body H1 σ3 H3 (J2.mv r3 e3) _ (fun Γ4 M4 σ4 H4 o J4 => ⟨Γ4, M4, o, J4⟩) hr
  · have e0 : i = xs.length := by omega
    subst e0
    exact .inl ⟨stop, hn Γ' M' σ' H' (hd Γ' M' w) ⟨J'.h0, J'.fr, J'.i0, J'.nd, J'.nl, J'.r, fun a o n q => J'.st a o n (J1.st a o n q), J'.er, J'.hl, J'.len, J'.rows⟩⟩
/-- x = [[..] for ..], the same row for each; rest -/
theorem sq_newM {i : Nat} {O : Out} {wi : TI} {g : TG} {vs js : List Nat} {xs row : List D} (hj : ∀ j ∈ js, j ∈ vs) (hi : ItD1 m K wi Γ xs) (hu : xs.length ≤ 1000) (pr : ∀ d ∈ row, d = .non)
    (hs : ∀ m', Mo.Le m m' → ∀ d, d ∈ xs → ∃ Γ2, TgD m' K g (wipeG Γ vs) d js Γ2 ∧ EvL m' K te Γ2 row)
    (kk : ∀ as l H0, as.length = xs.length → SGm m K as l H0 tw (Γ.set i (some (.adr l))) (List.replicate xs.length row) (fun _ _ => False) O.rt) : SG m K (tSeq (tAsg (tLc wi g tYes te vs) (gName i)) tw) Γ O := fun σ H e E M => by
  refine hi σ H e _ fun J zs H1 hz r1 wk => fun Dl hD => ?_
  subst hz
  have e1 := e.mv r1
  have rN : m.R H1 (upd H1 Dl (.lst [])) := m.grow e1.i (same_new hD)
  have nF : ¬ m.F Dl := fun f => m.fa e1.i f hD
  have wkA : ∀ H', m.R H1 H' → (m.ext Dl).I H' → WkD (m.ext Dl) K J H' zs := fun H' r i => wk (m.ext Dl) (m.le_ext Dl) H' i r fun a f n => f.elim (fun f => absurd f n) fun z => z ▸ hD
  have nones : ∀ {F F' : Addr → Prop} {Ha Hb : Hp} {us : List V}, RpAll K F Ha us row → RpAll K F' Hb us row := fun {F F' Ha Hb us} h => by
    have go : ∀ (r : List D) (us : List V), (∀ d ∈ r, d = .non) → RpAll K F Ha us r → RpAll K F' Hb us r := fun r => by
      induction r with
      | nil => intro us _ h; cases h; exact .nil
      | cons d r ih =>
        intro us hp h
        cases h with
        | cons a t =>
          obtain rfl := hp d List.mem_cons_self
          cases a
          exact .cons .non (ih _ (fun x hx => hp x (List.mem_cons_of_mem _ hx)) t)
    exact go row us pr h
  refine ⟨fun i k H' => k = zs.length - i ∧ i ≤ zs.length ∧ m.R H1 H' ∧ ∃ as : List Addr, H' Dl = some (.lst (as.map V.ref)) ∧ as.length = i ∧ as.Nodup ∧ Dl ∉ as ∧ ∀ a ∈ as, H1 a = none ∧ ∃ us, H' a = some (.lst us) ∧ RpAll K m.F H' us row, ⟨_, rfl, Nat.zero_le _, rN, [], upd_same, rfl, .nil, by simp, fun a h => nomatch h⟩, ?_⟩
  rintro j k H' ⟨rfl, hle, r, as, hacc, hlen, nd, nl, hrow⟩
  have eX : ER (m.ext Dl) K Γ σ H' := e1.ext hD r (by rw [hacc]; exact fun z => nomatch z)
  have wkX := wkA H' r eX.i
  by_cases hlt : j < zs.length
  · refine .inr ⟨wkX.go j H' (m.refl _) hlt, fun H3 => m.R H1 H3 ∧ ∃ as : List Addr, H3 Dl = some (.lst (as.map V.ref)) ∧ as.length = j + 1 ∧ as.Nodup ∧ Dl ∉ as ∧ ∀ a ∈ as, H1 a = none ∧ ∃ us, H3 a = some (.lst us) ∧ RpAll K m.F H3 us row, fun H3 q => ⟨zs.length - (j + 1), by omega, rfl, hlt, q⟩, fun x H2 y => ?_⟩
    obtain ⟨r2, d, hd', rx⟩ := wkX.yld j H' x H2 (m.refl _) hlt y
    obtain ⟨Γ2, tg, el⟩ := hs (m.ext Dl) (m.le_ext Dl) d (List.mem_of_getElem? hd')
    refine tg x (wipe σ vs) H2 ((eX.mv r2).wipe vs) rx _ fun σ3 H3 e3 r3 w3 => ⟨by rw [w3 vs hj, wipe_wipe], ?_⟩
    show te σ3 H3 _
    refine el σ3 H3 e3 _ fun p H4 us r4 hp ru => ?_
    have r24 : m.R H' H4 := m.trans r2 (m.trans r3 r4)
    have kD : H4 Dl = some (.lst (as.map V.ref)) := m.keep r24 eX.i.1 Dl _ nF hacc
    have pD : p ≠ Dl := fun z => by rw [z, kD] at hp; cases hp
    have hp1 : H1 p = none := by
      cases z : H1 p with
      | none => rfl
      | some o => exact absurd hp (m.had e1.i (m.trans r r24) (by rw [z]; exact fun z => nomatch z))
    have ka : ∀ a ∈ as, ∃ us, H4 a = some (.lst us) ∧ RpAll K m.F H4 us row := fun a ha => by
      obtain ⟨h1, us, q1, q2⟩ := hrow a ha
      exact ⟨us, m.keep r24 eX.i.1 a _ (fun f => m.fa e1.i f h1) q1, nones q2⟩
    have pa : p ∉ as := fun z => by obtain ⟨us, q1, _⟩ := ka p z; rw [q1] at hp; cases hp
    have u1 : (upd H4 p (.lst us)) Dl = some (.lst (as.map V.ref)) := by rw [upd_ne (fun z => pD z.symm)]; exact kD
    have r5 : m.R H1 (upd H4 p (.lst us)) := m.chg e1.i (m.trans r r24) hp1
    refine ⟨as.map V.ref, u1, Nat.lt_of_lt_of_le (show (as.map V.ref).length < 1001 by rw [List.length_map]; omega) (by decide), m.chg e1.i r5 hD, as ++ [p], by rw [upd_same, List.map_append]; rfl, by rw [List.length_append, hlen]; rfl, ?_, ?_, fun a ha => ?_⟩
    · rw [List.nodup_append]
      exact ⟨nd, by simp, fun a ha b hb z => pa (by rw [← List.mem_singleton.mp hb, ← z]; exact ha)⟩
    · rw [List.mem_append, List.mem_singleton]
      exact fun z => z.elim nl fun z => pD z.symm
    · rcases List.mem_append.mp ha with q | q
      · obtain ⟨us', q1, q2⟩ := ka a q
        exact ⟨(hrow a q).1, us', by rw [upd_ne (fun z : a = Dl => nl (by rw [← z]; exact q)), upd_ne (fun z : a = p => pa (by rw [← z]; exact q))]; exact q1, nones q2⟩
      · rw [List.mem_singleton.mp q]
        exact ⟨hp1, us, by rw [upd_ne pD, upd_same], nones ru⟩
  · have e0 : j = zs.length := by omega
    subst e0
    refine .inl ⟨wkX.stop H' (m.refl _), ?_⟩
    have frH : ∀ a, H1 a = none → H a = none := fun a h => by
      cases z : H a with
      | none => rfl
      | some o => exact absurd h (m.had e.i r1 (by rw [z]; exact fun z => nomatch z))
    have rr : m.R H H' := m.trans r1 r
    have alive : ∀ a ∈ as, H' a ≠ none := fun a ha => by obtain ⟨_, us, q1, _⟩ := hrow a ha; rw [q1]; exact fun z => nomatch z
    have er : ER (mX m as Dl) K Γ σ H' := ⟨⟨⟨m.inv rr e.i, alive⟩, by rw [hacc]; exact fun z => nomatch z⟩, e.len, fun j d h => by
      obtain ⟨v, a1, a2⟩ := e.at_ j d h
      refine ⟨v, a1, a2.go fun a o n q => ⟨fun z => ?_, m.keep rr e.i a o n q⟩⟩
      rcases z with (z | z) | z
      · exact n z
      · rw [frH a (hrow a z).1] at q; cases q
      · rw [z, frH Dl hD] at q; cases q⟩
    change tw E (σ.set i (some (.ref Dl))) H'
    refine kk as Dl H hlen H' _ H' ⟨frH Dl hD, fun a ha => frH a (hrow a ha).1, e.i, nd, nl, rr, fun _ _ _ e => e, er.set i (.adr Dl), hacc, by rw [List.length_replicate, hlen], fun j a row' h1 h2 => ?_⟩ E (fun _ _ _ _ o => o.elim) fun d v H'' o r' rv => M.rt d v H'' o r' rv
    have e2 : row' = row := by
      rw [List.getElem?_replicate] at h2
      split at h2
      · injection h2 with h2; exact h2.symm
      · cases h2
    subst e2
    obtain ⟨_, us, q1, q2⟩ := hrow a (List.mem_of_getElem? h1)
    exact ⟨us, q1, nones q2⟩
end
end Tx

set_option Elab.async false
set_option linter.all false
set_option maxRecDepth 100000
set_option maxHeartbeats 1000000
set_option autoImplicit false
/-! A tuple that is known to have no dict of its own, so that its methods may be called: t.index(x). -/
namespace Tx
open PySem PySem.Spec PySem.Calls PyProof.Rows L2
def rTupF (K : PySem.W.Frag) : List V → Hp → VK → Prop := fun xs H Q => ∃ p ys, xs = [V.ref p] ∧ SqL K H p ys ∧ ∀ (l : Addr) (o : Obj), H l = none → o.cls = .type "tuple" → o.dict = none → Q (.ref l) (upd H l (.frz o (.tup ys)))
def tBMF (K : PySem.W.Frag) (r : V → List V → Hp → VK → Prop) (to : TE) (t : TA) : TE := fun σ H Q => to σ H fun x H1 => (∃ (p : Addr) (o : Obj) (u : HO), x = V.ref p ∧ H1 p = some (.frz o u) ∧ o.cls = .type "tuple" ∧ o.dict = none) ∧ t σ H1 fun xs H2 => r x xs H2 Q
def rIndexT (K : PySem.W.Frag) : V → List V → Hp → VK → Prop := fun x xs H Q => ∃ (a : Addr) (ys : List V) (y : V) (j : Nat) (z : V), x = V.ref a ∧ xs = [y] ∧ SqT K H a ys ∧ flatV y = true ∧ ys.all flatV = true ∧ ys[j]? = some z ∧ eqV z y = true ∧
  (∀ (m : Nat) (z' : V), m < j → ys[m]? = some z' → eqV z' y = false) ∧ Q (.int (j : Nat)) H
section
variable {X : Cx}
theorem cr_tupF : CallR X (.type "tuple") (rTupF X.K) := by
  intro pins s σ H xs us Q I r h
  obtain ⟨p, ys, rfl, hq, q⟩ := h
  obtain ⟨u, rfl, rx⟩ := Vals.one r
  cases rx
  obtain ⟨its, r', pl, hz⟩ := I.list hq
  have hlen := r'.length
  refine call_tuple_list pl.isList (fun h' kp => ?_) (by simp only [List.size_toArray] <;> omega)
  have I1 : Inv X pins σ H { s with heap := h' } := I.kept (t' := s.toks) kp
  have I2 : Inv X pins σ (upd H h'.objs.size (.frz { cls := .type "tuple", data := .seq its.toArray } (.tup ys))) { s with heap := h'.push { cls := .type "tuple", data := .seq its.toArray } } :=
    I1.laid (t' := s.toks) (fun b o e => Heap.get?_push_of_some _ e) (Nat.le_refl _) (show ObjOk X.prog X.w _ _ _ (.frz _ (.tup ys)) from ⟨Heap.get?_push_size _ rfl, hz, its, r', IsTup.new _ _⟩)
  exact ⟨.ref h'.objs.size, _, I2, rfl, q _ _ (I1.hok.fresh (Nat.le_refl _)) rfl rfl⟩
variable {o e : Expr} {es : List Expr} {to : TE} {t : TA} {name : Str} {apos cpos : Pos} {id : String} {r : V → List V → Hp → VK → Prop}
theorem pe_bmF (slot : Slot "tuple" name id) (hty : typeOf (.builtin id) = pure (.type "method_descriptor")) (hm : MtR X id r) (ho : PE X o to) (ha : PA X (e :: es) t)
    (hbase : attributeBase o name X.env (eval o X.env) = eval o X.env := by rfl)
    (hfew : ((backTo cpos (starEach (e :: es) X.env)).all (fun x => !x.1) && (backToKw cpos (keywordEach [] X.env)).all (fun x => x.1.isSome)
      && decide ((e :: es).length + ([] : List Keyword).length + (if ([] : List Keyword).isEmpty then 0 else 1) < 30)) = true := by rfl)
    (hline : (apos.endLine == cpos.line) = true := by rfl) (hs : starEach (e :: es) X.env = (false, eval e X.env) :: starEach es X.env := by rfl) (hplain : (backTo cpos (starEach es X.env)).any (·.1) = false := by rfl) :
    PE X (.Call (.Attribute o name apos) (e :: es) [] cpos) (tBMF X.K r to t) := by
  refine ⟨fun pins s σ H Q I h => ?_⟩
  refine wpAny_Call_method_late hbase hfew hline rfl (thn (ho.run pins s σ H _ I h) fun v s1 ⟨x, H1, I1, r1, ty, q1⟩ => ?_)
  have h12 : s1.TypeIs v "tuple" ∧ ∀ a, v = .ref a → ∃ ob, s1.heap.get? a = some ob ∧ ob.dict = none := by
    obtain ⟨p, ob, u, rfl, hp, hc, hd⟩ := ty
    cases r1
    have ge := (I1.hok p _ hp).1
    exact ⟨⟨ob, ge, hc⟩, fun a ea => by cases ea; exact ⟨ob, ge, hd⟩⟩
  refine ⟨"tuple", id, PySem.F.plainAttrs_tuple, slot, hty, h12.1, h12.2, ?_⟩
  have hA := ha.run cpos pins s1 σ H1 _ I1 q1
  rw [hs] at hA ⊢
  refine Calls.callWith_builtin (by show (false || (backTo cpos (starEach es X.env)).any (·.1)) = false; rw [hplain] <;> rfl) (Calls.evalArgs_plain ?_)
  exact thn hA fun us s2 ⟨vs, H2, I2, r2, q2⟩ => hm pins s2 σ H2 x vs v us Q I2 r1 r2 q2
theorem mt_indexT : MtR X "tuple.index" (rIndexT X.K) := by
  intro pins s σ H x xs v us Q I rx rxs h
  obtain ⟨a, ys, y, j, z, rfl, rfl, hs, fy, fys, hz, hzj, hno, q⟩ := h
  cases rx
  cases rxs with
  | cons ry rt =>
    rename_i uy ut
    cases rt
    obtain ⟨its, rv, ⟨⟨cls, dd, data, sl⟩, ho, hc, n, hd⟩, hlen⟩ := I.tuple hs
    simp only at hc hd
    subst hc hd
    obtain ⟨u, hu, ru⟩ := rv.get hz
    obtain ⟨hjl, hje⟩ := List.getElem?_eq_some_iff.mp hu
    have hvl := rv.length
    have hj : j < its.toArray.size := by simpa using hjl
    refine call_meets PySem.F.slot_tuple_index ⟨_, ho, rfl⟩ PySem.F.entry_tuple_index (PySem.F.args_tuple_index_2 _ _)
      (TI.tuple_indexAt a its.toArray n dd sl uy (eqU y) j hj ?_ ?_) ⟨ho, fun u' hu' => mem_eqAt ry fy rv fys u' (by simpa using hu'), ?_⟩
    · have e1 : its.toArray[j] = u := by simpa using hje
      rw [e1, eqU_of ru (flat_at fys hz)]
      exact hzj
    · intro m hm hmj
      have hml : m < its.length := by simpa using hm
      have hmy : m < ys.length := by omega
      have hy' : ys[m]? = some ys[m] := List.getElem?_eq_getElem hmy
      obtain ⟨u2, hu2, ru2⟩ := rv.get hy'
      obtain ⟨_, hme⟩ := List.getElem?_eq_some_iff.mp hu2
      have e1 : its.toArray[m] = u2 := by simpa using hme
      rw [e1, eqU_of ru2 (flat_at fys hy')]
      exact hno m _ hmj hy'
    · exact ⟨.int (j : Nat), H, I.tok _, ⟨_, rfl⟩, q⟩
end
section
variable {K : PySem.W.Frag} {m : Mo} {Γ : G} {ta tb te : TE} {ds : List D} {F : Addr → Prop} {H : Hp}
theorem Rp.ftpE {v : V} (r : Rp K F H v (.ftp ds)) : Rp K F H v (.tup ds) := by
  cases r with
  | ftp n h c e t => exact .tup n (.inr ⟨_, h⟩) t
theorem en_ftp (h : Ev1 m K te Γ (.ftp ds)) : Ev1 m K te Γ (.tup ds) := fun σ H e Q q => h σ H e _ fun v d H1 s r1 rv => by
  subst s
  exact q v _ H1 rfl r1 rv.ftpE
theorem c_tupF : Ca1 m K (rTupF K) [.lst ds] (.ftp ds) := fun vs H I rs Q q => by
  cases rs with
  | cons rv rs =>
    cases rs
    obtain ⟨a, vs, rfl, hA, ra⟩ := rv.lstE
    exact ⟨a, vs, rfl, SqL.of hA, fun l o hl hc hd => q _ _ _ rfl (m.grow I (same_new hl)) (.ftp (fun f => m.fa I f hl) upd_same hc hd (ra.mv fun b u n z => same_new hl b u z))⟩
theorem en_indexT {ns : List Nat} {t : Nat} (ha : Ev1 m K ta Γ (.ftp (ns.map dN))) (hb : Ev1 m K tb Γ (dN t)) (ht : t ∈ ns) : Ev1 m K (tBMF K (rIndexT K) ta (tCons tb tNil)) Γ (dN (ns.idxOf t)) := fun σ H e Q q =>
  ha σ H e _ fun v d H1 s r1 rv => by
    subst s
    cases rv with
    | ftp n hA hc hd rs =>
      rename_i a o vs
      refine ⟨⟨_, _, _, rfl, hA, hc, hd⟩, hb σ H1 (e.mv r1) _ fun y dy H2 s r2 ry => ?_⟩
      subst s
      obtain rfl := ry.intE
      have i1 := m.inv r1 e.i
      rw [show ns.map dN = (ns.map fun k : Nat => (k : Int)).map D.int from dN_ints ns] at rs
      have ev := rs.ints
      have hA2 := m.keep r2 i1 _ _ n hA
      have hlt := List.idxOf_lt_length_iff.mpr ht
      have at_ : ∀ j : Nat, vs[j]? = (ns[j]?).map fun k : Nat => V.int (k : Int) := fun j => by rw [ev, List.getElem?_map, List.getElem?_map, Option.map_map]; rfl
      refine ⟨_, vs, .int (t : Int), ns.idxOf t, .int (t : Int), rfl, rfl, .inl (.inr ⟨_, hA2⟩), rfl, ?_, ?_, ?_, fun j z hj hz => ?_, q _ _ H2 rfl (m.trans r1 r2) (.int _)⟩
      · rw [ev, List.all_eq_true]
        intro x hx
        obtain ⟨y, _, rfl⟩ := List.mem_map.mp hx
        rfl
      · rw [at_, List.getElem?_eq_getElem hlt, List.getElem_idxOf hlt]; rfl
      · simp [eqV]
      · rw [at_, List.getElem?_eq_getElem (by omega)] at hz
        injection hz with hz
        subst hz
        have : ns[j] ≠ t := ne_idx _ (by omega)
        simp [eqV]
        omega
end
end Tx

set_option Elab.async false
set_option linter.all false
set_option maxRecDepth 100000
set_option maxHeartbeats 1000000
set_option autoImplicit false
/-! A matrix of one's own whose cells begin as trees of tuples. -/
namespace Tx
open PySem L2
section
variable {K : PySem.W.Frag} {F : Addr → Prop} {H : Hp} {P : Addr → Prop}
theorem Rp.offP (hP : ∀ a, P a → ∃ vs, H a = some (.lst vs)) : ∀ (n : Nat) {d : D} {v : V}, ttree n d = true → Rp K F H v d → Rp K (fun a => F a ∨ P a) H v d
  | n, .non, _, _, .non => .non
  | n, .bl _, _, _, .bl b => .bl b
  | n, .int _, _, _, .int i => .int i
  | n, .str _, _, _, .str s => .str s
  | n + 1, .tup xs, _, ht, .tup nf h t => by
    refine .tup (fun z => z.elim nf fun z => ?_) h ?_
    · obtain ⟨vs, hl⟩ := hP _ z
      rcases h with h | ⟨o, h⟩ <;> (rw [hl] at h; cases h)
    · have ht' : ∀ x ∈ xs, ttree n x = true := List.all_eq_true.mp ht
      have go : ∀ {ys : List D} {ws : List V}, (∀ x ∈ ys, ttree n x = true) → RpAll K F H ws ys → RpAll K (fun a => F a ∨ P a) H ws ys := fun {ys} => by
        induction ys with
        | nil => intro ws _ r; cases r; exact .nil
        | cons y ys ih =>
          intro ws hy r
          cases r with
          | cons r1 r2 => exact .cons (Rp.offP hP n (hy y List.mem_cons_self) r1) (ih (fun x hx => hy x (List.mem_cons_of_mem _ hx)) r2)
      exact go ht' t
  | n + 1, .tup xs, _, ht, .ktup h t => by
    refine .ktup h ?_
    have ht' : ∀ x ∈ xs, ttree n x = true := List.all_eq_true.mp ht
    have go : ∀ {ys : List D} {ws : List V}, (∀ x ∈ ys, ttree n x = true) → RpAll K F H ws ys → RpAll K (fun a => F a ∨ P a) H ws ys := fun {ys} => by
      induction ys with
      | nil => intro ws _ r; cases r; exact .nil
      | cons y ys ih =>
        intro ws hy r
        cases r with
        | cons r1 r2 => exact .cons (Rp.offP hP n (hy y List.mem_cons_self) r1) (ih (fun x hx => hy x (List.mem_cons_of_mem _ hx)) r2)
    exact go ht' t
  | 0, .lst _, _, ht, _ => by cases ht
  | 0, .tup _, _, ht, _ => by cases ht
  | 0, .obj _ _ _, _, ht, _ => by cases ht
  | 0, .adr _, _, ht, _ => by cases ht
  | 0, .dic, _, ht, _ => by cases ht
  | 0, .frl _, _, ht, _ => by cases ht
  | 0, .ftp _, _, ht, _ => by cases ht
  | 0, .dct _ _ _, _, ht, _ => by cases ht
  | _ + 1, .dct _ _ _, _, ht, _ => by cases ht
  | _ + 1, .lst _, _, ht, _ => by cases ht
  | _ + 1, .obj _ _ _, _, ht, _ => by cases ht
  | _ + 1, .adr _, _, ht, _ => by cases ht
  | _ + 1, .dic, _, ht, _ => by cases ht
  | _ + 1, .frl _, _, ht, _ => by cases ht
  | _ + 1, .ftp _, _, ht, _ => by cases ht
theorem RpAll.offP (hP : ∀ a, P a → ∃ vs, H a = some (.lst vs)) (n : Nat) : ∀ {ds : List D} {vs : List V}, (∀ d ∈ ds, ttree n d = true) → RpAll K F H vs ds → RpAll K (fun a => F a ∨ P a) H vs ds
  | [], _, _, .nil => .nil
  | d :: ds, _, h, .cons r t => .cons (Rp.offP hP n (h d List.mem_cons_self) r) (RpAll.offP hP n (fun x hx => h x (List.mem_cons_of_mem _ hx)) t)
end
section
variable {m : Mo} {K : PySem.W.Frag} {Γ : G} {ts tw : TS} {te tk : TE}
theorem sq_newMT {i : Nat} {O : Out} {wi : TI} {g : TG} {vs js : List Nat} {xs row : List D} (hj : ∀ j ∈ js, j ∈ vs) (hi : ItD1 m K wi Γ xs) (hu : xs.length ≤ 1000) (n : Nat) (pr : ∀ d ∈ row, ttree n d = true)
    (hs : ∀ m', Mo.Le m m' → ∀ d, d ∈ xs → ∃ Γ2, TgD m' K g (wipeG Γ vs) d js Γ2 ∧ EvL m' K te Γ2 row)
    (kk : ∀ as l H0, as.length = xs.length → SGm m K as l H0 tw (Γ.set i (some (.adr l))) (List.replicate xs.length row) (fun _ _ => False) O.rt) : SG m K (tSeq (tAsg (tLc wi g tYes te vs) (gName i)) tw) Γ O := fun σ H e E M => by
  refine hi σ H e _ fun J zs H1 hz r1 wk => fun Dl hD => ?_
  subst hz
  have e1 := e.mv r1
  have rN : m.R H1 (upd H1 Dl (.lst [])) := m.grow e1.i (same_new hD)
  have nF : ¬ m.F Dl := fun f => m.fa e1.i f hD
  have wkA : ∀ H', m.R H1 H' → (m.ext Dl).I H' → WkD (m.ext Dl) K J H' zs := fun H' r i => wk (m.ext Dl) (m.le_ext Dl) H' i r fun a f n => f.elim (fun f => absurd f n) fun z => z ▸ hD
  refine ⟨fun i k H' => k = zs.length - i ∧ i ≤ zs.length ∧ m.R H1 H' ∧ ∃ as : List Addr, H' Dl = some (.lst (as.map V.ref)) ∧ as.length = i ∧ as.Nodup ∧ Dl ∉ as ∧ ∀ a ∈ as, H1 a = none ∧ ∃ us, H' a = some (.lst us) ∧ RpAll K m.F H' us row, ⟨_, rfl, Nat.zero_le _, rN, [], upd_same, rfl, .nil, by simp, fun a h => nomatch h⟩, ?_⟩
  rintro j k H' ⟨rfl, hle, r, as, hacc, hlen, nd, nl, hrow⟩
  have eX : ER (m.ext Dl) K Γ σ H' := e1.ext hD r (by rw [hacc]; exact fun z => nomatch z)
  have wkX := wkA H' r eX.i
  by_cases hlt : j < zs.length
  · refine .inr ⟨wkX.go j H' (m.refl _) hlt, fun H3 => m.R H1 H3 ∧ ∃ as : List Addr, H3 Dl = some (.lst (as.map V.ref)) ∧ as.length = j + 1 ∧ as.Nodup ∧ Dl ∉ as ∧ ∀ a ∈ as, H1 a = none ∧ ∃ us, H3 a = some (.lst us) ∧ RpAll K m.F H3 us row, fun H3 q => ⟨zs.length - (j + 1), by omega, rfl, hlt, q⟩, fun x H2 y => ?_⟩
    obtain ⟨r2, d, hd', rx⟩ := wkX.yld j H' x H2 (m.refl _) hlt y
    obtain ⟨Γ2, tg, el⟩ := hs (m.ext Dl) (m.le_ext Dl) d (List.mem_of_getElem? hd')
    refine tg x (wipe σ vs) H2 ((eX.mv r2).wipe vs) rx _ fun σ3 H3 e3 r3 w3 => ⟨by rw [w3 vs hj, wipe_wipe], ?_⟩
    show te σ3 H3 _
    refine el σ3 H3 e3 _ fun p H4 us r4 hp ru => ?_
    have r24 : m.R H' H4 := m.trans r2 (m.trans r3 r4)
    have kD : H4 Dl = some (.lst (as.map V.ref)) := m.keep r24 eX.i.1 Dl _ nF hacc
    have pD : p ≠ Dl := fun z => by rw [z, kD] at hp; cases hp
    have hp1 : H1 p = none := by
      cases z : H1 p with
      | none => rfl
      | some o => exact absurd hp (m.had e1.i (m.trans r r24) (by rw [z]; exact fun z => nomatch z))
    have ka : ∀ a ∈ as, ∃ us, H4 a = some (.lst us) ∧ RpAll K m.F H4 us row := fun a ha => by
      obtain ⟨h1, us, q1, q2⟩ := hrow a ha
      exact ⟨us, m.keep r24 eX.i.1 a _ (fun f => m.fa e1.i f h1) q1, q2.mv (m.keep r24 eX.i.1)⟩
    have pa : p ∉ as := fun z => by obtain ⟨us, q1, _⟩ := ka p z; rw [q1] at hp; cases hp
    have u1 : (upd H4 p (.lst us)) Dl = some (.lst (as.map V.ref)) := by rw [upd_ne (fun z => pD z.symm)]; exact kD
    have mvU : ∀ {ws : List V}, RpAll K m.F H4 ws row → RpAll K m.F (upd (upd H4 p (.lst us)) Dl (.lst (as.map V.ref ++ [.ref p]))) ws row := fun {ws} h => by
      have h2 := RpAll.offP (P := fun a => a = Dl) (fun a z => ⟨_, z ▸ kD⟩) n pr h
      exact Rp.goAll (F := fun a => m.F a ∨ a = Dl) (fun a o nn q => ⟨fun z => nn (.inl z), by rw [upd_ne (fun z => nn (.inr z)), upd_ne (fun z => by rw [z, hp] at q; cases q)]; exact q⟩) h2
    have r5 : m.R H1 (upd H4 p (.lst us)) := m.chg e1.i (m.trans r r24) hp1
    refine ⟨as.map V.ref, u1, Nat.lt_of_lt_of_le (show (as.map V.ref).length < 1001 by rw [List.length_map]; omega) (by decide), m.chg e1.i r5 hD, as ++ [p], by rw [upd_same, List.map_append]; rfl, by rw [List.length_append, hlen]; rfl, ?_, ?_, fun a ha => ?_⟩
    · rw [List.nodup_append]
      exact ⟨nd, by simp, fun a ha b hb z => pa (by rw [← List.mem_singleton.mp hb, ← z]; exact ha)⟩
    · rw [List.mem_append, List.mem_singleton]
      exact fun z => z.elim nl fun z => pD z.symm
    · rcases List.mem_append.mp ha with q | q
      · obtain ⟨us', q1, q2⟩ := ka a q
        exact ⟨(hrow a q).1, us', by rw [upd_ne (fun z : a = Dl => nl (by rw [← z]; exact q)), upd_ne (fun z : a = p => pa (by rw [← z]; exact q))]; exact q1, mvU q2⟩
      · rw [List.mem_singleton.mp q]
        exact ⟨hp1, us, by rw [upd_ne pD, upd_same], mvU (ru.weak fun a f => .inl f)⟩
  · have e0 : j = zs.length := by omega
    subst e0
    refine .inl ⟨wkX.stop H' (m.refl _), ?_⟩
    have frH : ∀ a, H1 a = none → H a = none := fun a h => by
      cases z : H a with
      | none => rfl
      | some o => exact absurd h (m.had e.i r1 (by rw [z]; exact fun z => nomatch z))
    have rr : m.R H H' := m.trans r1 r
    have alive : ∀ a ∈ as, H' a ≠ none := fun a ha => by obtain ⟨_, us, q1, _⟩ := hrow a ha; rw [q1]; exact fun z => nomatch z
    have er : ER (mX m as Dl) K Γ σ H' := ⟨⟨⟨m.inv rr e.i, alive⟩, by rw [hacc]; exact fun z => nomatch z⟩, e.len, fun j d h => by
      obtain ⟨v, a1, a2⟩ := e.at_ j d h
      refine ⟨v, a1, a2.go fun a o n q => ⟨fun z => ?_, m.keep rr e.i a o n q⟩⟩
      rcases z with (z | z) | z
      · exact n z
      · rw [frH a (hrow a z).1] at q; cases q
      · rw [z, frH Dl hD] at q; cases q⟩
    change tw E (σ.set i (some (.ref Dl))) H'
    refine kk as Dl H hlen H' _ H' ⟨frH Dl hD, fun a ha => frH a (hrow a ha).1, e.i, nd, nl, rr, fun _ _ _ e => e, er.set i (.adr Dl), hacc, by rw [List.length_replicate, hlen], fun j a row' h1 h2 => ?_⟩ E (fun _ _ _ _ o => o.elim) fun d v H'' o r' rv => M.rt d v H'' o r' rv
    have e2 : row' = row := by
      rw [List.getElem?_replicate] at h2
      split at h2
      · injection h2 with h2; exact h2.symm
      · cases h2
    subst e2
    obtain ⟨_, us, q1, q2⟩ := hrow a (List.mem_of_getElem? h1)
    have h3 := RpAll.offP (P := fun a => a ∈ as ∨ a = Dl) (fun b z => z.elim (fun z => by obtain ⟨_, us2, k1, _⟩ := hrow b z; exact ⟨us2, k1⟩) fun z => ⟨_, z ▸ hacc⟩) n pr q2
    exact ⟨us, q1, h3.weak fun b z => z.elim (fun z => z.elim .inl fun z => .inr (.inl z)) fun z => .inr (.inr z)⟩
end
end Tx

set_option Elab.async false
set_option linter.all false
set_option maxRecDepth 100000
set_option maxHeartbeats 1000000
set_option autoImplicit false
/-! A dict of one's own whose keys are numbers and whose values are True: its keys, exactly; list(d), sorted(d), loops beside it. -/
namespace Tx
open PySem PySem.Spec PyProof.Rows L2
theorem kv_old {k : Nat} {ks : List Nat} (h : k ∈ ks) : putK (kvT ks) (.inl (k : Int)) (.bl true) = kvT ks := by
  have e : ((kvT ks).any fun kv => decide (kv.1 = (.inl (k : Int) : Key))) = true := by rw [valV_any, kv_val, decide_eq_true h]
  unfold putK
  rw [if_pos e]
  unfold kvT
  rw [List.map_map]
  refine List.map_congr_left fun j _ => ?_
  show (if (Sum.inl (j : Int) : Key) = .inl (k : Int) then ((.inl (j : Int) : Key), V.bl true) else (.inl (j : Int), .bl true)) = _
  split <;> rfl
def setW (m : Mo) (K : PySem.W.Frag) (l : Addr) : OwnW m K l (List Nat) where
  at_ := fun H ks => H l = some (.dK (kvT ks))
  keep := fun a e _ => e.trans a
  view := fun _ => .adr l
  see := fun _ _ => .adr l
  some_ := fun a => ⟨_, a⟩
def sMo (m : Mo) (l : Addr) (ks : List Nat) : Mo where
  F := (m.ext l).F
  R := m.R
  I := fun H => (m.ext l).I H ∧ ¬ m.F l ∧ H l = some (.dK (kvT ks))
  refl := m.refl
  trans := m.trans
  keep := fun r i a o n e => (m.ext l).keep r i.1 a o n e
  grow := fun i r => m.grow i.1.1 r
  inv := fun r i => ⟨(m.ext l).inv r i.1, i.2.1, m.keep r i.1.1 l _ i.2.1 i.2.2⟩
  fa := fun i f => (m.ext l).fa i.1 f
  chg := fun i r h => m.chg i.1.1 r h
  had := fun i r n => m.had i.1.1 r n
section
variable {K : PySem.W.Frag} {m : Mo} {Γ : G} {te tv tk : TE} {ts tw : TS} {d : D} {l : Addr} {H0 : Hp} {ks : List Nat}
theorem es_up {σ : L2.St} {H : Hp} (nl : ¬ m.F l) (e : ER (m.ext l) K Γ σ H) (a : H l = some (.dK (kvT ks))) : ER (sMo m l ks) K Γ σ H := ⟨⟨e.i, nl, a⟩, e.len, e.at_⟩
theorem sw_readS {O : Out} (k : SG (sMo m l ks) K ts Γ { nx := fun _ => False, rt := O.rt }) : SGw (setW m K l) H0 ts Γ ks { nx := fun _ _ => False, rt := O.rt } := fun h0 i0 σ H r e a E M =>
  k σ H (es_up (nFl (m := m) h0 i0) e a) E ⟨fun _ _ _ o => o.elim, fun d v H' o r' rv => M.rt d v H' o (m.trans r r') (rv.weak fun a f => .inl f), fun _ _ _ o => o.elim, fun _ _ _ o => o.elim⟩
/-- list(d) -/
theorem en_slist {i : Nat} (hi : Γ[i]? = some (some (.adr l))) : Ev1 (sMo m l ks) K (tCB rListD (tCons (tVar i) tNil)) Γ (lstN ks) := fun σ H e Q q => by
  obtain ⟨u, a1, a2⟩ := e.at_ i _ hi
  obtain rfl := a2.adrE
  refine ⟨_, a1, l, kvT ks, rfl, e.i.2.2, fun p hp => ?_⟩
  have eq : ((kvT ks).map fun kv => kV kv.1) = (ks.map fun k : Nat => (k : Int)).map V.int := by
    unfold kvT
    rw [List.map_map, List.map_map]
    rfl
  rw [eq]
  refine q _ _ _ rfl (m.grow e.i.1.1 (same_new hp)) ?_
  rw [show lstN ks = D.lst ((ks.map fun k : Nat => (k : Int)).map D.int) from congrArg D.lst (dN_ints ks)]
  exact .lst (fun f => (sMo m l ks).fa e.i f hp) upd_same (rp_intsL _ _ _)
/-- sorted(d) -/
theorem en_ssort {i : Nat} (hi : Γ[i]? = some (some (.adr l))) (h64 : ks.length < 64) : Ev1 (sMo m l ks) K (tCB rSortN (tCons (tVar i) tNil)) Γ (.lst ((srt (ks.map fun k : Nat => (k : Int))).map D.int)) := fun σ H e Q q => by
  obtain ⟨u, a1, a2⟩ := e.at_ i _ hi
  obtain rfl := a2.adrE
  refine ⟨_, a1, l, kvT ks, ks.map fun k : Nat => (k : Int), rfl, e.i.2.2, by unfold kvT; rw [List.map_map, List.map_map]; rfl, by rw [List.length_map]; exact h64, fun ns p hp up hn => ?_⟩
  have e1 : ns = srt (ks.map fun k : Nat => (k : Int)) := srt_of hp up
  subst e1
  exact q _ _ _ rfl (m.grow e.i.1.1 (same_new hn)) (.lst (fun f => (sMo m l ks).fa e.i f hn) upd_same (rp_intsL _ _ _))
/-- d[k] = True -/
theorem sw_putS {i : Nat} {k : Nat} {O : OutW (List Nat)} (hi : Γ[i]? = some (some (.adr l))) (hk : Ev1 (m.ext l) K tk Γ (dN k)) (hz : ks.length < 1000) (kn : O.nx Γ (if k ∈ ks then ks else ks ++ [k])) : SGw (setW m K l) H0 (tAsg (tC (.bl true)) (gSub (tVar i) tk rSetD)) Γ ks O := fun h0 i0 σ H r e a E M => by
  obtain ⟨u, h1, h2⟩ := e.at_ i _ hi
  obtain rfl := h2.adrE
  refine ⟨_, h1, hk σ H e _ fun y dy H2 s2 r2 ry => ?_⟩
  subst s2
  obtain rfl := ry.intE
  have e2 := e.mv (m := m.ext l) r2
  have nl := nFl (m := m) h0 i0
  have at2 : H2 l = some (.dK (kvT ks)) := m.keep r2 e.i.1 l _ nl a
  have rr := m.trans r r2
  have r3 : m.R H0 (upd H2 l (.dK (putK (kvT ks) (.inl (k : Int)) (.bl true)))) := m.chg i0 rr h0
  have mv : ∀ a o, ¬ (m.ext l).F a → H2 a = some o → (upd H2 l (.dK (putK (kvT ks) (.inl (k : Int)) (.bl true)))) a = some o := fun a o n q => by rw [upd_ne (fun z => n (.inr z))]; exact q
  have e3 : ER (m.ext l) K Γ σ (upd H2 l (.dK (putK (kvT ks) (.inl (k : Int)) (.bl true)))) := ⟨⟨m.inv r3 i0, by rw [upd_same]; exact fun z => nomatch z⟩, e2.len, fun j d h => let ⟨v, h1, h2⟩ := e2.at_ j d h; ⟨v, h1, h2.go fun a o n q => ⟨n, mv a o n q⟩⟩⟩
  refine ⟨l, _, rfl, DPut.k (k := .inl (k : Int)) at2 (Nat.lt_of_lt_of_le (show (kvT ks).length < 1000 by unfold kvT; rw [List.length_map]; exact hz) (by decide)), ?_⟩
  refine M.nx Γ _ σ _ kn r3 (fun a o n q => mv a o n ((m.ext l).keep r2 e.i a o n q)) e3 ?_
  show (upd H2 l (.dK (putK (kvT ks) (.inl (k : Int)) (.bl true)))) l = some (.dK (kvT (if k ∈ ks then ks else ks ++ [k])))
  rw [upd_same]
  by_cases z : k ∈ ks
  · rw [if_pos z, kv_old z]
  · rw [if_neg z, kv_put z]
/-- a loop whose source may read the dict -/
theorem sw_forS {wi : TI} {g : TG} {xs : List D} {O : OutW (List Nat)} (hi : ItX (sMo m l ks) K wi Γ xs) (V : Nat → G → List Nat → Prop) (hv : V 0 Γ ks)
    (hs : ∀ i d Γ' x', xs[i]? = some d → V i Γ' x' → ∃ Γ2 js, TgD (m.ext l) K g Γ' d js Γ2 ∧ SGw (setW m K l) H0 ts Γ2 x' { nx := V (i + 1), rt := O.rt }) (hd : ∀ Γ' x', V xs.length Γ' x' → O.nx Γ' x') : SGw (setW m K l) H0 (tFor wi g ts) Γ ks O := fun h0 i0 σ H r e a E M => by
  refine hi σ H (es_up (nFl (m := m) h0 i0) e a) _ fun J H1 r1 wk => ?_
  have r01 : m.R H0 H1 := m.trans r r1
  refine ⟨fun i k σ' H' => k = xs.length - i ∧ i ≤ xs.length ∧ m.R H0 H' ∧ StK (m.ext l) H1 H' ∧ ∃ Γ' x', V i Γ' x' ∧ ER (m.ext l) K Γ' σ' H' ∧ (setW m K l).at_ H' x', ⟨_, rfl, Nat.zero_le _, r01, fun _ _ _ e => e, Γ, ks, hv, e.mv (m := m.ext l) r1, ow_mv (W := setW m K l) h0 i0 e a r1⟩, ?_⟩
  rintro i k σ' H' ⟨rfl, hle, r', st, Γ', x', w, e', a'⟩
  obtain ⟨go, stop, yld⟩ := wk H' st
  by_cases hlt : i < xs.length
  · refine .inr ⟨go i hlt, fun σ3 H3 => m.R H0 H3 ∧ StK (m.ext l) H1 H3 ∧ ∃ Γ3 x3, V (i + 1) Γ3 x3 ∧ ER (m.ext l) K Γ3 σ3 H3 ∧ (setW m K l).at_ H3 x3, fun σ3 H3 q => ⟨xs.length - (i + 1), by omega, rfl, hlt, q⟩, fun y H2 yy => ?_⟩
    obtain ⟨e2, d, hd', rx⟩ := yld i y H2 hlt yy
    subst e2
    obtain ⟨Γ2, js, tg, body⟩ := hs i d Γ' x' hd' w
    refine tg y σ' H2 e' rx _ fun σ3 H3 e3 r3 _ => ?_
    have st3 : StK (m.ext l) H1 H3 := fun a o n q => (m.ext l).keep r3 e'.i a o n (st a o n q)
    exact body h0 i0 σ3 H3 (m.trans r' r3) e3 (ow_mv (W := setW m K l) h0 i0 e' a' r3) _ ⟨fun Γ4 x4 σ4 H4 o r4 st4 e4 a4 => ⟨r4, st3.trans st4, Γ4, x4, o, e4, a4⟩, fun d v H4 o r4 rv => M.rt d v H4 o r4 rv⟩
  · have e0 : i = xs.length := by omega
    subst e0
    exact .inl ⟨stop, M.nx Γ' x' σ' H' (hd Γ' x' w) r' (fun a o n q => st a o n ((m.ext l).keep r1 e.i a o n q)) e' a'⟩
/-- d = {k: True}; rest -/
theorem sq_newS {i j k : Nat} {O : Out} (hk : Γ[j]? = some (some (dN k))) (kk : ∀ l H0, SGw (setW m K l) H0 tw (Γ.set i (some (.adr l))) [k] { nx := fun _ _ => False, rt := O.rt }) : SG m K (tSeq (tAsg (tDisp [(tVar j, tC (.bl true))]) (gName i)) tw) Γ O := fun σ H e E M => by
  intro ld hld
  obtain ⟨u, a1, a2⟩ := e.at_ j _ hk
  obtain rfl := a2.intE
  refine ⟨_, a1, upd_same, [(.inl (k : Int), .bl true)], rfl, (show 1 ≤ 15 by decide), ?_⟩
  have eqd : upd (upd H ld (.dK [])) ld (.dK (mergeK [] [(.inl (k : Int), .bl true)])) = upd H ld (.dK (kvT [k])) := by
    funext a
    by_cases z : a = ld
    · subst z; rw [upd_same, upd_same]; rfl
    · rw [upd_ne z, upd_ne z, upd_ne z]
  rw [eqd]
  have rD : m.R H (upd H ld (.dK (kvT [k]))) := m.grow e.i (same_new hld)
  have eD : ER (m.ext ld) K Γ σ (upd H ld (.dK (kvT [k]))) := e.ext hld rD (by rw [upd_same]; exact fun z => nomatch z)
  exact kk ld H hld e.i _ _ rD (eD.set i (.adr ld)) upd_same E ⟨fun _ _ _ _ o => o.elim, fun d v H' o r rv => M.rt d v H' o r rv⟩
end
end Tx

set_option Elab.async false
set_option linter.all false
set_option maxRecDepth 100000
set_option maxHeartbeats 1000000
set_option autoImplicit false
/-! x not in o by an own __contains__; a dict of numbers that begins empty. -/
namespace Tx
open PySem PySem.Spec PyProof.Rows L2
def rNinO (C : Addr) (sp : Sp) : R2 := fun x y H Q => ∃ (a dx : Addr) (fs : List (Str × V)), y = .ref a ∧ H a = some (.ins C dx fs) ∧ sp [.ref a, x] H (fun v H' => ∃ b : Bool, v = .bl b ∧ Q (.bl (!b)) H') E0
theorem op_ninO {X : Cx} {C f : Addr} {n : Nat} {sp : Sp} (O : Own X C "__contains__" n f sp) (hr : Room n X.A) : OpR X (compareOp .NotIn) (rNinO C sp) := by
  intro pins s σ H x y v u Q I rx ry h
  obtain ⟨a, dx, fs, rfl, ha, hsp⟩ := h
  cases ry
  obtain ⟨fd, ps, F, hb⟩ := O.ok
  obtain ⟨mA, J, _⟩ := ins_get I.hok ha
  obtain ⟨od, J, _⟩ := J.look
  show wpAny _ _ (do return Value.bool (!(← contains (.ref a) v))) _ _ s
  refine wpAny_bind (in_own I.kIn J O.at_ O.fn (wpAny_mono (run_own F hb hr rfl I (rr2 a rx) hsp) (fun w s' hv => ?_) fun _ _ z => z))
  obtain ⟨w', H', I', rw', b, e, q⟩ := hv
  subst e
  cases rw'
  exact ⟨b, rfl, wpAny_pure ⟨.bl (!b), H', I', rfl, q⟩⟩
theorem op_ninK {X : Cx} {C : Addr} {n k : Nat} {sp : Sp} (O : OwnK X.prog X.w X.K X.mg X.base C "__contains__" n sp) (hr : Room k X.A) (hk : n ≤ k) : OpR X (compareOp .NotIn) (rNinO C sp) := by
  obtain ⟨f, h1, h2, h3⟩ := O.ex
  exact op_ninO (f := f) ⟨h1, h2, h3⟩ (hr.mono hk)
section
variable {K : PySem.W.Frag} {m : Mo} {Γ : G} {tw : TS} {C : Addr} {ns : List Str} {xs : List D} {x : D} {pre : List D → Prop} {Sf : List D → D → Prop}
theorem o_ninOS {b : Bool} (hp : pre [.obj C ns xs, x]) (hn : ∀ d, Sf [.obj C ns xs, x] d → d = .bl b) : Op1 m K (rNinO C (spS K pre Sf)) x (.obj C ns xs) (.bl (!b)) := fun vx vo H I rx rv Q q => by
  obtain ⟨a, dx, fs, rfl, ha, _⟩ := rv.ins
  exact ⟨a, dx, fs, rfl, ha, m.F, [.obj C ns xs, x], fun a f => m.fa I f, .cons rv (.cons rx .nil), hp, fun v d H' sd sm rv => ⟨b, (by rw [hn d sd] at rv; exact rv.blE), q _ _ H' rfl (m.grow I sm) (.bl (!b))⟩⟩
theorem sq_newE {i : Nat} {O : Out} (kk : ∀ l H0, SGw (setW m K l) H0 tw (Γ.set i (some (.adr l))) [] { nx := fun _ _ => False, rt := O.rt }) : SG m K (tSeq (tAsg tDNewK (gName i)) tw) Γ O := fun σ H e E M l hl => by
  have rN : m.R H (upd H l (.dK [])) := m.grow e.i (same_new hl)
  have eX : ER (m.ext l) K Γ σ (upd H l (.dK [])) := e.ext hl rN (by rw [upd_same]; exact fun z => nomatch z)
  exact kk l H hl e.i _ _ rN (eX.set i (.adr l)) upd_same E ⟨fun _ _ _ _ o => o.elim, fun d v H' o r rv => M.rt d v H' o r rv⟩
theorem le_sMo (m : Mo) (l : Addr) (ks : List Nat) : m.Le (sMo m l ks) := ⟨rfl, fun _ h => .inl h, fun _ h => h.1.1⟩
end
end Tx

set_option Elab.async false
set_option linter.all false
set_option maxRecDepth 100000
set_option maxHeartbeats 1000000
set_option autoImplicit false
/-! sorted({.. for .. for ..}): few different numbers, though many may come. -/
namespace Tx
open PySem L2 TxS2
/-- a set of n numbers, all among L -/
def Few (L : List Int) (S : Int → Bool) (n : Nat) : Prop := ∃ Sl : List Int, Sl.Nodup ∧ (∀ j ∈ Sl, j ∈ L) ∧ n ≤ Sl.length ∧ ∀ j ∈ Sl, S j = true
theorem few_nil {L : List Int} {S : Int → Bool} : Few L S 0 := ⟨[], .nil, fun j h => (nomatch h), Nat.zero_le _, fun j h => (nomatch h)⟩
theorem few_lt {L : List Int} {S : Int → Bool} {n : Nat} (hL : L.length < 60) (f : Few L S n) : n < 60 := by
  obtain ⟨Sl, h1, h2, h3, _⟩ := f
  have := List.Nodup.length_le_of_subset h1 (fun x hx => h2 x hx : ∀ x, x ∈ Sl → x ∈ L)
  omega
theorem few_add {L : List Int} {S : Int → Bool} {n : Nat} {k : Int} (f : Few L S n) (hk : k ∈ L) : Few L (fun j => S j || decide (j = k)) (if S k = true then n else n + 1) := by
  obtain ⟨Sl, h1, h2, h3, h4⟩ := f
  by_cases z : S k = true
  · rw [if_pos z]
    exact ⟨Sl, h1, h2, h3, fun j hj => by show (S j || _) = true; rw [h4 j hj]; rfl⟩
  · rw [if_neg z]
    refine ⟨Sl ++ [k], ?_, fun j hj => ?_, by rw [List.length_append]; exact Nat.add_le_add_right h3 1, fun j hj => ?_⟩
    · rw [List.nodup_append]
      exact ⟨h1, by simp, fun a ha b hb e => z (by rw [← List.mem_singleton.mp hb, ← e]; exact h4 a ha)⟩
    · rcases List.mem_append.mp hj with q | q
      · exact h2 j q
      · rw [List.mem_singleton.mp q]; exact hk
    · rcases List.mem_append.mp hj with q | q
      · show (S j || _) = true
        rw [h4 j q]; rfl
      · rw [List.mem_singleton.mp q]; simp
section
variable {K : PySem.W.Frag} {m : Mo} {Γ : G} {te : TE} {tt tt1 : TT} {w : World}
theorem en_sortSet2Q {α : Type} {wi wi1 : TI} {g g1 : TG} {vs vs1 : List Nat} {xs : List α} {js js1 : List Nat} (enc : α → D) (ys : α → List Int) (ye : α → List D) (hly : ∀ x, (ye x).length = (ys x).length) (hj : ∀ j ∈ js, j ∈ vs) (hj1 : ∀ j ∈ js1, j ∈ vs1) (hi : ItD1 m K wi Γ (xs.map enc)) (L : List Int) (hL : L.length < 60) (hu : ∀ x ∈ xs, ∀ y ∈ ys x, y ∈ L)
    (hs : ∀ m', Mo.Le m m' → ∀ x, x ∈ xs → ∃ Γ2, TgD m' K g (wipeG Γ vs) (enc x) js Γ2 ∧ EvT1 m' K tt Γ2 true ∧ ItX m' K wi1 Γ2 (ye x) ∧ ∀ (j : Nat) (d : D) (y : Int), (ye x)[j]? = some d → (ys x)[j]? = some y → ∃ Γ3, TgD m' K g1 (wipeG Γ2 vs1) d js1 Γ3 ∧ EvT1 m' K tt1 Γ3 true ∧ Ev1 m' K te Γ3 (.int y)) :
    EvN m K (tCB (rSortedSet w) (tCons (tSetI2 w wi g tt wi1 g1 tt1 te vs vs1) tNil)) Γ (fun d => ∃ ns : List Int, d = .lst (ns.map D.int) ∧ ns.Pairwise (· < ·) ∧ ∀ k, k ∈ ns ↔ k ∈ xs.flatMap ys) := fun σ H e Q q => by
  refine (show tSetI2 w wi g tt wi1 g1 tt1 te vs vs1 σ H (fun x H2 => rSortedSet w [x] H2 Q) from ?_)
  refine hi σ H e _ fun J zs H1 hz r1 wk => fun Dl hD => ?_
  subst hz
  have e1 := e.mv r1
  have nF : ¬ m.F Dl := fun f => m.fa e1.i f hD
  have rN : m.R H1 (upd H1 Dl (SetO w Dl (fun _ => false) 0)) := m.grow e1.i (same_new hD)
  have wkA : ∀ H', m.R H1 H' → (m.ext Dl).I H' → WkD (m.ext Dl) K J H' (xs.map enc) := fun H' r i => wk (m.ext Dl) (m.le_ext Dl) H' i r fun a f n => f.elim (fun f => absurd f n) fun z => z ▸ hD
  have hlen : (xs.map enc).length = xs.length := List.length_map _
  refine ⟨fun i k H' => k = xs.length - i ∧ i ≤ xs.length ∧ m.R H1 H' ∧ ∃ S n, H' Dl = some (SetO w Dl S n) ∧ Few L S n ∧ ∀ j, S j = true ↔ j ∈ (xs.take i).flatMap ys, ⟨_, rfl, Nat.zero_le _, rN, _, 0, upd_same, few_nil, fun j => by simp⟩, ?_⟩
  rintro i k H' ⟨rfl, hle, r, S, n, hS, hn, hm⟩
  have eX : ER (m.ext Dl) K Γ σ H' := e1.ext hD r (by rw [hS]; exact fun z => nomatch z)
  have wkX := wkA H' r eX.i
  by_cases hlt : i < xs.length
  · refine .inr ⟨wkX.go i H' (m.refl _) (by rw [hlen]; exact hlt), fun H3 => m.R H1 H3 ∧ ∃ S n, H3 Dl = some (SetO w Dl S n) ∧ Few L S n ∧ ∀ j, S j = true ↔ j ∈ (xs.take (i + 1)).flatMap ys, fun H3 z => ⟨xs.length - (i + 1), by omega, rfl, hlt, z⟩, fun x H2 y => ?_⟩
    obtain ⟨r2, d, hd, rx⟩ := wkX.yld i H' x H2 (m.refl _) (by rw [hlen]; exact hlt) y
    rw [List.getElem?_map, List.getElem?_eq_getElem hlt] at hd
    injection hd with hd
    subst hd
    obtain ⟨Γ2, tg, tst, itx, el⟩ := hs (m.ext Dl) (m.le_ext Dl) xs[i] (List.getElem_mem hlt)
    have tk : xs.take (i + 1) = xs.take i ++ [xs[i]] := take_one (List.getElem?_eq_getElem hlt)
    have tf : (xs.take (i + 1)).flatMap ys = (xs.take i).flatMap ys ++ ys xs[i] := by rw [tk, List.flatMap_append]; simp
    refine tg x (wipe σ vs) H2 ((eX.mv r2).wipe vs) rx _ fun σ3 H3 e3 r3 w3 => ⟨by rw [w3 vs hj, wipe_wipe], ?_⟩
    refine tst σ3 H3 e3 _ fun b H4 tb r4 => ?_
    subst tb
    rw [if_pos rfl]
    have e4 := e3.mv r4
    refine itx σ3 H4 e4 _ fun J1 H6 r6 wk1 => ?_
    have e6 := e4.mv r6
    have r16 : m.R H1 H6 := m.trans r (m.trans r2 (m.trans r3 (m.trans r4 r6)))
    have hS6 : H6 Dl = some (SetO w Dl S n) := m.keep (m.trans r2 (m.trans r3 (m.trans r4 r6))) eX.i.1 Dl _ nF hS
    refine ⟨fun j k2 H7 => k2 = (ys xs[i]).length - j ∧ j ≤ (ys xs[i]).length ∧ m.R H1 H7 ∧ StK (m.ext Dl) H6 H7 ∧ ∃ S n, H7 Dl = some (SetO w Dl S n) ∧ Few L S n ∧ ∀ z, S z = true ↔ z ∈ (xs.take i).flatMap ys ++ (ys xs[i]).take j, ⟨_, rfl, Nat.zero_le _, r16, fun _ _ _ z => z, S, n, hS6, hn, fun z => by rw [hm]; simp⟩, ?_⟩
    rintro j k2 H7 ⟨rfl, hle1, r7, st7, S7, n7, hS7, hn7, hm7⟩
    have i7 : (m.ext Dl).I H7 := ⟨m.inv r7 e1.i, by rw [hS7]; exact fun z => nomatch z⟩
    have e7 : ER (m.ext Dl) K Γ2 σ3 H7 := er_stk e6 st7 i7
    obtain ⟨go, stop, yld⟩ := wk1 H7 st7
    by_cases hlt1 : j < (ys xs[i]).length
    · refine .inr ⟨go j (by rw [hly]; exact hlt1), fun H8 => m.R H1 H8 ∧ StK (m.ext Dl) H6 H8 ∧ ∃ S n, H8 Dl = some (SetO w Dl S n) ∧ Few L S n ∧ ∀ z, S z = true ↔ z ∈ (xs.take i).flatMap ys ++ (ys xs[i]).take (j + 1), fun H8 z => ⟨(ys xs[i]).length - (j + 1), by omega, rfl, hlt1, z⟩, fun x1 H8 y1 => ?_⟩
      obtain ⟨e2, d1, hd1, rx1⟩ := yld j x1 H8 (by rw [hly]; exact hlt1) y1
      subst e2
      obtain ⟨Γ3, tg1, tst1, el1⟩ := el j d1 _ hd1 (List.getElem?_eq_getElem hlt1)
      refine tg1 x1 (wipe σ3 vs1) H8 (e7.wipe vs1) rx1 _ fun σ5 H9 e9 r9 w9 => ⟨by rw [w9 vs1 hj1, wipe_wipe], ?_⟩
      refine tst1 σ5 H9 e9 _ fun b H10 tb r10 => ?_
      subst tb
      rw [if_pos rfl]
      refine el1 σ5 H10 (e9.mv r10) _ fun v dv H11 sv r11 rv => ?_
      subst sv
      have rr : m.R H8 H11 := m.trans r9 (m.trans r10 r11)
      have hS11 : H11 Dl = some (SetO w Dl S7 n7) := m.keep rr i7.1 Dl _ nF hS7
      refine ⟨(ys xs[i])[j], S7, n7, rv.intE, hS11, by have := few_lt hL hn7; unfold scanBound; omega, m.chg e1.i (m.trans r7 rr) hD, fun a o n q => ?_, _, _, upd_same, few_add hn7 (hu _ (List.getElem_mem hlt) _ (List.getElem_mem hlt1)), fun z => ?_⟩
      · rw [upd_ne (fun z => n (.inr z))]
        exact (m.ext Dl).keep rr i7 a o n (st7 a o n q)
      · rw [Bool.or_eq_true, hm7, decide_eq_true_iff, take_one (List.getElem?_eq_getElem hlt1), ← List.append_assoc]
        simp only [List.mem_append, List.mem_singleton]
    · have e0 : j = (ys xs[i]).length := by omega
      subst e0
      refine .inl ⟨by rw [hly] at stop; exact stop, r7, S7, n7, hS7, hn7, fun z => ?_⟩
      rw [hm7, tf, List.take_length]
  · have e0 : i = xs.length := by omega
    subst e0
    have iN : m.I H' := m.inv r e1.i
    refine .inl ⟨by have := wkX.stop H' (m.refl _); rw [hlen] at this; exact this, ?_⟩
    rw [List.take_length] at hm
    refine ⟨Dl, S, n, rfl, hS, by have := few_lt hL hn; omega, fun ns p hp1 hp2 _ hp3 => ?_⟩
    exact q _ (.lst (ns.map D.int)) _ ⟨ns, rfl, hp1, fun k => by rw [hp2, hm]⟩ (m.trans r1 (m.trans r (m.grow iN (same_new hp3)))) (.lst (fun z => m.fa iN z hp3) upd_same (rp_intsL _ _ ns))
end
end Tx

set_option Elab.async false
set_option linter.all false
set_option maxRecDepth 100000
set_option maxHeartbeats 4000000
set_option autoImplicit false
namespace K63
open PySem L2 Tx
/-- a row of operations from a state: the state behind it, the answers -/
def run (T : Tb) : Nat → List Nat → Nat × List Nat
  | s, [] => (s, [])
  | s, o :: os => ((run T (at2 T s o).1 os).1, (at2 T s o).2 :: (run T (at2 T s o).1 os).2)
theorem run_app (T : Tb) : ∀ (os : List Nat) (s : Nat) (ps : List Nat), run T s (os ++ ps) = ((run T (run T s os).1 ps).1, (run T s os).2 ++ (run T (run T s os).1 ps).2)
  | [], s, ps => rfl
  | o :: os, s, ps => by
    show ((run T (at2 T s o).1 (os ++ ps)).1, (at2 T s o).2 :: (run T (at2 T s o).1 (os ++ ps)).2) = _
    rw [run_app T os]
    rfl
theorem run_snoc (T : Tb) (os : List Nat) (s o : Nat) : run T s (os ++ [o]) = ((at2 T (run T s os).1 o).1, (run T s os).2 ++ [(at2 T (run T s os).1 o).2]) := run_app T os s [o]
theorem run_lt {T : Tb} (k : KOk T) : ∀ (os : List Nat) {s : Nat}, s < T.length → (∀ o ∈ os, o < nops T) → (run T s os).1 < T.length
  | [], s, hs, _ => hs
  | o :: os, s, hs, ho => run_lt k os (k.lt hs (ho o List.mem_cons_self)) fun p hp => ho p (List.mem_cons_of_mem _ hp)
theorem run_len (T : Tb) : ∀ (os : List Nat) (s : Nat), (run T s os).2.length = os.length
  | [], _ => rfl
  | o :: os, s => congrArg Nat.succ (run_len T os _)
def runD (p : Nat × List Nat) : D := .tup [dN p.1, tupN p.2]
section
variable {P : Program} {w : World} {K : PySem.W.Frag} {mg : Str → Option Value} {base : Heap} {C : Addr}
theorem sc_Kind_after : FnScope ["self", "state", "operations", "answers", "operation", "answer"] ["self", "state", "operations"] (defScope s_Kind_after) := ⟨rfl, rfl, rfl, by decide +kernel, rfl, by decide +kernel, by decide +kernel⟩
def pre_af (C : Addr) (ds : List D) : Prop := ∃ (T : Tb) (s : Nat) (os : List Nat), ds = [kindD C T, dN s, tupN os] ∧ KOk T ∧ s < T.length ∧ os.length ≤ 100 ∧ ∀ o ∈ os, o < nops T
def S_af (C : Addr) (ds : List D) (d : D) : Prop := ∀ (T : Tb) (s : Nat) (os : List Nat), ds = [kindD C T, dN s, tupN os] → d = runD (run T s os)
abbrev CNums (P : Program) (w : World) (K : PySem.W.Frag) (mg : Str → Option Value) (base : Heap) : Prop := C8.Cal P w K mg base 1 "are_numbers" (spF K pre_nums fun _ => .bl true) []
theorem ok_Kind_after {f : Addr} {fd : FuncData} (Fu : Fun K "after" "Kind.after" s_Kind_after f fd) (T : Txt K mg C) (W : KindC K C) (c_check_number : CChk P w K mg base) (c_are_numbers : CNums P w K mg base) : FnOk P w K mg base CX0 4 f fd ["self", "state", "operations"] (spS K (pre_af C) (S_af C)) := by
  refine fn_pure Fu sc_Kind_after (fun ds h => by obtain ⟨M, s, o, rfl, _⟩ := h; rfl) fun cdv A outer s H E hr => ⟨_, (pss_cons (ps_expr (C8.pe_c c_check_number hr (by decide) rfl (pa_cons (pv 1) (pa_cons pe_int (pa_cons (pe_op op_sub (pe_callB (r := rLenS K) cr_len (by rfl) T.len (by decide +kernel) (pa_cons (show PE _ _ (tFld K _ "_table") from pe_fld (pv 0) rfl) pa_nil)) pe_int) pa_nil))))) (pss_cons (ps_if (pt_not (pt_val (C8.pe_c c_are_numbers hr (by decide) rfl (pa_cons (pv 2) (pa_cons pe_int (pa_cons (pe_op op_sub (pe_callB (r := rLenS K) cr_len (by rfl) T.len (by decide +kernel) (pa_cons (pe_ix (r := rIx K) ix_seq (show PE _ _ (tFld K _ "_table") from pe_fld (pv 0) rfl) pe_int (fun _ _ => rfl)) pa_nil)) pe_int) pa_nil)))))) (pss_one ps_never) pss_nil) (pss_cons (ps_set (i := 3) sc_Kind_after.nd rfl (by first | exact Or.inl rfl | exact Or.inr rfl) (pe_lst pa_nil)) (pss_cons (ps_for PassesOwn.never rfl (show PI _ _ _ (iSeq K _) from pi_seq (pv 2)) (pg_name (i := 4) sc_Kind_after.nd rfl (by first | exact Or.inl rfl | exact Or.inr rfl)) (pss_cons (ps_asg (pe_ix (r := rIx K) ix_seq (pe_ix (r := rIx K) ix_seq (show PE _ _ (tFld K _ "_table") from pe_fld (pv 0) rfl) (pv 1) (fun _ _ => rfl)) (pv 4) (fun _ _ => rfl)) (show PG _ _ (gTup K 2 (gCons (gName 1) (gCons (gName 5) gNil))) from pg_tup rfl (pgs_cons (pg_name (i := 1) sc_Kind_after.nd rfl (by first | exact Or.inl rfl | exact Or.inr rfl)) (pgs_cons (pg_name (i := 5) sc_Kind_after.nd rfl (by first | exact Or.inl rfl | exact Or.inr rfl)) pgs_nil)))) (pss_one (ps_expr (pe_bm PySem.F.plainAttrs_list PySem.F.slot_list_append PySem.F.type_list_append mt_append (pv 3) (pa_cons (pv 5) pa_nil)))))) (pss_one (ps_ret (pe_tup (pa_cons (pv 1) (pa_cons (pe_callTy (r := rTup K) cr_tup (by rfl) T.tuple (by decide +kernel) (pa_cons (pv 3) pa_nil)) pa_nil))))))))), fun F ds hp => ?_⟩
  obtain ⟨M, s, os, rfl, ok, hs, o100, ho⟩ := hp
  have s1 := ok.s1
  have o1 := ok.o1
  refine sg_seq (fun Γ' => Γ' = startG ["self", "state", "operations", "answers", "operation", "answer"] [kindD C M, dN s, tupN os]) (sg_drop (ev_chk (en_var 1 rfl) (ev_less (ev_tl (ev_tab (en_var 0 rfl) W)) s1) (by omega)) rfl) ?_
  rintro _ rfl
  refine sg_seqIf (b := false) (EvT1.is (et_not (et_B (en_callF (ds := [tupN os, .int 0, dN (nops M - 1)]) (ea_cons (en_var 2 rfl) (ea_cons (en_int 0) (ea_cons (ev_less (n := nops M) (ev_rl (ev_row (s := 0) (ev_tab (en_var 0 rfl) W) (en_int 0) (by omega))) o1) ea_nil))) ⟨os, _, rfl, by omega, fun x hx => by have := ho x hx; omega⟩))) rfl) (fun e => nomatch e) fun _ => ?_
  refine sq_newL ea_nil (by simp) (by show 3 < 6; decide) fun l H0 => ?_
  refine so_seq (fun Γ' ds' => ∃ x4 x5 : Option D, Γ' = [some (kindD C M), some (dN (run M s os).1), some (tupN os), some (.adr l), x4, x5] ∧ ds' = (run M s os).2.map dN) (so_for (xs := os.map dN) (itx_seq (en_var 2 rfl) (.inl rfl)) (fun i Γ' ds' => ∃ x4 x5 : Option D, Γ' = [some (kindD C M), some (dN (run M s (os.take i)).1), some (tupN os), some (.adr l), x4, x5] ∧ ds' = (run M s (os.take i)).2.map dN) ⟨none, none, rfl, rfl⟩ ?_ ?_) ?_
  · rintro i d Γ' ds' hd ⟨x4, x5, rfl, rfl⟩
    rw [List.getElem?_map] at hd
    obtain ⟨o, hoi, rfl⟩ := Option.map_eq_some_iff.mp hd
    have il : i < os.length := (List.getElem?_eq_some_iff.mp hoi).1
    have lt := run_lt ok (os.take i) hs fun o h => ho o (List.mem_of_mem_take h)
    have on := ho o (List.mem_of_getElem? hoi)
    have tk : os.take (i + 1) = os.take i ++ [o] := by rw [List.take_add_one, hoi]; rfl
    refine ⟨_, _, tg_name 4, so_seq (fun Γ' ds' => Γ' = [some (kindD C M), some (dN (run M s (os.take (i + 1))).1), some (tupN os), some (.adr l), some (dN o), some (dN (at2 M (run M s (os.take i)).1 o).2)] ∧ ds' = (run M s (os.take i)).2.map dN) (so_asgT (d := entD (at2 M (run M s (os.take i)).1 o)) (ev_at (ev_tab (en_var 0 rfl) W) (en_var 1 rfl) (en_var 4 rfl) ok lt on) tg_pair ⟨by rw [tk, run_snoc]; rfl, rfl⟩) ?_⟩
    rintro _ _ ⟨rfl, rfl⟩
    refine so_app (i := 3) rfl (en_var 5 rfl) (by rw [List.length_map, run_len, List.length_take]; omega) ⟨_, _, rfl, ?_⟩
    rw [tk, run_snoc, List.map_append]
    rfl
  · rintro Γ' ds' ⟨x4, x5, rfl, rfl⟩
    rw [List.length_map, List.take_length]
    exact ⟨x4, x5, rfl, rfl⟩
  · rintro _ _ ⟨x4, x5, rfl, rfl⟩
    refine so_dis (i := 3) rfl (sg_ret (d := runD (run M s os)) (en_tup (ea_cons (en_var 1 rfl) (ea_cons (en_cb1 (ea_cons (en_var 3 rfl) ea_nil) (c_tuple (.inr (.inl rfl)))) ea_nil)) (by simp)) fun M' s' os' e => ?_)
    injection e with e e2
    injection e2 with e2 e3
    injection e3 with e3
    rw [kindD_inj e, dN_inj e2, tupN_inj e3]
/-! ### answers -/
def allAns (T : Tb) : List Nat := T.flatMap fun r => r.map (·.2)
def ansL (T : Tb) : List Nat := (List.range 100).filter fun a => decide (a ∈ allAns T)
def pre_ans (C : Addr) (ds : List D) : Prop := ∃ (T : Tb) (L : List Nat), ds = [kindD C T] ∧ KOk T ∧ L.length < 60 ∧ ∀ a ∈ allAns T, a ∈ L
theorem sc_Kind_answers : FnScope ["self", "entries", "_", "answer"] ["self"] (defScope s_Kind_answers) := ⟨rfl, rfl, rfl, by decide +kernel, rfl, by decide +kernel, by decide +kernel⟩
theorem ans_len {T : Tb} (k : KOk T) : (allAns T).length = T.length * nops T := by
  unfold allAns
  rw [List.length_flatMap]
  have : ∀ L : Tb, (∀ r ∈ L, r.length = nops T) → (L.map fun r => (r.map (·.2)).length).sum = L.length * nops T := fun L => by
    induction L with
    | nil => intro _; simp
    | cons r L ih =>
      intro h
      rw [List.map_cons, List.sum_cons, ih fun r hr => h r (List.mem_cons_of_mem _ hr), List.length_map, h r List.mem_cons_self, List.length_cons, Nat.succ_mul, Nat.add_comm]
  exact this T k.row
theorem ok_Kind_answers {f : Addr} {fd : FuncData} (Fu : Fun K "answers" "Kind.answers" s_Kind_answers f fd) (T : Txt K mg C) (W : KindC K C) : FnOk P w K mg base CX0 1 f fd ["self"] (spS K (pre_ans C) (S_kd C fun T => tupN (ansL T))) := by
  refine fn_pure Fu sc_Kind_answers (fun ds h => by obtain ⟨M, L, rfl, _⟩ := h; rfl) fun cdv A outer s H E hr => ⟨_, (pss_one (ps_ret (pe_callTy (r := rTup K) cr_tup (by rfl) T.tuple (by decide +kernel) (pa_cons (pe_callB (r := rSortedSet w) (cr_sortedSet rfl) (by rfl) T.sorted (by decide +kernel) (pa_cons (show PE _ _ (TxS2.tSetI2 w _ _ _ _ _ _ _ _ _) from (TxS2.pe_setI2 (own := [("entries", 1), ("_", 2), ("answer", 3)]) (vs1 := [2, 3]) rfl sc_Kind_answers.nd (show PI _ _ _ (iSeq K _) from pi_seq (show PE _ _ (tFld K _ "_table") from pe_fld (pv 0) rfl)) (blkOk_by (by kernel_rfl)) (by decide) (fun _ _ _ _ _ => (pg_name (i := 1) sc_Kind_answers.nd rfl (by first | exact Or.inl rfl | exact Or.inr rfl))) (fun _ _ _ _ _ => pts_nil) (fun _ _ _ _ _ => (show PI _ _ _ (iSeq K _) from pi_seq (pv 1))) (fun _ _ _ _ _ => (show PG _ _ (gTup K 2 (gCons (gName 2) (gCons (gName 3) gNil))) from pg_tup rfl (pgs_cons (pg_name (i := 2) sc_Kind_answers.nd rfl (by first | exact Or.inl rfl | exact Or.inr rfl)) (pgs_cons (pg_name (i := 3) sc_Kind_answers.nd rfl (by first | exact Or.inl rfl | exact Or.inr rfl)) pgs_nil)))) (fun _ _ _ _ _ => pts_nil) (fun _ _ _ _ _ => (pv 3)))) pa_nil)) pa_nil)))), fun F ds hp => ?_⟩
  obtain ⟨M, L, rfl, ok, few, hL⟩ := hp
  refine sg_ret (d := tupN (ansL M)) (Ev1.is (en_cb1 (ea_cons (d := lstN (ansL M)) (EvN.mono (en_sortSet2Q (xs := M) rowT (fun r => r.map fun p => (p.2 : Int)) (fun r => r.map entD) (fun r => by rw [List.length_map, List.length_map]) (js := [1]) (js1 := [2, 3]) (by simp) (by simp) (it_seq (d := tabD M) (ev_tab (en_var 0 rfl) W) (.inl rfl)) (L.map fun k : Nat => (k : Int)) (by rw [List.length_map]; exact few) (fun r hr y hy => by obtain ⟨p, hp, rfl⟩ := List.mem_map.mp hy; exact List.mem_map.mpr ⟨p.2, hL _ (List.mem_flatMap.mpr ⟨r, hr, List.mem_map.mpr ⟨p, hp, rfl⟩⟩), rfl⟩) fun m' le r hr => ⟨_, tg_name 1, et_yes, itx_seq (d := rowT r) (en_var 1 rfl) (.inl rfl), fun j d y h1 h2 => ?_⟩) ?_) ea_nil) (c_tuple (.inr (.inl rfl)))) rfl) (s_kd (g := fun T => tupN (ansL T)))
  · rw [List.getElem?_map] at h1 h2
    obtain ⟨p, hp, rfl⟩ := Option.map_eq_some_iff.mp h1
    rw [hp] at h2
    injection h2 with h2
    subst h2
    refine ⟨_, tg_pair, et_yes, ?_⟩
    exact en_var 3 rfl
  · rintro d ⟨ns, rfl, up, k⟩
    have e : ns = (ansL M).map fun k : Nat => (k : Int) := by
      have u2 : ((ansL M).map fun k : Nat => (k : Int)).Pairwise (· < ·) := List.pairwise_map.mpr ((List.pairwise_lt_range.filter _).imp fun {a b} q => by omega)
      have p : ns.Perm ((ansL M).map fun k : Nat => (k : Int)) := (List.perm_ext_iff_of_nodup (up.imp fun {a b} q => Int.ne_of_lt q) (u2.imp fun {a b} q => Int.ne_of_lt q)).mpr fun x => by
        rw [k x, List.mem_map, List.mem_flatMap]
        constructor
        · rintro ⟨r, hr, hx⟩
          obtain ⟨p, hp, rfl⟩ := List.mem_map.mp hx
          exact ⟨p.2, List.mem_filter.mpr ⟨List.mem_range.mpr (by have := (ok.ent r hr p hp).2; omega), decide_eq_true (List.mem_flatMap.mpr ⟨r, hr, List.mem_map.mpr ⟨p, hp, rfl⟩⟩)⟩, rfl⟩
        · rintro ⟨a, ha, rfl⟩
          obtain ⟨r, hr, h⟩ := List.mem_flatMap.mp (of_decide_eq_true (List.mem_filter.mp ha).2)
          obtain ⟨p, hp, rfl⟩ := List.mem_map.mp h
          exact ⟨r, hr, List.mem_map.mpr ⟨p, hp, rfl⟩⟩
      rw [srt_of p (up.imp fun {a b} q => Int.le_of_lt q), ← srt_of (List.Perm.refl _) (u2.imp fun {a b} q => Int.le_of_lt q)]
    rw [e, ← dN_ints]
/-! ### two kinds side by side -/
theorem sc_check_few_parts : FnScope ["states", "operations"] ["states", "operations"] (defScope s_check_few_parts) := ⟨rfl, rfl, rfl, by decide +kernel, rfl, by decide +kernel, by decide +kernel⟩
def pre_few (ds : List D) : Prop := ∃ a b : Nat, ds = [dN a, dN b] ∧ a ≤ 12 ∧ b ≤ 8
theorem ok_check_few_parts {f : Addr} {fd : FuncData} (Fu : Fun K "check_few_parts" "check_few_parts" s_check_few_parts f fd) (T : Txt K mg C) : FnOk P w K mg base CX0 1 f fd ["states", "operations"] (spF K pre_few fun _ => .non) := by
  refine fn_pure Fu sc_check_few_parts (fun ds h => by obtain ⟨a, b, rfl, _⟩ := h; rfl) fun cdv A outer s H E hr => ⟨_, (pss_cons (ps_if (pt_cmpR op_gt (pv 0) (C8.pe_gc rfl T.k_MAX_STATES) (nomark _)) (pss_one ps_never) pss_nil) (pss_one (ps_if (pt_cmpR op_gt (pv 1) (C8.pe_gc rfl T.k_MAX_OPERATIONS) (nomark _)) (pss_one ps_never) pss_nil))), fun F ds hp => ?_⟩
  obtain ⟨a, b, rfl, ha, hb⟩ := hp
  refine sg_seqIf (b := false) (EvT1.is (et_test (en_op1 (en_var 0 rfl) (en_int 12) o_bl)) (decide_eq_false (by omega))) (fun e => nomatch e) fun _ => ?_
  exact sg_if (b := false) (EvT1.is (et_test (en_op1 (en_var 1 rfl) (en_int 8) o_bl)) (decide_eq_false (by omega))) (fun e => nomatch e) fun _ => sg_next rfl
def sideL (a b : List Ent) (s t n : Nat) : List Ent := (a.map fun p => (p.1 * n + t, p.2)) ++ b.map fun p => (s * n + p.1, p.2)
theorem sc_side_by_side : FnScope ["first", "second", "one", "two", "many", "mine", "theirs", "behind", "answer"] ["first", "second", "one", "two", "many"] (defScope s_side_by_side) := ⟨rfl, rfl, rfl, by decide +kernel, rfl, by decide +kernel, by decide +kernel⟩
def pre_sbs (ds : List D) : Prop := ∃ (a b : List Ent) (s t n : Nat), ds = [rowT a, rowT b, dN s, dN t, dN n] ∧ a.length ≤ 8 ∧ b.length ≤ 8 ∧ (∀ p ∈ a, p.1 ≤ 12) ∧ (∀ p ∈ b, p.1 ≤ 12) ∧ s ≤ 12 ∧ t ≤ 12 ∧ n ≤ 12
def S_sbs (ds : List D) (d : D) : Prop := ∀ (a b : List Ent) (s t n : Nat), ds = [rowT a, rowT b, dN s, dN t, dN n] → d = rowT (sideL a b s t n)
theorem ok_side_by_side {f : Addr} {fd : FuncData} (Fu : Fun K "side_by_side" "side_by_side" s_side_by_side f fd) (T : Txt K mg C) : FnOk P w K mg base CX0 1 f fd ["first", "second", "one", "two", "many"] (spS K pre_sbs S_sbs) := by
  refine fn_pure Fu sc_side_by_side (fun ds h => by obtain ⟨a, b, s, t, n, rfl, _⟩ := h; rfl) fun cdv A outer s H E hr => ⟨_, (pss_cons (ps_setLc (i := 5) (own := [("behind", 7), ("answer", 8)]) rfl sc_side_by_side.nd rfl rfl (sw_true rfl rfl rfl (by decide +kernel)) (show PI _ _ _ (iSeq K _) from pi_seq (pv 0)) (blkOk_by (by kernel_rfl)) (fun _ _ _ _ _ => (show PG _ _ (gTup K 2 (gCons (gName 7) (gCons (gName 8) gNil))) from pg_tup rfl (pgs_cons (pg_name (i := 7) sc_side_by_side.nd rfl (by first | exact Or.inl rfl | exact Or.inr rfl)) (pgs_cons (pg_name (i := 8) sc_side_by_side.nd rfl (by first | exact Or.inl rfl | exact Or.inr rfl)) pgs_nil)))) (fun _ _ _ _ _ => pts_nil) (fun _ _ _ _ _ => (pe_tup (pa_cons (pe_op (r := rAddU K) op_addU (pe_op (r := rMulU K) op_mulU (pv 7) (pv 4)) (pv 3)) (pa_cons (pv 8) pa_nil))))) (pss_cons (ps_setLc (i := 6) (own := [("behind", 7), ("answer", 8)]) rfl sc_side_by_side.nd rfl rfl (sw_true rfl rfl rfl (by decide +kernel)) (show PI _ _ _ (iSeq K _) from pi_seq (pv 1)) (blkOk_by (by kernel_rfl)) (fun _ _ _ _ _ => (show PG _ _ (gTup K 2 (gCons (gName 7) (gCons (gName 8) gNil))) from pg_tup rfl (pgs_cons (pg_name (i := 7) sc_side_by_side.nd rfl (by first | exact Or.inl rfl | exact Or.inr rfl)) (pgs_cons (pg_name (i := 8) sc_side_by_side.nd rfl (by first | exact Or.inl rfl | exact Or.inr rfl)) pgs_nil)))) (fun _ _ _ _ _ => pts_nil) (fun _ _ _ _ _ => (pe_tup (pa_cons (pe_op (r := rAddU K) op_addU (pe_op (r := rMulU K) op_mulU (pv 2) (pv 4)) (pv 7)) (pa_cons (pv 8) pa_nil))))) (pss_one (ps_ret (pe_tup (show PA _ _ (StX.tStar K _ _) from StX.pa_star (pv 5) (show PA _ _ (StX.tStar K _ _) from StX.pa_star (pv 6) pa_nil))))))), fun F ds hp => ?_⟩
  obtain ⟨a, b, s, t, n, rfl, a8, b8, ha, hb, hs, ht, hn⟩ := hp
  have mul : ∀ {i j : Nat}, i ≤ 12 → j ≤ 12 → CMul (i : Int) (j : Int) := fun {i j} h1 h2 => by unfold CMul; first | (constructor <;> omega) | (refine ⟨?_, ?_, ?_⟩ <;> omega) | omega
  refine sq_asg (d := .lst ((a.map fun p => (p.1 * n + t, p.2)).map entD)) (Ev1.is (en_lcMA (xs := a) entD (fun p => entD (p.1 * n + t, p.2)) (fun x _ y _ e => entD_inj e) (js := [7, 8]) (by simp) (it_seq (d := rowT a) (en_var 0 rfl) (.inl rfl)) (by omega) fun m' l p hp => ⟨_, tg_pair, ?_⟩) (by rw [List.map_map]; rfl)) ?_
  · refine Ev1.is (en_tup (ea_cons (en_op1 (en_op1 (en_var 7 rfl) (en_var 4 rfl) (o_mulI (mul (ha p hp) hn))) (en_var 3 rfl) o_addI) (ea_cons (en_var 8 rfl) ea_nil)) (by simp)) ?_
    show D.tup [D.int _, _] = D.tup [D.int _, _]
    congr 2
  refine sq_asg (d := .lst ((b.map fun p => (s * n + p.1, p.2)).map entD)) (Ev1.is (en_lcMA (xs := b) entD (fun p => entD (s * n + p.1, p.2)) (fun x _ y _ e => entD_inj e) (js := [7, 8]) (by simp) (it_seq (d := rowT b) (en_var 1 rfl) (.inl rfl)) (by omega) fun m' l p hp => ⟨_, tg_pair, ?_⟩) (by rw [List.map_map]; rfl)) ?_
  · refine Ev1.is (en_tup (ea_cons (en_op1 (en_op1 (en_var 2 rfl) (en_var 4 rfl) (o_mulI (mul hs hn))) (en_var 7 rfl) o_addI) (ea_cons (en_var 8 rfl) ea_nil)) (by simp)) ?_
    show D.tup [D.int _, _] = D.tup [D.int _, _]
    congr 2
  refine sg_ret (d := rowT (sideL a b s t n)) (Ev1.is (en_tup (ea_star (en_var 5 rfl) (.inr rfl) (ea_star (en_var 6 rfl) (.inr rfl) ea_nil)) (by simp only [List.length_append, List.length_map, List.length_nil]; omega)) ?_) fun a' b' s' t' n' e => ?_
  · show D.tup _ = D.tup ((sideL a b s t n).map entD)
    unfold sideL
    rw [List.append_nil, List.map_append]
  · injection e with e1 e
    injection e with e2 e
    injection e with e3 e
    injection e with e4 e
    injection e with e5
    rw [rowT_inj e1, rowT_inj e2, dN_inj e3, dN_inj e4, dN_inj e5]
end
end K63

set_option Elab.async false
set_option linter.all false
set_option maxRecDepth 100000
set_option maxHeartbeats 4000000
set_option autoImplicit false
namespace K63
open PySem L2 Tx
theorem flat_range {α : Type} (g : Nat → Nat → α) {b : Nat} (hb : 0 < b) : ∀ a : Nat, ((List.range a).flatMap fun s => (List.range b).map fun t => g s t) = (List.range (a * b)).map fun i => g (i / b) (i % b)
  | 0 => by rw [Nat.zero_mul]; rfl
  | a + 1 => by
    rw [List.range_succ, List.flatMap_append, flat_range g hb a, Nat.succ_mul, List.range_add, List.map_append, List.map_map]
    congr 1
    rw [List.flatMap_cons, List.flatMap_nil, List.append_nil]
    refine List.map_congr_left fun t ht => ?_
    have := List.mem_range.mp ht
    show g a t = g ((a * b + t) / b) ((a * b + t) % b)
    rw [Nat.mul_comm a b, Nat.mul_add_div hb, Nat.mul_add_mod, Nat.div_eq_of_lt this, Nat.mod_eq_of_lt this, Nat.add_zero]
/-- the table of two kinds side by side -/
def mulT (T U : Tb) : Tb := (List.range (T.length * U.length)).map fun i => sideL (T.getD (i / U.length) []) (U.getD (i % U.length) []) (i / U.length) (i % U.length) U.length
theorem mul_len (T U : Tb) : (mulT T U).length = T.length * U.length := by unfold mulT; rw [List.length_map, List.length_range]
theorem mul_row {T U : Tb} {i : Nat} (hi : i < T.length * U.length) : (mulT T U).getD i [] = sideL (T.getD (i / U.length) []) (U.getD (i % U.length) []) (i / U.length) (i % U.length) U.length := by
  unfold mulT
  rw [List.getD_eq_getElem?_getD, List.getElem?_map, List.getElem?_range hi]
  rfl
theorem div_lt {a b i : Nat} (h : i < a * b) : i / b < a := Nat.div_lt_of_lt_mul (by rw [Nat.mul_comm]; exact h)
theorem mod_lt {a b i : Nat} (h : i < a * b) : i % b < b := Nat.mod_lt _ (by
  cases b with
  | zero => simp at h
  | succ b => omega)
theorem side_len (a b : List Ent) (s t n : Nat) : (sideL a b s t n).length = a.length + b.length := by unfold sideL; rw [List.length_append, List.length_map, List.length_map]
theorem mul_lt {a b x y : Nat} (h1 : x < a) (h2 : y < b) : x * b + y < a * b := by
  have : (x + 1) * b ≤ a * b := Nat.mul_le_mul_right b h1
  rw [Nat.succ_mul] at this
  omega
theorem mul_rows {T U : Tb} (k : KOk T) (k' : KOk U) : ∀ r ∈ mulT T U, r.length = nops T + nops U := fun r hr => by
  obtain ⟨i, hi, rfl⟩ := List.mem_map.mp hr
  rw [List.mem_range] at hi
  rw [side_len, k.rl (div_lt hi), k'.rl (mod_lt hi)]
theorem mul_nops {T U : Tb} (k : KOk T) (k' : KOk U) : nops (mulT T U) = nops T + nops U := nops_of (by rw [mul_len]; exact Nat.mul_pos k.s1 k'.s1) (mul_rows k k')
theorem mul_ok {T U : Tb} (k : KOk T) (k' : KOk U) (h1 : T.length * U.length ≤ 12) (h2 : nops T + nops U ≤ 8) : KOk (mulT T U) where
  s1 := by rw [mul_len]; exact Nat.mul_pos k.s1 k'.s1
  s12 := by rw [mul_len]; exact h1
  o1 := by rw [mul_nops k k']; have := k.o1; omega
  o8 := by rw [mul_nops k k']; exact h2
  row := fun r hr => by rw [mul_nops k k']; exact mul_rows k k' r hr
  ent := fun r hr p hp => by
    obtain ⟨i, hi, rfl⟩ := List.mem_map.mp hr
    rw [List.mem_range] at hi
    rw [mul_len]
    unfold sideL at hp
    rcases List.mem_append.mp hp with q | q
    · obtain ⟨e, he, rfl⟩ := List.mem_map.mp q
      have := k.ent _ (row_mem (div_lt hi)) e he
      exact ⟨mul_lt this.1 (mod_lt hi), this.2⟩
    · obtain ⟨e, he, rfl⟩ := List.mem_map.mp q
      have := k'.ent _ (row_mem (mod_lt hi)) e he
      exact ⟨mul_lt (div_lt hi) this.1, this.2⟩
/-- entries read back -/
def dec : D → Ent
  | .tup [.int a, .int b] => (a.toNat, b.toNat)
  | _ => (0, 0)
def decs : D → List Ent
  | .tup xs => xs.map dec
  | _ => []
theorem dec_ent (p : Ent) : dec (entD p) = p := by
  show ((p.1 : Int).toNat, (p.2 : Int).toNat) = p
  rw [Int.toNat_natCast, Int.toNat_natCast]
theorem decs_row (r : List Ent) : decs (rowT r) = r := by
  show (r.map entD).map dec = r
  rw [List.map_map]
  conv => rhs; rw [← List.map_id r]
  exact List.map_congr_left fun p _ => dec_ent p
def mulF (n : Nat) (d e : D) : D := match d, e with
  | .tup [.int s, a], .tup [.int t, b] => rowT (sideL (decs a) (decs b) s.toNat t.toNat n)
  | _, _ => .non
section
variable {P : Program} {w : World} {K : PySem.W.Frag} {mg : Str → Option Value} {base : Heap} {C : Addr}
abbrev CKind (P : Program) (w : World) (K : PySem.W.Frag) (mg : Str → Option Value) (base : Heap) (C : Addr) : Prop := C8.Mak P w K mg base 5 "Kind" C (spIS K C pre_tab kindNs S_Kind) []
/-- Kind(table) -/
theorem ev_kind {m : Mo} {Γ : G} {te : TE} {E : XK} {T : Tb} (e : Ev1 m K te Γ (tabD T)) (ok : KOk T) : Ev1 m K (tMake C (spIS K C pre_tab kindNs S_Kind) [] E (tCons te tNil)) Γ (kindD C T) :=
  EvN.mono (en_makeN (ds := [tabD T]) (dds := []) (ea_cons e ea_nil) (fun _ _ => .nil) ⟨T, rfl, ok⟩) fun d ⟨xs, e, s⟩ => by rw [e, s T rfl]
theorem sc_Kind___mul : FnScope ["self", "other", "one", "first", "two", "second"] ["self", "other"] (defScope s_Kind___mul) := ⟨rfl, rfl, rfl, by decide +kernel, rfl, by decide +kernel, by decide +kernel⟩
def pre_mul (C : Addr) (ds : List D) : Prop := ∃ T U : Tb, ds = [kindD C T, kindD C U] ∧ KOk T ∧ KOk U ∧ T.length * U.length ≤ 12 ∧ nops T + nops U ≤ 8
def S_mul (C : Addr) (ds : List D) (d : D) : Prop := ∀ T U : Tb, ds = [kindD C T, kindD C U] → d = kindD C (mulT T U)
theorem ok_Kind_mul {f : Addr} {fd : FuncData} (Fu : Fun K "__mul__" "Kind.__mul__" s_Kind___mul f fd) (T : Txt K mg C) (W : KindC K C) (ic : C8.InsC K C) (c_check_few_parts : C8.Cal P w K mg base 1 "check_few_parts" (spF K pre_few fun _ => .non) []) (c_side_by_side : C8.Cal P w K mg base 1 "side_by_side" (spS K pre_sbs S_sbs) []) (k_Kind1 : CKind P w K mg base C) : FnOk P w K mg base CX0 7 f fd ["self", "other"] (spS K (pre_mul C) (S_mul C)) := by
  refine fn_pure Fu sc_Kind___mul (fun ds h => by obtain ⟨M, U, rfl, _⟩ := h; rfl) fun cdv A outer s H E hr => ⟨_, (pss_cons (ps_if (pt_not (pt_val (pe_callB (r := rIsi K) call_isi (by rfl) T.isinstance (by decide +kernel) (pa_cons (pv 1) (pa_cons (C8.pe_gc (v := .ref C) rfl ⟨_, T.g_Kind, rfl⟩) pa_nil))))) (pss_one ps_never) pss_nil) (pss_cons (ps_expr (C8.pe_c c_check_few_parts hr (by decide) rfl (pa_cons (pe_op (r := rMulU K) op_mulU (pe_callB (r := rLenS K) cr_len (by rfl) T.len (by decide +kernel) (pa_cons (show PE _ _ (tFld K _ "_table") from pe_fld (pv 0) rfl) pa_nil)) (pe_callB (r := rLenS K) cr_len (by rfl) T.len (by decide +kernel) (pa_cons (show PE _ _ (tFld K _ "_table") from pe_fld (pv 1) rfl) pa_nil))) (pa_cons (pe_op (r := rAddU K) op_addU (pe_callB (r := rLenS K) cr_len (by rfl) T.len (by decide +kernel) (pa_cons (pe_ix (r := rIx K) ix_seq (show PE _ _ (tFld K _ "_table") from pe_fld (pv 0) rfl) pe_int (fun _ _ => rfl)) pa_nil)) (pe_callB (r := rLenS K) cr_len (by rfl) T.len (by decide +kernel) (pa_cons (pe_ix (r := rIx K) ix_seq (show PE _ _ (tFld K _ "_table") from pe_fld (pv 1) rfl) pe_int (fun _ _ => rfl)) pa_nil))) pa_nil)))) (pss_one (ps_ret (C8.pe_mk k_Kind1 hr (by decide) rfl (pa_cons (pe_callTy (r := rTup K) cr_tup (by rfl) T.tuple (by decide +kernel) (pa_cons (pe_lc2 (own := [("one", 2), ("first", 3), ("two", 4), ("second", 5)]) (vs1 := [4, 5]) rfl sc_Kind___mul.nd (show PI _ _ _ (iEnumS K _) from pi_enumS rfl T.enumerate (pa_cons (show PE _ _ (tFld K _ "_table") from pe_fld (pv 0) rfl) pa_nil)) (blkOk_by (by kernel_rfl)) (by decide) (fun _ _ _ _ _ => (show PG _ _ (gTup K 2 (gCons (gName 2) (gCons (gName 3) gNil))) from pg_tup rfl (pgs_cons (pg_name (i := 2) sc_Kind___mul.nd rfl (by first | exact Or.inl rfl | exact Or.inr rfl)) (pgs_cons (pg_name (i := 3) sc_Kind___mul.nd rfl (by first | exact Or.inl rfl | exact Or.inr rfl)) pgs_nil)))) (fun _ _ _ _ _ => pts_nil) (fun _ _ _ _ _ => (show PI _ _ _ (iEnumS K _) from pi_enumS rfl T.enumerate (pa_cons (show PE _ _ (tFld K _ "_table") from pe_fld (pv 1) rfl) pa_nil))) (fun _ _ _ _ _ => (show PG _ _ (gTup K 2 (gCons (gName 4) (gCons (gName 5) gNil))) from pg_tup rfl (pgs_cons (pg_name (i := 4) sc_Kind___mul.nd rfl (by first | exact Or.inl rfl | exact Or.inr rfl)) (pgs_cons (pg_name (i := 5) sc_Kind___mul.nd rfl (by first | exact Or.inl rfl | exact Or.inr rfl)) pgs_nil)))) (fun _ _ _ _ _ => pts_nil) (fun _ _ _ _ _ => (C8.pe_c c_side_by_side hr (by decide) rfl (pa_cons (pv 3) (pa_cons (pv 5) (pa_cons (pv 2) (pa_cons (pv 4) (pa_cons (pe_callB (r := rLenS K) cr_len (by rfl) T.len (by decide +kernel) (pa_cons (show PE _ _ (tFld K _ "_table") from pe_fld (pv 1) rfl) pa_nil)) pa_nil)))))))) pa_nil)) pa_nil)))))), fun F ds hp => ?_⟩
  obtain ⟨M, U, rfl, ok, ok', h12, h8⟩ := hp
  have s1 := ok.s1
  have s12 := ok.s12
  have t1 := ok'.s1
  have t12 := ok'.s12
  have mul : ∀ {i j : Nat}, i ≤ 12 → CMul (i : Int) (j : Int) := fun {i j} h1 => .inl ⟨by omega, by omega⟩
  refine sg_seqIf (b := false) (EvT1.is (et_not (et_B (en_isiC (en_var 1 rfl) ic))) rfl) (fun e => nomatch e) fun _ => ?_
  refine sg_seq (fun Γ' => Γ' = startG ["self", "other", "one", "first", "two", "second"] [kindD C M, kindD C U]) (sg_drop (en_callF (ds := [dN (M.length * U.length), dN (nops M + nops U)]) (ea_cons (Ev1.is (en_op1 (ev_tl (ev_tab (en_var 0 rfl) W)) (ev_tl (ev_tab (en_var 1 rfl) W)) (o_mulI (mul s12))) (by show D.int _ = D.int _; congr 1)) (ea_cons (Ev1.is (en_op1 (ev_rl (ev_row (s := 0) (ev_tab (en_var 0 rfl) W) (en_int 0) (by omega))) (ev_rl (ev_row (s := 0) (ev_tab (en_var 1 rfl) W) (en_int 0) (by omega))) o_addI) (by show D.int _ = D.int _; congr 1)) ea_nil)) ⟨_, _, rfl, h12, h8⟩) rfl) ?_
  rintro _ rfl
  have en : ∀ V : Tb, enumD (V.map rowT) = (List.range V.length).map fun i => D.tup [dN i, rowT (V.getD i [])] := fun V => enumD_map rowT V
  refine sg_ret (d := kindD C (mulT M U)) (ev_kind (Ev1.is (en_cb1 (ea_cons (en_lc2Y (xs := enumD (M.map rowT)) (js := [2, 3]) (js1 := [4, 5]) (fun _ => true) (fun _ => enumD (U.map rowT)) (fun _ _ => true) (mulF U.length) (by simp) (by simp) (by simp) (it_enum (ea_cons (ev_tab (en_var 0 rfl) W) ea_nil) (.inl rfl)) 12 (fun d hd => by rw [enumD_len, List.length_map]; exact t12) (by rw [enumD_len, List.length_map]; omega) fun m' le d hd => ?_) ea_nil) (c_tuple (.inr (.inl rfl)))) ?_) (mul_ok ok ok' h12 h8)) fun M' U' e => ?_
  · rw [en] at hd
    obtain ⟨s, hs, rfl⟩ := List.mem_map.mp hd
    rw [List.mem_range] at hs
    refine ⟨_, tg_pair, et_yes, fun _ => ⟨ity_enum (ea_cons (ev_tab (en_var 1 rfl) W) ea_nil) (.inl rfl), fun d1 hd1 => ?_⟩⟩
    rw [en] at hd1
    obtain ⟨t, ht, rfl⟩ := List.mem_map.mp hd1
    rw [List.mem_range] at ht
    refine ⟨_, tg_pair, et_yes, fun _ => ?_⟩
    refine en_call (S := fun d => d = mulF U.length (D.tup [dN s, rowT (M.getD s [])]) (D.tup [dN t, rowT (U.getD t [])])) (ds := [rowT (M.getD s []), rowT (U.getD t []), dN s, dN t, dN U.length]) (ea_cons (en_var 3 rfl) (ea_cons (en_var 5 rfl) (ea_cons (en_var 2 rfl) (ea_cons (en_var 4 rfl) (ea_cons (ev_tl (ev_tab (en_var 1 rfl) W)) ea_nil))))) ⟨_, _, s, t, U.length, rfl, by rw [ok.rl hs]; exact ok.o8, by rw [ok'.rl ht]; exact ok'.o8, fun p hp => by have := (ok.ent _ (row_mem hs) p hp).1; omega, fun p hp => by have := (ok'.ent _ (row_mem ht) p hp).1; omega, by omega, by omega, t12⟩ fun d hd => ?_
    rw [hd _ _ s t U.length rfl]
    show _ = rowT (sideL (decs (rowT (M.getD s []))) (decs (rowT (U.getD t []))) (s : Int).toNat (t : Int).toNat U.length)
    rw [decs_row, decs_row, Int.toNat_natCast, Int.toNat_natCast]
  · show D.tup _ = D.tup ((mulT M U).map rowT)
    congr 1
    rw [List.filter_eq_self.mpr (fun _ _ => rfl), en, en, List.filter_eq_self.mpr (fun _ _ => rfl), List.flatMap_map]
    unfold mulT
    rw [List.map_map]
    refine Eq.trans ?_ (flat_range (fun s t => rowT (sideL (M.getD s []) (U.getD t []) s t U.length)) t1 M.length)
    refine congrArg (fun f => (List.range M.length).flatMap f) (funext fun s => ?_)
    show ((List.range U.length).map _).map _ = _
    rw [List.map_map]
    refine List.map_congr_left fun t _ => ?_
    show rowT (sideL (decs (rowT (M.getD s []))) (decs (rowT (U.getD t []))) (s : Int).toNat (t : Int).toNat U.length) = _
    rw [decs_row, decs_row, Int.toNat_natCast, Int.toNat_natCast]
  · injection e with e e2
    injection e2 with e2
    rw [kindD_inj e, kindD_inj e2]
end
end K63

set_option Elab.async false
set_option linter.all false
set_option maxRecDepth 100000
set_option maxHeartbeats 4000000
set_option autoImplicit false
namespace Tx
open PySem L2
theorem sg_aug {K : PySem.W.Frag} {m : Mo} {Γ : G} {te : TE} {i : Nat} {a b : Int} {O : Out} (hi : Γ[i]? = some (some (.int a))) (h : Ev1 m K te Γ (.int b)) (k : O.nx (Γ.set i (some (.int (a + b))))) : SG m K (tAug i te (ipI fun i j => i + j)) Γ O := fun σ H e E M => by
  obtain ⟨u, a1, a2⟩ := e.at_ i _ hi
  obtain rfl := a2.intE
  refine ⟨_, a1, h σ H e _ fun y dy H1 s r1 ry => ?_⟩
  subst s
  obtain rfl := ry.intE
  exact ⟨a, b, rfl, rfl, M.nx _ _ _ k r1 ((e.mv r1).set i (.int _))⟩
end Tx
namespace K63
open PySem L2 Tx
/-- the states to which operations lead -/
inductive Rc (T : Tb) (s : Nat) : Nat → Prop
  | base : Rc T s s
  | step {x o : Nat} : Rc T s x → o < nops T → Rc T s (at2 T x o).1
noncomputable def rcB (T : Tb) (s x : Nat) : Bool := @decide (Rc T s x) (Classical.propDecidable _)
theorem rcB_iff {T : Tb} {s x : Nat} : rcB T s x = true ↔ Rc T s x := by unfold rcB; exact @decide_eq_true_iff _ (Classical.propDecidable _)
noncomputable def fromL (T : Tb) (s : Nat) : List Nat := (List.range T.length).filter (rcB T s)
theorem mem_from {T : Tb} {s x : Nat} : x ∈ fromL T s ↔ x < T.length ∧ Rc T s x := by unfold fromL; rw [List.mem_filter, List.mem_range, rcB_iff]
theorem rc_lt {T : Tb} (k : KOk T) {s x : Nat} (hs : s < T.length) (r : Rc T s x) : x < T.length := by
  induction r with
  | base => exact hs
  | step _ ho ih => exact k.lt ih ho
structure QI (T : Tb) (s : Nat) (qs : List Nat) : Prop where
  nd : qs.Nodup
  s0 : s ∈ qs
  lt : ∀ x ∈ qs, x < T.length
  rc : ∀ x ∈ qs, Rc T s x
def Done (T : Tb) (qs : List Nat) (a : Nat) : Prop := ∀ i < a, ∀ x, qs[i]? = some x → ∀ o < nops T, (at2 T x o).1 ∈ qs
theorem QI.len {T : Tb} {s : Nat} {qs : List Nat} (q : QI T s qs) : qs.length ≤ T.length := by
  have := List.Nodup.length_le_of_subset q.nd (fun x hx => List.mem_range.mpr (q.lt x hx) : ∀ x, x ∈ qs → x ∈ List.range T.length)
  rwa [List.length_range] at this
theorem QI.more {T : Tb} {s x o : Nat} {qs : List Nat} (k : KOk T) (q : QI T s qs) (hx : x ∈ qs) (ho : o < nops T) (n : (at2 T x o).1 ∉ qs) : QI T s (qs ++ [(at2 T x o).1]) where
  nd := by rw [List.nodup_append]; exact ⟨q.nd, by simp, fun a ha b hb e => n (by rw [← List.mem_singleton.mp hb, ← e]; exact ha)⟩
  s0 := List.mem_append_left _ q.s0
  lt := fun y hy => (List.mem_append.mp hy).elim (q.lt y) fun z => by rw [List.mem_singleton.mp z]; exact k.lt (q.lt x hx) ho
  rc := fun y hy => (List.mem_append.mp hy).elim (q.rc y) fun z => by rw [List.mem_singleton.mp z]; exact .step (q.rc x hx) ho
theorem Done.more {T : Tb} {qs : List Nat} {a y : Nat} (d : Done T qs a) (ha : a ≤ qs.length) : Done T (qs ++ [y]) a := fun i hi x hx o ho => by
  rw [List.getElem?_append_left (by omega)] at hx
  exact List.mem_append_left _ (d i hi x hx o ho)
theorem QI.all {T : Tb} {s : Nat} {qs : List Nat} (q : QI T s qs) (d : Done T qs qs.length) {x : Nat} (r : Rc T s x) : x ∈ qs := by
  induction r with
  | base => exact q.s0
  | @step x o _ ho ih =>
    obtain ⟨i, hi, e⟩ := List.getElem_of_mem ih
    exact d i hi x (by rw [List.getElem?_eq_getElem hi, e]) o ho
theorem QI.srt {T : Tb} {s : Nat} {qs : List Nat} (k : KOk T) (q : QI T s qs) (d : Done T qs qs.length) : srt (qs.map fun k : Nat => (k : Int)) = (fromL T s).map fun k : Nat => (k : Int) := by
  have u : (fromL T s).Pairwise (· < ·) := List.pairwise_lt_range.filter _
  have p : (fromL T s).Perm qs := (List.perm_ext_iff_of_nodup (u.imp fun {a b} z => Nat.ne_of_lt z) q.nd).mpr fun x => by
    rw [mem_from]
    exact ⟨fun z => q.all d z.2, fun z => ⟨q.lt x z, q.rc x z⟩⟩
  exact (srt_of (p.map _) (List.pairwise_map.mpr (u.imp fun {a b} z => by omega))).symm
section
variable {P : Program} {w : World} {K : PySem.W.Frag} {mg : Str → Option Value} {base : Heap} {C : Addr}
def pre_sf (C : Addr) (ds : List D) : Prop := ∃ (T : Tb) (s : Nat), ds = [kindD C T, dN s] ∧ KOk T ∧ s < T.length
def S_sf (C : Addr) (ds : List D) (d : D) : Prop := ∀ (T : Tb) (s : Nat), ds = [kindD C T, dN s] → d = tupN (fromL T s)
end
end K63

set_option Elab.async false
set_option linter.all false
set_option maxRecDepth 100000
set_option maxHeartbeats 4000000
set_option autoImplicit false
namespace Tx
open PySem L2
/-- i, (j, k) = .. -/
theorem tg_in {K : PySem.W.Frag} {m : Mo} {Γ : G} {i j k : Nat} {a b c : D} : TgD m K (gTup K 2 (gCons (gName i) (gCons (gTup K 2 (gCons (gName j) (gCons (gName k) gNil))) gNil))) Γ (.tup [a, .tup [b, c]]) [i, j, k] (((Γ.set i (some a)).set j (some b)).set k (some c)) := fun x σ H e r Q q => by
  obtain ⟨p, vs, ev, hs, ra⟩ := r.tupE
  cases ra with
  | cons r1 ra =>
    cases ra with
    | cons r2 ra =>
      cases ra
      obtain ⟨p2, vs2, ev2, hs2, ra2⟩ := r2.tupE
      cases ra2 with
      | cons r3 ra2 =>
        cases ra2 with
        | cons r4 ra2 =>
          cases ra2
          refine ⟨p, _, ev, hs, rfl, _, _, rfl, _, _, rfl, p2, _, ev2, hs2, rfl, _, _, rfl, _, _, rfl, rfl, rfl, ?_⟩
          refine q _ H (((e.set i r1).set j r3).set k r4) (m.refl H) fun vs h => ?_
          rw [wipe_set (h k (by simp)), wipe_set (h j (by simp)), wipe_set (h i (by simp))]
end Tx
namespace K63
open PySem L2 Tx
section
variable {ns : List Nat} {n : Nat}
theorem pm_len (p : ns.Perm (List.range n)) : ns.length = n := by rw [p.length_eq, List.length_range]
theorem pm_nd (p : ns.Perm (List.range n)) : ns.Nodup := p.nodup_iff.mpr List.nodup_range
theorem pm_mem (p : ns.Perm (List.range n)) {j : Nat} : j ∈ ns ↔ j < n := by rw [p.mem_iff, List.mem_range]
theorem pm_get (p : ns.Perm (List.range n)) {a : Nat} (ha : a < n) : ns[a]? = some (ns.getD a 0) := by
  rw [List.getD_eq_getElem?_getD, List.getElem?_eq_getElem (by rw [pm_len p]; exact ha)]; rfl
theorem pm_s (p : ns.Perm (List.range n)) {a : Nat} (ha : a < n) : ns.getD a 0 < n := (pm_mem p).mp (List.mem_of_getElem? (pm_get p ha))
theorem pm_t (p : ns.Perm (List.range n)) {j : Nat} (hj : j < n) : ns.idxOf j < n := by rw [← pm_len p]; exact List.idxOf_lt_length_iff.mpr ((pm_mem p).mpr hj)
theorem pm_ts (p : ns.Perm (List.range n)) {a : Nat} (ha : a < n) : ns.idxOf (ns.getD a 0) = a := by
  have hl : a < ns.length := by rw [pm_len p]; exact ha
  have : ns.getD a 0 = ns[a] := by rw [List.getD_eq_getElem?_getD, List.getElem?_eq_getElem hl]; rfl
  rw [this]
  exact (pm_nd p).idxOf_getElem a hl
theorem pm_st (p : ns.Perm (List.range n)) {j : Nat} (hj : j < n) : ns.getD (ns.idxOf j) 0 = j := by
  have hl : ns.idxOf j < ns.length := by rw [pm_len p]; exact pm_t p hj
  rw [List.getD_eq_getElem?_getD, List.getElem?_eq_getElem hl]
  exact List.getElem_idxOf hl
end
theorem perm_srt {ns : List Nat} {n : Nat} (h : ns.Perm (List.range n)) : srt (ns.map fun k : Nat => (k : Int)) = (List.range n).map fun k : Nat => (k : Int) :=
  (srt_of (h.symm.map _) (List.pairwise_map.mpr (List.pairwise_lt_range.imp fun {a b} q => by omega))).symm
/-! ### other numbers -/
def relT (T : Tb) (ss os : List Nat) : Tb := (List.range T.length).map fun j => (List.range (nops T)).map fun k => (ss.getD (at2 T (ss.idxOf j) (os.idxOf k)).1 0, (at2 T (ss.idxOf j) (os.idxOf k)).2)
theorem rel_len (T : Tb) (ss os : List Nat) : (relT T ss os).length = T.length := by unfold relT; rw [List.length_map, List.length_range]
theorem rel_row {T : Tb} {ss os : List Nat} {j : Nat} (hj : j < T.length) : (relT T ss os).getD j [] = (List.range (nops T)).map fun k => (ss.getD (at2 T (ss.idxOf j) (os.idxOf k)).1 0, (at2 T (ss.idxOf j) (os.idxOf k)).2) := by
  unfold relT
  rw [List.getD_eq_getElem?_getD, List.getElem?_map, List.getElem?_range hj]
  rfl
theorem rel_at {T : Tb} {ss os : List Nat} {j k : Nat} (hj : j < T.length) (hk : k < nops T) : at2 (relT T ss os) j k = (ss.getD (at2 T (ss.idxOf j) (os.idxOf k)).1 0, (at2 T (ss.idxOf j) (os.idxOf k)).2) := by
  unfold at2
  rw [rel_row hj, List.getD_eq_getElem?_getD, List.getElem?_map, List.getElem?_range hk]
  rfl
theorem rel_nops {T : Tb} (ok : KOk T) (ss os : List Nat) : nops (relT T ss os) = nops T := nops_of (by rw [rel_len]; exact ok.s1) fun r hr => by
  obtain ⟨j, _, rfl⟩ := List.mem_map.mp hr
  rw [List.length_map, List.length_range]
theorem rel_ok {T : Tb} (ok : KOk T) {ss os : List Nat} (ps : ss.Perm (List.range T.length)) (po : os.Perm (List.range (nops T))) : KOk (relT T ss os) where
  s1 := by rw [rel_len]; exact ok.s1
  s12 := by rw [rel_len]; exact ok.s12
  o1 := by rw [rel_nops ok]; exact ok.o1
  o8 := by rw [rel_nops ok]; exact ok.o8
  row := fun r hr => by
    rw [rel_nops ok]
    obtain ⟨j, _, rfl⟩ := List.mem_map.mp hr
    rw [List.length_map, List.length_range]
  ent := fun r hr p hp => by
    obtain ⟨j, hj, rfl⟩ := List.mem_map.mp hr
    obtain ⟨k, hk, rfl⟩ := List.mem_map.mp hp
    have h1 := pm_t ps (List.mem_range.mp hj)
    have h2 := pm_t po (List.mem_range.mp hk)
    have h3 := ok.ent _ (row_mem h1) _ (ok.at_mem h1 h2)
    rw [rel_len]
    exact ⟨pm_s ps h3.1, h3.2⟩
/-- a table by places -/
def matD (a b : Nat) (g : Nat → Nat → D) : List (List D) := (List.range a).map fun j => (List.range b).map fun k => g j k
theorem mat_row {a b j : Nat} {g : Nat → Nat → D} (hj : j < a) : (matD a b g)[j]? = some ((List.range b).map fun k => g j k) := by unfold matD; rw [List.getElem?_map, List.getElem?_range hj]; rfl
theorem mat_set {a b j k : Nat} {g : Nat → Nat → D} {d : D} (hj : j < a) (hk : k < b) : (matD a b g).set j (((List.range b).map fun k => g j k).set k d) = matD a b fun x y => if x = j ∧ y = k then d else g x y := by
  unfold matD
  apply List.ext_getElem?
  intro x
  by_cases e : j = x
  · subst e
    rw [List.getElem?_set_self (by rw [List.length_map, List.length_range]; exact hj), List.getElem?_map, List.getElem?_range hj]
    show some _ = some _
    congr 1
    apply List.ext_getElem?
    intro y
    by_cases e2 : k = y
    · subst e2
      rw [List.getElem?_set_self (by rw [List.length_map, List.length_range]; exact hk), List.getElem?_map, List.getElem?_range hk]
      show some d = some (if j = j ∧ k = k then d else g j k)
      rw [if_pos ⟨rfl, rfl⟩]
    · rw [List.getElem?_set_ne e2, List.getElem?_map, List.getElem?_map]
      by_cases hy : y < b
      · rw [List.getElem?_range hy]
        show some (g j y) = some (if j = j ∧ y = k then d else g j y)
        rw [if_neg fun z => e2 z.2.symm]
      · rw [List.getElem?_eq_none (by rw [List.length_range]; omega)]
        rfl
  · rw [List.getElem?_set_ne e, List.getElem?_map, List.getElem?_map]
    by_cases hx : x < a
    · rw [List.getElem?_range hx]
      show some _ = some _
      congr 1
      refine List.map_congr_left fun y _ => ?_
      show g x y = if x = j ∧ y = k then d else g x y
      rw [if_neg fun z => e z.1.symm]
    · rw [List.getElem?_eq_none (by rw [List.length_range]; omega)]
      rfl
section
variable {P : Program} {w : World} {K : PySem.W.Frag} {mg : Str → Option Value} {base : Heap} {C : Addr}
theorem sc_are_all_numbers : FnScope ["value", "size"] ["value", "size"] (defScope s_are_all_numbers) := ⟨rfl, rfl, rfl, by decide +kernel, rfl, by decide +kernel, by decide +kernel⟩
def pre_all (ds : List D) : Prop := ∃ (ns : List Nat) (n : Nat), ds = [tupN ns, dN n] ∧ ns.Perm (List.range n) ∧ n ≤ 12
theorem ok_are_all_numbers {f : Addr} {fd : FuncData} (Fu : Fun K "are_all_numbers" "are_all_numbers" s_are_all_numbers f fd) (T : Txt K mg C) (c_are_numbers : CNums P w K mg base) : FnOk P w K mg base CX0 2 f fd ["value", "size"] (spF K pre_all fun _ => .bl true) := by
  refine fn_pure Fu sc_are_all_numbers (fun ds h => by obtain ⟨ns, n, rfl, _⟩ := h; rfl) fun cdv A outer s H E hr => ⟨_, (pss_one (ps_ret (pe_and (C8.pe_c c_are_numbers hr (by decide) rfl (pa_cons (pv 0) (pa_cons pe_int (pa_cons (pe_op op_sub (pv 1) pe_int) pa_nil)))) (pe_one (pe_cmpR (r := rEqD K) (op_eqD hr.units) (pe_callB (r := rSortS K) cr_sortS (by rfl) T.sorted (by decide +kernel) (pa_cons (pv 0) pa_nil)) (pe_listRg rfl rfl T.list (prg_1 rfl T.range (pv 1))) (nomark _)))))), fun F ds hp => ?_⟩
  obtain ⟨ns, n, rfl, hp, h12⟩ := hp
  have hl := pm_len hp
  refine sg_ret (d := .bl true) (Ev1.is (en_and (p := true) (k := true) ?_ fun _ => ?_) rfl) rfl
  · exact en_callF (ds := [tupN ns, .int 0, .int ((n : Int) - 1)]) (ea_cons (en_var 0 rfl) (ea_cons (en_int 0) (ea_cons (en_op1 (en_var 1 rfl) (en_int 1) o_int) ea_nil))) ⟨_, _, rfl, by omega, fun x hx => by have := (pm_mem hp).mp hx; omega⟩
  · refine en_op1 (a := lstN (List.range n)) (b := lstN (List.range n)) ?_ (en_rangeL (en_var 1 rfl) (by omega)) (o_eqS (n := 1) (by decide) (pur_lst fun x hx => by obtain ⟨k, _, rfl⟩ := List.mem_map.mp hx; rfl))
    refine Ev1.is (en_cb1 (ea_cons (en_var 0 rfl) ea_nil) (c_sorted (ns := ns.map fun k : Nat => (k : Int)) (.inl (by rw [← dN_ints])) (by rw [List.length_map]; omega))) ?_
    rw [perm_srt hp, ← dN_ints]
theorem sc_Kind_relabeled : FnScope ["self", "states", "operations", "table", "state", "entries", "_", "operation", "behind", "answer"] ["self", "states", "operations"] (defScope s_Kind_relabeled) := ⟨rfl, rfl, rfl, by decide +kernel, rfl, by decide +kernel, by decide +kernel⟩
def pre_rel (C : Addr) (ds : List D) : Prop := ∃ (T : Tb) (ss os : List Nat), ds = [kindD C T, tupN ss, tupN os] ∧ KOk T ∧ ss.Perm (List.range T.length) ∧ os.Perm (List.range (nops T))
def S_rel (C : Addr) (ds : List D) (d : D) : Prop := ∀ (T : Tb) (ss os : List Nat), ds = [kindD C T, tupN ss, tupN os] → d = kindD C (relT T ss os)
theorem ev_num {m : Mo} {Γ : G} {te tj : TE} {ns : List Nat} {n a : Nat} (p : ns.Perm (List.range n)) (e : Ev1 m K te Γ (tupN ns)) (j : Ev1 m K tj Γ (dN a)) (h : a < n) : Ev1 m K (tOp (rIx K) te tj) Γ (dN (ns.getD a 0)) := en_op1 e j (o_ix (d := dN (ns.getD a 0)) (i := (a : Int)) (.inl rfl) (atI_of (by rw [List.getElem?_map, pm_get p h]; rfl)))
theorem ok_Kind_relabeled {f : Addr} {fd : FuncData} (Fu : Fun K "relabeled" "Kind.relabeled" s_Kind_relabeled f fd) (T : Txt K mg C) (W : KindC K C) (c_are_all_numbers : C8.Cal P w K mg base 2 "are_all_numbers" (spF K pre_all fun _ => .bl true) []) (k_Kind1 : CKind P w K mg base C) : FnOk P w K mg base CX0 7 f fd ["self", "states", "operations"] (spS K (pre_rel C) (S_rel C)) := by
  refine fn_pure Fu sc_Kind_relabeled (fun ds h => by obtain ⟨M, ss, os, rfl, _⟩ := h; rfl) fun cdv A outer s H E hr => ⟨_, (pss_cons (ps_if (PW.pt (pw_or (pt_not (pt_val (C8.pe_c c_are_all_numbers hr (by decide) rfl (pa_cons (pv 1) (pa_cons (pe_callB (r := rLenS K) cr_len (by rfl) T.len (by decide +kernel) (pa_cons (show PE _ _ (tFld K _ "_table") from pe_fld (pv 0) rfl) pa_nil)) pa_nil))))) (pw_or1 (pt_not (pt_val (C8.pe_c c_are_all_numbers hr (by decide) rfl (pa_cons (pv 2) (pa_cons (pe_callB (r := rLenS K) cr_len (by rfl) T.len (by decide +kernel) (pa_cons (pe_ix (r := rIx K) ix_seq (show PE _ _ (tFld K _ "_table") from pe_fld (pv 0) rfl) pe_int (fun _ _ => rfl)) pa_nil)) pa_nil)))))))) (pss_one ps_never) pss_nil) (pss_cons (ps_setLc (i := 3) (own := [("_", 6)]) rfl sc_Kind_relabeled.nd rfl rfl (sw_true rfl rfl rfl (by decide +kernel)) (show PI _ _ _ (iSeq K _) from pi_seq (pv 1)) (blkOk_by (by kernel_rfl)) (fun _ _ _ _ _ => (pg_name (i := 6) sc_Kind_relabeled.nd rfl (by first | exact Or.inl rfl | exact Or.inr rfl))) (fun _ _ _ _ _ => pts_nil) (fun _ _ _ _ _ => (pe_op (r := rMulL K) op_mulL (pe_lst (pa_cons pe_non pa_nil)) (pe_callB (r := rLenS K) cr_len (by rfl) T.len (by decide +kernel) (pa_cons (pv 2) pa_nil))))) (pss_cons (ps_for PassesOwn.never rfl (show PI _ _ _ (iEnumS K _) from pi_enumS rfl T.enumerate (pa_cons (show PE _ _ (tFld K _ "_table") from pe_fld (pv 0) rfl) pa_nil)) (show PG _ _ (gTup K 2 (gCons (gName 4) (gCons (gName 5) gNil))) from pg_tup rfl (pgs_cons (pg_name (i := 4) sc_Kind_relabeled.nd rfl (by first | exact Or.inl rfl | exact Or.inr rfl)) (pgs_cons (pg_name (i := 5) sc_Kind_relabeled.nd rfl (by first | exact Or.inl rfl | exact Or.inr rfl)) pgs_nil))) (pss_one (ps_for PassesOwn.never rfl (show PI _ _ _ (iEnumS K _) from pi_enumS rfl T.enumerate (pa_cons (pv 5) pa_nil)) (show PG _ _ (gTup K 2 (gCons (gName 7) (gCons (gTup K 2 (gCons (gName 8) (gCons (gName 9) gNil))) gNil))) from pg_tup rfl (pgs_cons (pg_name (i := 7) sc_Kind_relabeled.nd rfl (by first | exact Or.inl rfl | exact Or.inr rfl)) (pgs_cons (show PG _ _ (gTup K 2 (gCons (gName 8) (gCons (gName 9) gNil))) from pg_tup rfl (pgs_cons (pg_name (i := 8) sc_Kind_relabeled.nd rfl (by first | exact Or.inl rfl | exact Or.inr rfl)) (pgs_cons (pg_name (i := 9) sc_Kind_relabeled.nd rfl (by first | exact Or.inl rfl | exact Or.inr rfl)) pgs_nil))) pgs_nil))) (pss_one (ps_asg (pe_tup (pa_cons (pe_ix (r := rIx K) ix_seq (pv 1) (pv 8) (fun _ _ => rfl)) (pa_cons (pv 9) pa_nil))) (pg_sub (pe_ix (r := rIx K) ix_seq (pv 3) (pe_ix (r := rIx K) ix_seq (pv 1) (pv 4) (fun _ _ => rfl)) (fun _ _ => rfl)) (pe_ix (r := rIx K) ix_seq (pv 2) (pv 7) (fun _ _ => rfl)) set_list)))))) (pss_one (ps_ret (C8.pe_mk k_Kind1 hr (by decide) rfl (pa_cons (pe_callTy (r := rTup K) cr_tup (by rfl) T.tuple (by decide +kernel) (pa_cons (pe_lc (own := [("entries", 5)]) rfl sc_Kind_relabeled.nd (show PI _ _ _ (iSeq K _) from pi_seq (pv 3)) (blkOk_by (by kernel_rfl)) (fun _ _ _ _ _ => (pg_name (i := 5) sc_Kind_relabeled.nd rfl (by first | exact Or.inl rfl | exact Or.inr rfl))) (fun _ _ _ _ _ => pts_nil) (fun _ _ _ _ _ => (pe_callTy (r := rTup K) cr_tup (by rfl) T.tuple (by decide +kernel) (pa_cons (pv 5) pa_nil)))) pa_nil)) pa_nil))))))), fun F ds hp => ?_⟩
  obtain ⟨M, ss, os, rfl, ok, ps, po⟩ := hp
  have s1 := ok.s1
  have s12 := ok.s12
  have o1 := ok.o1
  have o8 := ok.o8
  have sl := pm_len ps
  have ol := pm_len po
  refine sg_seqIf (b := false) (EvT1.is (et_or (p := false) (k := false) (EvT1.is (et_not (et_B (en_callF (ds := [tupN ss, dN M.length]) (ea_cons (en_var 1 rfl) (ea_cons (ev_tl (ev_tab (en_var 0 rfl) W)) ea_nil)) ⟨ss, _, rfl, ps, s12⟩))) rfl) fun _ => EvT1.is (et_not (et_B (en_callF (ds := [tupN os, dN (nops M)]) (ea_cons (en_var 2 rfl) (ea_cons (ev_rl (ev_row (s := 0) (ev_tab (en_var 0 rfl) W) (en_int 0) (by omega))) ea_nil)) ⟨os, _, rfl, po, by omega⟩))) rfl) rfl) (fun e => nomatch e) fun _ => ?_
  refine sq_newM (xs := ss.map dN) (row := List.replicate (nops M) .non) (js := [6]) (by simp) (it_seq (en_var 1 rfl) (.inl rfl)) (by rw [List.length_map]; omega) (fun d hd => (List.mem_replicate.mp hd).2) (fun m' le d hd => ⟨_, tg_name 6, el_mul (n := nops M) (en_lst (ea_cons en_non ea_nil) (by simp)) (Ev1.is (en_cb1 (ea_cons (en_var 2 rfl) ea_nil) (c_len (.inl rfl))) (by rw [List.length_map, ol])) (by omega)⟩) fun as l H0 hal => ?_
  rw [List.length_map, sl] at hal ⊢
  have m0 : List.replicate M.length (List.replicate (nops M) D.non) = matD M.length (nops M) fun _ _ => .non := by
    unfold matD
    rw [List.map_const', List.length_range, List.map_const', List.length_range]
  rw [m0]
  let Γs : Option D → Option D → Option D → Option D → Option D → G := fun x4 x5 x7 x8 x9 => [some (kindD C M), some (tupN ss), some (tupN os), some (.adr l), x4, x5, none, x7, x8, x9]
  let e2 : Nat → Nat → D := fun s o => entD (ss.getD (at2 M s o).1 0, (at2 M s o).2)
  have en : ∀ V : Tb, enumD (V.map rowT) = (List.range V.length).map fun i => D.tup [dN i, rowT (V.getD i [])] := fun V => enumD_map rowT V
  have en2 : ∀ r : List Ent, enumD (r.map entD) = (List.range r.length).map fun i => D.tup [dN i, entD (r.getD i default)] := fun r => enumD_map entD r
  refine m_seq (fun Γ' L => ∃ x4 x5 x7 x8 x9 g, Γ' = Γs x4 x5 x7 x8 x9 ∧ L = matD M.length (nops M) g ∧ ∀ s < M.length, ∀ o < nops M, g (ss.getD s 0) (os.getD o 0) = e2 s o) (m_for (xs := enumD (M.map rowT)) (ity_enum (ea_cons (ev_tab (en_var 0 rfl) W) ea_nil) (.inl rfl)) (fun i Γ' L => ∃ x4 x5 x7 x8 x9 g, Γ' = Γs x4 x5 x7 x8 x9 ∧ L = matD M.length (nops M) g ∧ ∀ s < i, s < M.length → ∀ o < nops M, g (ss.getD s 0) (os.getD o 0) = e2 s o) ⟨none, none, none, none, none, _, rfl, rfl, fun s hs => absurd hs (by omega)⟩ ?_ ?_) ?_
  · rintro i d Γ' L hd ⟨x4, x5, x7, x8, x9, g, rfl, rfl, hg⟩
    rw [en, List.getElem?_map] at hd
    obtain ⟨s, hs, rfl⟩ := Option.map_eq_some_iff.mp hd
    have il : i < M.length := by have := (List.getElem?_eq_some_iff.mp hs).1; rwa [List.length_range] at this
    rw [List.getElem?_range il] at hs
    injection hs with hs
    subst hs
    refine ⟨_, _, tg_pair, m_for (xs := enumD ((M.getD i []).map entD)) (ity_enum (ea_cons (en_var 5 rfl) ea_nil) (.inl rfl)) (fun j Γ' L => ∃ x7 x8 x9 g, Γ' = Γs (some (dN i)) (some (rowT (M.getD i []))) x7 x8 x9 ∧ L = matD M.length (nops M) g ∧ (∀ s < i, s < M.length → ∀ o < nops M, g (ss.getD s 0) (os.getD o 0) = e2 s o) ∧ ∀ o < j, o < nops M → g (ss.getD i 0) (os.getD o 0) = e2 i o) ⟨x7, x8, x9, g, rfl, rfl, hg, fun o ho => absurd ho (by omega)⟩ ?_ ?_⟩
    · rintro j d Γ' L hd ⟨x7, x8, x9, g, rfl, rfl, hg, hj⟩
      rw [en2, List.getElem?_map, ok.rl il] at hd
      obtain ⟨o, ho, rfl⟩ := Option.map_eq_some_iff.mp hd
      have jl : j < nops M := by have := (List.getElem?_eq_some_iff.mp ho).1; rwa [List.length_range] at this
      rw [List.getElem?_range jl] at ho
      injection ho with ho
      subst ho
      have pe : (M.getD i []).getD j default = at2 M i j := rfl
      rw [pe]
      refine ⟨_, _, tg_in, ?_⟩
      have b1 := pm_s ps il
      have b2 := pm_s po jl
      refine m_set (i := 3) (a := ss.getD i 0) (b := os.getD j 0) (d := e2 i j) rfl (en_tup (ea_cons (ev_num ps (en_var 1 rfl) (en_var 8 rfl) (ok.lt il jl)) (ea_cons (en_var 9 rfl) ea_nil)) (by simp)) (ev_num ps (en_var 1 rfl) (en_var 4 rfl) il) (ev_num po (en_var 2 rfl) (en_var 7 rfl) jl) (mat_row b1) (by rw [List.length_map, List.length_range]; exact b2) ⟨_, _, _, _, rfl, mat_set b1 b2, fun s hs hsl o ho => ?_, fun o ho hon => ?_⟩
      · rw [if_neg fun z => ?_]
        · exact hg s hs hsl o ho
        · have : s = i := by have := congrArg (ss.idxOf ·) z.1; simp only [pm_ts ps hsl, pm_ts ps il] at this; exact this
          omega
      · by_cases e : o = j
        · subst e
          rw [if_pos ⟨rfl, rfl⟩]
        · rw [if_neg fun z => e (by have := congrArg (os.idxOf ·) z.2; simp only [pm_ts po hon, pm_ts po jl] at this; exact this)]
          exact hj o (by omega) hon
    · rintro Γ' L ⟨x7, x8, x9, g, rfl, rfl, hg, hj⟩
      rw [enumD_len, List.length_map, ok.rl il] at hj
      refine ⟨_, _, x7, x8, x9, g, rfl, rfl, fun s hs hsl o ho => ?_⟩
      by_cases e : s = i
      · subst e; exact hj o ho ho
      · exact hg s (by omega) hsl o ho
  · rintro Γ' L ⟨x4, x5, x7, x8, x9, g, rfl, rfl, hg⟩
    rw [enumD_len, List.length_map] at hg
    exact ⟨x4, x5, x7, x8, x9, g, rfl, rfl, fun s hs => hg s hs hs⟩
  · rintro _ _ ⟨x4, x5, x7, x8, x9, g, rfl, rfl, hg⟩
    refine m_dis (i := 3) rfl ?_
    have eM : (matD M.length (nops M) g).map D.lst = ((relT M ss os).map fun r => D.lst (r.map entD)) := by
      unfold matD relT
      rw [List.map_map, List.map_map]
      refine List.map_congr_left fun j hj => ?_
      show D.lst _ = D.lst _
      rw [List.map_map]
      congr 1
      refine List.map_congr_left fun k hk => ?_
      have h1 := List.mem_range.mp hj
      have h2 := List.mem_range.mp hk
      have := hg (ss.idxOf j) (pm_t ps h1) (os.idxOf k) (pm_t po h2)
      rw [pm_st ps h1, pm_st po h2] at this
      exact this
    rw [eM]
    have rok := rel_ok ok ps po
    refine sg_ret (d := kindD C (relT M ss os)) (ev_kind (Ev1.is (en_cb1 (ea_cons (en_lcMA (xs := relT M ss os) (fun r => D.lst (r.map entD)) rowT (fun x _ y _ e => by injection e with e; exact map_inj (fun _ _ => entD_inj) e) (js := [5]) (by simp) (it_seq (d := .lst ((relT M ss os).map fun r => D.lst (r.map entD))) (en_var 3 rfl) (.inr (.inl rfl))) (by rw [rel_len]; omega) fun m' le r hr' => ⟨_, tg_name 5, en_cb1 (ea_cons (en_var 5 rfl) ea_nil) (c_tuple (.inr (.inl rfl)))⟩) ea_nil) (c_tuple (.inr (.inl rfl)))) rfl) rok) fun M' ss' os' e => ?_
    injection e with e e1
    injection e1 with e1 e2
    injection e2 with e2
    rw [kindD_inj e, tupN_inj e1, tupN_inj e2]
end
end K63

set_option Elab.async false
set_option linter.all false
set_option maxRecDepth 100000
set_option maxHeartbeats 4000000
set_option autoImplicit false
namespace K63
open PySem L2 Tx
section
variable {P : Program} {w : World} {K : PySem.W.Frag} {mg : Str → Option Value} {base : Heap} {C Cp : Addr}
theorem sc_law_jug : FnScope ["_law_script", "_law_at", "_law_cell", "_law_great", "_law_mixed"] ["_law_script", "_law_at"] (defScope s_law_jug) := ⟨rfl, rfl, rfl, by decide +kernel, rfl, by decide +kernel, by decide +kernel⟩
def pre_jug (xs : List Int) (i : Int) : Prop := ∃ n : Nat, i = n ∧ n ≤ 100
theorem ok_law_jug {f : Addr} {fd : FuncData} (Fu : Fun K "_law_jug" "_law_jug" s_law_jug f fd) (T : Txt K mg C) : FnOk P w K mg base CX0 1 f fd ["_law_script", "_law_at"] (spNew K pre_jug) := by
  refine fn_new Fu sc_law_jug rfl fun cdv A outer s H E hr => ⟨_, (pss_cons (ps_set (i := 2) sc_law_jug.nd rfl (by first | exact Or.inl rfl | exact Or.inr rfl) (pe_ifExp (pt_cmpR op_lt (pv 1) (pe_callB (r := rLenS K) cr_len (by rfl) T.len (by decide +kernel) (pa_cons (pv 0) pa_nil)) (nomark _)) (pe_ix (r := rIx K) ix_seq (pv 0) (pv 1) (fun _ _ => rfl)) (pe_op (r := rAddU K) op_addU (pe_op (r := rMulU K) op_mulU pe_int (pv 1)) pe_int))) (pss_cons (ps_set (i := 3) sc_law_jug.nd rfl (by first | exact Or.inl rfl | exact Or.inr rfl) (pe_op op_mod (pe_callTy cr_int (by rfl) T.int (by decide +kernel) (pa_cons (pe_callB cr_abs (by rfl) T.abs (by decide +kernel) (pa_cons (pv 2) pa_nil)) pa_nil)) (pe_op op_powW (pe_op op_powW pe_int pe_int) pe_int))) (pss_cons (ps_set (i := 4) sc_law_jug.nd rfl (by first | exact Or.inl rfl | exact Or.inr rfl) (pe_op (r := rAddU K) op_addU (pe_op (r := rMulU K) op_mulU (pe_op op_mod (pe_callTy cr_int (by rfl) T.int (by decide +kernel) (pa_cons (pv 3) pa_nil)) pe_int) pe_int) (pe_callTy cr_int (by rfl) T.int (by decide +kernel) (pa_cons (pe_cmpR op_lt (pv 2) pe_int (nomark _)) pa_nil)))) (pss_one (ps_ret (pe_lst (pa_cons (pe_callB (r := rMaxU K) (cr_maxU rfl hr.units) (by rfl) T.max (by decide +kernel) (pa_cons pe_int (pa_cons (pe_op op_sub (pv 3) (pe_op op_powW pe_int pe_int)) pa_nil))) (pa_cons (pe_op op_mod (pe_callTy cr_int (by rfl) T.int (by decide +kernel) (pa_cons (pe_op (r := rAddU K) op_addU (pe_op (r := rAddU K) op_addU (pe_op (r := rMulU K) op_mulU (pv 4) pe_int) (pe_op (r := rMulU K) op_mulU pe_int (pv 1))) pe_int) pa_nil)) pe_int) (pa_cons pe_int pa_nil))))))))), fun F xs i hp => ?_⟩
  obtain ⟨n, rfl, hn⟩ := hp
  refine sq_asgN (S := isI) ?_ ?_
  · refine en_if1 (k := decide ((n : Int) < ((xs.map D.int).length : Int))) (et_test (en_op1 (en_var 1 rfl) (en_cb1 (ea_cons (en_var 0 rfl) ea_nil) (c_len (.inr (.inr rfl)))) o_bl)) (fun e => ?_) (fun e => ?_)
    · have e := of_decide_eq_true e
      have hl : n < (xs.map D.int).length := by omega
      have hx : ∃ x : Int, (xs.map D.int)[n]? = some (.int x) := by
        rw [List.length_map] at hl
        exact ⟨xs[n], by rw [List.getElem?_map, List.getElem?_eq_getElem hl]; rfl⟩
      obtain ⟨x, hx⟩ := hx
      exact Ev1.n (en_op1 (en_var 0 rfl) (en_var 1 rfl) (o_ix (.inr (.inr rfl)) (atI_of hx))) ⟨x, rfl⟩
    · exact en_addN (en_mulN (A := fun d => d = .int 53) (B := isI) (en_int 53) (Ev1.n (en_var 1 rfl) ⟨_, rfl⟩) fun a b sa ⟨j, sb⟩ => ⟨53, j, sa, sb, .inl (by decide)⟩) (Ev1.n (en_int 67) ⟨_, rfl⟩)
  rintro _ ⟨c, rfl⟩
  refine sq_asgN (S := isI) ((en_modN (n := (10 ^ 57) ^ 10) (en_intN (Ev1.n (en_cb1 (ea_cons (en_var 2 rfl) ea_nil) c_abs) ⟨_, rfl⟩) fun _ s => s) (Ev1.is (en_op1 (en_op1 (en_int 10) (en_int 57) (o_intC (g := fun i j => i ^ j.toNat) (by unfold CPowW; decide +kernel))) (en_int 10) (o_intC (g := fun i j => i ^ j.toNat) (by unfold CPowW; decide +kernel))) (by rfl)) (by decide)).mono fun d s => s.isI) ?_
  rintro _ ⟨g, rfl⟩
  refine sq_asgN (S := isI) ?_ ?_
  · refine en_addN (en_mulN (A := inI 0 2305843009213693921) (B := fun d => d = .int 23) (en_modN (n := 2305843009213693921) (en_intN (Ev1.n (en_var 3 rfl) ⟨_, rfl⟩) fun _ s => s) (en_int _) (by decide)) (en_int 23) fun a b ⟨x, hx, _⟩ sb => ⟨x, 23, hx, sb, .inr (by decide)⟩) ?_
    exact Ev1.n (en_cb1 (ea_cons (en_op1 (en_var 2 rfl) (en_int 0) o_bl) ea_nil) c_intB) ⟨_, rfl⟩
  rintro _ ⟨st, rfl⟩
  refine sg_retN (en_lstN (T := fun ds => ∃ a b c : Int, ds = [.int a, .int b, .int c]) (ea_consN (S := isI) ?_ (ea_consN (U := fun ds => ∃ b : Int, ds = [D.int b, D.int 0]) (S := isI) ?_ (ea_cons (en_int 0) ea_nil) fun d ds ⟨b, hb⟩ e => ⟨b, by rw [hb, e]⟩) fun d ds ⟨a, ha⟩ ⟨b, e⟩ => ⟨a, b, 0, by rw [ha, e]⟩) fun ds ⟨a, b, c, e⟩ => by rw [e]; simp) fun d ⟨ds, e, a, b, c, e2⟩ => ⟨a, b, c, by rw [e, e2]⟩
  · exact Ev1.n (en_cb1 (ea_cons (en_int 0) (ea_cons (en_op1 (en_var 3 rfl) (en_op1 (en_int 10) (en_int 18) (o_intC (g := fun i j => i ^ j.toNat) (by unfold CPowW; decide +kernel))) o_int) ea_nil)) c_max2) ⟨_, rfl⟩
  · refine (en_modN (n := 2305843009213693951) (en_intN (en_addN (en_addN (en_mulN (A := fun d => d = .int st) (B := fun d => d = .int 90001) (en_var 4 rfl) (en_int 90001) fun a b ea eb => ⟨st, 90001, ea, eb, .inr (by decide)⟩) (en_mulN (A := fun d => d = .int 6961) (B := isI) (en_int 6961) (Ev1.n (en_var 1 rfl) ⟨_, rfl⟩) fun a b sa ⟨j, sb⟩ => ⟨6961, j, sa, sb, .inl (by decide)⟩)) (Ev1.n (en_int 43) ⟨_, rfl⟩)) fun _ s => s) (en_int _) (by decide)).mono fun d s => s.isI
theorem sc_law_pour : FnScope ["_law_jug_here", "_law_size", "_law_one", "_law_two", "_law_found"] ["_law_jug_here", "_law_size"] (defScope s_law_pour) := ⟨rfl, rfl, rfl, by decide +kernel, rfl, by decide +kernel, by decide +kernel⟩
def pre_pour (ds : List D) : Prop := ∃ n : Int, ds = [.int n] ∧ 0 < n ∧ n < 1000
def S_pour (ds : List D) (d : D) : Prop := ∀ n : Int, ds = [.int n] → inI 0 n d
theorem ok_law_pour {f : Addr} {fd : FuncData} (Fu : Fun K "_law_pour" "_law_pour" s_law_pour f fd) (T : Txt K mg C) : FnOk P w K mg base CX0 1 f fd ["_law_jug_here", "_law_size"] (spP K pre_pour S_pour) := by
  refine fn_pouch Fu sc_law_pour (fun ds h => by obtain ⟨n, rfl, _⟩ := h; rfl) fun cdv A outer s H E hr => ⟨_, (pss_cons (ps_if (pt_cmpR op_gt (pe_ix (r := rIx K) ix_seq (pv 0) pe_int (fun _ _ => rfl)) pe_int (nomark _)) (pss_cons (ps_set (i := 4) sc_law_pour.nd rfl (by first | exact Or.inl rfl | exact Or.inr rfl) (pe_op op_mod (pe_callTy cr_int (by rfl) T.int (by decide +kernel) (pa_cons (pe_ix (r := rIx K) ix_seq (pv 0) pe_int (fun _ _ => rfl)) pa_nil)) (pv 1))) (pss_cons (ps_asg (pe_op op_fdiv (pe_ix (r := rIx K) ix_seq (pv 0) pe_int (fun _ _ => rfl)) (pv 1)) (pg_sub (pv 0) pe_int set_list)) (pss_one (ps_ret (pv 4))))) pss_nil) (pss_cons (ps_asg (pe_op (r := rAddU K) op_addU (pe_ix (r := rIx K) ix_seq (pv 0) pe_int (fun _ _ => rfl)) pe_int) (pg_sub (pv 0) pe_int set_list)) (pss_cons (ps_set (i := 2) sc_law_pour.nd rfl (by first | exact Or.inl rfl | exact Or.inr rfl) (pe_op op_mod (pe_callTy cr_int (by rfl) T.int (by decide +kernel) (pa_cons (pe_op (r := rAddU K) op_addU (pe_ix (r := rIx K) ix_seq (pv 0) pe_int (fun _ _ => rfl)) (pe_op (r := rMulU K) op_mulU pe_int (pe_ix (r := rIx K) ix_seq (pv 0) pe_int (fun _ _ => rfl)))) pa_nil)) pe_int)) (pss_cons (ps_set (i := 3) sc_law_pour.nd rfl (by first | exact Or.inl rfl | exact Or.inr rfl) (pe_op (r := rAddU K) op_addU (pe_op (r := rMulU K) op_mulU (pe_op op_mod (pe_callTy cr_int (by rfl) T.int (by decide +kernel) (pa_cons (pe_op (r := rMulU K) op_mulU (pv 2) (pv 2)) pa_nil)) pe_int) (pv 2)) (pe_op (r := rMulU K) op_mulU pe_int (pe_ix (r := rIx K) ix_seq (pv 0) pe_int (fun _ _ => rfl))))) (pss_one (ps_ret (pe_op op_mod (pe_callTy cr_int (by rfl) T.int (by decide +kernel) (pa_cons (pe_op op_fdiv (pe_op op_mod (pe_callTy cr_int (by rfl) T.int (by decide +kernel) (pa_cons (pv 3) pa_nil)) pe_int) pe_int) pa_nil)) (pv 1)))))))), fun p F ds hp => ?_⟩
  obtain ⟨n, rfl, h0, h1⟩ := hp
  have HP := HasP.self p F
  have hS : ∀ d, inI 0 n d → S_pour [.int n] d := fun d h n' e => by injection e with e; injection e with e; rw [← e]; exact h
  have hm : ∀ k : Int, -(2 ^ 64) < k → k < 2 ^ 64 → ∀ a b, a = D.int k → isI b → ∃ i j, a = .int i ∧ b = .int j ∧ CMul i j := fun k k0 k1 a b e ⟨j, hb⟩ => ⟨k, j, e, hb, .inl ⟨k0, k1⟩⟩
  refine sg_seq (fun Γ' => Γ' = startG ["_law_jug_here", "_law_size", "_law_one", "_law_two", "_law_found"] [.adr p, .int n]) (sg_ifN (T := fun _ => True) (et_testN (en_op (Sb := fun d => d = .int 0) (en_pIx HP (en_var 0 rfl) (by decide)) (en_int 0) fun a b ⟨x, sa⟩ sb => by subst sa; subst sb; exact OpN.mono o_bl fun d e => ⟨_, e, trivial⟩)) (fun _ => ?_) (fun _ => sg_next rfl)) ?_
  · refine sq_asgN (en_modN (en_intN (en_pIx HP (en_var 0 rfl) (by decide)) fun _ s => s) (en_var 1 rfl) h0) fun d hd => ?_
    refine sq_pSet HP (en_fdivN (en_pIx HP (en_var 0 rfl) (by decide)) (en_var 1 rfl) ⟨h0, by omega⟩) (en_var 0 rfl) (by decide) ?_
    exact sg_ret (en_var 4 rfl) (hS d hd)
  · rintro Γ' rfl
    refine sq_pSet HP (en_addN (en_pIx HP (en_var 0 rfl) (by decide)) (Ev1.n (en_int 1) ⟨_, rfl⟩)) (en_var 0 rfl) (by decide) ?_
    refine sq_asgN (en_modN (n := 2305843009213693951) (en_intN (en_addN (en_pIx HP (en_var 0 rfl) (by decide)) (en_mulN (A := fun d => d = .int 1000423) (en_int 1000423) (en_pIx HP (en_var 0 rfl) (by decide)) (hm _ (by decide) (by decide)))) fun _ s => s) (en_int _) (by decide)) ?_
    rintro _ ⟨a, rfl, ha0, ha1⟩
    refine sq_asgN (S := isI) (en_addN (en_mulN (A := inI 0 2305843009213693907) (B := fun d => d = .int a) (en_modN (n := 2305843009213693907) (en_intN (en_mulN (A := fun d => d = .int a) (B := fun d => d = .int a) (en_var 2 rfl) (en_var 2 rfl) fun x y ex ey => ⟨a, a, ex, ey, .inl ⟨by omega, by omega⟩⟩) fun _ s => s) (en_int _) (by decide)) (en_var 2 rfl) fun x y ⟨z, hz, _, _⟩ ey => ⟨z, a, hz, ey, .inr ⟨by omega, by omega⟩⟩) (en_mulN (A := fun d => d = .int 7451) (en_int 7451) (en_pIx HP (en_var 0 rfl) (by decide)) (hm _ (by decide) (by decide)))) ?_
    rintro _ ⟨b, rfl⟩
    exact sg_retN (en_modN (en_intN (en_fdivN (EvN.mono (en_modN (n := 2305843009213693921) (en_intN (Ev1.n (d := .int b) (en_var 3 rfl) ⟨_, rfl⟩) fun _ s => s) (en_int _) (by decide)) fun _ s => s.isI) (en_int 4096) (by unfold CDiv; decide)) fun _ s => s) (en_var 1 rfl) h0) hS
theorem sc_law_one_of : FnScope ["_law_jug_here", "_law_items"] ["_law_jug_here", "_law_items"] (defScope s_law_one_of) := ⟨rfl, rfl, rfl, by decide +kernel, rfl, by decide +kernel, by decide +kernel⟩
def pre_one (ds : List D) : Prop := ∃ b xs, ds = [b] ∧ isSeq b xs ∧ 0 < xs.length ∧ xs.length < 1000
def S_one (ds : List D) (d : D) : Prop := ∀ b xs, ds = [b] → isSeq b xs → d ∈ xs
theorem isSeq_fun {b : D} {xs ys : List D} (h : isSeq b xs) (h' : isSeq b ys) : xs = ys := by
  rcases h with rfl | rfl | rfl <;> rcases h' with e | e | e <;> injection e
abbrev CPour (P : Program) (w : World) (K : PySem.W.Frag) (mg : Str → Option Value) (base : Heap) : Prop := C8.Cal P w K mg base 1 "_law_pour" (spP K pre_pour S_pour) []
theorem ok_law_one_of {f : Addr} {fd : FuncData} (Fu : Fun K "_law_one_of" "_law_one_of" s_law_one_of f fd) (T : Txt K mg C) (c__law_pour : CPour P w K mg base) : FnOk P w K mg base CX0 2 f fd ["_law_jug_here", "_law_items"] (spP K pre_one S_one) := by
  refine fn_pouch Fu sc_law_one_of (fun ds h => by obtain ⟨b, xs, rfl, _⟩ := h; rfl) fun cdv A outer s H E hr => ⟨_, (pss_one (ps_ret (pe_ix (r := rIx K) ix_seq (pv 1) (C8.pe_c c__law_pour hr (by decide) rfl (pa_cons (pv 0) (pa_cons (pe_callB (r := rLenS K) cr_len (by rfl) T.len (by decide +kernel) (pa_cons (pv 1) pa_nil)) pa_nil))) (fun _ _ => rfl)))), fun p F ds hp => ?_⟩
  obtain ⟨b, xs, rfl, hb, h0, h1⟩ := hp
  have HP := HasP.self p F
  refine sg_retN (S := fun d => d ∈ xs) (en_op (Sa := fun d => d = b) (Sb := inI 0 xs.length) (en_var 1 rfl) (en_pcall1 HP (ds := [.int xs.length]) (ea_cons (en_var 0 rfl) (ea_cons (en_cb1 (ea_cons (en_var 1 rfl) ea_nil) (c_len hb)) ea_nil)) ⟨_, rfl, by omega, by omega⟩ fun d hd => hd _ rfl) fun x y ex ⟨i, ey, i0, i1⟩ => ?_) (fun d hd b' xs' e hb' => ?_)
  · subst ex; subst ey
    obtain ⟨k, rfl⟩ : ∃ k : Nat, i = k := ⟨i.toNat, by omega⟩
    have hk : k < xs.length := by omega
    exact OpN.mono (o_ix hb (d := xs[k]) (atI_of (List.getElem?_eq_getElem hk))) fun d e => by rw [e]; exact List.getElem_mem hk
  · injection e with e
    subst e
    rw [← isSeq_fun hb hb']
    exact hd
end
end K63

set_option Elab.async false
set_option linter.all false
set_option maxRecDepth 100000
set_option maxHeartbeats 4000000
set_option autoImplicit false
namespace Tx
open PySem L2
theorem LcR.encs {α : Type} {enc : α → D} {V' : D → D → Prop} {P : α → Prop} : ∀ {xs ys : List D}, LcR (fun _ b => b = true) V' xs ys → (∀ x ∈ xs, ∀ y, V' x y → ∃ k, y = enc k ∧ P k) → ∃ zs : List α, ys = zs.map enc ∧ zs.length = xs.length ∧ ∀ z ∈ zs, P z
  | [], _, h, _ => by cases h; exact ⟨[], rfl, rfl, fun z hz => nomatch hz⟩
  | x :: xs, _, h, k => by
    cases h with
    | no t h => cases t
    | yes t v h =>
      obtain ⟨zs, h1, h2, h3⟩ := LcR.encs h fun y hy => k y (List.mem_cons_of_mem _ hy)
      obtain ⟨n, e, p⟩ := k x List.mem_cons_self _ v
      refine ⟨n :: zs, by rw [h1, e]; rfl, by rw [List.length_cons, h2, List.length_cons], fun z hz => ?_⟩
      rcases List.mem_cons.mp hz with e | hz
      · rw [e]; exact p
      · exact h3 z hz
/-- list(range(n)), as a list of one's own -/
theorem el_range {K : PySem.W.Frag} {m : Mo} {Γ : G} {ta : TE} {n : Nat} (h : Ev1 m K ta Γ (dN n)) (hn : n ≤ 1000) : EvL m K (tLstRg (tRg1 ta)) Γ ((List.range n).map dN) := fun σ H e Q q =>
  h σ H e _ fun v d H1 s r1 rv => by
    subst s
    refine ⟨n, rv.intE, RgOk.of_le (by omega) (by omega) (by omega) (by omega), fun p hp => q _ _ _ r1 hp ?_⟩
    have : rgV 0 (n : Int) = (List.range n).map fun i : Nat => V.int (i : Int) := by
      unfold rgV
      have e : ((n : Int) - 0).toNat = n := by omega
      rw [e]
      exact List.map_congr_left fun i _ => by rw [Int.zero_add]
    rw [this]
    exact RpAll.map (f := fun i : Nat => V.int (i : Int)) (g := dN) (fun x => .int _) _
def inN (n : Nat) (d : D) : Prop := ∃ k : Nat, d = dN k ∧ k < n
theorem inI.nat {n : Nat} {d : D} (h : inI 0 n d) : inN n d := by
  obtain ⟨x, e, h0, h1⟩ := h
  exact ⟨x.toNat, by rw [e]; show D.int x = D.int _; rw [Int.toNat_of_nonneg h0], by omega⟩
end Tx
namespace K63
open PySem L2 Tx
section
variable {P : Program} {w : World} {K : PySem.W.Frag} {mg : Str → Option Value} {base : Heap} {C : Addr}
section
variable {m : Mo} {Γ : G} {t0 te : TE} {p : Addr} {E : XK}
theorem ep {n : Nat} (hp : HasP m p) (h0 : Ev1 m K t0 Γ (.adr p)) (h : Ev1 m K te Γ (dN n)) (h1 : 1 ≤ n) (h2 : n < 1000) : EvN m K (tCall (spP K pre_pour S_pour) [] E (tCons t0 (tCons te tNil))) Γ (inN n) :=
  EvN.mono (en_pcall1 hp (ds := [.int n]) (ea_cons h0 (ea_cons h ea_nil)) ⟨n, rfl, by omega, by omega⟩ fun d hd => hd _ rfl) fun d hd => inI.nat hd
theorem ep1 {n : Nat} (hp : HasP m p) (h0 : Ev1 m K t0 Γ (.adr p)) (h : Ev1 m K te Γ (dN n)) (h1 : 1 ≤ n) (h2 : n < 1000) : EvN m K (tOp (rAddU K) (tC (.int 1)) (tCall (spP K pre_pour S_pour) [] E (tCons t0 (tCons te tNil)))) Γ (fun d => ∃ k, d = dN k ∧ 1 ≤ k ∧ k ≤ n) :=
  en_op (Sa := fun d => d = .int 1) (en_int 1) (ep hp h0 h h1 h2) fun a b ea ⟨k, eb, hk⟩ => by
    subst ea; subst eb
    exact OpN.mono o_addI fun d e => ⟨1 + k, by rw [e]; show D.int _ = D.int _; congr 1, by omega, by omega⟩
end
theorem sc_law_order_of : FnScope ["_law_jug_here", "_law_size", "_law_turn", "_law_left", "_law_found"] ["_law_jug_here", "_law_size"] (defScope s_law_order_of) := ⟨rfl, rfl, rfl, by decide +kernel, rfl, by decide +kernel, by decide +kernel⟩
abbrev ftN (l : List Nat) : D := .ftp (l.map dN)
def pre_ord (ds : List D) : Prop := ∃ n : Nat, ds = [dN n] ∧ n ≤ 900
def S_ord (ds : List D) (d : D) : Prop := ∀ n : Nat, ds = [dN n] → ∃ ns : List Nat, d = ftN ns ∧ ns.Perm (List.range n)
theorem erase_map {ns : List Nat} {n : Nat} : (ns.map dN).eraseIdx n = (ns.eraseIdx n).map dN := by
  induction ns generalizing n with
  | nil => rfl
  | cons a ns ih => cases n with
    | zero => rfl
    | succ n => rw [List.map_cons, List.eraseIdx_cons_succ, List.eraseIdx_cons_succ, List.map_cons, ih]
theorem ok_law_order_of {f : Addr} {fd : FuncData} (Fu : Fun K "_law_order_of" "_law_order_of" s_law_order_of f fd) (T : Txt K mg C) (c__law_pour : CPour P w K mg base) : FnOk P w K mg base CX0 2 f fd ["_law_jug_here", "_law_size"] (spP K pre_ord S_ord) := by
  refine fn_pouch Fu sc_law_order_of (fun ds h => by obtain ⟨n, rfl, _⟩ := h; rfl) fun cdv A outer s H E hr => ⟨_, (pss_cons (ps_par (i := 3) (j := 4) rfl sc_law_order_of.nd rfl rfl (by decide) rfl rfl (pa_cons (pe_listRg rfl rfl T.list (prg_1 rfl T.range (pv 1))) (pa_cons (pe_lst pa_nil) pa_nil)) (by rfl)) (pss_cons (ps_for PassesOwn.never rfl (pi_range1 rfl T.range (pa_cons (pv 1) pa_nil)) (pg_name (i := 2) sc_law_order_of.nd rfl (by first | exact Or.inl rfl | exact Or.inr rfl)) (pss_one (ps_expr (pe_bm PySem.F.plainAttrs_list PySem.F.slot_list_append PySem.F.type_list_append mt_append (pv 4) (pa_cons (show PE _ _ (tBM K "list" rPopAt _ _) from pe_bm PySem.F.plainAttrs_list PySem.F.slot_list_pop PySem.F.type_list_pop mt_popAt (pv 3) (pa_cons (C8.pe_c c__law_pour hr (by decide) rfl (pa_cons (pv 0) (pa_cons (pe_callB (r := rLenS K) cr_len (by rfl) T.len (by decide +kernel) (pa_cons (pv 3) pa_nil)) pa_nil))) pa_nil)) pa_nil))))) (pss_one (ps_ret (pe_callTy (r := rTupF K) cr_tupF (by rfl) T.tuple (by decide +kernel) (pa_cons (pv 4) pa_nil)))))), fun p F ds hp => ?_⟩
  obtain ⟨n, rfl, hl⟩ := hp
  have HP := HasP.self p F
  refine sq_two (i := 3) (j := 4) (as := (List.range n).map dN) (el_range (en_var 1 rfl) (by omega)) fun l k H0 => ?_
  refine sp_seq (fun Γ' as' bs' => ∃ (x2 : Option D) (a b : List Nat), as' = a.map dN ∧ bs' = b.map dN ∧ (b ++ a).Perm (List.range n) ∧ a.length = n - n ∧ Γ' = [some (.adr p), some (dN n), x2, some (.adr l), some (.adr k)])
    (sp_forR (i := 3) (n := n) rfl (ea_cons (en_var 1 rfl) ea_nil) (by omega) (fun i Γ' as' bs' => ∃ (x2 : Option D) (a b : List Nat), as' = a.map dN ∧ bs' = b.map dN ∧ (b ++ a).Perm (List.range n) ∧ a.length = n - i ∧ Γ' = [some (.adr p), some (dN n), x2, some (.adr l), some (.adr k)]) ⟨none, List.range n, [], rfl, rfl, List.Perm.refl _, by rw [List.length_range]; rfl, rfl⟩ ?_ fun Γ' as' bs' w => w) ?_
  · rintro i d Γ' as' bs' hd ⟨x2, a, b, rfl, rfl, pm, ha, rfl⟩
    have hi := (List.getElem?_eq_some_iff.mp hd).1
    rw [List.length_map, List.length_range] at hi
    have lb : b.length + a.length = n := by rw [← List.length_append, pm.length_eq, List.length_range]
    refine ⟨_, _, tg_name 2, sp_pop (i := 3) (j := 4) (S := inI 0 (a.map dN).length) rfl rfl (en_pcall1 (HP.le (Mo.le_ext _ k)) (ds := [.int (a.map dN).length]) (ea_cons (en_var 0 rfl) (ea_cons (en_cb1 (ea_cons (en_var 3 rfl) ea_nil) (c_len (.inr (.inl rfl)))) ea_nil)) ⟨_, rfl, by rw [List.length_map]; omega, by rw [List.length_map]; omega⟩ fun d hd => hd _ rfl) (fun d ⟨x, e, h0, h1⟩ => ⟨x.toNat, by rw [e]; show D.int x = D.int _; rw [Int.toNat_of_nonneg h0], by omega⟩) (by rw [List.length_map]; omega) (by rw [List.length_map]; omega) fun n' d hn => ?_⟩
    rw [List.getElem?_map] at hn
    cases e : a[n']? with
    | none => rw [e] at hn; cases hn
    | some x =>
      rw [e] at hn
      injection hn with hn
      subst hn
      obtain ⟨h1, h2⟩ := List.getElem?_eq_some_iff.mp e
      refine ⟨_, a.eraseIdx n', b ++ [x], erase_map, by rw [List.map_append]; rfl, ?_, by rw [List.length_eraseIdx, if_pos h1]; omega, rfl⟩
      refine List.Perm.trans ?_ pm
      rw [List.append_assoc]
      refine List.Perm.append_left b ?_
      rw [← h2]
      exact erase_perm a n' _ (List.getElem?_eq_getElem h1)
  · rintro Γ' as' bs' ⟨x2, a, b, rfl, rfl, pm, ha, rfl⟩
    have : a = [] := List.length_eq_zero_iff.mp (by omega)
    subst this
    rw [List.append_nil] at pm
    exact sp_dis (i := 3) (j := 4) rfl rfl (by decide) (sg_ret (d := ftN b) (en_cb1 (ea_cons (en_var 4 rfl) ea_nil) c_tupF) fun n' e => by injection e with e; rw [← dN_inj e]; exact ⟨b, rfl, pm⟩)
abbrev COrd (P : Program) (w : World) (K : PySem.W.Frag) (mg : Str → Option Value) (base : Heap) : Prop := C8.Cal P w K mg base 2 "_law_order_of" (spP K pre_ord S_ord) []
abbrev COne (P : Program) (w : World) (K : PySem.W.Frag) (mg : Str → Option Value) (base : Heap) : Prop := C8.Cal P w K mg base 2 "_law_one_of" (spP K pre_one S_one) []
structure TOk (T : Tb) : Prop where
  ok : KOk T
  s5 : T.length ≤ 5
  o4 : nops T ≤ 4
  sq : T.length * (nops T * nops T) ≤ 48
theorem sc_law_table : FnScope ["_law_jug_here", "_law_most", "_law_wide", "_law_rows", "_law_state", "_law_states", "_law_operations", "_law_turn"] ["_law_jug_here", "_law_most"] (defScope s_law_table) := ⟨rfl, rfl, rfl, by decide +kernel, rfl, by decide +kernel, by decide +kernel⟩
def pre_tbl (ds : List D) : Prop := ∃ most : Nat, ds = [dN most] ∧ 1 ≤ most ∧ most ≤ 5
def S_tbl (ds : List D) (d : D) : Prop := ∃ T : Tb, d = tabD T ∧ TOk T
theorem ok_law_table {f : Addr} {fd : FuncData} (Fu : Fun K "_law_table" "_law_table" s_law_table f fd) (T : Txt K mg C) (c__law_pour : CPour P w K mg base) (c__law_one_of : COne P w K mg base) : FnOk P w K mg base CX0 3 f fd ["_law_jug_here", "_law_most"] (spP K pre_tbl S_tbl) := by
  refine fn_pouch Fu sc_law_table (fun ds h => by obtain ⟨n, rfl, _⟩ := h; rfl) fun cdv A outer s H E hr => ⟨_, (pss_cons (ps_asg (pe_tup (pa_cons (pe_op (r := rAddU K) op_addU pe_int (C8.pe_c c__law_pour hr (by decide) rfl (pa_cons (pv 0) (pa_cons (pv 1) pa_nil)))) (pa_cons (pe_op (r := rAddU K) op_addU pe_int (C8.pe_c c__law_pour hr (by decide) rfl (pa_cons (pv 0) (pa_cons pe_int pa_nil)))) pa_nil))) (show PG _ _ (gTup K 2 (gCons (gName 5) (gCons (gName 6) gNil))) from pg_tup rfl (pgs_cons (pg_name (i := 5) sc_law_table.nd rfl (by first | exact Or.inl rfl | exact Or.inr rfl)) (pgs_cons (pg_name (i := 6) sc_law_table.nd rfl (by first | exact Or.inl rfl | exact Or.inr rfl)) pgs_nil)))) (pss_cons (ps_set (i := 2) sc_law_table.nd rfl (by first | exact Or.inl rfl | exact Or.inr rfl) (C8.pe_c c__law_one_of hr (by decide) rfl (pa_cons (pv 0) (pa_cons (pe_lst (pa_cons pe_int (pa_cons pe_int (pa_cons pe_int (pa_cons pe_int (pa_cons pe_int pa_nil)))))) pa_nil)))) (pss_cons (ps_set (i := 3) sc_law_table.nd rfl (by first | exact Or.inl rfl | exact Or.inr rfl) (pe_lst pa_nil)) (pss_cons (ps_for PassesOwn.never rfl (pi_range1 rfl T.range (pa_cons (pv 5) pa_nil)) (pg_name (i := 4) sc_law_table.nd rfl (by first | exact Or.inl rfl | exact Or.inr rfl)) (pss_one (ps_expr (pe_bm PySem.F.plainAttrs_list PySem.F.slot_list_append PySem.F.type_list_append mt_append (pv 3) (pa_cons (pe_callTy (r := rTup K) cr_tup (by rfl) T.tuple (by decide +kernel) (pa_cons (pe_lc (own := [("_law_turn", 7)]) rfl sc_law_table.nd (pi_range1 rfl T.range (pa_cons (pv 6) pa_nil)) (blkOk_by (by kernel_rfl)) (fun _ _ _ _ _ => (pg_name (i := 7) sc_law_table.nd rfl (by first | exact Or.inl rfl | exact Or.inr rfl))) (fun _ _ _ _ _ => pts_nil) (fun _ _ _ _ _ => (pe_tup (pa_cons (C8.pe_c c__law_pour hr (by decide) rfl (pa_cons (pv 0) (pa_cons (pv 5) pa_nil))) (pa_cons (C8.pe_c c__law_pour hr (by decide) rfl (pa_cons (pv 0) (pa_cons (pv 2) pa_nil))) pa_nil))))) pa_nil)) pa_nil))))) (pss_one (ps_ret (pe_callTy (r := rTup K) cr_tup (by rfl) T.tuple (by decide +kernel) (pa_cons (pv 3) pa_nil)))))))), fun p F ds hp => ?_⟩
  obtain ⟨most, rfl, m1, m5⟩ := hp
  have HP := HasP.self p F
  refine sq_asgT (S := fun d => ∃ n k, d = .tup [dN n, dN k] ∧ (1 ≤ n ∧ n ≤ most) ∧ 1 ≤ k ∧ k ≤ 3) (EvN.mono (en_tupN (T := fun ds => ∃ n k, ds = [dN n, dN k] ∧ (1 ≤ n ∧ n ≤ most) ∧ 1 ≤ k ∧ k ≤ 3) (ea_consN (ep1 HP (en_var 0 rfl) (en_var 1 rfl) m1 (by omega)) (ea_consN (T := fun ds => ds = []) (U := fun ds => ∃ k, ds = [dN k] ∧ 1 ≤ k ∧ k ≤ 3) (ep1 HP (en_var 0 rfl) (en_int 3) (by decide) (by decide)) ea_nil fun d ds ⟨k, e, h⟩ e2 => ⟨k, by rw [e, e2], h⟩) fun d ds ⟨n, e, h⟩ ⟨k, e2, h2⟩ => ⟨n, k, by rw [e, e2], h, h2⟩) fun ds ⟨n, k, e, _⟩ => by rw [e]; simp) fun d ⟨ds, e, n, k, e2, h⟩ => ⟨n, k, by rw [e, e2], h⟩) ?_
  rintro _ ⟨n, k, rfl, ⟨n1, nm⟩, k1, k3⟩
  refine ⟨_, _, tg_pair, ?_⟩
  refine sq_asgN (S := fun d => ∃ q : Nat, d = dN q ∧ 1 ≤ q ∧ q ≤ 100) (EvN.mono (en_pcall1 HP (ds := [lstN [1, 2, 3, 3, 100]]) (S := fun d => d ∈ [1, 2, 3, 3, 100].map dN) (ea_cons (en_var 0 rfl) (ea_cons (en_lst (ea_cons (en_int 1) (ea_cons (en_int 2) (ea_cons (en_int 3) (ea_cons (en_int 3) (ea_cons (en_int 100) ea_nil))))) (by simp)) ea_nil)) ⟨_, _, rfl, .inr (.inl rfl), by decide, by decide⟩ fun d hd => hd _ _ rfl (.inr (.inl rfl))) fun d hd => ?_) ?_
  · obtain ⟨q, hq, rfl⟩ := List.mem_map.mp hd
    refine ⟨q, rfl, ?_⟩
    simp only [List.mem_cons, List.not_mem_nil, or_false] at hq
    omega
  rintro _ ⟨q, rfl, q1, q100⟩
  let RO : List Ent → Prop := fun r => r.length = k ∧ ∀ x ∈ r, x.1 < n ∧ x.2 ≤ 99
  refine sq_newL (i := 3) ea_nil (by simp) (by simp [startG]) fun l H0 => ?_
  refine so_seq (fun Γ' ds' => ∃ (R : Tb) (x4 x7 : Option D), ds' = R.map rowT ∧ R.length = n ∧ (∀ r ∈ R, RO r) ∧ Γ' = [some (.adr p), some (dN most), some (dN q), some (.adr l), x4, some (dN n), some (dN k), x7])
    (so_for (xs := (List.range n).map dN) (itx_rng (ea_cons (en_var 5 rfl) ea_nil) (by omega)) (fun i Γ' ds' => ∃ (R : Tb) (x4 x7 : Option D), ds' = R.map rowT ∧ R.length = i ∧ (∀ r ∈ R, RO r) ∧ Γ' = [some (.adr p), some (dN most), some (dN q), some (.adr l), x4, some (dN n), some (dN k), x7]) ⟨[], none, none, rfl, rfl, fun r hr => (nomatch hr), rfl⟩ ?_ ?_) ?_
  · rintro i d Γ' ds' hd ⟨R, x4, x7, rfl, hR, ro, rfl⟩
    have hi := (List.getElem?_eq_some_iff.mp hd).1
    rw [List.length_map, List.length_range] at hi
    refine ⟨_, _, tg_name 4, so_appN (i := 3) (S := fun d => ∃ r, d = rowT r ∧ RO r) rfl (en_cb (T := fun ds => ∃ r : List Ent, ds = [.lst (r.map entD)] ∧ RO r) (ea_consN (T := fun x => x = []) (en_lc (U := fun xs => xs = (List.range k).map dN) (T := fun _ b => b = true) (V' := fun _ y => ∃ x : Ent, y = entD x ∧ x.1 < n ∧ x.2 ≤ 99) (js := [7]) (by simp) (it_rng (ea_cons (en_var 6 rfl) ea_nil) (by omega)) (fun xs e => by rw [e, List.length_map, List.length_range]; omega) fun m' le xs d e hd => ?_) ea_nil fun d ds ⟨xs, ys, e1, e2, e3⟩ e => ?_) fun ds ⟨r, e, k⟩ => by
      subst e
      exact CaN.mono (c_tuple (.inr (.inl rfl))) fun d e => ⟨r, e, k⟩) (by rw [List.length_map]; omega) fun d ⟨r, e, h⟩ => ⟨R ++ [r], _, _, by rw [e, List.map_append]; rfl, by rw [List.length_append]; show R.length + 1 = i + 1; omega, fun z hz => ?_, rfl⟩⟩
    · have HP2 : HasP m' p := HP.le (Mo.Le.trans (Mo.le_ext _ l) le)
      exact ⟨_, tg_name 7, et_yes, fun _ => EvN.mono (en_tupN (T := fun ds => ∃ x : Ent, ds = [dN x.1, dN x.2] ∧ x.1 < n ∧ x.2 ≤ 99) (ea_consN (ep HP2 (en_var 0 rfl) (en_var 5 rfl) n1 (by omega)) (ea_consN (T := fun ds => ds = []) (U := fun ds => ∃ b, ds = [dN b] ∧ b < q) (ep HP2 (en_var 0 rfl) (en_var 2 rfl) q1 (by omega)) ea_nil fun d ds ⟨k, e, h⟩ e2 => ⟨k, by rw [e, e2], h⟩) fun d ds ⟨a, e, h⟩ ⟨b, e2, h2⟩ => ⟨(a, b), by rw [e, e2], h, by show b ≤ 99; omega⟩) fun ds ⟨x, e, _⟩ => by rw [e]; simp) fun d ⟨ds, e, x, e2, h⟩ => ⟨x, by rw [e, e2]; rfl, h⟩⟩
    · subst e1
      obtain ⟨zs, h1, h2, h3⟩ := e2.encs (enc := entD) (P := fun x => x.1 < n ∧ x.2 ≤ 99) fun x _ y h => h
      rw [List.length_map, List.length_range] at h2
      exact ⟨zs, by rw [e3, h1, e], h2, h3⟩
    · rcases List.mem_append.mp hz with z | z
      · exact ro _ z
      · rw [List.mem_singleton.mp z]; exact h
  · rintro Γ' ds' ⟨R, x4, x7, rfl, hR, ro, rfl⟩
    rw [List.length_map, List.length_range] at hR
    exact ⟨R, x4, x7, rfl, hR, ro, rfl⟩
  · rintro Γ' ds' ⟨R, x4, x7, rfl, hR, ro, rfl⟩
    have no : nops R = k := nops_of (by omega) fun r hr => (ro r hr).1
    exact so_dis (i := 3) rfl (sg_ret (d := tabD R) (en_cb1 (ea_cons (en_var 3 rfl) ea_nil) (c_tuple (.inr (.inl rfl)))) ⟨R, rfl, ⟨by omega, by omega, by omega, by omega, fun r hr => by rw [no]; exact (ro r hr).1, fun r hr x hx => by rw [hR]; exact (ro r hr).2 x hx⟩, by omega, by omega, by rw [hR, no]; exact Nat.le_trans (Nat.mul_le_mul (show n ≤ 5 by omega) (Nat.mul_le_mul k3 k3)) (by decide)⟩)
end
end K63

set_option Elab.async false
set_option linter.all false
set_option maxRecDepth 100000
set_option maxHeartbeats 4000000
set_option autoImplicit false
namespace Tx
open PySem L2
theorem it_rng2N {K : PySem.W.Frag} {m : Mo} {Γ : G} {ta : TA} {a b : Nat} (h : EvA1 m K ta Γ [dN a, dN b]) (hab : a ≤ b) (hb : b ≤ 100000) : ItD1 m K (iRng2 ta) Γ ((List.range (b - a)).map fun i => dN (a + i)) := by
  have := it_rng2 h ⟨by omega, by omega, by omega, by omega⟩
  have e : ((b : Int) - (a : Int)).toNat = b - a := by omega
  rw [e] at this
  exact this
end Tx
namespace K63
open PySem L2 Tx
theorem tok_of {T : Tb} (h : 1 ≤ T.length ∧ T.length ≤ 5 ∧ 1 ≤ nops T ∧ nops T ≤ 4 ∧ (∀ r ∈ T, r.length = nops T) ∧ (∀ r ∈ T, ∀ p ∈ r, p.1 < T.length ∧ p.2 ≤ 99) ∧ T.length * (nops T * nops T) ≤ 48) : TOk T := by
  obtain ⟨h1, h2, h3, h4, h5, h6, h7⟩ := h
  exact ⟨⟨h1, by omega, h3, by omega, h5, h6⟩, h2, h4, h7⟩
def pk0 : Tb := [[(1, 0)], [(1, 1)]]
def pk1 (z : Nat) : Tb := (List.range (z + 1)).map fun s => [((s + 1) % (z + 1), s)]
def pk2 (z : Nat) : Tb := (List.range (z + 1)).map fun s => (List.range z).map fun o => (o + 1, s)
def pk3 (z : Nat) : Tb := (List.range z).map fun s => ((List.range z).map fun o => (o, 0)) ++ [(s, s)]
def pk4 (z : Nat) : Tb := ((List.range z).map fun o => (o + 1, o + 1)) :: (List.range z).map fun i => List.replicate z (1 + i, 1 + i)
theorem tok_z {f : Nat → Tb} {z : Nat} (h1 : 1 ≤ z) (h3 : z ≤ 3) (a : TOk (f 1)) (b : TOk (f 2)) (c : TOk (f 3)) : TOk (f z) := by
  have : z = 1 ∨ z = 2 ∨ z = 3 := by omega
  rcases this with rfl | rfl | rfl
  · exact a
  · exact b
  · exact c
section
variable {P : Program} {w : World} {K : PySem.W.Frag} {mg : Str → Option Value} {base : Heap} {C : Addr}
theorem sc_law_plain_kind : FnScope ["_law_jug_here", "_law_rows", "_law_way", "_law_size", "_law_state", "_law_one"] ["_law_jug_here"] (defScope s_law_plain_kind) := ⟨rfl, rfl, rfl, by decide +kernel, rfl, by decide +kernel, by decide +kernel⟩
def pre_pk (ds : List D) : Prop := ds = []
theorem ok_law_plain_kind {f : Addr} {fd : FuncData} (Fu : Fun K "_law_plain_kind" "_law_plain_kind" s_law_plain_kind f fd) (T : Txt K mg C) (c__law_pour : CPour P w K mg base) : FnOk P w K mg base CX0 2 f fd ["_law_jug_here"] (spP K pre_pk S_tbl) := by
  refine fn_pouch Fu sc_law_plain_kind (fun ds h => by subst h; rfl) fun cdv A outer s H E hr => ⟨_, (pss_cons (ps_asg (pe_tup (pa_cons (C8.pe_c c__law_pour hr (by decide) rfl (pa_cons (pv 0) (pa_cons pe_int pa_nil))) (pa_cons (pe_op (r := rAddU K) op_addU pe_int (C8.pe_c c__law_pour hr (by decide) rfl (pa_cons (pv 0) (pa_cons pe_int pa_nil)))) pa_nil))) (show PG _ _ (gTup K 2 (gCons (gName 2) (gCons (gName 3) gNil))) from pg_tup rfl (pgs_cons (pg_name (i := 2) sc_law_plain_kind.nd rfl (by first | exact Or.inl rfl | exact Or.inr rfl)) (pgs_cons (pg_name (i := 3) sc_law_plain_kind.nd rfl (by first | exact Or.inl rfl | exact Or.inr rfl)) pgs_nil)))) (pss_cons (ps_if (pt_cmpR (r := rEqD K) (op_eqD hr.units) (pv 2) pe_int (nomark _)) (pss_one (ps_ret (pe_tup (pa_cons (pe_tup (pa_cons (pe_tup (pa_cons pe_int (pa_cons pe_int pa_nil))) pa_nil)) (pa_cons (pe_tup (pa_cons (pe_tup (pa_cons pe_int (pa_cons pe_int pa_nil))) pa_nil)) pa_nil))))) pss_nil) (pss_cons (ps_if (pt_cmpR (r := rEqD K) (op_eqD hr.units) (pv 2) pe_int (nomark _)) (pss_one (ps_ret (pe_callTy (r := rTup K) cr_tup (by rfl) T.tuple (by decide +kernel) (pa_cons (pe_lc (own := [("_law_state", 4)]) rfl sc_law_plain_kind.nd (pi_range1 rfl T.range (pa_cons (pe_op (r := rAddU K) op_addU (pv 3) pe_int) pa_nil)) (blkOk_by (by kernel_rfl)) (fun _ _ _ _ _ => (pg_name (i := 4) sc_law_plain_kind.nd rfl (by first | exact Or.inl rfl | exact Or.inr rfl))) (fun _ _ _ _ _ => pts_nil) (fun _ _ _ _ _ => (pe_tup (pa_cons (pe_tup (pa_cons (pe_op op_mod (pe_callTy cr_int (by rfl) T.int (by decide +kernel) (pa_cons (pe_op (r := rAddU K) op_addU (pv 4) pe_int) pa_nil)) (pe_op (r := rAddU K) op_addU (pv 3) pe_int)) (pa_cons (pv 4) pa_nil))) pa_nil)))) pa_nil)))) pss_nil) (pss_cons (ps_if (pt_cmpR (r := rEqD K) (op_eqD hr.units) (pv 2) pe_int (nomark _)) (pss_one (ps_ret (pe_callTy (r := rTup K) cr_tup (by rfl) T.tuple (by decide +kernel) (pa_cons (pe_lc (own := [("_law_state", 4)]) rfl sc_law_plain_kind.nd (pi_range1 rfl T.range (pa_cons (pe_op (r := rAddU K) op_addU (pv 3) pe_int) pa_nil)) (blkOk_by (by kernel_rfl)) (fun _ _ _ _ _ => (pg_name (i := 4) sc_law_plain_kind.nd rfl (by first | exact Or.inl rfl | exact Or.inr rfl))) (fun _ _ _ _ _ => pts_nil) (fun _ _ _ _ _ => (pe_callTy (r := rTup K) cr_tup (by rfl) T.tuple (by decide +kernel) (pa_cons (pe_lc (own := [("_law_one", 5)]) rfl sc_law_plain_kind.nd (pi_range1 rfl T.range (pa_cons (pv 3) pa_nil)) (blkOk_by (by kernel_rfl)) (fun _ _ _ _ _ => (pg_name (i := 5) sc_law_plain_kind.nd rfl (by first | exact Or.inl rfl | exact Or.inr rfl))) (fun _ _ _ _ _ => pts_nil) (fun _ _ _ _ _ => (pe_tup (pa_cons (pe_op (r := rAddU K) op_addU (pv 5) pe_int) (pa_cons (pv 4) pa_nil))))) pa_nil)))) pa_nil)))) pss_nil) (pss_cons (ps_if (pt_cmpR (r := rEqD K) (op_eqD hr.units) (pv 2) pe_int (nomark _)) (pss_one (ps_ret (pe_callTy (r := rTup K) cr_tup (by rfl) T.tuple (by decide +kernel) (pa_cons (pe_lc (own := [("_law_state", 4)]) rfl sc_law_plain_kind.nd (pi_range1 rfl T.range (pa_cons (pv 3) pa_nil)) (blkOk_by (by kernel_rfl)) (fun _ _ _ _ _ => (pg_name (i := 4) sc_law_plain_kind.nd rfl (by first | exact Or.inl rfl | exact Or.inr rfl))) (fun _ _ _ _ _ => pts_nil) (fun _ _ _ _ _ => (pe_callTy (r := rTup K) cr_tup (by rfl) T.tuple (by decide +kernel) (pa_cons (pe_op (r := rAddU K) op_addU (pe_lc (own := [("_law_one", 5)]) rfl sc_law_plain_kind.nd (pi_range1 rfl T.range (pa_cons (pv 3) pa_nil)) (blkOk_by (by kernel_rfl)) (fun _ _ _ _ _ => (pg_name (i := 5) sc_law_plain_kind.nd rfl (by first | exact Or.inl rfl | exact Or.inr rfl))) (fun _ _ _ _ _ => pts_nil) (fun _ _ _ _ _ => (pe_tup (pa_cons (pv 5) (pa_cons pe_int pa_nil))))) (pe_lst (pa_cons (pe_tup (pa_cons (pv 4) (pa_cons (pv 4) pa_nil))) pa_nil))) pa_nil)))) pa_nil)))) pss_nil) (pss_cons (ps_set (i := 1) sc_law_plain_kind.nd rfl (by first | exact Or.inl rfl | exact Or.inr rfl) (pe_lst (pa_cons (pe_callTy (r := rTup K) cr_tup (by rfl) T.tuple (by decide +kernel) (pa_cons (pe_lc (own := [("_law_one", 5)]) rfl sc_law_plain_kind.nd (pi_range1 rfl T.range (pa_cons (pv 3) pa_nil)) (blkOk_by (by kernel_rfl)) (fun _ _ _ _ _ => (pg_name (i := 5) sc_law_plain_kind.nd rfl (by first | exact Or.inl rfl | exact Or.inr rfl))) (fun _ _ _ _ _ => pts_nil) (fun _ _ _ _ _ => (pe_tup (pa_cons (pe_op (r := rAddU K) op_addU (pv 5) pe_int) (pa_cons (pe_op (r := rAddU K) op_addU (pv 5) pe_int) pa_nil))))) pa_nil)) pa_nil))) (pss_one (ps_ret (pe_callTy (r := rTup K) cr_tup (by rfl) T.tuple (by decide +kernel) (pa_cons (pe_op (r := rAddU K) op_addU (pv 1) (pe_lc (own := [("_law_state", 4)]) rfl sc_law_plain_kind.nd (pi_range2 rfl T.range (pa_cons pe_int (pa_cons (pe_op (r := rAddU K) op_addU (pv 3) pe_int) pa_nil))) (blkOk_by (by kernel_rfl)) (fun _ _ _ _ _ => (pg_name (i := 4) sc_law_plain_kind.nd rfl (by first | exact Or.inl rfl | exact Or.inr rfl))) (fun _ _ _ _ _ => pts_nil) (fun _ _ _ _ _ => (pe_op (r := rMulU K) op_mulU (pe_tup (pa_cons (pe_tup (pa_cons (pv 4) (pa_cons (pv 4) pa_nil))) pa_nil)) (pv 3))))) pa_nil)))))))))), fun p F ds hp => ?_⟩
  subst hp
  have HP := HasP.self p F
  refine sq_asgT (S := fun d => ∃ n k, d = .tup [dN n, dN k] ∧ n < 5 ∧ 1 ≤ k ∧ k ≤ 3) (EvN.mono (en_tupN (T := fun ds => ∃ n k, ds = [dN n, dN k] ∧ n < 5 ∧ 1 ≤ k ∧ k ≤ 3) (ea_consN (ep HP (en_var 0 rfl) (en_int 5) (by decide) (by decide)) (ea_consN (T := fun ds => ds = []) (U := fun ds => ∃ k, ds = [dN k] ∧ 1 ≤ k ∧ k ≤ 3) (ep1 HP (en_var 0 rfl) (en_int 3) (by decide) (by decide)) ea_nil fun d ds ⟨k, e, h⟩ e2 => ⟨k, by rw [e, e2], h⟩) fun d ds ⟨n, e, h⟩ ⟨k, e2, h2⟩ => ⟨n, k, by rw [e, e2], h, h2⟩) fun ds ⟨n, k, e, _⟩ => by rw [e]; simp) fun d ⟨ds, e, n, k, e2, h⟩ => ⟨n, k, by rw [e, e2], h⟩) ?_
  rintro _ ⟨y, z, rfl, y5, z1, z3⟩
  refine ⟨_, _, tg_pair, ?_⟩
  have tst : ∀ {m : Mo} {Γ : G} (j : Int), Γ[2]? = some (some (dN y)) → EvT1 m K (tTest (tOp (rEqD K) (tVar 2) (tC (.int j)))) Γ (decide ((y : Int) = j)) := fun j h => et_test (en_op1 (en_var 2 h) (en_int j) o_eqI)
  have add1 : ∀ {m : Mo} {Γ : G} {te : TE} {k : Nat}, Ev1 m K te Γ (dN k) → Ev1 m K (tOp (rAddU K) te (tC (.int 1))) Γ (dN (k + 1)) := fun h => Ev1.is (en_op1 h (en_int 1) o_addI) rfl
  refine sg_seqIf (et_test (en_op1 (en_var 2 rfl) (en_int 0) o_eqI)) (fun _ => sg_ret (d := tabD pk0) (en_tup (ea_cons (en_tup (ea_cons (en_tup (ea_cons (en_int 1) (ea_cons (en_int 0) ea_nil)) (by simp)) ea_nil) (by simp)) (ea_cons (en_tup (ea_cons (en_tup (ea_cons (en_int 1) (ea_cons (en_int 1) ea_nil)) (by simp)) ea_nil) (by simp)) ea_nil)) (by decide)) ⟨_, rfl, tok_of (by decide)⟩) fun _ => ?_
  refine sg_seqIf (et_test (en_op1 (en_var 2 rfl) (en_int 1) o_eqI)) (fun _ => ?_) fun _ => ?_
  · refine sg_ret (d := tabD (pk1 z)) (Ev1.is (en_cb1 (ea_cons (en_lcMA (xs := List.range (z + 1)) dN (fun s => rowT [((s + 1) % (z + 1), s)]) (fun x _ y _ e => dN_inj e) (js := [4]) (by simp) (it_rng (n := z + 1) (ea_cons (add1 (en_var 3 rfl)) ea_nil) (by omega)) (by rw [List.length_range]; omega) fun m' le s hs => ⟨_, tg_name 4, ?_⟩) ea_nil) (c_tuple (.inr (.inl rfl)))) ?_) ⟨_, rfl, tok_z z1 z3 (tok_of (by decide)) (tok_of (by decide)) (tok_of (by decide))⟩
    · exact en_tup (ea_cons (en_tup (ea_cons (Ev1.is (en_op1 (en_cb1 (ea_cons (add1 (en_var 4 rfl)) ea_nil) c_intI) (add1 (en_var 3 rfl)) (o_intC (g := fun i j => i % j) (by show (0 : Int) < ((z + 1 : Nat) : Int); omega))) rfl) (ea_cons (en_var 4 rfl) ea_nil)) (by simp)) ea_nil) (by simp)
    · show D.tup _ = D.tup ((pk1 z).map rowT)
      unfold pk1
      rw [List.map_map]
      rfl
  refine sg_seqIf (et_test (en_op1 (en_var 2 rfl) (en_int 2) o_eqI)) (fun _ => ?_) fun _ => ?_
  · refine sg_ret (d := tabD (pk2 z)) (Ev1.is (en_cb1 (ea_cons (en_lcMA (xs := List.range (z + 1)) dN (fun s => rowT ((List.range z).map fun o => (o + 1, s))) (fun x _ y _ e => dN_inj e) (js := [4]) (by simp) (it_rng (n := z + 1) (ea_cons (add1 (en_var 3 rfl)) ea_nil) (by omega)) (by rw [List.length_range]; omega) fun m' le s hs => ⟨_, tg_name 4, ?_⟩) ea_nil) (c_tuple (.inr (.inl rfl)))) ?_) ⟨_, rfl, tok_z z1 z3 (tok_of (by decide)) (tok_of (by decide)) (tok_of (by decide))⟩
    · refine Ev1.is (en_cb1 (ea_cons (en_lcMA (xs := List.range z) dN (fun o => entD (o + 1, s)) (fun x _ y _ e => dN_inj e) (js := [5]) (by simp) (it_rng (n := z) (ea_cons (en_var 3 rfl) ea_nil) (by omega)) (by rw [List.length_range]; omega) fun m' le o ho => ⟨_, tg_name 5, en_tup (ea_cons (add1 (en_var 5 rfl)) (ea_cons (en_var 4 rfl) ea_nil)) (by simp)⟩) ea_nil) (c_tuple (.inr (.inl rfl)))) ?_
      show D.tup _ = D.tup (List.map entD _)
      rw [List.map_map]
      rfl
    · show D.tup _ = D.tup ((pk2 z).map rowT)
      unfold pk2
      rw [List.map_map]
      rfl
  refine sg_seqIf (et_test (en_op1 (en_var 2 rfl) (en_int 3) o_eqI)) (fun _ => ?_) fun _ => ?_
  · refine sg_ret (d := tabD (pk3 z)) (Ev1.is (en_cb1 (ea_cons (en_lcMA (xs := List.range z) dN (fun s => rowT (((List.range z).map fun o => (o, 0)) ++ [(s, s)])) (fun x _ y _ e => dN_inj e) (js := [4]) (by simp) (it_rng (n := z) (ea_cons (en_var 3 rfl) ea_nil) (by omega)) (by rw [List.length_range]; omega) fun m' le s hs => ⟨_, tg_name 4, ?_⟩) ea_nil) (c_tuple (.inr (.inl rfl)))) ?_) ⟨_, rfl, tok_z z1 z3 (tok_of (by decide)) (tok_of (by decide)) (tok_of (by decide))⟩
    · refine Ev1.is (en_cb1 (ea_cons (en_op1 (en_lcMA (xs := List.range z) dN (fun o => entD (o, 0)) (fun x _ y _ e => dN_inj e) (js := [5]) (by simp) (it_rng (n := z) (ea_cons (en_var 3 rfl) ea_nil) (by omega)) (by rw [List.length_range]; omega) fun m' le o ho => ⟨_, tg_name 5, en_tup (ea_cons (en_var 5 rfl) (ea_cons (en_int 0) ea_nil)) (by simp)⟩) (en_lst (ds := [entD (s, s)]) (ea_cons (en_tup (ea_cons (en_var 4 rfl) (ea_cons (en_var 4 rfl) ea_nil)) (by simp)) ea_nil) (by simp)) (o_addL (by rw [List.length_map, List.length_range]; simp; omega))) ea_nil) (c_tuple (.inr (.inl rfl)))) ?_
      show D.tup _ = D.tup (List.map entD _)
      rw [List.map_append, List.map_map]
      rfl
    · show D.tup _ = D.tup ((pk3 z).map rowT)
      unfold pk3
      rw [List.map_map]
      rfl
  refine sq_asg (d := .lst [rowT ((List.range z).map fun o => (o + 1, o + 1))]) (en_lst (ea_cons (Ev1.is (en_cb1 (ea_cons (en_lcMA (xs := List.range z) dN (fun o => entD (o + 1, o + 1)) (fun x _ y _ e => dN_inj e) (js := [5]) (by simp) (it_rng (n := z) (ea_cons (en_var 3 rfl) ea_nil) (by omega)) (by rw [List.length_range]; omega) fun m' le o ho => ⟨_, tg_name 5, en_tup (ea_cons (add1 (en_var 5 rfl)) (ea_cons (add1 (en_var 5 rfl)) ea_nil)) (by simp)⟩) ea_nil) (c_tuple (.inr (.inl rfl)))) (by show D.tup _ = D.tup (List.map entD _); rw [List.map_map]; rfl)) ea_nil) (by simp)) ?_
  refine sg_ret (d := tabD (pk4 z)) (Ev1.is (en_cb1 (ea_cons (en_op1 (en_var 1 rfl) (en_lcMA (xs := List.range (z + 1 - 1)) (fun i => dN (1 + i)) (fun i => rowT (List.replicate z (1 + i, 1 + i))) (fun x _ y _ e => by have := dN_inj e; omega) (js := [4]) (by simp) (it_rng2N (a := 1) (b := z + 1) (ea_cons (en_int 1) (ea_cons (add1 (en_var 3 rfl)) ea_nil)) (by omega) (by omega)) (by rw [List.length_range]; omega) fun m' le i hi => ⟨_, tg_name 4, ?_⟩) (o_addL (by rw [List.length_map, List.length_range]; simp; omega))) ea_nil) (c_tuple (.inr (.inl rfl)))) ?_) ⟨_, rfl, tok_z z1 z3 (tok_of (by decide)) (tok_of (by decide)) (tok_of (by decide))⟩
  · refine Ev1.is (en_op1 (en_tup (ds := [entD (1 + i, 1 + i)]) (ea_cons (en_tup (ea_cons (en_var 4 rfl) (ea_cons (en_var 4 rfl) ea_nil)) (by simp)) ea_nil) (by simp)) (en_var 3 rfl) (o_mulT (by simp) ⟨by omega, by omega⟩ (by simp))) ?_
    rw [Int.toNat_natCast, List.flatten_replicate_singleton]
    show D.tup _ = D.tup (List.map entD _)
    rw [List.map_replicate]
  · show D.tup _ = D.tup ((pk4 z).map rowT)
    unfold pk4
    rw [List.map_cons, List.map_map, Nat.add_sub_cancel]
    rfl
theorem sc_law_any_table : FnScope ["_law_jug_here", "_law_most"] ["_law_jug_here", "_law_most"] (defScope s_law_any_table) := ⟨rfl, rfl, rfl, by decide +kernel, rfl, by decide +kernel, by decide +kernel⟩
theorem ok_law_any_table {f : Addr} {fd : FuncData} (Fu : Fun K "_law_any_table" "_law_any_table" s_law_any_table f fd) (T : Txt K mg C) (c__law_pour : CPour P w K mg base) (c__law_plain_kind : C8.Cal P w K mg base 2 "_law_plain_kind" (spP K pre_pk S_tbl) []) (c__law_table : C8.Cal P w K mg base 3 "_law_table" (spP K pre_tbl S_tbl) []) : FnOk P w K mg base CX0 5 f fd ["_law_jug_here", "_law_most"] (spP K pre_tbl S_tbl) := by
  refine fn_pouch Fu sc_law_any_table (fun ds h => by obtain ⟨n, rfl, _⟩ := h; rfl) fun cdv A outer s H E hr => ⟨_, (pss_one (ps_ret (pe_ifExp (pt_cmpR (r := rEqD K) (op_eqD hr.units) (C8.pe_c c__law_pour hr (by decide) rfl (pa_cons (pv 0) (pa_cons pe_int pa_nil))) pe_int (nomark _)) (C8.pe_c c__law_plain_kind hr (by decide) rfl (pa_cons (pv 0) pa_nil)) (C8.pe_c c__law_table hr (by decide) rfl (pa_cons (pv 0) (pa_cons (pv 1) pa_nil)))))), fun p F ds hp => ?_⟩
  obtain ⟨most, rfl, m1, m5⟩ := hp
  have HP := HasP.self p F
  refine sg_retN (S := fun d => ∃ T : Tb, d = tabD T ∧ TOk T) (en_if (T0 := fun _ => True) (et_testN (en_op (Sb := fun d => d = .int 0) (ep HP (en_var 0 rfl) (en_int 2) (by decide) (by decide)) (en_int 0) fun a b ⟨k, sa, _⟩ sb => by subst sa; subst sb; exact OpN.mono o_eqI fun d e => ⟨_, e, trivial⟩)) (fun _ => ?_) fun _ => ?_) fun d h => h
  · exact en_pcall1 HP (ds := []) (ea_cons (en_var 0 rfl) ea_nil) rfl fun d hd => hd
  · exact en_pcall1 HP (ds := [dN most]) (ea_cons (en_var 0 rfl) (ea_cons (en_var 1 rfl) ea_nil)) ⟨most, rfl, m1, m5⟩ fun d hd => hd
end
end K63

set_option Elab.async false
set_option linter.all false
set_option maxRecDepth 100000
set_option maxHeartbeats 4000000
set_option autoImplicit false
namespace K63
open PySem L2 Tx
section
variable {P : Program} {w : World} {K : PySem.W.Frag} {mg : Str → Option Value} {base : Heap} {C : Addr}
theorem sc_Kind_table : FnScope ["self"] ["self"] (defScope s_Kind_table) := ⟨rfl, rfl, rfl, by decide +kernel, rfl, by decide +kernel, by decide +kernel⟩
theorem ok_Kind_table {f : Addr} {fd : FuncData} (Fu : Fun K "table" "Kind.table" s_Kind_table f fd) (T : Txt K mg C) (W : KindC K C) : FnOk P w K mg base CX0 1 f fd ["self"] (spS K (pre_kd C) (S_kd C tabD)) := by
  refine fn_pure Fu sc_Kind_table (fun ds h => by obtain ⟨M, rfl, _⟩ := h; rfl) fun cdv A outer s H E hr => ⟨_, (pss_one (ps_ret (show PE _ _ (tFld K _ "_table") from pe_fld (pv 0) rfl))), fun F ds hp => ?_⟩
  obtain ⟨M, rfl, ok⟩ := hp
  exact sg_ret (ev_tab (en_var 0 rfl) W) (s_kd (g := tabD))
theorem sc_Kind_states : FnScope ["self"] ["self"] (defScope s_Kind_states) := ⟨rfl, rfl, rfl, by decide +kernel, rfl, by decide +kernel, by decide +kernel⟩
theorem ok_Kind_states {f : Addr} {fd : FuncData} (Fu : Fun K "states" "Kind.states" s_Kind_states f fd) (T : Txt K mg C) (W : KindC K C) : FnOk P w K mg base CX0 1 f fd ["self"] (spS K (pre_kd C) (S_kd C fun T => dN T.length)) := by
  refine fn_pure Fu sc_Kind_states (fun ds h => by obtain ⟨M, rfl, _⟩ := h; rfl) fun cdv A outer s H E hr => ⟨_, (pss_one (ps_ret (pe_callB (r := rLenS K) cr_len (by rfl) T.len (by decide +kernel) (pa_cons (show PE _ _ (tFld K _ "_table") from pe_fld (pv 0) rfl) pa_nil)))), fun F ds hp => ?_⟩
  obtain ⟨M, rfl, ok⟩ := hp
  exact sg_ret (ev_tl (ev_tab (en_var 0 rfl) W)) (s_kd (g := fun T => dN T.length))
theorem sc_Kind___contains : FnScope ["self", "x"] ["self", "x"] (defScope s_Kind___contains) := ⟨rfl, rfl, rfl, by decide +kernel, rfl, by decide +kernel, by decide +kernel⟩
def conB (T : Tb) (x : D) : Bool := match x with
  | .tup [a, b] => numB a 0 ((T.length : Int) - 1) && numB b 0 ((nops T : Int) - 1)
  | _ => false
def Num (d : D) : Prop := (∃ i, d = .int i) ∨ ∃ b, d = .bl b
def Odd (x : D) : Prop := (∃ a b, x = .tup [a, b] ∧ Num a ∧ Num b) ∨ (∃ xs, x = .tup xs ∧ xs.length ≠ 2) ∨ (∃ xs, x = .lst xs) ∨ x = .non ∨ ∃ i, x = .int i
def pre_kcon (C : Addr) (ds : List D) : Prop := ∃ (T : Tb) (x : D), ds = [kindD C T, x] ∧ KOk T ∧ Odd x
def S_kcon (C : Addr) (ds : List D) (d : D) : Prop := ∀ (T : Tb) (x : D), ds = [kindD C T, x] → d = .bl (conB T x)
theorem ok_Kind_contains {f : Addr} {fd : FuncData} (Fu : Fun K "__contains__" "Kind.__contains__" s_Kind___contains f fd) (T : Txt K mg C) (W : KindC K C) (c_is_pair : CIsPair P w K mg base) (c_is_number : CIsNum P w K mg base) : FnOk P w K mg base CX0 2 f fd ["self", "x"] (spS K (pre_kcon C) (S_kcon C)) := by
  refine fn_pure Fu sc_Kind___contains (fun ds h => by obtain ⟨M, x, rfl, _⟩ := h; rfl) fun cdv A outer s H E hr => ⟨_, (pss_one (ps_ret (pe_and (C8.pe_c c_is_pair hr (by decide) rfl (pa_cons (pv 1) pa_nil)) (pe_and (C8.pe_c c_is_number hr (by decide) rfl (pa_cons (pe_ix (r := rIx K) ix_seq (pv 1) pe_int (fun _ _ => rfl)) (pa_cons pe_int (pa_cons (pe_op op_sub (pe_callB (r := rLenS K) cr_len (by rfl) T.len (by decide +kernel) (pa_cons (show PE _ _ (tFld K _ "_table") from pe_fld (pv 0) rfl) pa_nil)) pe_int) pa_nil)))) (pe_one (C8.pe_c c_is_number hr (by decide) rfl (pa_cons (pe_ix (r := rIx K) ix_seq (pv 1) pe_int (fun _ _ => rfl)) (pa_cons pe_int (pa_cons (pe_op op_sub (pe_callB (r := rLenS K) cr_len (by rfl) T.len (by decide +kernel) (pa_cons (pe_ix (r := rIx K) ix_seq (show PE _ _ (tFld K _ "_table") from pe_fld (pv 0) rfl) pe_int (fun _ _ => rfl)) pa_nil)) pe_int) pa_nil))))))))), fun F ds hp => ?_⟩
  obtain ⟨M, x, rfl, ok, h⟩ := hp
  have s1 := ok.s1
  have fin : S_kcon C [kindD C M, x] (.bl (conB M x)) := fun M' x' e => by
    injection e with e e2
    injection e2 with e2
    rw [kindD_inj e, e2]
  rcases h with ⟨a, b, rfl, na, nb⟩ | h
  · refine sg_ret (d := .bl (conB M (.tup [a, b]))) (Ev1.is (en_and (p := true) (k := conB M (.tup [a, b])) (Ev1.is (en_callF (ds := [.tup [a, b]]) (ea_cons (en_var 1 rfl) ea_nil) ⟨_, rfl, .inl ⟨_, rfl⟩⟩) rfl) fun _ => ?_) rfl) fin
    refine Ev1.is (en_and (p := numB a 0 ((M.length : Int) - 1)) (k := numB b 0 ((nops M : Int) - 1)) (en_callF (ds := [a, .int 0, .int ((M.length : Int) - 1)]) (ea_cons (en_op1 (en_var 1 rfl) (en_int 0) (o_ix (i := 0) (.inl rfl) (atI_of (i := 0) rfl))) (ea_cons (en_int 0) (ea_cons (en_op1 (ev_tl (ev_tab (en_var 0 rfl) W)) (en_int 1) o_int) ea_nil))) ⟨_, _, _, rfl, na⟩) fun _ => en_callF (ds := [b, .int 0, .int ((nops M : Int) - 1)]) (ea_cons (en_op1 (en_var 1 rfl) (en_int 1) (o_ix (i := 1) (.inl rfl) (atI_of (i := 1) rfl))) (ea_cons (en_int 0) (ea_cons (en_op1 (ev_rl (ev_row (s := 0) (ev_tab (en_var 0 rfl) W) (en_int 0) (by omega))) (en_int 1) o_int) ea_nil))) ⟨_, _, _, rfl, nb⟩) rfl
  · have no : conB M x = false ∧ pre_pair [x] ∧ pairB x = false := by
      rcases h with ⟨xs, rfl, hx⟩ | ⟨xs, rfl⟩ | rfl | ⟨i, rfl⟩
      · refine ⟨?_, ⟨_, rfl, .inl ⟨_, rfl⟩⟩, decide_eq_false hx⟩
        unfold conB
        split
        · rename_i e
          injection e with e
          subst e
          exact absurd rfl hx
        · rfl
      · exact ⟨rfl, ⟨_, rfl, .inr (.inl ⟨_, rfl⟩)⟩, rfl⟩
      · exact ⟨rfl, ⟨_, rfl, .inr (.inr (.inl rfl))⟩, rfl⟩
      · exact ⟨rfl, ⟨_, rfl, .inr (.inr (.inr ⟨_, rfl⟩))⟩, rfl⟩
    obtain ⟨n1, n2, n3⟩ := no
    rw [n1] at fin
    exact sg_ret (d := .bl false) (Ev1.is (en_and (p := false) (k := false) (Ev1.is (en_callF (ds := [x]) (ea_cons (en_var 1 rfl) ea_nil) n2) (by show D.bl (pairB x) = _; rw [n3])) fun e => nomatch e) rfl) fin
/-! ### made kinds -/
theorem sc_flag_kind : FnScope [] [] (defScope s_flag_kind) := ⟨rfl, rfl, rfl, by decide +kernel, rfl, by decide +kernel, by decide +kernel⟩
theorem ok_flag_kind {f : Addr} {fd : FuncData} (Fu : Fun K "flag_kind" "flag_kind" s_flag_kind f fd) (T : Txt K mg C) (k_Kind1 : CKind P w K mg base C) : FnOk P w K mg base CX0 7 f fd [] (spF K (fun ds => ds = []) fun _ => kindD C pk0) := by
  refine fn_pure Fu sc_flag_kind (fun ds h => by subst h; rfl) fun cdv A outer s H E hr => ⟨_, (pss_one (ps_ret (C8.pe_mk k_Kind1 hr (by decide) rfl (pa_cons (pe_tup (pa_cons (pe_tup (pa_cons (pe_tup (pa_cons pe_int (pa_cons pe_int pa_nil))) pa_nil)) (pa_cons (pe_tup (pa_cons (pe_tup (pa_cons pe_int (pa_cons pe_int pa_nil))) pa_nil)) pa_nil))) pa_nil)))), fun F ds hp => ?_⟩
  subst hp
  exact sg_ret (ev_kind (T := pk0) (en_tup (ea_cons (en_tup (ea_cons (en_tup (ea_cons (en_int 1) (ea_cons (en_int 0) ea_nil)) (by simp)) ea_nil) (by simp)) (ea_cons (en_tup (ea_cons (en_tup (ea_cons (en_int 1) (ea_cons (en_int 1) ea_nil)) (by simp)) ea_nil) (by simp)) ea_nil)) (by decide)) (tok_of (by decide)).ok) rfl
end
end K63

set_option Elab.async false
set_option linter.all false
set_option maxRecDepth 100000
set_option maxHeartbeats 4000000
set_option autoImplicit false
namespace K63
open PySem L2 Tx
section
variable {P : Program} {w : World} {K : PySem.W.Frag} {mg : Str → Option Value} {base : Heap} {C : Addr}
theorem sc_Kind___str : FnScope ["self"] ["self"] (defScope s_Kind___str) := ⟨rfl, rfl, rfl, by decide +kernel, rfl, by decide +kernel, by decide +kernel⟩
def kindTx (T : Tb) : Str := Str.empty ++ "kind of " ++ tx T.length ++ " states, " ++ tx (nops T) ++ " operations"
theorem ok_Kind_str {f : Addr} {fd : FuncData} (Fu : Fun K "__str__" "Kind.__str__" s_Kind___str f fd) (T : Txt K mg C) (W : KindC K C) : FnOk P w K mg base CX0 1 f fd ["self"] (spS K (pre_kd C) (S_kd C fun T => .str (kindTx T))) := by
  refine fn_pure Fu sc_Kind___str (fun ds h => by obtain ⟨M, rfl, _⟩ := h; rfl) fun cdv A outer s H E hr => ⟨_, (pss_one (ps_ret (pe_joined (PJ.cons pe_str (PJ.cons (pe_fmt (pe_callB (r := rLenS K) cr_len (by rfl) T.len (by decide +kernel) (pa_cons (show PE _ _ (tFld K _ "_table") from pe_fld (pv 0) rfl) pa_nil))) (PJ.cons pe_str (PJ.cons (pe_fmt (pe_callB (r := rLenS K) cr_len (by rfl) T.len (by decide +kernel) (pa_cons (pe_ix (r := rIx K) ix_seq (show PE _ _ (tFld K _ "_table") from pe_fld (pv 0) rfl) pe_int (fun _ _ => rfl)) pa_nil))) (PJ.cons pe_str PJ.nil)))))))), fun F ds hp => ?_⟩
  obtain ⟨M, rfl, ok⟩ := hp
  have s1 := ok.s1
  have s12 := ok.s12
  have o8 := ok.o8
  have l1 : (tx M.length).length ≤ 2 := tx_le (by decide) (by omega)
  have l2 : (tx (nops M)).length ≤ 2 := tx_le (by decide) (by omega)
  have l4 : Str.empty.length = 0 := rfl
  have l5 : Str.length ("kind of " : Str) = 8 := by decide
  have l6 : Str.length (" states, " : Str) = 9 := by decide
  have l7 : Str.length (" operations" : Str) = 11 := by decide
  refine sg_ret (en_js (.cons (en_str _) ?_ (.cons (en_fmtN (n := M.length) (ev_tl (ev_tab (en_var 0 rfl) W)) (by omega)) ?_ (.cons (en_str _) ?_ (.cons (en_fmtN (n := nops M) (ev_rl (ev_row (s := 0) (ev_tab (en_var 0 rfl) W) (en_int 0) (by omega))) (by omega)) ?_ (.cons (en_str _) ?_ .nil)))))) (s_kd (g := fun T => .str (kindTx T)))
  all_goals simp only [Str.length_append]; omega
/-! ### made kinds, by size -/
def ad (z : Nat) : Tb := (List.range z).map fun s => [((s + 1) % z, s)]
theorem ad_ok {z : Nat} (h1 : 1 ≤ z) (h2 : z ≤ 12) : KOk (ad z) := by
  have l : (ad z).length = z := by unfold ad; rw [List.length_map, List.length_range]
  have n : nops (ad z) = 1 := nops_of (by omega) fun r hr => by obtain ⟨s, _, rfl⟩ := List.mem_map.mp hr; rfl
  refine ⟨by omega, by omega, by omega, by omega, fun r hr => by rw [n]; obtain ⟨s, _, rfl⟩ := List.mem_map.mp hr; rfl, fun r hr p hp => ?_⟩
  obtain ⟨s, hs, rfl⟩ := List.mem_map.mp hr
  rw [List.mem_singleton.mp hp, l]
  have := List.mem_range.mp hs
  exact ⟨Nat.mod_lt _ (by omega), by show s ≤ 99; omega⟩
theorem k2_ok {z : Nat} (h1 : 1 ≤ z) (h2 : z ≤ 7) : KOk (pk2 z) := by
  have l : (pk2 z).length = z + 1 := by unfold pk2; rw [List.length_map, List.length_range]
  have n : nops (pk2 z) = z := nops_of (by omega) fun r hr => by obtain ⟨s, _, rfl⟩ := List.mem_map.mp hr; rw [List.length_map, List.length_range]
  refine ⟨by omega, by omega, by omega, by omega, fun r hr => by rw [n]; obtain ⟨s, _, rfl⟩ := List.mem_map.mp hr; rw [List.length_map, List.length_range], fun r hr p hp => ?_⟩
  obtain ⟨s, hs, rfl⟩ := List.mem_map.mp hr
  obtain ⟨o, ho, rfl⟩ := List.mem_map.mp hp
  have a := List.mem_range.mp hs
  have b := List.mem_range.mp ho
  rw [l]
  exact ⟨by show o + 1 < z + 1; omega, by show s ≤ 99; omega⟩
theorem k3_ok {z : Nat} (h1 : 1 ≤ z) (h2 : z ≤ 7) : KOk (pk3 z) := by
  have l : (pk3 z).length = z := by unfold pk3; rw [List.length_map, List.length_range]
  have rl : ∀ r ∈ pk3 z, r.length = z + 1 := fun r hr => by obtain ⟨s, _, rfl⟩ := List.mem_map.mp hr; rw [List.length_append, List.length_map, List.length_range]; rfl
  have n : nops (pk3 z) = z + 1 := nops_of (by omega) rl
  refine ⟨by omega, by omega, by omega, by omega, fun r hr => by rw [n]; exact rl r hr, fun r hr p hp => ?_⟩
  obtain ⟨s, hs, rfl⟩ := List.mem_map.mp hr
  have a := List.mem_range.mp hs
  rw [l]
  rcases List.mem_append.mp hp with q | q
  · obtain ⟨o, ho, rfl⟩ := List.mem_map.mp q
    have b := List.mem_range.mp ho
    exact ⟨b, by show (0 : Nat) ≤ 99; omega⟩
  · rw [List.mem_singleton.mp q]
    exact ⟨a, by show s ≤ 99; omega⟩
theorem k4_ok {z : Nat} (h1 : 1 ≤ z) (h2 : z ≤ 7) : KOk (pk4 z) := by
  have l : (pk4 z).length = z + 1 := by unfold pk4; rw [List.length_cons, List.length_map, List.length_range]
  have rl : ∀ r ∈ pk4 z, r.length = z := fun r hr => by
    rcases List.mem_cons.mp hr with rfl | hr
    · rw [List.length_map, List.length_range]
    · obtain ⟨s, _, rfl⟩ := List.mem_map.mp hr
      rw [List.length_replicate]
  have n : nops (pk4 z) = z := nops_of (by omega) rl
  refine ⟨by omega, by omega, by omega, by omega, fun r hr => by rw [n]; exact rl r hr, fun r hr p hp => ?_⟩
  rw [l]
  rcases List.mem_cons.mp hr with rfl | hr
  · obtain ⟨o, ho, rfl⟩ := List.mem_map.mp hp
    have b := List.mem_range.mp ho
    exact ⟨by show o + 1 < z + 1; omega, by show o + 1 ≤ 99; omega⟩
  · obtain ⟨s, hs, rfl⟩ := List.mem_map.mp hr
    have b := List.mem_range.mp hs
    rw [(List.mem_replicate.mp hp).2]
    exact ⟨by show 1 + s < z + 1; omega, by show 1 + s ≤ 99; omega⟩
def pre_sz (m : Nat) (ds : List D) : Prop := ∃ z : Nat, ds = [dN z] ∧ 1 ≤ z ∧ z ≤ m
def S_sz (C : Addr) (g : Nat → Tb) (ds : List D) (d : D) : Prop := ∀ z : Nat, ds = [dN z] → d = kindD C (g z)
theorem s_sz {g : Nat → Tb} {z : Nat} : S_sz C g [dN z] (kindD C (g z)) := fun y e => by rw [dN_inj (List.cons.inj e).1]
theorem ev_add1 {m : Mo} {Γ : G} {te : TE} {k : Nat} (h : Ev1 m K te Γ (dN k)) : Ev1 m K (tOp (rAddU K) te (tC (.int 1))) Γ (dN (k + 1)) := Ev1.is (en_op1 h (en_int 1) o_addI) rfl
theorem ev_chk1 {m : Mo} {Γ : G} {ta : TE} {E : XK} {k : Nat} {c : Int} (ha : Ev1 m K ta Γ (dN k)) (h1 : 1 ≤ k) (h : (k : Int) ≤ c) : Ev1 m K (tCall (spF K pre_chk fun _ => .non) [] E (tCons ta (tCons (tC (.int 1)) (tCons (tC (.int c)) tNil)))) Γ .non :=
  en_callF (ds := [dN k, .int 1, .int c]) (ea_cons ha (ea_cons (en_int 1) (ea_cons (en_int c) ea_nil))) ⟨k, 1, c, rfl, by omega, h⟩
theorem sc_adder_kind : FnScope ["states", "state"] ["states"] (defScope s_adder_kind) := ⟨rfl, rfl, rfl, by decide +kernel, rfl, by decide +kernel, by decide +kernel⟩
theorem ok_adder_kind {f : Addr} {fd : FuncData} (Fu : Fun K "adder_kind" "adder_kind" s_adder_kind f fd) (T : Txt K mg C) (c_check_number : CChk P w K mg base) (k_Kind1 : CKind P w K mg base C) : FnOk P w K mg base CX0 7 f fd ["states"] (spS K (pre_sz 12) (S_sz C ad)) := by
  refine fn_pure Fu sc_adder_kind (fun ds h => by obtain ⟨z, rfl, _⟩ := h; rfl) fun cdv A outer s H E hr => ⟨_, (pss_cons (ps_expr (C8.pe_c c_check_number hr (by decide) rfl (pa_cons (pv 0) (pa_cons pe_int (pa_cons (C8.pe_gc rfl T.k_MAX_STATES) pa_nil))))) (pss_one (ps_ret (C8.pe_mk k_Kind1 hr (by decide) rfl (pa_cons (pe_callTy (r := rTup K) cr_tup (by rfl) T.tuple (by decide +kernel) (pa_cons (pe_lc (own := [("state", 1)]) rfl sc_adder_kind.nd (pi_range1 rfl T.range (pa_cons (pv 0) pa_nil)) (blkOk_by (by kernel_rfl)) (fun _ _ _ _ _ => (pg_name (i := 1) sc_adder_kind.nd rfl (by first | exact Or.inl rfl | exact Or.inr rfl))) (fun _ _ _ _ _ => pts_nil) (fun _ _ _ _ _ => (pe_tup (pa_cons (pe_tup (pa_cons (pe_op op_mod (pe_op (r := rAddU K) op_addU (pv 1) pe_int) (pv 0)) (pa_cons (pv 1) pa_nil))) pa_nil)))) pa_nil)) pa_nil))))), fun F ds hp => ?_⟩
  obtain ⟨z, rfl, z1, z12⟩ := hp
  refine sg_seq (fun Γ' => Γ' = startG ["states", "state"] [dN z]) (sg_drop (ev_chk1 (en_var 0 rfl) z1 (by omega)) rfl) ?_
  rintro _ rfl
  refine sg_ret (d := kindD C (ad z)) (ev_kind (Ev1.is (en_cb1 (ea_cons (en_lcMA (xs := List.range z) dN (fun s => rowT [((s + 1) % z, s)]) (fun x _ y _ e => dN_inj e) (js := [1]) (by simp) (it_rng (n := z) (ea_cons (en_var 0 rfl) ea_nil) (by omega)) (by rw [List.length_range]; omega) fun m' le s hs => ⟨_, tg_name 1, ?_⟩) ea_nil) (c_tuple (.inr (.inl rfl)))) ?_) (ad_ok z1 z12)) s_sz
  · exact en_tup (ea_cons (en_tup (ea_cons (Ev1.is (en_op1 (ev_add1 (en_var 1 rfl)) (en_var 0 rfl) (o_intC (g := fun i j => i % j) (by show (0 : Int) < (z : Int); omega))) (congrArg D.int (Int.natCast_emod (s + 1) z).symm)) (ea_cons (en_var 1 rfl) ea_nil)) (by simp)) ea_nil) (by simp)
  · show D.tup _ = D.tup ((ad z).map rowT)
    unfold ad
    rw [List.map_map]
    rfl
theorem sc_swap_kind : FnScope ["values", "state", "value"] ["values"] (defScope s_swap_kind) := ⟨rfl, rfl, rfl, by decide +kernel, rfl, by decide +kernel, by decide +kernel⟩
theorem ok_swap_kind {f : Addr} {fd : FuncData} (Fu : Fun K "swap_kind" "swap_kind" s_swap_kind f fd) (T : Txt K mg C) (c_check_number : CChk P w K mg base) (k_Kind1 : CKind P w K mg base C) : FnOk P w K mg base CX0 7 f fd ["values"] (spS K (pre_sz 7) (S_sz C pk2)) := by
  refine fn_pure Fu sc_swap_kind (fun ds h => by obtain ⟨z, rfl, _⟩ := h; rfl) fun cdv A outer s H E hr => ⟨_, (pss_cons (ps_expr (C8.pe_c c_check_number hr (by decide) rfl (pa_cons (pv 0) (pa_cons pe_int (pa_cons (C8.pe_gc rfl T.k_MAX_VALUES) pa_nil))))) (pss_one (ps_ret (C8.pe_mk k_Kind1 hr (by decide) rfl (pa_cons (pe_callTy (r := rTup K) cr_tup (by rfl) T.tuple (by decide +kernel) (pa_cons (pe_lc (own := [("state", 1)]) rfl sc_swap_kind.nd (pi_range1 rfl T.range (pa_cons (pe_op (r := rAddU K) op_addU (pv 0) pe_int) pa_nil)) (blkOk_by (by kernel_rfl)) (fun _ _ _ _ _ => (pg_name (i := 1) sc_swap_kind.nd rfl (by first | exact Or.inl rfl | exact Or.inr rfl))) (fun _ _ _ _ _ => pts_nil) (fun _ _ _ _ _ => (pe_callTy (r := rTup K) cr_tup (by rfl) T.tuple (by decide +kernel) (pa_cons (pe_lc (own := [("value", 2)]) rfl sc_swap_kind.nd (pi_range1 rfl T.range (pa_cons (pv 0) pa_nil)) (blkOk_by (by kernel_rfl)) (fun _ _ _ _ _ => (pg_name (i := 2) sc_swap_kind.nd rfl (by first | exact Or.inl rfl | exact Or.inr rfl))) (fun _ _ _ _ _ => pts_nil) (fun _ _ _ _ _ => (pe_tup (pa_cons (pe_op (r := rAddU K) op_addU (pv 2) pe_int) (pa_cons (pv 1) pa_nil))))) pa_nil)))) pa_nil)) pa_nil))))), fun F ds hp => ?_⟩
  obtain ⟨z, rfl, z1, z7⟩ := hp
  refine sg_seq (fun Γ' => Γ' = startG ["values", "state", "value"] [dN z]) (sg_drop (ev_chk1 (en_var 0 rfl) z1 (by omega)) rfl) ?_
  rintro _ rfl
  refine sg_ret (d := kindD C (pk2 z)) (ev_kind (Ev1.is (en_cb1 (ea_cons (en_lcMA (xs := List.range (z + 1)) dN (fun s => rowT ((List.range z).map fun o => (o + 1, s))) (fun x _ y _ e => dN_inj e) (js := [1]) (by simp) (it_rng (n := z + 1) (ea_cons (ev_add1 (en_var 0 rfl)) ea_nil) (by omega)) (by rw [List.length_range]; omega) fun m' le s hs => ⟨_, tg_name 1, ?_⟩) ea_nil) (c_tuple (.inr (.inl rfl)))) ?_) (k2_ok z1 z7)) s_sz
  · refine Ev1.is (en_cb1 (ea_cons (en_lcMA (xs := List.range z) dN (fun o => entD (o + 1, s)) (fun x _ y _ e => dN_inj e) (js := [2]) (by simp) (it_rng (n := z) (ea_cons (en_var 0 rfl) ea_nil) (by omega)) (by rw [List.length_range]; omega) fun m' le o ho => ⟨_, tg_name 2, en_tup (ea_cons (ev_add1 (en_var 2 rfl)) (ea_cons (en_var 1 rfl) ea_nil)) (by simp)⟩) ea_nil) (c_tuple (.inr (.inl rfl)))) ?_
    show D.tup _ = D.tup (List.map entD _)
    rw [List.map_map]
    rfl
  · show D.tup _ = D.tup ((pk2 z).map rowT)
    unfold pk2
    rw [List.map_map]
    rfl
theorem sc_cell_kind : FnScope ["values", "state", "value"] ["values"] (defScope s_cell_kind) := ⟨rfl, rfl, rfl, by decide +kernel, rfl, by decide +kernel, by decide +kernel⟩
theorem ok_cell_kind {f : Addr} {fd : FuncData} (Fu : Fun K "cell_kind" "cell_kind" s_cell_kind f fd) (T : Txt K mg C) (c_check_number : CChk P w K mg base) (k_Kind1 : CKind P w K mg base C) : FnOk P w K mg base CX0 7 f fd ["values"] (spS K (pre_sz 7) (S_sz C pk3)) := by
  refine fn_pure Fu sc_cell_kind (fun ds h => by obtain ⟨z, rfl, _⟩ := h; rfl) fun cdv A outer s H E hr => ⟨_, (pss_cons (ps_expr (C8.pe_c c_check_number hr (by decide) rfl (pa_cons (pv 0) (pa_cons pe_int (pa_cons (C8.pe_gc rfl T.k_MAX_VALUES) pa_nil))))) (pss_one (ps_ret (C8.pe_mk k_Kind1 hr (by decide) rfl (pa_cons (pe_callTy (r := rTup K) cr_tup (by rfl) T.tuple (by decide +kernel) (pa_cons (pe_lc (own := [("state", 1)]) rfl sc_cell_kind.nd (pi_range1 rfl T.range (pa_cons (pv 0) pa_nil)) (blkOk_by (by kernel_rfl)) (fun _ _ _ _ _ => (pg_name (i := 1) sc_cell_kind.nd rfl (by first | exact Or.inl rfl | exact Or.inr rfl))) (fun _ _ _ _ _ => pts_nil) (fun _ _ _ _ _ => (pe_tup (show PA _ _ (StX.tStar K _ _) from StX.pa_star (pe_lc (own := [("value", 2)]) rfl sc_cell_kind.nd (pi_range1 rfl T.range (pa_cons (pv 0) pa_nil)) (blkOk_by (by kernel_rfl)) (fun _ _ _ _ _ => (pg_name (i := 2) sc_cell_kind.nd rfl (by first | exact Or.inl rfl | exact Or.inr rfl))) (fun _ _ _ _ _ => pts_nil) (fun _ _ _ _ _ => (pe_tup (pa_cons (pv 2) (pa_cons pe_int pa_nil))))) (pa_cons (pe_tup (pa_cons (pv 1) (pa_cons (pv 1) pa_nil))) pa_nil))))) pa_nil)) pa_nil))))), fun F ds hp => ?_⟩
  obtain ⟨z, rfl, z1, z7⟩ := hp
  refine sg_seq (fun Γ' => Γ' = startG ["values", "state", "value"] [dN z]) (sg_drop (ev_chk1 (en_var 0 rfl) z1 (by omega)) rfl) ?_
  rintro _ rfl
  refine sg_ret (d := kindD C (pk3 z)) (ev_kind (Ev1.is (en_cb1 (ea_cons (en_lcMA (xs := List.range z) dN (fun s => rowT (((List.range z).map fun o => (o, 0)) ++ [(s, s)])) (fun x _ y _ e => dN_inj e) (js := [1]) (by simp) (it_rng (n := z) (ea_cons (en_var 0 rfl) ea_nil) (by omega)) (by rw [List.length_range]; omega) fun m' le s hs => ⟨_, tg_name 1, ?_⟩) ea_nil) (c_tuple (.inr (.inl rfl)))) ?_) (k3_ok z1 z7)) s_sz
  · refine Ev1.is (en_tup (ea_star (en_lcMA (xs := List.range z) dN (fun o => entD (o, 0)) (fun x _ y _ e => dN_inj e) (js := [2]) (by simp) (it_rng (n := z) (ea_cons (en_var 0 rfl) ea_nil) (by omega)) (by rw [List.length_range]; omega) fun m' le o ho => ⟨_, tg_name 2, en_tup (ea_cons (en_var 2 rfl) (ea_cons (en_int 0) ea_nil)) (by simp)⟩) (.inr rfl) (ea_cons (en_tup (ea_cons (en_var 1 rfl) (ea_cons (en_var 1 rfl) ea_nil)) (by simp)) ea_nil)) (by rw [List.length_append, List.length_map, List.length_range]; simp; omega)) ?_
    show D.tup _ = D.tup (List.map entD _)
    rw [List.map_append, List.map_map]
    rfl
  · show D.tup _ = D.tup ((pk3 z).map rowT)
    unfold pk3
    rw [List.map_map]
    rfl
theorem sc_sticky_kind : FnScope ["values", "empty", "value", "state"] ["values"] (defScope s_sticky_kind) := ⟨rfl, rfl, rfl, by decide +kernel, rfl, by decide +kernel, by decide +kernel⟩
theorem ok_sticky_kind {f : Addr} {fd : FuncData} (Fu : Fun K "sticky_kind" "sticky_kind" s_sticky_kind f fd) (T : Txt K mg C) (c_check_number : CChk P w K mg base) (k_Kind1 : CKind P w K mg base C) : FnOk P w K mg base CX0 7 f fd ["values"] (spS K (pre_sz 7) (S_sz C pk4)) := by
  refine fn_pure Fu sc_sticky_kind (fun ds h => by obtain ⟨z, rfl, _⟩ := h; rfl) fun cdv A outer s H E hr => ⟨_, (pss_cons (ps_expr (C8.pe_c c_check_number hr (by decide) rfl (pa_cons (pv 0) (pa_cons pe_int (pa_cons (C8.pe_gc rfl T.k_MAX_VALUES) pa_nil))))) (pss_cons (ps_set (i := 1) sc_sticky_kind.nd rfl (by first | exact Or.inl rfl | exact Or.inr rfl) (pe_callTy (r := rTup K) cr_tup (by rfl) T.tuple (by decide +kernel) (pa_cons (pe_lc (own := [("value", 2)]) rfl sc_sticky_kind.nd (pi_range1 rfl T.range (pa_cons (pv 0) pa_nil)) (blkOk_by (by kernel_rfl)) (fun _ _ _ _ _ => (pg_name (i := 2) sc_sticky_kind.nd rfl (by first | exact Or.inl rfl | exact Or.inr rfl))) (fun _ _ _ _ _ => pts_nil) (fun _ _ _ _ _ => (pe_tup (pa_cons (pe_op (r := rAddU K) op_addU (pv 2) pe_int) (pa_cons (pe_op (r := rAddU K) op_addU (pv 2) pe_int) pa_nil))))) pa_nil))) (pss_one (ps_ret (C8.pe_mk k_Kind1 hr (by decide) rfl (pa_cons (pe_tup (pa_cons (pv 1) (show PA _ _ (StX.tStar K _ _) from StX.pa_star (pe_lc (own := [("state", 3)]) rfl sc_sticky_kind.nd (pi_range2 rfl T.range (pa_cons pe_int (pa_cons (pe_op (r := rAddU K) op_addU (pv 0) pe_int) pa_nil))) (blkOk_by (by kernel_rfl)) (fun _ _ _ _ _ => (pg_name (i := 3) sc_sticky_kind.nd rfl (by first | exact Or.inl rfl | exact Or.inr rfl))) (fun _ _ _ _ _ => pts_nil) (fun _ _ _ _ _ => (pe_op (r := rMulU K) op_mulU (pe_tup (pa_cons (pe_tup (pa_cons (pv 3) (pa_cons (pv 3) pa_nil))) pa_nil)) (pv 0)))) pa_nil))) pa_nil)))))), fun F ds hp => ?_⟩
  obtain ⟨z, rfl, z1, z7⟩ := hp
  refine sg_seq (fun Γ' => Γ' = startG ["values", "empty", "value", "state"] [dN z]) (sg_drop (ev_chk1 (en_var 0 rfl) z1 (by omega)) rfl) ?_
  rintro _ rfl
  refine sq_asg (d := rowT ((List.range z).map fun o => (o + 1, o + 1))) (Ev1.is (en_cb1 (ea_cons (en_lcMA (xs := List.range z) dN (fun o => entD (o + 1, o + 1)) (fun x _ y _ e => dN_inj e) (js := [2]) (by simp) (it_rng (n := z) (ea_cons (en_var 0 rfl) ea_nil) (by omega)) (by rw [List.length_range]; omega) fun m' le o ho => ⟨_, tg_name 2, en_tup (ea_cons (ev_add1 (en_var 2 rfl)) (ea_cons (ev_add1 (en_var 2 rfl)) ea_nil)) (by simp)⟩) ea_nil) (c_tuple (.inr (.inl rfl)))) (by show D.tup _ = D.tup (List.map entD _); rw [List.map_map]; rfl)) ?_
  refine sg_ret (d := kindD C (pk4 z)) (ev_kind (Ev1.is (en_tup (ea_cons (en_var 1 rfl) (ea_star (en_lcMA (xs := List.range (z + 1 - 1)) (fun i => dN (1 + i)) (fun i => rowT (List.replicate z (1 + i, 1 + i))) (fun x _ y _ e => by have := dN_inj e; omega) (js := [3]) (by simp) (it_rng2N (a := 1) (b := z + 1) (ea_cons (en_int 1) (ea_cons (ev_add1 (en_var 0 rfl)) ea_nil)) (by omega) (by omega)) (by rw [List.length_range]; omega) fun m' le i hi => ⟨_, tg_name 3, ?_⟩) (.inr rfl) ea_nil)) (by rw [List.length_cons, List.length_append, List.length_map, List.length_range]; simp; omega)) ?_) (k4_ok z1 z7)) s_sz
  · refine Ev1.is (en_op1 (en_tup (ds := [entD (1 + i, 1 + i)]) (ea_cons (en_tup (ea_cons (en_var 3 rfl) (ea_cons (en_var 3 rfl) ea_nil)) (by simp)) ea_nil) (by simp)) (en_var 0 rfl) (o_mulT (by simp) ⟨by omega, by omega⟩ (by simp))) ?_
    rw [Int.toNat_natCast, List.flatten_replicate_singleton]
    show D.tup _ = D.tup (List.map entD _)
    rw [List.map_replicate]
  · show D.tup _ = D.tup ((pk4 z).map rowT)
    unfold pk4
    rw [List.map_cons, List.map_map, Nat.add_sub_cancel, List.append_nil]
    rfl
end
end K63

set_option Elab.async false
set_option linter.all false
set_option maxRecDepth 100000
set_option maxHeartbeats 1000000
set_option autoImplicit false
/-! Calls of an own def without arguments. -/
namespace Tx
open PySem PySem.Spec PyProof.Rows L2
section
variable {X : Cx} {k j : Nat} {x : Str} {sp : Sp} {dvs : List V} {p pos : Pos}
theorem pe_c0 (c : C8.Cal X.prog X.w X.K X.mg X.base k x sp dvs) (hr : Room j X.A) (hk : k ≤ j) (hg : Gl X x)
    (hdb : (x == ("__debug__" : Str)) = false := by decide) : PE X (.Call (.Name x p) [] [] pos) (tCall sp dvs E0 tNil) := by
  obtain ⟨f, fd, ps, ds, F, hm, kp, b, d⟩ := c.ex
  exact pe_call0 F (hr.mono hk) hg hm kp b d pass0 hdb
end
end Tx

set_option Elab.async false
set_option linter.all false
set_option maxRecDepth 100000
set_option maxHeartbeats 2000000
/-! Tx: a list comprehension with three sources, level by level -/
namespace TxL3
open PySem PySem.Spec PyProof.Rows L2 PpSet Tx TxS TxS2
section
variable {prog : Program} {w : World} {A : Around} {R : Result → Shared → Prop} {s : Shared} {C elt t0 i0 t1 i1 t2 i2 : Expr} {f0 f1 f2 : List Expr} {sc : Scope} {pos : Pos} {it acc : Value} {env : Env} {n : Nat}
/-- one turn of a level: what follows the tests is `mid` of the way back -/
def lap (C : Expr) (n : Nat) (t i : Expr) (f : List Expr) (mid : Sem Fin → Sem Fin) (it acc : Value) (env : Env) : Sem Fin := do
  standAt i.pos; let r ← pyNext it
  match r with
  | none => pure (.done .next)
  | some v => do
    letOwnedTupleGo t it v; assign t env v; let ok ← tests f env
    if ok = true then mid (again (.compLoop C n it acc env)) else again (.compLoop C n it acc env)
/-- a further source begins -/
def midI (C : Expr) (n : Nat) (i : Expr) (acc : Value) (env : Env) (k : Sem Fin) : Sem Fin := do
  let x ← eval i env; standAt i.pos; let x ← foldedSetIterable i env x
  let y ← holding [x] (pyIter x); let _ ← runOwn (.compStart C n y acc env) env; k
/-- the item goes to the list -/
def midE (elt : Expr) (acc : Value) (env : Env) (k : Sem Fin) : Sem Fin := do
  (do let x ← eval elt env; let _ ← call (.builtin "list.append") [acc, x]); k
abbrev three (elt t0 i0 t1 i1 t2 i2 : Expr) (f0 f1 f2 : List Expr) (sc : Scope) (pos : Pos) : Expr := .ListComp elt [⟨t0, i0, f0, 0⟩, ⟨t1, i1, f1, 0⟩, ⟨t2, i2, f2, 0⟩] sc pos
theorem lap0 : compTurn (three elt t0 i0 t1 i1 t2 i2 f0 f1 f2 sc pos) 0 it acc env = lap (three elt t0 i0 t1 i1 t2 i2 f0 f1 f2 sc pos) 0 t0 i0 f0 (midI (three elt t0 i0 t1 i1 t2 i2 f0 f1 f2 sc pos) 1 i1 acc env) it acc env := by rfl
theorem lap1 : compTurn (three elt t0 i0 t1 i1 t2 i2 f0 f1 f2 sc pos) 1 it acc env = lap (three elt t0 i0 t1 i1 t2 i2 f0 f1 f2 sc pos) 1 t1 i1 f1 (midI (three elt t0 i0 t1 i1 t2 i2 f0 f1 f2 sc pos) 2 i2 acc env) it acc env := by rfl
theorem lap2 : compTurn (three elt t0 i0 t1 i1 t2 i2 f0 f1 f2 sc pos) 2 it acc env = lap (three elt t0 i0 t1 i1 t2 i2 f0 f1 f2 sc pos) 2 t2 i2 f2 (midE elt acc env) it acc env := by rfl
/-- behind `mid` the way back is taken where K holds -/
def Way (prog : Program) (w : World) (A : Around) (env : Env) (R : Result → Shared → Prop) (mid : Sem Fin → Sem Fin) (K : Shared → Prop) (s : Shared) : Prop := ∀ (Q : Fin → Shared → Prop) (k : Sem Fin), (∀ e, K e → wpAny (model prog w) A k Q (Out prog w A env R) e) → wpAny (model prog w) A (mid k) Q (Out prog w A env R) s
def IsThree (C : Expr) : Prop := ∃ elt t0 i0 t1 i1 t2 i2 f0 f1 f2 sc pos, C = three elt t0 i0 t1 i1 t2 i2 f0 f1 f2 sc pos
theorem loopL (hC : IsThree C) {mid : Sem Fin → Sem Fin} {t i : Expr} {f : List Expr} (hT : compTurn C n it acc env = lap C n t i f mid it acc env) (J : Nat → Shared → Prop)
    (turn : ∀ k s, J k s → wpAny (model prog w) A (pyNext it) (fun r a => match r with
      | none => R (.ok .next) a
      | some v => wpAny (model prog w) A (letOwnedTupleGo t it v) (fun _ b => wpAny (model prog w) A (assign t env v) (fun _ c => wpAny (model prog w) A (tests f env) (fun ok d =>
          if ok = true then Way prog w A env R mid (fun e => ∃ j, j < k ∧ J j e) d else ∃ j, j < k ∧ J j d) (Out prog w A env R) c) (Out prog w A env R) b) (Out prog w A env R) a) (Out prog w A env R) s)
    (k : Nat) (h : J k s) : codeAny (model prog w) A (.compLoop C n it acc env) R s := by
  obtain ⟨elt', t0', i0', t1', i1', t2', i2', f0', f1', f2', sc', pos', rfl⟩ := hC
  refine codeAny_loop rfl J (fun k s hJ => ?_) k h
  show wpAny _ A ((compTurn (three elt' t0' i0' t1' i1' t2' i2' f0' f1' f2' sc' pos') n it acc env).onRaise (fun x => do noteFrame x env; theTreesLotGoes x)) _ _ s
  refine wpAny_noted ?_; rw [hT]; unfold lap
  refine wpAny_bind (wpAny_standAt (wpAny_bind (wpAny_mono (turn k s hJ) (fun r a ha => ?_) fun _ _ z => z)))
  cases r with
  | none => exact wpAny_pure ha
  | some v =>
    refine wpAny_bind (wpAny_mono ha (fun _ b hb => wpAny_bind (wpAny_mono hb (fun _ c hc => wpAny_bind (wpAny_mono hc (fun ok d hd => ?_) fun _ _ z => z)) fun _ _ z => z)) fun _ _ z => z)
    cases ok with
    | false => exact wpAny_pure ⟨rfl, hd⟩
    | true => exact hd _ _ fun e he => wpAny_pure ⟨rfl, he⟩
theorem way_E {K : Shared → Prop} (h : wpAny (model prog w) A (eval elt env) (fun x e => wpAny (model prog w) A (call (.builtin "list.append") [acc, x]) (fun _ f => K f) (Out prog w A env R) e) (Out prog w A env R) s) : Way prog w A env R (midE elt acc env) K s := fun Q k hk => by
  unfold midE
  exact wpAny_bind (wpAny_bind (wpAny_mono h (fun x e he => wpAny_bind (wpAny_mono he (fun _ f hf => wpAny_pure (hk f hf)) fun _ _ z => z)) fun _ _ z => z))
theorem way_I {K : Shared → Prop} {i : Expr} (plain : ∀ x, foldedSetIterable i env x = pure x) (h : wpAny (model prog w) A (eval i env) (fun x e => wpAny (model prog w) A (pyIter x) (fun y f => codeAny (model prog w) A (.compStart C n y acc env) (fun r t => match r with | .ok _ => K t | .error _ => False) f) (Out prog w A env R) e) (Out prog w A env R) s) : Way prog w A env R (midI C n i acc env) K s := fun Q k hk => by
  unfold midI
  refine wpAny_bind (wpAny_mono h (fun x e he => wpAny_bind (wpAny_standAt (wpAny_bind (wpAny_of_eq (plain x) (wpAny_bind (wpAny_holding (wpAny_mono he (fun y f hf => ?_) fun _ _ z => z))))))) fun _ _ z => z)
  refine wpAny_bind (wpAny_runOwn ?_)
  rw [Around.mark_none]
  refine codeAny_mono hf fun r t hr => ?_
  cases r with
  | error e => exact hr.elim
  | ok f => first | exact hk t hr | exact wpAny_bind (wpAny_pure (hk t hr)) | exact wpAny_pure (hk t hr)
theorem begin1 (h0 : codeAny (model prog w) A (.compLoop (three elt t0 i0 t1 i1 t2 i2 f0 f1 f2 sc pos) 1 it acc env) R s) (h : wpAny (model prog w) A (pyIter it) (fun i t => codeAny (model prog w) A (.compLoop (three elt t0 i0 t1 i1 t2 i2 f0 f1 f2 sc pos) 1 i acc env) R t) (Out prog w A env R) s) : codeAny (model prog w) A (.compStart (three elt t0 i0 t1 i1 t2 i2 f0 f1 f2 sc pos) 1 it acc env) R s := by
  refine codeAny_of_tree (show wpAny _ _ ((compStart (three elt t0 i0 t1 i1 t2 i2 f0 f1 f2 sc pos) 1 it acc env).onRaise (fun x => do noteFrame x env; standAt theWindowsPlace)) _ _ s from wpAny_notedAt ?_)
  unfold compStart
  refine (show wpAny _ _ (ask >>= _) _ _ s from wpAny_bind (wpAny_askSetting (wpAny_ite ?_)))
  split
  · first | exact wpAny_bind (wpAny_pure (wpAny_pure (And.intro rfl h0))) | exact wpAny_pure (And.intro rfl h0)
  · first | exact wpAny_bind (wpAny_rule (wpAny_bind (wpAny_standAt (wpAny_bind (wpAny_mono h (fun i t z => wpAny_pure (And.intro rfl z)) fun _ _ x => x))))) | (refine wpAny_bind (wpAny_rule ?_); show wpAny _ _ (standAt i1.pos >>= _) _ _ s; exact wpAny_bind (wpAny_standAt (wpAny_bind (wpAny_mono h (fun i t z => wpAny_pure (And.intro rfl z)) fun _ _ x => x))))
theorem begin2 (h0 : codeAny (model prog w) A (.compLoop (three elt t0 i0 t1 i1 t2 i2 f0 f1 f2 sc pos) 2 it acc env) R s) (h : wpAny (model prog w) A (pyIter it) (fun i t => codeAny (model prog w) A (.compLoop (three elt t0 i0 t1 i1 t2 i2 f0 f1 f2 sc pos) 2 i acc env) R t) (Out prog w A env R) s) : codeAny (model prog w) A (.compStart (three elt t0 i0 t1 i1 t2 i2 f0 f1 f2 sc pos) 2 it acc env) R s := by
  refine codeAny_of_tree (show wpAny _ _ ((compStart (three elt t0 i0 t1 i1 t2 i2 f0 f1 f2 sc pos) 2 it acc env).onRaise (fun x => do noteFrame x env; standAt theWindowsPlace)) _ _ s from wpAny_notedAt ?_)
  unfold compStart
  refine (show wpAny _ _ (ask >>= _) _ _ s from wpAny_bind (wpAny_askSetting (wpAny_ite ?_)))
  split
  · first | exact wpAny_bind (wpAny_pure (wpAny_pure (And.intro rfl h0))) | exact wpAny_pure (And.intro rfl h0)
  · first | exact wpAny_bind (wpAny_rule (wpAny_bind (wpAny_standAt (wpAny_bind (wpAny_mono h (fun i t z => wpAny_pure (And.intro rfl z)) fun _ _ x => x))))) | (refine wpAny_bind (wpAny_rule ?_); show wpAny _ _ (standAt i2.pos >>= _) _ _ s; exact wpAny_bind (wpAny_standAt (wpAny_bind (wpAny_mono h (fun i t z => wpAny_pure (And.intro rfl z)) fun _ _ x => x))))
end
/-! ### what such a comprehension asks -/
abbrev Ask := L2.St → Hp → (Hp → Prop) → Prop
def lvl (wi : TI) (g : TG) (tt : TT) (vs : List Nat) (inner : Ask) : Ask := fun σ H Nx => wi σ H fun J H1 => ∃ W : Nat → Nat → Hp → Prop, (∃ k, W 0 k H1) ∧ ∀ j k H2, W j k H2 →
  (J.stop j H2 ∧ Nx H2) ∨ (J.go j H2 ∧ ∃ N1 : Hp → Prop, (∀ H3, N1 H3 → ∃ k1, k1 < k ∧ W (j + 1) k1 H3) ∧ ∀ x H3, J.yld j H2 x H3 → g x (wipe σ vs) H3 fun σ2 H4 => wipe σ2 vs = wipe σ vs ∧ tt σ2 H4 fun b H5 => if b = true then inner σ2 H5 N1 else N1 H5)
def leaf (D : Addr) (te : TE) : Ask := fun σ H Nx => te σ H fun y H1 => ∃ acc, H1 D = some (.lst acc) ∧ acc.length < sizeLine ∧ Nx (upd H1 D (.lst (acc ++ [y])))
def tLc3 (wi : TI) (g : TG) (tt : TT) (wi1 : TI) (g1 : TG) (tt1 : TT) (wi2 : TI) (g2 : TG) (tt2 : TT) (te : TE) (vs vs1 vs2 : List Nat) : TE := fun σ H Q => wi σ H fun J H1 => ∀ D, H1 D = none → ∃ W : Nat → Nat → Hp → Prop, (∃ k, W 0 k (upd H1 D (.lst []))) ∧ ∀ j k H2, W j k H2 →
  (J.stop j H2 ∧ Q (.ref D) H2) ∨ (J.go j H2 ∧ ∃ N1 : Hp → Prop, (∀ H3, N1 H3 → ∃ k1, k1 < k ∧ W (j + 1) k1 H3) ∧ ∀ x H3, J.yld j H2 x H3 → g x (wipe σ vs) H3 fun σ2 H4 => wipe σ2 vs = wipe σ vs ∧ tt σ2 H4 fun b H5 => if b = true then lvl wi1 g1 tt1 vs1 (lvl wi2 g2 tt2 vs2 (leaf D te)) σ2 H5 N1 else N1 H5)
section
variable {B : Cx} {C : Expr} {ce : Env} {D : Addr}
/-- a way that is served: behind it only slots of `us` may differ -/
def Served (B : Cx) (mid : Sem Fin → Sem Fin) (ask : Ask) (us : List Nat) : Prop := ∀ (R : Result → Shared → Prop) (p0 : List (Addr × Obj)) (σ : L2.St) (H : Hp) (s : Shared) (Nx : Hp → Prop) (K : Shared → Prop), Inv B p0 σ H s → ask σ H Nx → (∀ τ H' t, wipe τ us = wipe σ us → Inv B p0 τ H' t → Nx H' → K t) → Way B.prog B.w B.A B.env R mid K s
theorem served_E {elt : Expr} {te : TE} (hx : B.xe = fun _ _ => False) (he : PE B elt te) (us : List Nat) : Served B (midE elt (.ref D) B.env) (leaf D te) us := fun R p0 σ H s Nx K I h back => by
  have r0 := he.run _ s σ H _ I h
  rw [hx] at r0
  exact way_E (thnF r0 fun z t ⟨y, H1, I1, ry, acc, hD, hz, nx⟩ => app_ok (X := B) I1 hD hz ry fun t2 I2 => back σ _ t2 rfl I2 nx)
theorem served_I {n : Nat} {t i : Expr} {f : List Expr} {wi : TI} {g : TG} {tt : TT} {mid : Sem Fin → Sem Fin} {inner : Ask} {vs : List Nat} (hC : IsThree C) (hx : B.xe = fun _ _ => False) (hc : B.calm = true) (hi : PI B t i wi) (hg : PG B t g) (ht : PTs B f tt) (plain : ∀ x, foldedSetIterable i B.env x = pure x)
    (hT : ∀ it, compTurn C n it (.ref D) B.env = lap C n t i f mid it (.ref D) B.env)
    (hS : ∀ (R : Result → Shared → Prop) it s, codeAny (model B.prog B.w) B.A (.compLoop C n it (.ref D) B.env) R s → wpAny (model B.prog B.w) B.A (pyIter it) (fun i t => codeAny (model B.prog B.w) B.A (.compLoop C n i (.ref D) B.env) R t) (Out B.prog B.w B.A B.env R) s → codeAny (model B.prog B.w) B.A (.compStart C n it (.ref D) B.env) R s)
    (hin : Served B mid inner vs) : Served B (midI C n i (.ref D) B.env) (lvl wi g tt vs inner) vs := fun R p0 σ H s Nx K I h back => by
  have r0 := hi.run p0 s σ H _ I h
  rw [hx] at r0
  refine way_I plain (thnF r0 fun _ _ cameA => thnF cameA fun _ s1 cameB => ?_)
  obtain ⟨itA, fp, seen, J, H1, rfl, I1, T, at1, away, W, ⟨k0, w0⟩, turns⟩ := cameB
  have mine : ∀ {H' : Hp}, (∀ b ∈ fp, H' b = none) → ∀ b ∈ fp, FpOk B p0 H' b := fun no b hb => ⟨no b hb, (away b hb).2⟩
  have all : codeAny (model B.prog B.w) B.A (.compLoop C n (.ref itA) (.ref D) B.env) (fun r t => match r with | .ok _ => K t | .error _ => False) s1 := by
    refine loopL hC (hT _) (HereP B p0 (wipe σ vs) seen fp W) ?_ k0 ⟨0, H1, I1.weak (wipe_length _ _) (fun j v e => (wipe_some e).1), at1, fun b hb => (away b hb).1, w0⟩
    rintro k s2 ⟨j, H2, I2, at2, no2, w2⟩
    rcases turns j k H2 w2 with ⟨ends, nx⟩ | ⟨goes, N1, next, one⟩
    · refine thnF (T.done B rfl rfl rfl hc j _ s2 _ H2 (fun _ _ => False) I2 (mine no2) at2 ends) fun r s3 ⟨hr, I3⟩ => ?_
      subst hr
      exact back _ _ _ (wipe_wipe _ _) I3 nx
    · refine thnF (T.item B rfl rfl rfl hc j _ s2 _ H2 (fun _ _ => False) I2 (mine no2) at2 goes) fun r s3 ⟨u, hr, came3⟩ => ?_
      subst hr
      refine thnF came3 fun _ s4 ⟨x, H4, I4, r4, y4, at4, no4⟩ => ?_
      have r1 := hg.run _ s4 _ H4 x u _ (I4.pinned (mine no4) (T.obj _ _ at4)) r4 (one x H4 y4)
      rw [hx] at r1
      refine thnF r1 fun _ s5 ⟨σ5, H5, I5, same, q5⟩ => ?_
      have r2 := ht.run _ s5 σ5 H5 _ I5 q5
      rw [hx] at r2
      refine thnF r2 fun b s6 ⟨H6, I6, q6⟩ => ?_
      cases b with
      | false => simp only [Bool.false_eq_true, if_false] at q6 ⊢; exact turn_nextP T at4 next same I6 q6
      | true =>
        simp only [if_true] at q6 ⊢
        exact hin _ _ _ _ _ _ _ I6 q6 fun τ H' t2 sm I' nx => turn_nextP T at4 next (sm.trans same) I' nx
  exact hS _ _ _ all (T.self B.A 0 _ _ _ at1 all)
end
section
variable {X : Cx} {σ : L2.St} {elt t0 i0 t1 i1 t2 i2 : Expr} {f0 f1 f2 : List Expr} {sc : Scope} {own : List (PySem.Str × Nat)} {vs1 vs2 : List Nat} {pos pos2 : Pos} {wi wi1 wi2 : TI} {g g1 g2 : TG} {tt tt1 tt2 : TT} {te : TE}
theorem core3 {pins : List (Addr × Obj)} {s : Shared} {H : Hp} {Q : VK} {use : Option (Value → Sem Unit)} {Qf : Value → Shared → Prop} (hc : X.calm = true) (hN : X.N.Nodup) (I : Inv X pins σ H s) (hi : PI X t0 i0 wi) (ok : BlkOk X.N X.env.scope sc own) (sub : ∀ i ∈ vs1, i ∈ own.map (·.2)) (sub2 : ∀ i ∈ vs2, i ∈ vs1)
    (hg : ∀ s H C cl fp, PG (X.blk s H sc (compEnvC sc cl C X.env) fp) t0 g) (ht : ∀ s H C cl fp, PTs (X.blk s H sc (compEnvC sc cl C X.env) fp) f0 tt) (hi1 : ∀ s H C cl fp, PI (X.blk s H sc (compEnvC sc cl C X.env) fp) t1 i1 wi1) (hg1 : ∀ s H C cl fp, PG (X.blk s H sc (compEnvC sc cl C X.env) fp) t1 g1)
    (ht1 : ∀ s H C cl fp, PTs (X.blk s H sc (compEnvC sc cl C X.env) fp) f1 tt1) (hi2 : ∀ s H C cl fp, PI (X.blk s H sc (compEnvC sc cl C X.env) fp) t2 i2 wi2) (hg2 : ∀ s H C cl fp, PG (X.blk s H sc (compEnvC sc cl C X.env) fp) t2 g2)
    (ht2 : ∀ s H C cl fp, PTs (X.blk s H sc (compEnvC sc cl C X.env) fp) f2 tt2) (he : ∀ s H C cl fp, PE (X.blk s H sc (compEnvC sc cl C X.env) fp) elt te) (hs : ∀ x, foldedSetIterable i0 X.env x = pure x) (hs1 : ∀ env x, foldedSetIterable i1 env x = pure x) (hs2 : ∀ env x, foldedSetIterable i2 env x = pure x) (h : tLc3 wi g tt wi1 g1 tt1 wi2 g2 tt2 te (own.map (·.2)) vs1 vs2 σ H Q)
    (out : ∀ D C t m H', Inv X pins σ H' t → Q (.ref D) H' → t.heap.Ns C m → FpOk X pins H' C → compPost (model X.prog X.w) X.A X.xe use Qf (.ref D) C (.ok .next) t) :
    wpAny (model X.prog X.w) X.A (comprehension (three elt t0 i0 t1 i1 t2 i2 f0 f1 f2 sc pos) sc X.env pos2 (newList []) false (eval i0 X.env) use) Qf X.xe s := by
  refine wpAny_comprehension_free (use := use) rfl hs (closure_ok fun y hy e => (ok.free y hy e).elim (fun k => I.ok.has _ (.inl k)) fun k => I.ok.has _ (.inr k)) ok.kind (fun y hy e => by rw [ok.uniq y hy, e]) (thn (hi.run pins s σ H _ I h) fun _ _ came => thn came fun _ t came2 => ?_)
  obtain ⟨itA, fp, seen, J, H2, rfl, I2, T, at0, away, asks⟩ := came2
  refine wpAny_newObj_type (newEnv_comp ?_) (show 0 ≤ sizeLine by decide)
  generalize eD : t.heap.objs.size = D
  have hDn : H2 D = none := I2.hok.fresh (Nat.le_of_eq eD)
  obtain ⟨W, ⟨k0, w0⟩, turns⟩ := asks D hDn
  generalize e3 : ({ t with heap := t.heap.push { cls := .type "list", data := .seq ([] : List Value).toArray } } : Shared) = s3
  have p3 : s3.heap = t.heap.push { cls := .type "list", data := .seq ([] : List Value).toArray } := by rw [← e3]
  have z3 : s3.heap.objs.size = t.heap.objs.size + 1 := by rw [p3, Heap.size_push]
  generalize eH : upd H2 D (.lst []) = H3 at w0
  have I3 : Inv X pins σ H3 s3 := by
    rw [← e3, ← eH]; refine I2.laid (t' := t.toks) (fun _ _ e => Heap.get?_push_of_some _ e) (Nat.le_of_eq eD) ⟨Nat.zero_le _, [], 0, .nil, ?_⟩; rw [← eD]; exact Heap.get?_push_size _ rfl
  have own3 : ∀ b ∈ fp, FpOk X pins H3 b ∧ b < s3.heap.objs.size := fun b hb => by
    obtain ⟨_, e, _⟩ := T.obj _ _ at0 b hb
    have lt : b < t.heap.objs.size := Heap.lt_size e
    refine ⟨⟨?_, (away b hb).2⟩, by rw [z3]; exact Nat.lt_succ_of_lt lt⟩; rw [← eH, upd_ne (by rw [← eD]; exact Nat.ne_of_lt lt)]; exact (away b hb).1
  have at3 : seen 0 s3.heap := T.keep _ _ _ at0 fun _ _ _ e => by rw [p3]; exact Heap.get?_push_of_some _ e
  have I4 := block_start I3 ok hN own3
  let cl := cellsFrom (s3.heap.objs.size + 1) sc.names (cloFrom X.env.cells sc.names [])
  have gT := hg s3 H3 s3.heap.objs.size cl fp; have gI := ht s3 H3 s3.heap.objs.size cl fp; have gE := he s3 H3 s3.heap.objs.size cl fp; have gJ := hi1 s3 H3 s3.heap.objs.size cl fp; have gT1 := hg1 s3 H3 s3.heap.objs.size cl fp; have gI1 := ht1 s3 H3 s3.heap.objs.size cl fp
  have gJ2 := hi2 s3 H3 s3.heap.objs.size cl fp; have gT2 := hg2 s3 H3 s3.heap.objs.size cl fp; have gI2 := ht2 s3 H3 s3.heap.objs.size cl fp
  show codeAny _ _ (.compStart (three elt t0 i0 t1 i1 t2 i2 f0 f1 f2 sc pos) 0 (.ref itA) (.ref D) (compEnvC sc cl s3.heap.objs.size X.env)) (compPost (model X.prog X.w) X.A X.xe use Qf (.ref D) s3.heap.objs.size) { s3 with heap := pushCells (s3.heap.push { cls := .type "dict", data := .dict #[] }) sc.names }
  generalize eB : compEnvC sc cl s3.heap.objs.size X.env = ce at gT gI gE gJ gT1 gI1 gJ2 gT2 gI2 ⊢
  have I4 : Inv (X.blk s3 H3 sc ce fp) [] (wipe σ (own.map (·.2))) H3 { s3 with heap := pushCells (s3.heap.push { cls := .type "dict", data := .dict #[] }) sc.names } := by rw [← eB]; exact I4
  have loc : ce.locals = s3.heap.objs.size := by rw [← eB]; rfl
  generalize e4 : ({ s3 with heap := pushCells (s3.heap.push { cls := .type "dict", data := .dict #[] }) sc.names } : Shared) = s4 at I4 ⊢
  have at4 : seen 0 s4.heap := T.keep _ _ _ at3 fun _ _ _ e => by rw [← e4]; exact pushCells_keeps _ _ _ _ (Heap.get?_push_of_some _ e)
  have mine : ∀ {σ' : L2.St} {H' : Hp} {t : Shared}, Inv (X.blk s3 H3 sc ce fp) [] σ' H' t → (∀ b ∈ fp, H' b = none) → ∀ b ∈ fp, FpOk (X.blk s3 H3 sc ce fp) [] H' b := fun I' none_ b hb => ⟨none_ b hb, (I'.ok.exf b hb).1, I'.ok.exfs b hb, .inl hb, fun x c e => (I'.ok.exf b hb).2 x c e, fun p hp => by
    have hp : p ∈ ([] : List (Addr × Obj)) ++ [] := hp
    simp at hp⟩
  have hC : IsThree (three elt t0 i0 t1 i1 t2 i2 f0 f1 f2 sc pos) := ⟨elt, t0, i0, t1, i1, t2, i2, f0, f1, f2, sc, pos, rfl⟩
  have sv2 : Served (X.blk s3 H3 sc ce fp) (midI (three elt t0 i0 t1 i1 t2 i2 f0 f1 f2 sc pos) 2 i2 (.ref D) ce) (lvl wi2 g2 tt2 vs2 (leaf D te)) vs2 := served_I (B := X.blk s3 H3 sc ce fp) (C := three elt t0 i0 t1 i1 t2 i2 f0 f1 f2 sc pos) hC rfl hc gJ2 gT2 gI2 (hs2 ce) (fun it => lap2) (fun R it s => begin2) (served_E (B := X.blk s3 H3 sc ce fp) rfl gE vs2)
  have sv2' : Served (X.blk s3 H3 sc ce fp) (midI (three elt t0 i0 t1 i1 t2 i2 f0 f1 f2 sc pos) 2 i2 (.ref D) ce) (lvl wi2 g2 tt2 vs2 (leaf D te)) vs1 := fun R p0 σ H s Nx K I h back => sv2 R p0 σ H s Nx K I h fun τ H' t sm => back τ H' t ((wipe_sub sub2).symm.trans ((congrArg (fun x => wipe x vs1) sm).trans (wipe_sub sub2)))
  have sv1 : Served (X.blk s3 H3 sc ce fp) (midI (three elt t0 i0 t1 i1 t2 i2 f0 f1 f2 sc pos) 1 i1 (.ref D) ce) (lvl wi1 g1 tt1 vs1 (lvl wi2 g2 tt2 vs2 (leaf D te))) vs1 := served_I (B := X.blk s3 H3 sc ce fp) (C := three elt t0 i0 t1 i1 t2 i2 f0 f1 f2 sc pos) hC rfl hc gJ gT1 gI1 (hs1 ce) (fun it => lap1) (fun R it s => begin1) sv2'
  have all : codeAny (model X.prog X.w) X.A (.compLoop (three elt t0 i0 t1 i1 t2 i2 f0 f1 f2 sc pos) 0 (.ref itA) (.ref D) ce) (compPost (model X.prog X.w) X.A X.xe use Qf (.ref D) s3.heap.objs.size) s4 := by
    refine loopL hC lap0 (HereP (X.blk s3 H3 sc ce fp) [] (wipe σ (own.map (·.2))) seen fp W) ?_ k0 ⟨0, H3, I4, at4, fun b hb => (own3 b hb).1.1, w0⟩
    rintro k s5 ⟨i, H5, I5, at5, no5, w5⟩
    rcases turns i k H5 w5 with ⟨ends, fin⟩ | ⟨goes, Nx, next, one⟩
    · refine thnF (T.done (X.blk s3 H3 sc ce fp) rfl rfl rfl hc i [] s5 _ H5 (fun _ _ => False) I5 (mine I5 no5) at5 ends) fun r s6 ⟨hr, I6⟩ => ?_
      subst hr
      have back : Inv X pins σ H5 s6 := I3.call' (ch := fp) I6.os I6.base I6.hok I6.bare fun b hb => let q := (own3 b hb).1.2; ⟨q.2.2.1, q.1, q.2.2.2.1, q.2.2.2.2⟩
      have free : H5 s3.heap.objs.size = none := loc ▸ (show H5 ce.locals = none from I6.free)
      obtain ⟨m, ns, _⟩ := I6.loc
      exact out D s3.heap.objs.size s6 m H5 back fin (loc ▸ (show s6.heap.Ns ce.locals m from ns)) (I3.fpOk (Nat.le_refl _) free)
    · refine thnF (T.item (X.blk s3 H3 sc ce fp) rfl rfl rfl hc i [] s5 _ H5 (fun _ _ => False) I5 (mine I5 no5) at5 goes) fun r s6 ⟨u, hr, came6⟩ => ?_
      subst hr
      refine thnF came6 fun _ s7 ⟨x, H7, I7, r7, y7, at7, no7⟩ => thnF (gT.run _ s7 _ H7 x u _ (I7.pinned (mine I7 no7) (T.obj _ _ at7)) r7 (one x H7 y7)) fun _ s8 ⟨σ8, H8, I8, same, q8⟩ => thnF (gI.run _ s8 σ8 H8 _ I8 q8) fun b s9 ⟨H9, I9, q9⟩ => ?_
      cases b with
      | false => simp only [Bool.false_eq_true, if_false] at q9 ⊢; exact turn_nextP T at7 next same I9 q9
      | true =>
        simp only [if_true] at q9 ⊢
        exact sv1 _ _ _ _ _ _ _ I9 q9 fun τ H' t2 sm I' nx => turn_nextP T at7 next (((wipe_sub sub).symm.trans ((congrArg (fun x => wipe x (own.map (·.2))) sm).trans (wipe_sub sub))).trans same) I' nx
  exact codeAny_compStart_list all (T.self X.A 0 _ _ _ at4 all)
/-- as a value -/
theorem pe_lc3 (hc : X.calm = true) (hN : X.N.Nodup) (hi : PI X t0 i0 wi) (ok : BlkOk X.N X.env.scope sc own) (sub : ∀ i ∈ vs1, i ∈ own.map (·.2)) (sub2 : ∀ i ∈ vs2, i ∈ vs1)
    (hg : ∀ s H C cl fp, PG (X.blk s H sc (compEnvC sc cl C X.env) fp) t0 g) (ht : ∀ s H C cl fp, PTs (X.blk s H sc (compEnvC sc cl C X.env) fp) f0 tt) (hi1 : ∀ s H C cl fp, PI (X.blk s H sc (compEnvC sc cl C X.env) fp) t1 i1 wi1) (hg1 : ∀ s H C cl fp, PG (X.blk s H sc (compEnvC sc cl C X.env) fp) t1 g1)
    (ht1 : ∀ s H C cl fp, PTs (X.blk s H sc (compEnvC sc cl C X.env) fp) f1 tt1) (hi2 : ∀ s H C cl fp, PI (X.blk s H sc (compEnvC sc cl C X.env) fp) t2 i2 wi2) (hg2 : ∀ s H C cl fp, PG (X.blk s H sc (compEnvC sc cl C X.env) fp) t2 g2)
    (ht2 : ∀ s H C cl fp, PTs (X.blk s H sc (compEnvC sc cl C X.env) fp) f2 tt2) (he : ∀ s H C cl fp, PE (X.blk s H sc (compEnvC sc cl C X.env) fp) elt te) (hs : ∀ x, foldedSetIterable i0 X.env x = pure x := by intro _; rfl) (hs1 : ∀ env x, foldedSetIterable i1 env x = pure x := by intro _ _; rfl) (hs2 : ∀ env x, foldedSetIterable i2 env x = pure x := by intro _ _; rfl) :
    PE X (three elt t0 i0 t1 i1 t2 i2 f0 f1 f2 sc pos) (tLc3 wi g tt wi1 g1 tt1 wi2 g2 tt2 te (own.map (·.2)) vs1 vs2) :=
  ⟨fun pins s σ H Q I h => by
    rw [eval_ListComp]
    exact core3 hc hN I hi ok sub sub2 hg ht hi1 hg1 ht1 hi2 hg2 ht2 he hs hs1 hs2 h fun D C t m H' I' q ns f => ⟨m, ns, fun h'' sb => ⟨.ref D, H', I'.turned (t' := t.toks) (fun b o ne e => (sb.2 b ne).trans e) f.1 f.2.1 f.2.2.2.1 f.2.2.2.2.1 f.2.2.2.2.2, rfl, q⟩⟩⟩
end
end TxL3

set_option Elab.async false
set_option linter.all false
set_option maxRecDepth 100000
set_option maxHeartbeats 1000000
set_option autoImplicit false
/-! A list comprehension with three sources, by data. -/
namespace Tx
open PySem L2 TxL3
section
variable {K : PySem.W.Frag} {m : Mo} {Γ : G} {te : TE} {Dl : Addr}
/-- what is asked adds L to the list at Dl -/
def Adds (m : Mo) (K : PySem.W.Frag) (Dl : Addr) (a : Ask) (Γ : G) (L : List D) : Prop := ∀ Hb : Hp, Hb Dl = none → m.I Hb → ∀ (σ : L2.St) (H : Hp) (acc : List V) (ds : List D), m.R Hb H → ER (m.ext Dl) K Γ σ H → H Dl = some (.lst acc) → RpAll K (m.ext Dl).F H acc ds → ds.length + L.length ≤ 100000 →
  ∀ Nx : Hp → Prop, (∀ H' acc', m.R Hb H' → StK (m.ext Dl) H H' → H' Dl = some (.lst acc') → RpAll K (m.ext Dl).F H' acc' (ds ++ L) → Nx H') → a σ H Nx
theorem Adds.is {a : Ask} {L L' : List D} (h : Adds m K Dl a Γ L) (e : L = L') : Adds m K Dl a Γ L' := e ▸ h
theorem adds_leaf {d : D} (h : Ev1 (m.ext Dl) K te Γ d) : Adds m K Dl (leaf Dl te) Γ [d] := fun Hb hb ib σ H acc ds r e hD ra hl Nx back =>
  h σ H e _ fun v d' H1 s r1 rv => by
    subst s
    have nF : ¬ m.F Dl := fun f => m.fa ib f hb
    have h1 : H1 Dl = some (.lst acc) := m.keep r1 e.i.1 Dl _ nF hD
    have k1 : ∀ a o, ¬ (m.ext Dl).F a → H1 a = some o → (upd H1 Dl (.lst (acc ++ [v]))) a = some o := fun a o n x => by rw [upd_ne (fun z => n (.inr z))]; exact x
    have k0 := (m.ext Dl).keep r1 e.i
    have le := ra.len
    refine ⟨acc, h1, ?_, back _ (acc ++ [v]) (m.chg ib (m.trans r r1) hb) (fun a o n q => k1 a o n (k0 a o n q)) upd_same ?_⟩
    · have : acc.length ≤ 100000 := by simp at hl; omega
      exact Nat.lt_of_le_of_lt this (by decide)
    · exact ((ra.mv k0).append (.cons rv .nil)).mv k1
theorem flat_len {xs : List D} {t : D → Bool} {f : D → List D} {i : Nat} : (((xs.take i).filter t).flatMap f).length ≤ ((xs.filter t).flatMap f).length := by
  have : (xs.filter t).flatMap f = ((xs.take i).filter t).flatMap f ++ ((xs.drop i).filter t).flatMap f := by rw [← List.flatMap_append, ← List.filter_append, List.take_append_drop]
  rw [this, List.length_append]
  omega
theorem adds_lvl {wi : TI} {g : TG} {tt : TT} {vs : List Nat} {inner : Ask} {xs : List D} {js : List Nat} (t : D → Bool) (f : D → List D) (hj : ∀ j ∈ js, j ∈ vs) (hi : ItX (m.ext Dl) K wi Γ xs)
    (hs : ∀ d ∈ xs, ∃ Γ2, TgD (m.ext Dl) K g (wipeG Γ vs) d js Γ2 ∧ EvT1 (m.ext Dl) K tt Γ2 (t d) ∧ (t d = true → Adds m K Dl inner Γ2 (f d))) : Adds m K Dl (lvl wi g tt vs inner) Γ ((xs.filter t).flatMap f) := fun Hb hb ib σ H acc ds r e hD ra hl Nx back => by
  have nF : ¬ m.F Dl := fun z => m.fa ib z hb
  refine hi σ H e _ fun J H1 r1 wk => ?_
  have k0 := (m.ext Dl).keep r1 e.i
  have e1 := e.mv (m := m.ext Dl) r1
  refine ⟨fun i k H' => k = xs.length - i ∧ i ≤ xs.length ∧ m.R Hb H' ∧ StK (m.ext Dl) H1 H' ∧ ∃ acc, H' Dl = some (.lst acc) ∧ RpAll K (m.ext Dl).F H' acc (ds ++ ((xs.take i).filter t).flatMap f), ⟨_, rfl, Nat.zero_le _, m.trans r r1, fun _ _ _ q => q, acc, m.keep r1 e.i.1 Dl _ nF hD, by simpa using ra.mv k0⟩, ?_⟩
  rintro i k H' ⟨rfl, hle, r', st, acc', hD', ra'⟩
  have i' : (m.ext Dl).I H' := ⟨m.inv r' ib, by rw [hD']; exact fun z => nomatch z⟩
  obtain ⟨go, stop, yld⟩ := wk H' st
  have e' : ER (m.ext Dl) K Γ σ H' := ⟨i', e1.len, fun j d h => let ⟨v, h1, h2⟩ := e1.at_ j d h; ⟨v, h1, h2.go fun a o n q => ⟨n, st a o n q⟩⟩⟩
  by_cases hlt : i < xs.length
  · refine .inr ⟨go i hlt, fun H3 => m.R Hb H3 ∧ StK (m.ext Dl) H1 H3 ∧ ∃ acc, H3 Dl = some (.lst acc) ∧ RpAll K (m.ext Dl).F H3 acc (ds ++ ((xs.take (i + 1)).filter t).flatMap f), fun H3 q => ⟨xs.length - (i + 1), by omega, rfl, hlt, q⟩, fun x H2 y => ?_⟩
    obtain ⟨e2, d, hd, rx⟩ := yld i x H2 hlt y
    subst e2
    obtain ⟨Γ2, tg, tst, el⟩ := hs d (List.mem_of_getElem? hd)
    have tk := take_one hd
    refine tg x (wipe σ vs) H2 (e'.wipe vs) rx _ fun σ3 H3 e3 r3 w3 => ⟨by rw [w3 vs hj, wipe_wipe], ?_⟩
    refine tst σ3 H3 e3 _ fun b H4 tb r4 => ?_
    subst tb
    have r34 := m.trans r3 r4
    have k34 := (m.ext Dl).keep r34 i'
    have e4 := e3.mv (m := m.ext Dl) r4
    have hD4 : H4 Dl = some (.lst acc') := m.keep r34 i'.1 Dl _ nF hD'
    have ra4 := ra'.mv k34
    have st4 : StK (m.ext Dl) H1 H4 := fun a o n q => k34 a o n (st a o n q)
    cases hb' : t d with
    | false =>
      rw [if_neg (by simp)]
      refine ⟨m.trans r' r34, st4, acc', hD4, ?_⟩
      rw [tk, List.filter_append, List.filter_cons, hb']
      simpa using ra4
    | true =>
      rw [if_pos rfl]
      have ll := flat_len (xs := xs) (t := t) (f := f) (i := i + 1)
      have eq : ((xs.take (i + 1)).filter t).flatMap f = ((xs.take i).filter t).flatMap f ++ f d := by rw [tk, List.filter_append, List.flatMap_append, List.filter_cons, hb']; simp
      refine el hb' Hb hb ib σ3 H4 acc' _ (m.trans r' r34) e4 hD4 ra4 (by rw [eq, List.length_append] at ll; rw [List.length_append]; omega) _ fun H5 acc5 r5 st5 hD5 ra5 => ⟨r5, fun a o n q => st5 a o n (st4 a o n q), acc5, hD5, ?_⟩
      rw [eq, ← List.append_assoc]
      exact ra5
  · have e0 : i = xs.length := by omega
    subst e0
    rw [List.take_length] at ra'
    exact .inl ⟨stop, back H' acc' r' (fun a o n q => st a o n (k0 a o n q)) hD' ra'⟩
theorem en_lc3 {wi wi1 wi2 : TI} {g g1 g2 : TG} {tt tt1 tt2 : TT} {vs vs1 vs2 : List Nat} {xs : List D} {js : List Nat} (t : D → Bool) (f : D → List D) (hj : ∀ j ∈ js, j ∈ vs) (hi : ItD1 m K wi Γ xs) (hu : ((xs.filter t).flatMap f).length ≤ 100000)
    (hs : ∀ Dl, ∀ d ∈ xs, ∃ Γ2, TgD (m.ext Dl) K g (wipeG Γ vs) d js Γ2 ∧ EvT1 (m.ext Dl) K tt Γ2 (t d) ∧ (t d = true → Adds m K Dl (lvl wi1 g1 tt1 vs1 (lvl wi2 g2 tt2 vs2 (leaf Dl te))) Γ2 (f d))) : Ev1 m K (tLc3 wi g tt wi1 g1 tt1 wi2 g2 tt2 te vs vs1 vs2) Γ (.lst ((xs.filter t).flatMap f)) := fun σ H e Q q => by
  refine hi σ H e _ fun J zs H1 hz r1 wk => fun Dl hD => ?_
  subst hz
  have e1 := e.mv r1
  have rN : m.R H1 (upd H1 Dl (.lst [])) := m.grow e1.i (same_new hD)
  have nF : ¬ m.F Dl := fun f => m.fa e1.i f hD
  refine ⟨fun i k H' => k = zs.length - i ∧ i ≤ zs.length ∧ m.R H1 H' ∧ ∃ acc, H' Dl = some (.lst acc) ∧ RpAll K (m.ext Dl).F H' acc (((zs.take i).filter t).flatMap f), ⟨_, rfl, Nat.zero_le _, rN, [], upd_same, .nil⟩, ?_⟩
  rintro i k H' ⟨rfl, hle, r, acc, hacc, ra⟩
  have eX : ER (m.ext Dl) K Γ σ H' := e1.ext hD r (by rw [hacc]; exact fun z => nomatch z)
  have iX := eX.i
  have wkX : WkD (m.ext Dl) K J H' zs := wk (m.ext Dl) (m.le_ext Dl) H' iX r fun a f n => f.elim (fun f => absurd f n) fun z => z ▸ hD
  by_cases hlt : i < zs.length
  · refine .inr ⟨wkX.go i H' (m.refl _) hlt, fun H3 => m.R H1 H3 ∧ ∃ acc, H3 Dl = some (.lst acc) ∧ RpAll K (m.ext Dl).F H3 acc (((zs.take (i + 1)).filter t).flatMap f), fun H3 q => ⟨zs.length - (i + 1), by omega, rfl, hlt, q⟩, fun x H2 y => ?_⟩
    obtain ⟨r2, d, hd, rx⟩ := wkX.yld i H' x H2 (m.refl _) hlt y
    obtain ⟨Γ2, tg, tst, el⟩ := hs Dl d (List.mem_of_getElem? hd)
    have tk := take_one hd
    refine tg x (wipe σ vs) H2 ((eX.mv r2).wipe vs) rx _ fun σ3 H3 e3 r3 w3 => ⟨by rw [w3 vs hj, wipe_wipe], ?_⟩
    refine tst σ3 H3 e3 _ fun b H4 tb r4 => ?_
    subst tb
    have rr : m.R H' H4 := m.trans r2 (m.trans r3 r4)
    have k4 := (m.ext Dl).keep rr iX
    have hD4 : H4 Dl = some (.lst acc) := m.keep rr iX.1 Dl _ nF hacc
    have ra4 := ra.mv k4
    cases hb : t d with
    | false =>
      rw [if_neg (by simp)]
      refine ⟨m.trans r rr, acc, hD4, ?_⟩
      rw [tk, List.filter_append, List.filter_cons, hb]
      simpa using ra4
    | true =>
      rw [if_pos rfl]
      have ll := flat_len (xs := zs) (t := t) (f := f) (i := i + 1)
      have eq : ((zs.take (i + 1)).filter t).flatMap f = ((zs.take i).filter t).flatMap f ++ f d := by rw [tk, List.filter_append, List.flatMap_append, List.filter_cons, hb]; simp
      refine el hb H1 hD e1.i σ3 H4 acc _ (m.trans r rr) (e3.mv (m := m.ext Dl) r4) hD4 ra4 (by rw [eq, List.length_append] at ll; omega) _ fun H5 acc5 r5 st5 hD5 ra5 => ⟨r5, acc5, hD5, ?_⟩
      rw [eq]
      exact ra5
  · have e0 : i = zs.length := by omega
    subst e0
    rw [List.take_length] at ra
    exact .inl ⟨wkX.stop H' (m.refl _), q _ _ H' rfl (m.trans r1 r) (.lst nF hacc (ra.weak fun a f => .inl f))⟩
end
end Tx

set_option Elab.async false
set_option linter.all false
set_option maxRecDepth 100000
set_option maxHeartbeats 1000000
set_option autoImplicit false
/-! Displayed tuples that are known to have no dict of their own; not of a list; sorted of triples of small numbers; x, y = [], e. -/
namespace Tx
open PySem PySem.Spec PyProof.Rows L2
def tTupF (t : TA) : TE := fun σ H Q => t σ H fun xs H1 => xs.length ≤ sizeLine ∧ ∀ (l : Addr) (o : Obj), H1 l = none → o.cls = .type "tuple" → o.dict = none → Q (.ref l) (upd H1 l (.frz o (.tup xs)))
section
variable {X : Cx} {es : List Expr} {t : TA} {pos : Pos} {k0 : Nat}
theorem pe_tupF (h : PA X es t) : PE X (.Tuple es k0 pos) (tTupF t) := by
  refine ⟨fun pins s σ H Q I hq => wpAny_Tuple_spliced (thn (h.run pos pins s σ H _ I hq) fun us s1 ⟨xs, H1, I1, r, z, q⟩ => ⟨by rw [← r.length]; exact z, ?_⟩)⟩
  have I2 : Inv X pins σ (upd H1 s1.heap.objs.size (.frz { cls := .type "tuple", data := .seq us.toArray } (.tup xs))) { s1 with heap := s1.heap.push { cls := .type "tuple", data := .seq us.toArray } } :=
    I1.laid (t' := s1.toks) (fun b u e => Heap.get?_push_of_some _ e) (Nat.le_refl _) (show ObjOk X.prog X.w _ _ _ (.frz _ (.tup xs)) from ⟨Heap.get?_push_size _ rfl, z, us, r, IsTup.new _ _⟩)
  exact ⟨.ref s1.heap.objs.size, _, I2, rfl, q _ _ (I1.hok.fresh (Nat.le_refl _)) rfl rfl⟩
end
section
variable {K : PySem.W.Frag} {m : Mo} {Γ : G} {te : TE} {ta : TA} {tw : TS} {d : D} {ds : List D}
theorem en_tupF (h : EvA1 m K ta Γ ds) (hl : ds.length ≤ 100000) : Ev1 m K (tTupF ta) Γ (.ftp ds) := fun σ H e Q q =>
  h σ H e _ fun vs ds' H1 s r1 ra => by
    subst s
    have i1 := m.inv r1 e.i
    exact ⟨by rw [ra.len]; exact Nat.le_trans hl (by decide), fun l o hn hc hd => q _ _ _ rfl (m.trans r1 (m.grow i1 (same_new hn))) (.ftp (fun f => m.fa i1 f hn) upd_same hc hd (ra.mv fun b u n z => same_new hn b u z))⟩
theorem en_notT (h : Ev1 m K te Γ d) (hd : isSeq d ds) : Ev1 m K (tNotT K te) Γ (.bl ds.isEmpty) := fun σ H e Q q =>
  (et_truth h hd) σ H e (fun k H' => Q (.bl (!k)) H') fun k H' s r => by
    subst s
    rw [Bool.not_not]
    exact q _ _ H' rfl r (.bl _)
/-- x, y = [], e ; rest -/
theorem sq_parKL {i j : Nat} {S : D → Prop} {O : Out} (h : ∀ l, EvN (m.ext l) K te Γ S) (k : ∀ l H0 d, S d → SGo m K l H0 tw ((Γ.set i (some (.adr l))).set j (some d)) [] { nx := fun _ _ => False, rt := O.rt }) : SG m K (tSeq (tPar i j (tCons (tLst tNil) (tCons te tNil))) tw) Γ O := fun σ H e E M =>
  ⟨Nat.zero_le _, fun l hl => by
    have rN : m.R H (upd H l (.lst [])) := m.grow e.i (same_new hl)
    have eX : ER (m.ext l) K Γ σ (upd H l (.lst [])) := e.ext hl rN (by rw [upd_same]; exact fun z => nomatch z)
    refine h l σ _ eX _ fun v d H2 s r2 rv => ?_
    have nF : ¬ m.F l := fun f => m.fa e.i f hl
    have h2 : H2 l = some (.lst []) := m.keep r2 eX.i.1 l _ nF upd_same
    have e2 := eX.mv (m := m.ext l) r2
    exact ⟨_, _, rfl, k l H d s hl e.i _ _ [] (m.trans rN r2) ((e2.set i (.adr l)).set j rv) h2 .nil E ⟨fun _ _ _ _ _ o => o.elim, fun d v H' o r rv => M.rt d v H' o r rv⟩⟩⟩
/-! ### sorted of triples -/
abbrev Tri := Nat × Nat × Nat
def triD (p : Tri) : D := .tup [dN p.1, dN p.2.1, dN p.2.2]
def triC (p : Tri) : Int := ((p.1 : Int) * 64 + p.2.1) * 64 + p.2.2
def Small (p : Tri) : Prop := p.1 < 64 ∧ p.2.1 < 64 ∧ p.2.2 < 64
theorem triD_inj {p q : Tri} (e : triD p = triD q) : p = q := by
  injection e with e
  injection e with e1 e
  injection e with e2 e
  injection e with e3
  exact Prod.ext (dN_inj e1) (Prod.ext (dN_inj e2) (dN_inj e3))
theorem triC_inj {p q : Tri} (hp : Small p) (hq : Small q) (e : triC p = triC q) : p = q := by
  obtain ⟨a, b, c⟩ := p
  obtain ⟨a', b', c'⟩ := q
  obtain ⟨h1, h2, h3⟩ := hp
  obtain ⟨g1, g2, g3⟩ := hq
  simp only [triC] at *
  have : a = a' := by omega
  have : b = b' := by omega
  have : c = c' := by omega
  simp [*]
theorem RpAll.perm {F : Addr → Prop} {H : Hp} {vs ws : List V} (p : ws.Perm vs) : ∀ {ds : List D}, RpAll K F H vs ds → ∃ es : List D, es.Perm ds ∧ RpAll K F H ws es := by
  induction p with
  | nil => exact fun r => ⟨_, .refl _, r⟩
  | cons x _ ih =>
    intro ds r
    cases r with
    | cons a r => obtain ⟨es, h1, h2⟩ := ih r; exact ⟨_, h1.cons _, .cons a h2⟩
  | swap x y l =>
    intro ds r
    cases r with
    | cons a r => cases r with
      | cons b r => exact ⟨_, .swap _ _ _, .cons b (.cons a r)⟩
  | trans _ _ ih1 ih2 =>
    intro ds r
    obtain ⟨es, h1, h2⟩ := ih2 r
    obtain ⟨fs, h3, h4⟩ := ih1 h2
    exact ⟨fs, h3.trans h1, h4⟩
def decT : D → Tri
  | .tup [.int a, .int b, .int c] => (a.toNat, b.toNat, c.toNat)
  | _ => (0, 0, 0)
theorem decT_tri (p : Tri) : decT (triD p) = p := by
  show ((p.1 : Int).toNat, (p.2.1 : Int).toNat, (p.2.2 : Int).toNat) = p
  rw [Int.toNat_natCast, Int.toNat_natCast, Int.toNat_natCast]
theorem perm_tri {l : List Tri} {es : List D} (p : es.Perm (l.map triD)) : ∃ l' : List Tri, es = l'.map triD ∧ l'.Perm l := by
  refine ⟨es.map decT, ?_, ?_⟩
  · rw [List.map_map]
    refine (Eq.trans (List.map_congr_left fun x hx => ?_) (List.map_id es)).symm
    obtain ⟨q, _, rfl⟩ := List.mem_map.mp (p.mem_iff.mp hx)
    show triD (decT (triD q)) = triD q
    rw [decT_tri]
  · have := p.map decT
    rw [List.map_map] at this
    have e : l.map (decT ∘ triD) = l := Eq.trans (List.map_congr_left fun x _ => decT_tri x) (List.map_id l)
    rwa [e] at this
theorem tri_same {L M : List Tri} (p : M.Perm L) (hB : ∀ x ∈ L, Small x) (up : L.Pairwise fun x y => triC x < triC y) (um : M.Pairwise fun x y => triC x ≤ triC y) : M = L := by
  have e : M.map triC = L.map triC := PySem.W.ksm_same (p.map _) (List.pairwise_map.mpr um) (List.pairwise_map.mpr (up.imp fun h => Int.le_of_lt h))
  apply List.ext_getElem p.length_eq
  intro i h1 h2
  have h3 : (M.map triC)[i]? = (L.map triC)[i]? := by rw [e]
  rw [List.getElem?_map, List.getElem?_map, List.getElem?_eq_getElem h1, List.getElem?_eq_getElem h2] at h3
  injection h3 with h3
  exact triC_inj (hB _ (p.mem_iff.mp (List.getElem_mem h1))) (hB _ (List.getElem_mem h2)) h3
theorem tupI_tri {F : Addr → Prop} {H : Hp} {x : V} {p : Tri} (r : Rp K F H x (triD p)) : TupI K H x [(p.1 : Int), p.2.1, p.2.2] := by
  obtain ⟨a, vs, rfl, h, ra⟩ := r.tupE
  have e := RpAll.ints (l := [(p.1 : Int), p.2.1, p.2.2]) ra
  subst e
  exact ⟨a, rfl, h⟩
theorem RpAll.pw {F : Addr → Prop} {H : Hp} {R : V → V → Prop} {S : D → D → Prop} (k : ∀ {x y : V} {d e : D}, Rp K F H x d → Rp K F H y e → R x y → S d e) : ∀ {vs : List V} {ds : List D}, RpAll K F H vs ds → vs.Pairwise R → ds.Pairwise S
  | [], _, .nil, _ => .nil
  | v :: vs, _, .cons r t, p => by
    rw [List.pairwise_cons] at p
    refine List.pairwise_cons.mpr ⟨fun e he => ?_, RpAll.pw k t p.2⟩
    obtain ⟨i, hi, rfl⟩ := List.getElem_of_mem he
    obtain ⟨w, hw, rw'⟩ := t.get (List.getElem?_eq_getElem hi)
    exact k r rw' (p.1 w (List.mem_of_getElem? hw))
/-- sorted of a list of triples of small numbers -/
theorem c_sort3 {L L' : List Tri} (hl : L.length < 64) (p : L'.Perm L) (hB : ∀ x ∈ L, Small x) (up : L'.Pairwise fun x y => triC x < triC y) : Ca1 m K (rSortU K 3 64) [.lst (L.map triD)] (.lst (L'.map triD)) := fun vs H I rs Q q => by
  cases rs with
  | cons rv rs =>
    cases rs
    obtain ⟨a, xs, rfl, hA, ra⟩ := rv.lstE
    refine ⟨a, xs, rfl, SqL.of hA, by rw [ra.len, List.length_map]; exact hl, fun x hx => ?_, fun ys pp py pw hp => ?_⟩
    · obtain ⟨i, hi, rfl⟩ := List.getElem_of_mem hx
      obtain ⟨d, hd, rd⟩ := ra.at (List.getElem?_eq_getElem hi)
      rw [List.getElem?_map] at hd
      obtain ⟨t, ht, rfl⟩ := Option.map_eq_some_iff.mp hd
      obtain ⟨s1, s2, s3⟩ := hB t (List.mem_of_getElem? ht)
      refine ⟨_, tupI_tri rd, rfl, fun n hn => ?_⟩
      simp only [List.mem_cons, List.not_mem_nil, or_false] at hn
      rcases hn with rfl | rfl | rfl <;> omega
    · obtain ⟨es, h1, h2⟩ := ra.perm py
      obtain ⟨M, rfl, h3⟩ := perm_tri h1
      have um : M.Pairwise fun x y => triC x ≤ triC y := by
        have := RpAll.pw (S := fun d e => ∀ x y, d = triD x → e = triD y → triC x ≤ triC y) (fun {x y d e} r1 r2 h u v eu ev => by
          subst eu; subst ev
          have := h _ _ (tupI_tri r1) (tupI_tri r2)
          simp only [TS.code, List.length_cons, List.length_nil] at this
          unfold triC
          omega) h2 pw
        exact (List.pairwise_map.mp this).imp fun h => h _ _ rfl rfl
      have eq : M = L' := tri_same (h3.trans p.symm) (fun x hx => hB x (p.mem_iff.mp hx)) up um
      subst eq
      exact q _ _ _ rfl (m.grow I (same_new hp)) (.lst (fun f => m.fa I f hp) upd_same (h2.mv fun b u n z => same_new hp b u z))
end
end Tx

set_option Elab.async false
set_option linter.all false
set_option maxRecDepth 100000
set_option maxHeartbeats 4000000
set_option autoImplicit false
namespace Tx
open PySem L2
/-- a call in an __init__ -/
theorem si_drop {K : PySem.W.Frag} {Γ : G} {te : TE} {tw : TS} {F : Addr → Prop} {C x : Addr} {ns : List Str} {ds : List D} {S : D → Prop} {Fin : List Str → List D → Prop} (h : EvN (pureMo F) K te Γ S) (k : SI F K x C tw Γ ns ds Fin) : SI F K x C (tSeq (tDrop te) tw) Γ ns ds Fin := fun dx σ H fvs e hx hlen ra E q =>
  h σ H e _ fun v d H1 s r1 rv => k dx σ H1 fvs (e.mv r1) (r1 _ _ hx) hlen (ra.mv fun a o _ e => r1 a o e) E fun σ' H' ns' fvs' ds' hf hk => q σ' H' ns' fvs' ds' hf fun a o n e => hk a o n (r1 a o e)
end Tx
namespace K63
open PySem L2 Tx
/-! ### plans -/
def opF (f g k : Nat) : Nat := if k = 0 then f else g
def seenP (T : Tb) (s f g t : Nat) (os : List Nat) : Ent := ((run T s (os.map (opF f g))).2.getD (os.idxOf t) 0, (run T s (os.map (opF f g))).1)
abbrev Cnf := Nat × List Nat
def cand : List Cnf := [(0, [0]), (0, [0, 1]), (1, [1]), (1, [1, 0])]
def confB (T : Tb) (s f g : Nat) (c : Cnf) : Bool := decide (seenP T s f g c.1 c.2 = seenP T s f g c.1 [1 - c.1, c.1])
def tellsB (T : Tb) (s f g : Nat) : Bool := (cand.filter (confB T s f g)).isEmpty
theorem opF_lt {T : Tb} {f g k : Nat} (hf : f < nops T) (hg : g < nops T) : opF f g k < nops T := by unfold opF; split <;> assumption
structure PlanC (K : PySem.W.Frag) (Cq : Addr) : Prop where
  cl : Cls K Cq
  kind : NoAttr K Cq "_kind"
  start : NoAttr K Cq "_start"
  ops : NoAttr K Cq "_operations"
structure TxtP (K : PySem.W.Frag) (mg : Str → Option Value) (C Cq : Addr) : Prop extends Txt K mg C where
  g_Plan : mg "Plan" = some (.ref Cq)
abbrev planNs : List Str := ["_kind", "_start", "_operations"]
abbrev planD (C Cq : Addr) (T : Tb) (s f g : Nat) : D := .obj Cq planNs [kindD C T, dN s, .tup [dN f, dN g]]
theorem planD_inj {C Cq : Addr} {T T' : Tb} {s s' f f' g g' : Nat} (e : planD C Cq T s f g = planD C Cq T' s' f' g') : T = T' ∧ s = s' ∧ f = f' ∧ g = g' := by
  injection e with _ _ e
  injection e with e1 e
  injection e with e2 e
  injection e with e3
  injection e3 with e3
  injection e3 with e4 e3
  injection e3 with e5
  exact ⟨kindD_inj e1, dN_inj e2, dN_inj e4, dN_inj e5⟩
theorem confB_iff {T : Tb} {s f g : Nat} {c : Cnf} : PyData.eqv (entD (seenP T s f g c.1 c.2)).py (entD (seenP T s f g c.1 [1 - c.1, c.1])).py = confB T s f g c := by
  unfold confB
  cases h : decide (seenP T s f g c.1 c.2 = seenP T s f g c.1 [1 - c.1, c.1]) with
  | true => rw [of_decide_eq_true h]; exact eqv_self (pur_ent _)
  | false =>
    have n := of_decide_eq_false h
    generalize seenP T s f g c.1 c.2 = p at *
    generalize seenP T s f g c.1 [1 - c.1, c.1] = q at *
    obtain ⟨a, b⟩ := p
    obtain ⟨a', b'⟩ := q
    simp only [entD, D.py, D.pys, PyData.eqv, PyData.eqvAll]
    have : ¬ (a = a' ∧ b = b') := fun z => n (by rw [z.1, z.2])
    simp
    intro e1 e2
    exact this ⟨by omega, by omega⟩
def thr : D → Nat
  | .tup (.int a :: _) => a.toNat
  | _ => 0
def unN : D → Nat
  | .int a => a.toNat
  | _ => 0
def ordN : D → List Nat
  | .ftp xs => xs.map unN
  | _ => []
def ftL (l : List Nat) : D := .ftp (l.map dN)
theorem ordN_ft (l : List Nat) : ordN (ftL l) = l := by
  show (l.map dN).map unN = l
  rw [List.map_map]
  refine Eq.trans (List.map_congr_left fun x _ => ?_) (List.map_id l)
  show ((x : Int)).toNat = x
  omega
section
variable {P : Program} {w : World} {K : PySem.W.Frag} {mg : Str → Option Value} {base : Heap} {C Cq : Addr}
abbrev CAfter (P : Program) (w : World) (K : PySem.W.Frag) (mg : Str → Option Value) (base : Heap) (C : Addr) : Prop := C8.Met P w K mg base 4 C "after" (spS K (pre_af C) (S_af C)) []
abbrev COps (P : Program) (w : World) (K : PySem.W.Frag) (mg : Str → Option Value) (base : Heap) (C : Addr) : Prop := C8.PrM P w K mg base 1 C "operations" (spS K (pre_kd C) (S_kd C fun T => dN (nops T)))
abbrev CSts (P : Program) (w : World) (K : PySem.W.Frag) (mg : Str → Option Value) (base : Heap) (C : Addr) : Prop := C8.PrM P w K mg base 1 C "states" (spS K (pre_kd C) (S_kd C fun T => dN T.length))
section
variable {m : Mo} {Γ : G} {te ta tb : TE} {T : Tb} {E : XK}
theorem ev_ops (e : Ev1 m K te Γ (kindD C T)) (ok : KOk T) : Ev1 m K (tProp C (spS K (pre_kd C) (S_kd C fun T => dN (nops T))) [] E te) Γ (dN (nops T)) :=
  en_propN e ⟨T, rfl, ok⟩ fun d h => h T rfl
theorem ev_sts (e : Ev1 m K te Γ (kindD C T)) (ok : KOk T) : Ev1 m K (tProp C (spS K (pre_kd C) (S_kd C fun T => dN T.length)) [] E te) Γ (dN T.length) :=
  en_propN e ⟨T, rfl, ok⟩ fun d h => h T rfl
theorem ev_after {s : Nat} {os : List Nat} (e : Ev1 m K te Γ (kindD C T)) (a : Ev1 m K ta Γ (dN s)) (b : Ev1 m K tb Γ (tupN os)) (ok : KOk T) (hs : s < T.length) (hl : os.length ≤ 100) (ho : ∀ o ∈ os, o < nops T) : Ev1 m K (tMeth C "after" (spS K (pre_af C) (S_af C)) [] E te (tCons ta (tCons tb tNil))) Γ (runD (run T s os)) :=
  en_methN (T := fun ds => ds = [dN s, tupN os]) e (by decide) (ea_cons a (ea_cons b ea_nil)) (fun ds z => by rw [z]; exact ⟨T, s, os, rfl, ok, hs, hl, ho⟩) fun ds d z h => by rw [z] at h; exact h T s os rfl
end
theorem sc_check_kind : FnScope ["kind"] ["kind"] (defScope s_check_kind) := ⟨rfl, rfl, rfl, by decide +kernel, rfl, by decide +kernel, by decide +kernel⟩
theorem ok_check_kind {f : Addr} {fd : FuncData} (Fu : Fun K "check_kind" "check_kind" s_check_kind f fd) (T : Txt K mg C) (ic : C8.InsC K C) : FnOk P w K mg base CX0 1 f fd ["kind"] (spF K (pre_kd C) fun _ => .non) := by
  refine fn_pure Fu sc_check_kind (fun ds h => by obtain ⟨M, rfl, _⟩ := h; rfl) fun cdv A outer s H E hr => ⟨_, (pss_one (ps_if (pt_not (pt_val (pe_callB (r := rIsi K) call_isi (by rfl) T.isinstance (by decide +kernel) (pa_cons (pv 0) (pa_cons (C8.pe_gc (v := .ref C) rfl ⟨_, T.g_Kind, rfl⟩) pa_nil))))) (pss_one ps_never) pss_nil)), fun F ds hp => ?_⟩
  obtain ⟨M, rfl, ok⟩ := hp
  exact sg_if (b := false) (EvT1.is (et_not (et_B (en_isiC (en_var 0 rfl) ic))) rfl) (fun e => nomatch e) (fun _ => sg_next rfl)
abbrev CChkK (P : Program) (w : World) (K : PySem.W.Frag) (mg : Str → Option Value) (base : Heap) (C : Addr) : Prop := C8.Cal P w K mg base 1 "check_kind" (spF K (pre_kd C) fun _ => .non) []
theorem sc_Plan___init : FnScope ["self", "kind", "start", "first", "second"] ["self", "kind", "start", "first", "second"] (defScope s_Plan___init) := ⟨rfl, rfl, rfl, by decide +kernel, rfl, by decide +kernel, by decide +kernel⟩
def pre_plan (C : Addr) (ds : List D) : Prop := ∃ (T : Tb) (s f g : Nat), ds = [kindD C T, dN s, dN f, dN g] ∧ KOk T ∧ s < T.length ∧ f < nops T ∧ g < nops T
def S_plan (C : Addr) (ds xs : List D) : Prop := ∀ (T : Tb) (s f g : Nat), ds = [kindD C T, dN s, dN f, dN g] → xs = [kindD C T, dN s, .tup [dN f, dN g]]
theorem ok_Plan_init {f : Addr} {fd : FuncData} (Fu : FunD K "__init__" "Plan.__init__" (defArgs s_Plan___init) (defBody s_Plan___init) (defScope s_Plan___init) [] [] f fd) (T : Txt K mg C) (Wp : PlanC K Cq) (c_check_kind : CChkK P w K mg base C) (c_check_number : CChk P w K mg base) (p_states : CSts P w K mg base C) (p_operations : COps P w K mg base C) : FnOk P w K mg base CX0 3 f fd ["self", "kind", "start", "first", "second"] (spIS K Cq (pre_plan C) planNs (S_plan C)) := by
  refine fn_init Fu sc_Plan___init (fun ds h => by obtain ⟨M, s, f, g, rfl, _⟩ := h; rfl) fun cdv A outer s H E hr => ⟨_, (pss_cons (ps_expr (C8.pe_c c_check_kind hr (by decide) rfl (pa_cons (pv 1) pa_nil))) (pss_cons (ps_expr (C8.pe_c c_check_number hr (by decide) rfl (pa_cons (pv 2) (pa_cons pe_int (pa_cons (pe_op op_sub (C8.pe_prM p_states hr (by decide) (pv 1)) pe_int) pa_nil))))) (pss_cons (ps_expr (C8.pe_c c_check_number hr (by decide) rfl (pa_cons (pv 3) (pa_cons pe_int (pa_cons (pe_op op_sub (C8.pe_prM p_operations hr (by decide) (pv 1)) pe_int) pa_nil))))) (pss_cons (ps_expr (C8.pe_c c_check_number hr (by decide) rfl (pa_cons (pv 4) (pa_cons pe_int (pa_cons (pe_op op_sub (C8.pe_prM p_operations hr (by decide) (pv 1)) pe_int) pa_nil))))) (pss_cons (ps_fld (pv 0) (pv 1) rfl) (pss_cons (ps_fld (pv 0) (pv 2) rfl) (pss_one (ps_fld (pv 0) (pe_tup (pa_cons (pv 3) (pa_cons (pv 4) pa_nil))) rfl)))))))), fun F x ds hp hF => ?_⟩
  obtain ⟨M, s, f, g, rfl, ok, hs, hf, hg⟩ := hp
  have s1 := ok.s1
  have o1 := ok.o1
  refine si_drop (en_callF (ds := [kindD C M]) (ea_cons (en_var 1 rfl) ea_nil) ⟨M, rfl, ok⟩) ?_
  refine si_drop (ev_chk (en_var 2 rfl) (ev_less (ev_sts (en_var 1 rfl) ok) s1) (by omega)) ?_
  refine si_drop (ev_chk (en_var 3 rfl) (ev_less (ev_ops (en_var 1 rfl) ok) o1) (by omega)) ?_
  refine si_drop (ev_chk (en_var 4 rfl) (ev_less (ev_ops (en_var 1 rfl) ok) o1) (by omega)) ?_
  refine si_fld (d := kindD C M) hF (fun dx fvs => en_var 1 rfl) rfl Wp.cl Wp.kind (by decide) (by decide) ?_
  refine si_fld (d := dN s) hF (fun dx fvs => en_var 2 rfl) rfl Wp.cl Wp.start (by decide) (by decide) ?_
  refine si_seqNext (si_fld (d := .tup [dN f, dN g]) hF (fun dx fvs => en_tup (ea_cons (en_var 3 rfl) (ea_cons (en_var 4 rfl) ea_nil)) (by simp)) rfl Wp.cl Wp.ops (by decide) (by decide) (si_end ⟨rfl, fun U s' f' g' e => ?_⟩))
  injection e with e e1
  injection e1 with e1 e2
  injection e2 with e2 e3
  injection e3 with e3
  rw [kindD_inj e, dN_inj e1, dN_inj e2, dN_inj e3]
  rfl
abbrev CPlan (P : Program) (w : World) (K : PySem.W.Frag) (mg : Str → Option Value) (base : Heap) (C Cq : Addr) : Prop := C8.Mak P w K mg base 3 "Plan" Cq (spIS K Cq (pre_plan C) planNs (S_plan C)) []
theorem ev_plan {m : Mo} {Γ : G} {te tf tg th : TE} {E : XK} {T : Tb} {s f g : Nat} (e : Ev1 m K te Γ (kindD C T)) (e1 : Ev1 m K tf Γ (dN s)) (e2 : Ev1 m K tg Γ (dN f)) (e3 : Ev1 m K th Γ (dN g)) (ok : KOk T) (hs : s < T.length) (hf : f < nops T) (hg : g < nops T) : Ev1 m K (tMake Cq (spIS K Cq (pre_plan C) planNs (S_plan C)) [] E (tCons te (tCons tf (tCons tg (tCons th tNil))))) Γ (planD C Cq T s f g) :=
  EvN.mono (en_makeN (ds := [kindD C T, dN s, dN f, dN g]) (dds := []) (ea_cons e (ea_cons e1 (ea_cons e2 (ea_cons e3 ea_nil)))) (fun _ _ => .nil) ⟨T, s, f, g, rfl, ok, hs, hf, hg⟩) fun d ⟨xs, e, z⟩ => by rw [e, z T s f g rfl]
theorem sc_Plan_seen : FnScope ["self", "thread", "order", "state", "answers", "each"] ["self", "thread", "order"] (defScope s_Plan_seen) := ⟨rfl, rfl, rfl, by decide +kernel, rfl, by decide +kernel, by decide +kernel⟩
def OrdOk (t : Nat) (os : List Nat) : Prop := os.Nodup ∧ (∀ x ∈ os, x ≤ 1) ∧ t ∈ os
def pre_seen (C Cq : Addr) (ds : List D) : Prop := ∃ (T : Tb) (s f g t : Nat) (os : List Nat), ds = [planD C Cq T s f g, dN t, ftL os] ∧ KOk T ∧ s < T.length ∧ f < nops T ∧ g < nops T ∧ OrdOk t os
def S_seen (C Cq : Addr) (ds : List D) (d : D) : Prop := ∀ (T : Tb) (s f g t : Nat) (os : List Nat), ds = [planD C Cq T s f g, dN t, ftL os] → d = entD (seenP T s f g t os)
theorem ok_Plan_seen {f : Addr} {fd : FuncData} (Fu : Fun K "seen" "Plan.seen" s_Plan_seen f fd) (T : Txt K mg C) (Wp : PlanC K Cq) (c_check_number : CChk P w K mg base) (c_are_numbers : CNums P w K mg base) (m_after : CAfter P w K mg base C) : FnOk P w K mg base CX0 5 f fd ["self", "thread", "order"] (spS K (pre_seen C Cq) (S_seen C Cq)) := by
  refine fn_pure Fu sc_Plan_seen (fun ds h => by obtain ⟨M, s, f, g, t, os, rfl, _⟩ := h; rfl) fun cdv A outer s H E hr => ⟨_, (pss_cons (ps_expr (C8.pe_c c_check_number hr (by decide) rfl (pa_cons (pv 1) (pa_cons pe_int (pa_cons pe_int pa_nil))))) (pss_cons (ps_if (PW.pt (pw_or (pt_not (pt_val (C8.pe_c c_are_numbers hr (by decide) rfl (pa_cons (pv 2) (pa_cons pe_int (pa_cons pe_int pa_nil)))))) (pw_or (pt_cmpR op_lt (pe_callB (r := rLenSet w) cr_lenSet (by rfl) T.len (by decide +kernel) (pa_cons (pe_callTy (r := rSetU K w) (cr_setU rfl) (by rfl) T.set (by decide +kernel) (pa_cons (pv 2) pa_nil)) pa_nil)) (pe_callB (r := rLenS K) cr_len (by rfl) T.len (by decide +kernel) (pa_cons (pv 2) pa_nil)) (nomark _)) (pw_or1 (pt_cmpR (r := rInS K true) (op_notInS (hu65 hr)) (pv 1) (pv 2) (by rfl)))))) (pss_one ps_never) pss_nil) (pss_cons (ps_asg (C8.pe_mt m_after hr (by decide) (show PE _ _ (tFld K _ "_kind") from pe_fld (pv 0) rfl) (pa_cons (show PE _ _ (tFld K _ "_start") from pe_fld (pv 0) rfl) (pa_cons (pe_callTy (r := rTup K) cr_tup (by rfl) T.tuple (by decide +kernel) (pa_cons (pe_lc (own := [("each", 5)]) rfl sc_Plan_seen.nd (show PI _ _ _ (iSeq K _) from pi_seq (pv 2)) (blkOk_by (by kernel_rfl)) (fun _ _ _ _ _ => (pg_name (i := 5) sc_Plan_seen.nd rfl (by first | exact Or.inl rfl | exact Or.inr rfl))) (fun _ _ _ _ _ => pts_nil) (fun _ _ _ _ _ => (pe_ix (r := rIx K) ix_seq (show PE _ _ (tFld K _ "_operations") from pe_fld (pv 0) rfl) (pv 5) (fun _ _ => rfl)))) pa_nil)) pa_nil))) (show PG _ _ (gTup K 2 (gCons (gName 3) (gCons (gName 4) gNil))) from pg_tup rfl (pgs_cons (pg_name (i := 3) sc_Plan_seen.nd rfl (by first | exact Or.inl rfl | exact Or.inr rfl)) (pgs_cons (pg_name (i := 4) sc_Plan_seen.nd rfl (by first | exact Or.inl rfl | exact Or.inr rfl)) pgs_nil)))) (pss_one (ps_ret (pe_tup (pa_cons (pe_ix (r := rIx K) ix_seq (pv 4) (show PE _ _ (tBMF K (rIndexT K) _ _) from pe_bmF PySem.F.slot_tuple_index PySem.F.type_tuple_index mt_indexT (pv 2) (pa_cons (pv 1) pa_nil)) (fun _ _ => rfl)) (pa_cons (pv 3) pa_nil)))))))), fun F ds hp => ?_⟩
  obtain ⟨M, s, f, g, t, os, rfl, ok, hs, hf, hg, nd, o1, ht⟩ := hp
  have t1 := o1 t ht
  have ol : os.length ≤ 2 := by
    have := List.Nodup.length_le_of_subset nd (fun x hx => List.mem_range.mpr (by have := o1 x hx; omega) : ∀ x, x ∈ os → x ∈ List.range 2)
    rwa [List.length_range] at this
  refine sg_seq (fun Γ' => Γ' = startG ["self", "thread", "order", "state", "answers", "each"] [planD C Cq M s f g, dN t, ftL os]) (sg_drop (en_callF (ds := [dN t, .int 0, .int 1]) (ea_cons (en_var 1 rfl) (ea_cons (en_int 0) (ea_cons (en_int 1) ea_nil))) ⟨t, 0, 1, rfl, by omega, by omega⟩) rfl) ?_
  rintro _ rfl
  have ft : ∀ {m : Mo} {Γ : G}, Γ[2]? = some (some (ftL os)) → Ev1 m K (tVar 2) Γ (tupN os) := fun e => en_ftp (en_var 2 e)
  refine sg_seqIf (b := false) (EvT1.is (et_or (p := false) (k := false) (EvT1.is (et_not (et_B (en_callF (ds := [tupN os, .int 0, .int 1]) (ea_cons (ft rfl) (ea_cons (en_int 0) (ea_cons (en_int 1) ea_nil))) ⟨os, 1, rfl, by omega, fun x hx => by have := o1 x hx; omega⟩))) rfl) fun _ => EvT1.is (et_or (p := false) (k := false) (EvT1.is (et_test (en_op1 (en_lenSet (b := tupN os) (ns := os.map fun k : Nat => (k : Int)) (ft rfl) (.inl (congrArg D.tup (dN_ints os))) (by rw [List.length_map]; omega) (List.pairwise_map.mpr (nd.imp fun h e => h (by omega)))) (en_cb1 (ea_cons (ft rfl) ea_nil) (c_len (.inl rfl))) o_bl)) (decide_eq_false (by rw [List.length_map, List.length_map]; omega))) fun _ => EvT1.is (et_test (en_op1 (en_var 1 rfl) (ft rfl) (o_niN (.inl rfl)))) (by rw [decide_eq_true ht]; rfl)) rfl) rfl) (fun e => nomatch e) fun _ => ?_
  have oplt : ∀ o ∈ os.map (opF f g), o < nops M := fun o ho => by obtain ⟨k, _, rfl⟩ := List.mem_map.mp ho; exact opF_lt hf hg
  refine sq_asgT (S := fun d => d = runD (run M s (os.map (opF f g)))) (ev_after (os := os.map (opF f g)) (en_fld (en_var 0 rfl) Wp.cl Wp.kind rfl) (en_fld (en_var 0 rfl) Wp.cl Wp.start rfl) (Ev1.is (en_cb1 (ea_cons (en_lcMA (xs := os) dN (fun k => dN (opF f g k)) (fun x _ y _ e => dN_inj e) (js := [5]) (by simp) (it_seq (ft rfl) (.inl rfl)) (by omega) fun m' le k hk => ⟨_, tg_name 5, ?_⟩) ea_nil) (c_tuple (.inr (.inl rfl)))) (by show D.tup _ = D.tup (List.map dN _); rw [List.map_map]; rfl)) ok hs (by rw [List.length_map]; omega) oplt) ?_
  · refine en_op1 (b := dN k) (en_fld (d := .tup [dN f, dN g]) (en_var 0 rfl) Wp.cl Wp.ops rfl) (en_var 5 rfl) (o_ix (i := (k : Int)) (.inl rfl) (atI_of ?_))
    have := o1 k hk
    unfold opF
    by_cases z : k = 0
    · subst z; rfl
    · have : k = 1 := by omega
      subst this; rfl
  rintro _ rfl
  refine ⟨_, _, tg_pair, ?_⟩
  have il : os.idxOf t < os.length := List.idxOf_lt_length_iff.mpr ht
  refine sg_ret (d := entD (seenP M s f g t os)) (en_tup (ea_cons (en_op1 (b := dN (os.idxOf t)) (en_var 4 rfl) (en_indexT (en_var 2 rfl) (en_var 1 rfl) ht) (o_ix (d := dN ((run M s (os.map (opF f g))).2.getD (os.idxOf t) 0)) (i := ((os.idxOf t : Nat) : Int)) (.inl rfl) (atI_of ?_))) (ea_cons (en_var 3 rfl) ea_nil)) (by simp)) fun M' s' f' g' t' os' e => ?_
  · have h : os.idxOf t < (run M s (os.map (opF f g))).2.length := by rw [run_len, List.length_map]; exact il
    rw [List.getElem?_map, List.getD_eq_getElem?_getD, List.getElem?_eq_getElem h]
    rfl
  · injection e with e e1
    injection e1 with e1 e2
    injection e2 with e2
    obtain ⟨q1, q2, q3, q4⟩ := planD_inj e
    have e3 : os = os' := by have := congrArg ordN e2; rwa [ordN_ft, ordN_ft] at this
    rw [q1, q2, q3, q4, dN_inj e1, e3]
abbrev CSeen (P : Program) (w : World) (K : PySem.W.Frag) (mg : Str → Option Value) (base : Heap) (C Cq : Addr) : Prop := C8.Met P w K mg base 5 Cq "seen" (spS K (pre_seen C Cq) (S_seen C Cq)) []
theorem ev_seen {m : Mo} {Γ : G} {te ta tb : TE} {E : XK} {T : Tb} {s f g t : Nat} {os : List Nat} (e : Ev1 m K te Γ (planD C Cq T s f g)) (a : Ev1 m K ta Γ (dN t)) (b : Ev1 m K tb Γ (ftL os)) (ok : KOk T) (hs : s < T.length) (hf : f < nops T) (hg : g < nops T) (ho : OrdOk t os) : Ev1 m K (tMeth Cq "seen" (spS K (pre_seen C Cq) (S_seen C Cq)) [] E te (tCons ta (tCons tb tNil))) Γ (entD (seenP T s f g t os)) :=
  en_methN (T := fun ds => ds = [dN t, ftL os]) e (by decide) (ea_cons a (ea_cons b ea_nil)) (fun ds z => by rw [z]; exact ⟨T, s, f, g, t, os, rfl, ok, hs, hf, hg, ho⟩) fun ds d z h => by rw [z] at h; exact h T s f g t os rfl
end
end K63

set_option Elab.async false
set_option linter.all false
set_option maxRecDepth 100000
set_option maxHeartbeats 4000000
set_option autoImplicit false
namespace Tx
open PySem L2
theorem en_notTN {K : PySem.W.Frag} {m : Mo} {Γ : G} {te : TE} {T : List D → Prop} (h : EvN m K te Γ (fun d => ∃ L, d = .lst L ∧ T L)) : EvN m K (tNotT K te) Γ (fun d => ∃ L : List D, d = .bl L.isEmpty ∧ T L) := fun σ H e Q q =>
  h σ H e _ fun v d H1 ⟨L, eL, tL⟩ r1 rv => by
    subst eL
    obtain ⟨a, vs, rfl, hA, ra⟩ := rv.lstE
    refine ⟨!vs.isEmpty, .inl ⟨vs, SqL.of hA, rfl⟩, ?_⟩
    rw [Bool.not_not]
    have e1 : vs.isEmpty = L.isEmpty := by cases ra <;> rfl
    rw [e1]
    exact q _ _ H1 ⟨L, rfl, tL⟩ r1 (.bl _)
theorem flat_congr {α β : Type} {f g : α → List β} : ∀ {l : List α}, (∀ x ∈ l, f x = g x) → l.flatMap f = l.flatMap g
  | [], _ => rfl
  | x :: l, h => by rw [List.flatMap_cons, List.flatMap_cons, h x List.mem_cons_self, flat_congr fun y hy => h y (List.mem_cons_of_mem _ hy)]
theorem flat_le {α β : Type} {f : α → List β} {c : Nat} : ∀ {l : List α}, (∀ x ∈ l, (f x).length ≤ c) → (l.flatMap f).length ≤ l.length * c
  | [], _ => by simp
  | x :: l, h => by
    have h1 := h x List.mem_cons_self
    have h2 := flat_le (f := f) (c := c) (l := l) fun y hy => h y (List.mem_cons_of_mem _ hy)
    rw [List.flatMap_cons, List.length_append, List.length_cons, Nat.succ_mul]
    omega
end Tx
namespace K63
open PySem L2 Tx
/-! ### all plans that tell -/
def tellL (T : Tb) : List Tri := (List.range T.length).flatMap fun s => (List.range (nops T)).flatMap fun f => ((List.range (nops T)).filter fun g => tellsB T s f g).map fun g => (s, f, g)
theorem tell_len (T : Tb) : (tellL T).length ≤ T.length * (nops T * nops T) := by
  unfold tellL
  have h := flat_le (l := List.range T.length) (c := nops T * nops T) (f := fun s => (List.range (nops T)).flatMap fun f => ((List.range (nops T)).filter fun g => tellsB T s f g).map fun g => (s, f, g)) fun s _ => by
    have h := flat_le (l := List.range (nops T)) (c := nops T) (f := fun f => ((List.range (nops T)).filter fun g => tellsB T s f g).map fun g => ((s, f, g) : Tri)) fun f _ => by
      rw [List.length_map]
      have := List.length_filter_le (fun g => tellsB T s f g) (List.range (nops T))
      rwa [List.length_range] at this
    rwa [List.length_range] at h
  rwa [List.length_range] at h
def tellD (T : Tb) : D := .tup ((tellL T).map triD)
section
variable {P : Program} {w : World} {K : PySem.W.Frag} {mg : Str → Option Value} {base : Heap} {C Cq : Addr}
def pre_pl (C Cq : Addr) (ds : List D) : Prop := ∃ (T : Tb) (s f g : Nat), ds = [planD C Cq T s f g] ∧ KOk T ∧ s < T.length ∧ f < nops T ∧ g < nops T
theorem sc_check_plan : FnScope ["plan"] ["plan"] (defScope s_check_plan) := ⟨rfl, rfl, rfl, by decide +kernel, rfl, by decide +kernel, by decide +kernel⟩
theorem ok_check_plan {f : Addr} {fd : FuncData} (Fu : Fun K "check_plan" "check_plan" s_check_plan f fd) (T : TxtP K mg C Cq) (icq : C8.InsC K Cq) : FnOk P w K mg base CX0 1 f fd ["plan"] (spF K (pre_pl C Cq) fun _ => .non) := by
  refine fn_pure Fu sc_check_plan (fun ds h => by obtain ⟨M, s, f, g, rfl, _⟩ := h; rfl) fun cdv A outer s H E hr => ⟨_, (pss_one (ps_if (pt_not (pt_val (pe_callB (r := rIsi K) call_isi (by rfl) T.isinstance (by decide +kernel) (pa_cons (pv 0) (pa_cons (C8.pe_gc (v := .ref Cq) rfl ⟨_, T.g_Plan, rfl⟩) pa_nil))))) (pss_one ps_never) pss_nil)), fun F ds hp => ?_⟩
  obtain ⟨M, s, f, g, rfl, _⟩ := hp
  exact sg_if (b := false) (EvT1.is (et_not (et_B (en_isiC (en_var 0 rfl) icq))) rfl) (fun e => nomatch e) (fun _ => sg_next rfl)
theorem sc_confusions : FnScope ["plan", "order", "thread", "other"] ["plan"] (defScope s_confusions) := ⟨rfl, rfl, rfl, by decide +kernel, rfl, by decide +kernel, by decide +kernel⟩
def S_conf (C Cq : Addr) (ds : List D) (d : D) : Prop := ∃ L : List D, d = .lst L ∧ ∀ (T : Tb) (s f g : Nat), ds = [planD C Cq T s f g] → L.isEmpty = tellsB T s f g
def subC (d : D) : List D := [ftL [thr d], ftL [thr d, 1 - thr d]]
def outC (d d1 : D) : D := .tup [dN (thr d), d1]
theorem ok_confusions {f : Addr} {fd : FuncData} (Fu : Fun K "confusions" "confusions" s_confusions f fd) (T : Txt K mg C) (m_seen : CSeen P w K mg base C Cq) : FnOk P w K mg base CX0 6 f fd ["plan"] (spS K (pre_pl C Cq) (S_conf C Cq)) := by
  refine fn_pure Fu sc_confusions (fun ds h => by obtain ⟨M, s, f, g, rfl, _⟩ := h; rfl) fun cdv A outer s H E hr => ⟨_, (pss_one (ps_ret (pe_lc2 (own := [("thread", 2), ("other", 3), ("order", 1)]) (vs1 := [1]) rfl sc_confusions.nd (show PI _ _ _ (iSeq K _) from pi_seq (pe_tup (pa_cons (pe_tup (pa_cons pe_int (pa_cons pe_int pa_nil))) (pa_cons (pe_tup (pa_cons pe_int (pa_cons pe_int pa_nil))) pa_nil)))) (blkOk_by (by kernel_rfl)) (by decide) (fun _ _ _ _ _ => (show PG _ _ (gTup K 2 (gCons (gName 2) (gCons (gName 3) gNil))) from pg_tup rfl (pgs_cons (pg_name (i := 2) sc_confusions.nd rfl (by first | exact Or.inl rfl | exact Or.inr rfl)) (pgs_cons (pg_name (i := 3) sc_confusions.nd rfl (by first | exact Or.inl rfl | exact Or.inr rfl)) pgs_nil)))) (fun _ _ _ _ _ => pts_nil) (fun _ _ _ _ _ => (show PI _ _ _ (iSeq K _) from pi_seq (pe_tup (pa_cons (pe_tupF (pa_cons (pv 2) pa_nil)) (pa_cons (pe_tupF (pa_cons (pv 2) (pa_cons (pv 3) pa_nil))) pa_nil))))) (fun _ _ _ _ _ => (pg_name (i := 1) sc_confusions.nd rfl (by first | exact Or.inl rfl | exact Or.inr rfl))) (fun _ _ _ _ _ => (pts_one (pt_cmpR (r := rEqD K) (op_eqD hr.units) (C8.pe_mt m_seen hr (by decide) (pv 0) (pa_cons (pv 2) (pa_cons (pv 1) pa_nil))) (C8.pe_mt m_seen hr (by decide) (pv 0) (pa_cons (pv 2) (pa_cons (pe_tupF (pa_cons (pv 3) (pa_cons (pv 2) pa_nil))) pa_nil))) (nomark _)))) (fun _ _ _ _ _ => (pe_tup (pa_cons (pv 2) (pa_cons (pv 1) pa_nil))))))), fun F ds hp => ?_⟩
  obtain ⟨M, s, f, g, rfl, ok, hs, hf, hg⟩ := hp
  refine sg_ret (en_lc2 (xs := [.tup [dN 0, dN 1], .tup [dN 1, dN 0]]) (js := [2, 3]) (js1 := [1]) (fun _ => true) subC (fun d d1 => confB M s f g (thr d, ordN d1)) outC (by simp) (by simp) (by simp) (it_seq (d := .tup [.tup [dN 0, dN 1], .tup [dN 1, dN 0]]) (en_tup (ea_cons (en_tup (ea_cons (en_int 0) (ea_cons (en_int 1) ea_nil)) (by simp)) (ea_cons (en_tup (ea_cons (en_int 1) (ea_cons (en_int 0) ea_nil)) (by simp)) ea_nil)) (by simp)) (.inl rfl)) 2 (fun d hd => by show 2 ≤ 2; decide) (by simp) fun m' le d hd => ?_) ⟨_, rfl, ?_⟩
  · have hd : ∃ t, t ≤ 1 ∧ d = .tup [dN t, dN (1 - t)] := by
      simp only [List.mem_cons, List.not_mem_nil, or_false] at hd
      rcases hd with rfl | rfl
      · exact ⟨0, by decide, rfl⟩
      · exact ⟨1, by decide, rfl⟩
    obtain ⟨t, t1, rfl⟩ := hd
    have th : thr (.tup [dN t, dN (1 - t)]) = t := by show ((t : Int)).toNat = t; omega
    have sb : subC (.tup [dN t, dN (1 - t)]) = [ftL [t], ftL [t, 1 - t]] := by unfold subC; rw [th]
    refine ⟨_, tg_pair, et_yes, fun _ => ⟨?_, fun d1 hd1 => ?_⟩⟩
    · rw [sb]
      exact itx_seq (d := .tup [ftL [t], ftL [t, 1 - t]]) (en_tup (ea_cons (en_tupF (ds := [dN t]) (ea_cons (en_var 2 rfl) ea_nil) (by simp)) (ea_cons (en_tupF (ds := [dN t, dN (1 - t)]) (ea_cons (en_var 2 rfl) (ea_cons (en_var 3 rfl) ea_nil)) (by simp)) ea_nil)) (by simp)) (.inl rfl)
    · rw [sb] at hd1
      have ho : ∃ os, d1 = ftL os ∧ OrdOk t os := by
        simp only [List.mem_cons, List.not_mem_nil, or_false] at hd1
        rcases hd1 with rfl | rfl
        · exact ⟨_, rfl, by simp, fun x hx => by rw [List.mem_singleton.mp hx]; exact t1, by simp⟩
        · exact ⟨_, rfl, by simp; omega, fun x hx => by simp at hx; omega, by simp⟩
      obtain ⟨os, rfl, ho⟩ := ho
      have ho2 : OrdOk t [1 - t, t] := ⟨by simp; omega, fun x hx => by simp at hx; omega, by simp⟩
      rw [th, ordN_ft]
      have tst : ∀ {Γ : G}, Γ[0]? = some (some (planD C Cq M s f g)) → Γ[2]? = some (some (dN t)) → Γ[3]? = some (some (dN (1 - t))) → Γ[1]? = some (some (ftL os)) → EvT1 m' K (tTest (tOp (rEqD K) (tMeth Cq "seen" (spS K (pre_seen C Cq) (S_seen C Cq)) [] C8.E0 (tVar 0) (tCons (tVar 2) (tCons (tVar 1) tNil))) (tMeth Cq "seen" (spS K (pre_seen C Cq) (S_seen C Cq)) [] C8.E0 (tVar 0) (tCons (tVar 2) (tCons (tTupF (tCons (tVar 3) (tCons (tVar 2) tNil))) tNil))))) Γ (confB M s f g (t, os)) := fun {Γ} e0 e2 e3 e1 => by
        refine EvT1.is (et_test (en_op1 (ev_seen (en_var 0 e0) (en_var 2 e2) (en_var 1 e1) ok hs hf hg ho) (ev_seen (os := [1 - t, t]) (en_var 0 e0) (en_var 2 e2) (en_tupF (ds := [dN (1 - t), dN t]) (ea_cons (en_var 3 e3) (ea_cons (en_var 2 e2) ea_nil)) (by simp)) ok hs hf hg ho2) (o_eqP (n := 1) (by decide) (pur_ent _) (pur_ent _)))) ?_
        exact confB_iff (c := (t, os))
      refine ⟨_, tg_name 1, tst rfl rfl rfl rfl, fun _ => ?_⟩
      refine Ev1.is (en_tup (ea_cons (en_var 2 rfl) (ea_cons (en_var 1 rfl) ea_nil)) (by simp)) ?_
      unfold outC
      rw [th]
  · intro M' s' f' g' e
    obtain ⟨q1, q2, q3, q4⟩ := planD_inj (List.cons.inj e).1
    subst q1; subst q2; subst q3; subst q4
    have t0 : thr (.tup [dN 0, dN 1]) = 0 := rfl
    have t1 : thr (.tup [dN 1, dN 0]) = 1 := rfl
    simp only [List.filter_cons, List.filter_nil, if_true, List.flatMap_cons, List.flatMap_nil, List.append_nil, subC, t0, t1, ordN_ft]
    unfold tellsB cand
    simp only [List.filter_cons, List.filter_nil, Nat.sub_zero, Nat.sub_self]
    cases confB M s f g (0, [0]) <;> cases confB M s f g (0, [0, 1]) <;> cases confB M s f g (1, [1]) <;> cases confB M s f g (1, [1, 0]) <;> rfl
theorem sc_tells : FnScope ["plan"] ["plan"] (defScope s_tells) := ⟨rfl, rfl, rfl, by decide +kernel, rfl, by decide +kernel, by decide +kernel⟩
def S_tells (C Cq : Addr) (ds : List D) (d : D) : Prop := ∀ (T : Tb) (s f g : Nat), ds = [planD C Cq T s f g] → d = .bl (tellsB T s f g)
theorem ok_tells {f : Addr} {fd : FuncData} (Fu : Fun K "tells" "tells" s_tells f fd) (T : Txt K mg C) (c_check_plan : C8.Cal P w K mg base 1 "check_plan" (spF K (pre_pl C Cq) fun _ => .non) []) (c_confusions : C8.Cal P w K mg base 6 "confusions" (spS K (pre_pl C Cq) (S_conf C Cq)) []) : FnOk P w K mg base CX0 7 f fd ["plan"] (spS K (pre_pl C Cq) (S_tells C Cq)) := by
  refine fn_pure Fu sc_tells (fun ds h => by obtain ⟨M, s, f, g, rfl, _⟩ := h; rfl) fun cdv A outer s H E hr => ⟨_, (pss_cons (ps_expr (C8.pe_c c_check_plan hr (by decide) rfl (pa_cons (pv 0) pa_nil))) (pss_one (ps_ret (pe_notT (C8.pe_c c_confusions hr (by decide) rfl (pa_cons (pv 0) pa_nil)))))), fun F ds hp => ?_⟩
  obtain ⟨M, s, f, g, rfl, hp⟩ := hp
  refine sg_seq (fun Γ' => Γ' = startG ["plan"] [planD C Cq M s f g]) (sg_drop (en_callF (ds := [planD C Cq M s f g]) (ea_cons (en_var 0 rfl) ea_nil) ⟨M, s, f, g, rfl, hp⟩) rfl) ?_
  rintro _ rfl
  refine sg_retN (en_notTN (T := fun L => ∀ (T : Tb) (s' f' g' : Nat), [planD C Cq M s f g] = [planD C Cq T s' f' g'] → L.isEmpty = tellsB T s' f' g') (en_call (ds := [planD C Cq M s f g]) (ea_cons (en_var 0 rfl) ea_nil) ⟨M, s, f, g, rfl, hp⟩ fun d h => h)) ?_
  rintro _ ⟨L, rfl, hL⟩ M' s' f' g' e
  rw [hL M' s' f' g' e]
abbrev CTells (P : Program) (w : World) (K : PySem.W.Frag) (mg : Str → Option Value) (base : Heap) (C Cq : Addr) : Prop := C8.Cal P w K mg base 7 "tells" (spS K (pre_pl C Cq) (S_tells C Cq)) []
theorem ev_tells {m : Mo} {Γ : G} {te : TE} {E : XK} {T : Tb} {s f g : Nat} (e : Ev1 m K te Γ (planD C Cq T s f g)) (ok : KOk T) (hs : s < T.length) (hf : f < nops T) (hg : g < nops T) : Ev1 m K (tCall (spS K (pre_pl C Cq) (S_tells C Cq)) [] E (tCons te tNil)) Γ (.bl (tellsB T s f g)) :=
  en_call (S := fun d => d = .bl (tellsB T s f g)) (ds := [planD C Cq T s f g]) (ea_cons e ea_nil) ⟨T, s, f, g, rfl, ok, hs, hf, hg⟩ fun d h => h T s f g rfl
theorem sc_telling_plans : FnScope ["kind", "start", "first", "second"] ["kind"] (defScope s_telling_plans) := ⟨rfl, rfl, rfl, by decide +kernel, rfl, by decide +kernel, by decide +kernel⟩
theorem ok_telling_plans {f : Addr} {fd : FuncData} (Fu : Fun K "telling_plans" "telling_plans" s_telling_plans f fd) (T : Txt K mg C) (c_check_kind : CChkK P w K mg base C) (p_states : CSts P w K mg base C) (p_operations : COps P w K mg base C) (k_Plan4 : CPlan P w K mg base C Cq) (c_tells : CTells P w K mg base C Cq) : FnOk P w K mg base CX0 8 f fd ["kind"] (spS K (pre_kd C) (S_kd C tellD)) := by
  refine fn_pure Fu sc_telling_plans (fun ds h => by obtain ⟨M, rfl, _⟩ := h; rfl) fun cdv A outer s H E hr => ⟨_, (pss_cons (ps_expr (C8.pe_c c_check_kind hr (by decide) rfl (pa_cons (pv 0) pa_nil))) (pss_one (ps_ret (pe_callTy (r := rTup K) cr_tup (by rfl) T.tuple (by decide +kernel) (pa_cons (show PE _ _ (TxL3.tLc3 _ _ _ _ _ _ _ _ _ _ _ _ _) from TxL3.pe_lc3 (own := [("start", 1), ("first", 2), ("second", 3)]) (vs1 := [2, 3]) (vs2 := [3]) rfl sc_telling_plans.nd (pi_range1 rfl T.range (pa_cons (C8.pe_prM p_states hr (by decide) (pv 0)) pa_nil)) (blkOk_by (by kernel_rfl)) (by decide) (by decide) (fun _ _ _ _ _ => (pg_name (i := 1) sc_telling_plans.nd rfl (by first | exact Or.inl rfl | exact Or.inr rfl))) (fun _ _ _ _ _ => pts_nil) (fun _ _ _ _ _ => (pi_range1 rfl T.range (pa_cons (C8.pe_prM p_operations hr (by decide) (pv 0)) pa_nil))) (fun _ _ _ _ _ => (pg_name (i := 2) sc_telling_plans.nd rfl (by first | exact Or.inl rfl | exact Or.inr rfl))) (fun _ _ _ _ _ => pts_nil) (fun _ _ _ _ _ => (pi_range1 rfl T.range (pa_cons (C8.pe_prM p_operations hr (by decide) (pv 0)) pa_nil))) (fun _ _ _ _ _ => (pg_name (i := 3) sc_telling_plans.nd rfl (by first | exact Or.inl rfl | exact Or.inr rfl))) (fun _ _ _ _ _ => (pts_one (pt_val (C8.pe_c c_tells hr (by decide) rfl (pa_cons (C8.pe_mk k_Plan4 hr (by decide) rfl (pa_cons (pv 0) (pa_cons (pv 1) (pa_cons (pv 2) (pa_cons (pv 3) pa_nil))))) pa_nil))))) (fun _ _ _ _ _ => (pe_tup (pa_cons (pv 1) (pa_cons (pv 2) (pa_cons (pv 3) pa_nil)))))) pa_nil))))), fun F ds hp => ?_⟩
  obtain ⟨M, rfl, ok⟩ := hp
  have s12 := ok.s12
  have o8 := ok.o8
  refine sg_seq (fun Γ' => Γ' = startG ["kind", "start", "first", "second"] [kindD C M]) (sg_drop (en_callF (ds := [kindD C M]) (ea_cons (en_var 0 rfl) ea_nil) ⟨M, rfl, ok⟩) rfl) ?_
  rintro _ rfl
  let L2 : Nat → Nat → List D := fun s f => (((List.range (nops M)).map dN).filter fun d => tellsB M s f (unN d)).flatMap fun d => [triD (s, f, unN d)]
  let L1 : Nat → List D := fun s => (((List.range (nops M)).map dN).filter fun _ => true).flatMap fun d => L2 s (unN d)
  have un : ∀ k : Nat, unN (dN k) = k := fun k => by show ((k : Int)).toNat = k; omega
  have e2 : ∀ s f, L2 s f = (((List.range (nops M)).filter fun g => tellsB M s f g).map fun g => (s, f, g)).map triD := fun s f => by
    show (((List.range (nops M)).map dN).filter fun d => tellsB M s f (unN d)).flatMap (fun d => [triD (s, f, unN d)]) = _
    rw [List.filter_map, List.flatMap_map, List.map_map]
    have : ((fun d => tellsB M s f (unN d)) ∘ dN) = fun g => tellsB M s f g := by funext g; show tellsB M s f (unN (dN g)) = _; rw [un]
    rw [this, ← List.map_eq_flatMap]
    refine List.map_congr_left fun g _ => ?_
    show triD (s, f, unN (dN g)) = _
    rw [un]
    rfl
  have e1 : ∀ s, L1 s = (((List.range (nops M)).flatMap fun f => ((List.range (nops M)).filter fun g => tellsB M s f g).map fun g => (s, f, g))).map triD := fun s => by
    show (((List.range (nops M)).map dN).filter fun _ => true).flatMap (fun d => L2 s (unN d)) = _
    rw [List.filter_eq_self.mpr (fun _ _ => rfl), List.flatMap_map, List.map_flatMap]
    refine flat_congr fun f _ => ?_
    show L2 s (unN (dN f)) = _
    rw [un, e2]
  have e0 : ((((List.range M.length).map dN).filter fun _ => true).flatMap fun d => L1 (unN d)) = (tellL M).map triD := by
    unfold tellL
    rw [List.filter_eq_self.mpr (fun _ _ => rfl), List.flatMap_map, List.map_flatMap]
    refine flat_congr fun s _ => ?_
    show L1 (unN (dN s)) = _
    rw [un, e1]
  refine sg_ret (d := tellD M) (Ev1.is (en_cb1 (ea_cons (en_lc3 (xs := (List.range M.length).map dN) (js := [1]) (fun _ => true) (fun d => L1 (unN d)) (by simp) (it_rng (n := M.length) (ea_cons (ev_sts (en_var 0 rfl) ok) ea_nil) (by omega)) (by rw [e0, List.length_map]; exact Nat.le_trans (tell_len M) (by have := Nat.mul_le_mul s12 (Nat.mul_le_mul o8 o8); omega)) fun Dl d hd => ?_) ea_nil) (c_tuple (.inr (.inl rfl)))) (by rw [e0]; rfl)) (s_kd (g := tellD))
  obtain ⟨s, hs, rfl⟩ := List.mem_map.mp hd
  rw [List.mem_range] at hs
  refine ⟨_, tg_name 1, et_yes, fun _ => ?_⟩
  rw [un]
  refine adds_lvl (xs := (List.range (nops M)).map dN) (js := [2]) (fun _ => true) (fun d => L2 s (unN d)) (by simp) (itx_rng (ea_cons (ev_ops (en_var 0 rfl) ok) ea_nil) (by omega)) fun d hd => ?_
  obtain ⟨f, hf, rfl⟩ := List.mem_map.mp hd
  rw [List.mem_range] at hf
  refine ⟨_, tg_name 2, et_yes, fun _ => ?_⟩
  rw [un]
  refine adds_lvl (xs := (List.range (nops M)).map dN) (js := [3]) (fun d => tellsB M s f (unN d)) (fun d => [triD (s, f, unN d)]) (by simp) (itx_rng (ea_cons (ev_ops (en_var 0 rfl) ok) ea_nil) (by omega)) fun d hd => ?_
  obtain ⟨g, hg, rfl⟩ := List.mem_map.mp hd
  rw [List.mem_range] at hg
  rw [un]
  refine ⟨_, tg_name 3, et_B (ev_tells (ev_plan (en_var 0 rfl) (en_var 1 rfl) (en_var 2 rfl) (en_var 3 rfl) ok hs hf hg) ok hs hf hg), fun _ => ?_⟩
  exact adds_leaf (en_tup (ea_cons (en_var 1 rfl) (ea_cons (en_var 2 rfl) (ea_cons (en_var 3 rfl) ea_nil))) (by simp))
abbrev CTelling (P : Program) (w : World) (K : PySem.W.Frag) (mg : Str → Option Value) (base : Heap) (C : Addr) : Prop := C8.Cal P w K mg base 8 "telling_plans" (spS K (pre_kd C) (S_kd C tellD)) []
theorem ev_telling {m : Mo} {Γ : G} {te : TE} {E : XK} {T : Tb} (e : Ev1 m K te Γ (kindD C T)) (ok : KOk T) : Ev1 m K (tCall (spS K (pre_kd C) (S_kd C tellD)) [] E (tCons te tNil)) Γ (tellD T) :=
  en_call (S := fun d => d = tellD T) (ds := [kindD C T]) (ea_cons e ea_nil) ⟨T, rfl, ok⟩ fun d h => h T rfl
end
end K63

set_option Elab.async false
set_option linter.all false
set_option maxRecDepth 100000
set_option maxHeartbeats 4000000
set_option autoImplicit false
namespace K63
open PySem L2 Tx
/-! ### the law's own look -/
def toldF (T : Tb) (s f g t : Nat) (os : List Nat) : Nat := if t ∈ os then (run T s (os.map (opF f g))).2.getD (os.idxOf t) 0 else 0
theorem told_snoc {T : Tb} {s f g t k : Nat} {os : List Nat} (h : k = t → t ∉ os) : toldF T s f g t (os ++ [k]) = if k = t then (at2 T (run T s (os.map (opF f g))).1 (opF f g k)).2 else toldF T s f g t os := by
  unfold toldF
  rw [List.map_append, show [k].map (opF f g) = [opF f g k] from rfl, run_snoc]
  have rl : (run T s (os.map (opF f g))).2.length = os.length := by rw [run_len, List.length_map]
  by_cases e : k = t
  · have n := h e
    subst e
    rw [if_pos (by simp), if_pos rfl, List.idxOf_append, if_neg n]
    show List.getD _ (List.idxOf k [k] + os.length) 0 = _
    rw [List.getD_eq_getElem?_getD, List.getElem?_append_right (by rw [rl]; omega), rl]
    simp
  · rw [if_neg e]
    by_cases m : t ∈ os
    · have il : os.idxOf t < os.length := List.idxOf_lt_length_iff.mpr m
      rw [if_pos (List.mem_append_left _ m), if_pos m, List.idxOf_append, if_pos m, List.getD_eq_getElem?_getD, List.getElem?_append_left (by rw [rl]; exact il), ← List.getD_eq_getElem?_getD]
    · rw [if_neg m, if_neg]
      intro z
      rcases List.mem_append.mp z with z | z
      · exact m z
      · exact e (List.mem_singleton.mp z).symm
def cnfD (c : Cnf) : D := .tup [dN c.1, tupN c.2]
def confL (T : Tb) (s f g : Nat) : List Cnf := cand.filter (confB T s f g)
def ordL (t : Nat) : List (List Nat) := [[t], [t, 1 - t]]
theorem conf_step {T : Tb} {s f g j k : Nat} {c : Cnf} (h : cand[k]? = some c) (hj : k = j) : ((cand.take (j + 1)).filter (confB T s f g)).map cnfD = ((cand.take j).filter (confB T s f g)).map cnfD ++ if confB T s f g c then [cnfD c] else [] := by
  subst hj
  rw [List.take_add_one, h, List.filter_append, List.map_append]
  congr 1
  show ([c].filter _).map cnfD = _
  cases e : confB T s f g c <;> simp [List.filter_cons, e]
theorem eqv_nil {α : Type} {f : α → D} (L : List α) : PyData.eqv (D.lst (L.map f)).py (D.lst []).py = L.isEmpty := by
  cases L with
  | nil => rfl
  | cons x L => rfl
section
variable {P : Program} {w : World} {K : PySem.W.Frag} {mg : Str → Option Value} {base : Heap} {C Cq : Addr}
theorem sc_law_seen : FnScope ["_law_table_here", "_law_plan", "_law_thread", "_law_order", "_law_one", "_law_state", "_law_told", "_law_answer"] ["_law_table_here", "_law_plan", "_law_thread", "_law_order"] (defScope s_law_seen) := ⟨rfl, rfl, rfl, by decide +kernel, rfl, by decide +kernel, by decide +kernel⟩
def pre_ls (ds : List D) : Prop := ∃ (T : Tb) (s f g t : Nat) (os : List Nat), ds = [tabD T, triD (s, f, g), dN t, tupN os] ∧ KOk T ∧ s < T.length ∧ f < nops T ∧ g < nops T ∧ OrdOk t os
def S_ls (ds : List D) (d : D) : Prop := ∀ (T : Tb) (s f g t : Nat) (os : List Nat), ds = [tabD T, triD (s, f, g), dN t, tupN os] → OrdOk t os → d = entD (seenP T s f g t os)
theorem ok_law_seen {f : Addr} {fd : FuncData} (Fu : Fun K "_law_seen" "_law_seen" s_law_seen f fd) (T : Txt K mg C) : FnOk P w K mg base CX0 1 f fd ["_law_table_here", "_law_plan", "_law_thread", "_law_order"] (spS K pre_ls S_ls) := by
  refine fn_pure Fu sc_law_seen (fun ds h => by obtain ⟨M, s, f, g, t, os, rfl, _⟩ := h; rfl) fun cdv A outer s H E hr => ⟨_, (pss_cons (ps_par (i := 5) (j := 6) rfl sc_law_seen.nd rfl rfl (by decide) rfl rfl (pa_cons (pe_ix (r := rIx K) ix_seq (pv 1) pe_int (fun _ _ => rfl)) (pa_cons pe_int pa_nil)) (by rfl)) (pss_cons (ps_for PassesOwn.never rfl (show PI _ _ _ (iSeq K _) from pi_seq (pv 3)) (pg_name (i := 4) sc_law_seen.nd rfl (by first | exact Or.inl rfl | exact Or.inr rfl)) (pss_cons (ps_asg (pe_ix (r := rIx K) ix_seq (pe_ix (r := rIx K) ix_seq (pv 0) (pv 5) (fun _ _ => rfl)) (pe_ix (r := rIx K) ix_seq (pv 1) (pe_op (r := rAddU K) op_addU pe_int (pv 4)) (fun _ _ => rfl)) (fun _ _ => rfl)) (show PG _ _ (gTup K 2 (gCons (gName 5) (gCons (gName 7) gNil))) from pg_tup rfl (pgs_cons (pg_name (i := 5) sc_law_seen.nd rfl (by first | exact Or.inl rfl | exact Or.inr rfl)) (pgs_cons (pg_name (i := 7) sc_law_seen.nd rfl (by first | exact Or.inl rfl | exact Or.inr rfl)) pgs_nil)))) (pss_one (ps_set (i := 6) sc_law_seen.nd rfl (by first | exact Or.inl rfl | exact Or.inr rfl) (pe_ifExp (pt_cmpR (r := rEqD K) (op_eqD hr.units) (pv 4) (pv 2) (nomark _)) (pv 7) (pv 6)))))) (pss_one (ps_ret (pe_tup (pa_cons (pv 6) (pa_cons (pv 5) pa_nil))))))), fun F ds hp => ?_⟩
  obtain ⟨M, s, f, g, t, os, rfl, ok, hs, hf, hg, nd, o1, ht⟩ := hp
  have ol : os.length ≤ 2 := by
    have := List.Nodup.length_le_of_subset nd (fun x hx => List.mem_range.mpr (by have := o1 x hx; omega) : ∀ x, x ∈ os → x ∈ List.range 2)
    rwa [List.length_range] at this
  refine sq_par (T := fun ds => ds = [dN s, dN 0]) (ea_cons (en_op1 (b := dN 0) (en_var 1 rfl) (en_int 0) (o_ix (d := dN s) (i := 0) (.inl rfl) (atI_of (i := 0) rfl))) (ea_cons (en_int 0) ea_nil)) fun ds e => ⟨_, _, e, ?_⟩
  let st : List Nat → Nat := fun q => (run M s (q.map (opF f g))).1
  let Γs : Option D → List Nat → Option D → G := fun x4 q x7 => [some (tabD M), some (triD (s, f, g)), some (dN t), some (tupN os), x4, some (dN (st q)), some (dN (toldF M s f g t q)), x7]
  refine sg_seq (fun Γ' => ∃ x4 x7, Γ' = Γs x4 os x7) (sg_for (js := [4]) (T := fun x => x = os.map dN) (it_seq (en_var 3 rfl) (.inl rfl)) (fun _ i Γ' => ∃ x4 x7, Γ' = Γs x4 (os.take i) x7) (fun _ _ => ⟨none, none, rfl⟩) ?_ ?_) ?_
  · rintro xs i d Γ' rfl hd ⟨x4, x7, rfl⟩
    rw [List.getElem?_map] at hd
    obtain ⟨k, hk, rfl⟩ := Option.map_eq_some_iff.mp hd
    have il : i < os.length := (List.getElem?_eq_some_iff.mp hk).1
    have km := List.mem_of_getElem? hk
    have k1 := o1 k km
    have tk : os.take (i + 1) = os.take i ++ [k] := by rw [List.take_add_one, hk]; rfl
    have lt : st (os.take i) < M.length := run_lt ok _ hs fun o ho => by obtain ⟨x, _, rfl⟩ := List.mem_map.mp ho; exact opF_lt hf hg
    have no : k = t → t ∉ os.take i := fun e z => by
      subst e
      have nd2 : (os.take (i + 1)).Nodup := nd.sublist (List.take_sublist _ _)
      rw [tk, List.nodup_append] at nd2
      exact nd2.2.2 k z k (by simp) rfl
    refine ⟨_, tg_name 4, ?_⟩
    refine sq_asgT (S := fun d => d = entD (at2 M (st (os.take i)) (opF f g k))) (ev_at (en_var 0 rfl) (en_var 5 rfl) (en_op1 (b := dN (1 + k)) (en_var 1 rfl) (Ev1.is (en_op1 (en_int 1) (en_var 4 rfl) o_addI) rfl) (o_ix (d := dN (opF f g k)) (i := ((1 + k : Nat) : Int)) (.inl rfl) (atI_of ?_))) ok lt (opF_lt hf hg)) ?_
    · unfold opF
      by_cases z : k = 0
      · subst z; rfl
      · have : k = 1 := by omega
        subst this; rfl
    rintro _ rfl
    refine ⟨_, _, tg_pair, ?_⟩
    have e1 : st (os.take (i + 1)) = (at2 M (st (os.take i)) (opF f g k)).1 := by
      show (run M s ((os.take (i + 1)).map (opF f g))).1 = _
      rw [tk, List.map_append, show [k].map (opF f g) = [opF f g k] from rfl, run_snoc]
    refine sg_asg (d := dN (toldF M s f g t (os.take (i + 1)))) (en_if1 (k := decide (k = t)) (EvT1.is (et_test (en_op1 (en_var 4 rfl) (en_var 2 rfl) o_eqI)) (decide_eq_decide.mpr (by omega))) (fun e => Ev1.is (en_var 7 rfl) ?_) fun e => Ev1.is (en_var 6 rfl) ?_) ⟨some (dN k), some (dN (at2 M (st (os.take i)) (opF f g k)).2), ?_⟩
    · rw [tk, told_snoc no, if_pos (of_decide_eq_true e)]
    · rw [tk, told_snoc no, if_neg (of_decide_eq_false e)]
    · show _ = Γs _ _ _
      simp only [Γs]
      rw [e1]
      rfl
  · rintro xs Γ' rfl ⟨x4, x7, rfl⟩
    rw [List.length_map, List.take_length]
    exact ⟨x4, x7, rfl⟩
  · rintro _ ⟨x4, x7, rfl⟩
    refine sg_ret (d := entD (seenP M s f g t os)) (Ev1.is (en_tup (ea_cons (en_var 6 rfl) (ea_cons (en_var 5 rfl) ea_nil)) (by simp)) ?_) fun M' s' f' g' t' os' e _ => ?_
    · unfold toldF seenP
      rw [if_pos ht]
      rfl
    · injection e with e e1
      injection e1 with e1 e2
      injection e2 with e2 e3
      injection e3 with e3
      have q := triD_inj e1
      injection q with q1 q2
      injection q2 with q2 q3
      rw [tabD_inj e, q1, q2, q3, dN_inj e2, tupN_inj e3]
theorem ev_ls {m : Mo} {Γ : G} {te tp ta tb : TE} {E : XK} {T : Tb} {s f g t : Nat} {os : List Nat} (e : Ev1 m K te Γ (tabD T)) (p : Ev1 m K tp Γ (triD (s, f, g))) (a : Ev1 m K ta Γ (dN t)) (b : Ev1 m K tb Γ (tupN os)) (ok : KOk T) (hs : s < T.length) (hf : f < nops T) (hg : g < nops T) (ho : OrdOk t os) : Ev1 m K (tCall (spS K pre_ls S_ls) [] E (tCons te (tCons tp (tCons ta (tCons tb tNil))))) Γ (entD (seenP T s f g t os)) :=
  en_call (S := fun d => d = entD (seenP T s f g t os)) (ds := [tabD T, triD (s, f, g), dN t, tupN os]) (ea_cons e (ea_cons p (ea_cons a (ea_cons b ea_nil)))) ⟨T, s, f, g, t, os, rfl, ok, hs, hf, hg, ho⟩ fun d h => h T s f g t os rfl ho
theorem sc_law_confusions : FnScope ["_law_table_here", "_law_plan", "_law_found", "_law_thread", "_law_other", "_law_order"] ["_law_table_here", "_law_plan"] (defScope s_law_confusions) := ⟨rfl, rfl, rfl, by decide +kernel, rfl, by decide +kernel, by decide +kernel⟩
def pre_lc (ds : List D) : Prop := ∃ (T : Tb) (s f g : Nat), ds = [tabD T, triD (s, f, g)] ∧ KOk T ∧ s < T.length ∧ f < nops T ∧ g < nops T
def S_lc (ds : List D) (d : D) : Prop := ∀ (T : Tb) (s f g : Nat), ds = [tabD T, triD (s, f, g)] → d = .lst ((confL T s f g).map cnfD)
theorem ok_law_confusions {f : Addr} {fd : FuncData} (Fu : Fun K "_law_confusions" "_law_confusions" s_law_confusions f fd) (T : Txt K mg C) (c__law_seen : C8.Cal P w K mg base 1 "_law_seen" (spS K pre_ls S_ls) []) : FnOk P w K mg base CX0 2 f fd ["_law_table_here", "_law_plan"] (spS K pre_lc S_lc) := by
  refine fn_pure Fu sc_law_confusions (fun ds h => by obtain ⟨M, s, f, g, rfl, _⟩ := h; rfl) fun cdv A outer s H E hr => ⟨_, (pss_cons (ps_set (i := 2) sc_law_confusions.nd rfl (by first | exact Or.inl rfl | exact Or.inr rfl) (pe_lst pa_nil)) (pss_cons (ps_for PassesOwn.never rfl (show PI _ _ _ (iSeq K _) from pi_seq (pe_tup (pa_cons pe_int (pa_cons pe_int pa_nil)))) (pg_name (i := 3) sc_law_confusions.nd rfl (by first | exact Or.inl rfl | exact Or.inr rfl)) (pss_cons (ps_set (i := 4) sc_law_confusions.nd rfl (by first | exact Or.inl rfl | exact Or.inr rfl) (pe_op op_sub pe_int (pv 3))) (pss_one (ps_for PassesOwn.never rfl (show PI _ _ _ (iSeq K _) from pi_seq (pe_tup (pa_cons (pe_tup (pa_cons (pv 3) pa_nil)) (pa_cons (pe_tup (pa_cons (pv 3) (pa_cons (pv 4) pa_nil))) pa_nil)))) (pg_name (i := 5) sc_law_confusions.nd rfl (by first | exact Or.inl rfl | exact Or.inr rfl)) (pss_one (ps_if (pt_cmpR (r := rEqD K) (op_eqD hr.units) (C8.pe_c c__law_seen hr (by decide) rfl (pa_cons (pv 0) (pa_cons (pv 1) (pa_cons (pv 3) (pa_cons (pv 5) pa_nil))))) (C8.pe_c c__law_seen hr (by decide) rfl (pa_cons (pv 0) (pa_cons (pv 1) (pa_cons (pv 3) (pa_cons (pe_tup (pa_cons (pv 4) (pa_cons (pv 3) pa_nil))) pa_nil))))) (nomark _)) (pss_one (ps_expr (pe_bm PySem.F.plainAttrs_list PySem.F.slot_list_append PySem.F.type_list_append mt_append (pv 2) (pa_cons (pe_tup (pa_cons (pv 3) (pa_cons (pv 5) pa_nil))) pa_nil)))) pss_nil)))))) (pss_one (ps_ret (pv 2))))), fun F ds hp => ?_⟩
  obtain ⟨M, s, f, g, rfl, ok, hs, hf, hg⟩ := hp
  refine sq_newL ea_nil (by simp) (by show 2 < 6; decide) fun l H0 => ?_
  let Γs : Option D → Option D → Option D → G := fun x3 x4 x5 => [some (tabD M), some (triD (s, f, g)), some (.adr l), x3, x4, x5]
  let Ls : Nat → List D := fun j => ((cand.take j).filter (confB M s f g)).map cnfD
  refine so_seq (fun Γ' ds' => ∃ x3 x4 x5, Γ' = Γs x3 x4 x5 ∧ ds' = Ls 4) (so_for (xs := [dN 0, dN 1]) (itx_seq (d := .tup [dN 0, dN 1]) (en_tup (ea_cons (en_int 0) (ea_cons (en_int 1) ea_nil)) (by simp)) (.inl rfl)) (fun t Γ' ds' => ∃ x3 x4 x5, Γ' = Γs x3 x4 x5 ∧ ds' = Ls (2 * t)) ⟨none, none, none, rfl, rfl⟩ ?_ fun Γ' ds' h => h) ?_
  · rintro t d Γ' ds' hd ⟨x3, x4, x5, rfl, rfl⟩
    have hd : d = dN t ∧ t ≤ 1 := by
      have tl := (List.getElem?_eq_some_iff.mp hd).1
      simp at tl
      have : t = 0 ∨ t = 1 := by omega
      rcases this with rfl | rfl
      · injection hd with hd; exact ⟨hd.symm, by decide⟩
      · injection hd with hd; exact ⟨hd.symm, by decide⟩
    obtain ⟨rfl, t1⟩ := hd
    refine ⟨_, _, tg_name 3, so_seq (fun Γ' ds' => Γ' = Γs (some (dN t)) (some (dN (1 - t))) x5 ∧ ds' = Ls (2 * t)) (so_asg (d := dN (1 - t)) (Ev1.is (en_op1 (en_int 1) (en_var 3 rfl) o_int) (by show D.int _ = D.int _; congr 1; omega)) ⟨rfl, rfl⟩) ?_⟩
    rintro _ _ ⟨rfl, rfl⟩
    refine so_for (xs := (ordL t).map tupN) (itx_seq (d := .tup ((ordL t).map tupN)) (en_tup (ea_cons (en_tup (ds := [dN t]) (ea_cons (en_var 3 rfl) ea_nil) (by simp)) (ea_cons (en_tup (ds := [dN t, dN (1 - t)]) (ea_cons (en_var 3 rfl) (ea_cons (en_var 4 rfl) ea_nil)) (by simp)) ea_nil)) (show 2 ≤ 100000 by decide)) (.inl rfl)) (fun j Γ' ds' => ∃ x5, Γ' = Γs (some (dN t)) (some (dN (1 - t))) x5 ∧ ds' = Ls (2 * t + j)) ⟨x5, rfl, rfl⟩ ?_ fun Γ' ds' ⟨x5, e1, e2⟩ => ⟨_, _, x5, e1, by rw [e2]; rfl⟩
    rintro j d Γ' ds' hd ⟨x5, rfl, rfl⟩
    rw [List.getElem?_map] at hd
    obtain ⟨os, hos, rfl⟩ := Option.map_eq_some_iff.mp hd
    have cj : cand[2 * t + j]? = some (t, os) ∧ OrdOk t os := by
      have jl := (List.getElem?_eq_some_iff.mp hos).1
      simp [ordL] at jl
      have ht : t = 0 ∨ t = 1 := by omega
      have hj : j = 0 ∨ j = 1 := by omega
      rcases ht with rfl | rfl <;> rcases hj with rfl | rfl <;> (injection hos with hos; subst hos; exact ⟨rfl, by decide, by decide, by decide⟩)
    obtain ⟨cj, ho⟩ := cj
    have ho2 : OrdOk t [1 - t, t] := ⟨by simp; omega, fun x hx => by simp at hx; omega, by simp⟩
    have stp := conf_step (T := M) (s := s) (f := f) (g := g) cj rfl
    refine ⟨_, _, tg_name 5, ?_⟩
    refine so_if (i := 2) (b := confB M s f g (t, os)) rfl (EvT1.is (et_test (en_op1 (ev_ls (s := s) (f := f) (g := g) (t := t) (os := os) (en_var 0 rfl) (en_var 1 rfl) (en_var 3 rfl) (en_var 5 rfl) ok hs hf hg ho) (ev_ls (os := [1 - t, t]) (en_var 0 rfl) (en_var 1 rfl) (en_var 3 rfl) (en_tup (ds := [dN (1 - t), dN t]) (ea_cons (en_var 4 rfl) (ea_cons (en_var 3 rfl) ea_nil)) (by simp)) ok hs hf hg ho2) (o_eqP (n := 1) (by decide) (pur_ent _) (pur_ent _)))) (confB_iff (c := (t, os)))) (fun e => ?_) fun e => ?_
    · refine so_app (i := 2) (d := cnfD (t, os)) rfl (en_tup (ea_cons (en_var 3 rfl) (ea_cons (en_var 5 rfl) ea_nil)) (by simp)) (by show (List.map _ _).length ≤ _; rw [List.length_map]; exact Nat.le_trans (List.length_filter_le _ _) (by rw [List.length_take]; exact Nat.le_trans (Nat.min_le_right _ _) (by decide))) ⟨_, rfl, ?_⟩
      rw [← Nat.add_assoc]
      show _ = ((cand.take (2 * t + j + 1)).filter _).map cnfD
      rw [stp, e]
      rfl
    · refine so_next ⟨_, rfl, ?_⟩
      rw [← Nat.add_assoc]
      show _ = ((cand.take (2 * t + j + 1)).filter _).map cnfD
      rw [stp, e]
      simp only [Bool.false_eq_true, if_false, List.append_nil]
      rfl
  · rintro _ _ ⟨x3, x4, x5, rfl, rfl⟩
    refine so_dis (i := 2) rfl (sg_ret (d := .lst ((confL M s f g).map cnfD)) (en_var 2 rfl) fun M' s' f' g' e => ?_)
    injection e with e e1
    injection e1 with e1
    have q := triD_inj e1
    injection q with q1 q2
    injection q2 with q2 q3
    rw [tabD_inj e, q1, q2, q3]
end
end K63

set_option Elab.async false
set_option linter.all false
set_option maxRecDepth 100000
set_option maxHeartbeats 4000000
set_option autoImplicit false
namespace K63
open PySem L2 Tx
theorem pur_cnf (c : Cnf) : pur 2 (cnfD c) = true := pur_tup fun x hx => by
  simp only [List.mem_cons, List.not_mem_nil, or_false] at hx
  rcases hx with rfl | rfl
  · rfl
  · exact pur_N c.2
def rowL (T : Tb) (s f k : Nat) : List Tri := ((List.range k).filter fun g => tellsB T s f g).map fun g => (s, f, g)
def lineL (T : Tb) (s k : Nat) : List Tri := (List.range k).flatMap fun f => rowL T s f (nops T)
def sheetL (T : Tb) (k : Nat) : List Tri := (List.range k).flatMap fun s => lineL T s (nops T)
theorem sheet_all (T : Tb) : sheetL T T.length = tellL T := rfl
theorem row_succ {T : Tb} {s f k : Nat} : rowL T s f (k + 1) = rowL T s f k ++ if tellsB T s f k then [(s, f, k)] else [] := by
  unfold rowL
  rw [List.range_succ, List.filter_append, List.map_append]
  congr 1
  cases e : tellsB T s f k <;> simp [List.filter_cons, e]
theorem line_succ {T : Tb} {s k : Nat} : lineL T s (k + 1) = lineL T s k ++ rowL T s k (nops T) := by unfold lineL; rw [List.range_succ, List.flatMap_append]; simp
theorem sheet_succ {T : Tb} {k : Nat} : sheetL T (k + 1) = sheetL T k ++ lineL T k (nops T) := by unfold sheetL; rw [List.range_succ, List.flatMap_append]; simp
theorem row_len {T : Tb} {s f k : Nat} : (rowL T s f k).length ≤ k := by
  unfold rowL
  rw [List.length_map]
  have := List.length_filter_le (fun g => tellsB T s f g) (List.range k)
  rwa [List.length_range] at this
theorem line_len {T : Tb} {s k : Nat} : (lineL T s k).length ≤ k * nops T := by
  have := flat_le (l := List.range k) (c := nops T) (f := fun f => rowL T s f (nops T)) fun f _ => row_len
  rwa [List.length_range] at this
theorem sheet_len {T : Tb} {k : Nat} : (sheetL T k).length ≤ k * (nops T * nops T) := by
  have := flat_le (l := List.range k) (c := nops T * nops T) (f := fun s => lineL T s (nops T)) fun s _ => line_len
  rwa [List.length_range] at this
def prsL (z k : Nat) : List Ent := (List.range k).flatMap fun a => (List.range z).map fun b => (a, b)
theorem prs_succ {z k : Nat} : prsL z (k + 1) = prsL z k ++ (List.range z).map fun b => (k, b) := by unfold prsL; rw [List.range_succ, List.flatMap_append]; simp
theorem prs_len {z k : Nat} : (prsL z k).length ≤ k * z := by
  have := flat_le (l := List.range k) (c := z) (f := fun a => (List.range z).map fun b => ((a, b) : Ent)) fun a _ => by rw [List.length_map, List.length_range]; exact Nat.le_refl _
  rwa [List.length_range] at this
section
variable {P : Program} {w : World} {K : PySem.W.Frag} {mg : Str → Option Value} {base : Heap} {C Cq : Addr}
theorem ev_n0 {m : Mo} {Γ : G} {te : TE} {T : Tb} (e : Ev1 m K te Γ (tabD T)) (ok : KOk T) : Ev1 m K (tCB (rLenS K) (tCons (tOp (rIx K) te (tC (.int 0))) tNil)) Γ (dN (nops T)) := ev_rl (ev_row (s := 0) e (en_int 0) (by have := ok.s1; omega))
section
variable {m : Mo} {Γ : G} {te : TE} {p : Tri}
theorem ev_t0 (e : Ev1 m K te Γ (triD p)) : Ev1 m K (tOp (rIx K) te (tC (.int 0))) Γ (dN p.1) := en_op1 e (en_int 0) (o_ix (d := dN p.1) (i := 0) (.inl rfl) (atI_of (i := 0) rfl))
theorem ev_t1 (e : Ev1 m K te Γ (triD p)) : Ev1 m K (tOp (rIx K) te (tC (.int 1))) Γ (dN p.2.1) := en_op1 e (en_int 1) (o_ix (d := dN p.2.1) (i := 1) (.inl rfl) (atI_of (i := 1) rfl))
theorem ev_t2 (e : Ev1 m K te Γ (triD p)) : Ev1 m K (tOp (rIx K) te (tC (.int 2))) Γ (dN p.2.2) := en_op1 e (en_int 2) (o_ix (d := dN p.2.2) (i := 2) (.inl rfl) (atI_of (i := 2) rfl))
end
theorem sc_law_all_telling : FnScope ["_law_table_here", "_law_start", "_law_found", "_law_many", "_law_first", "_law_second"] ["_law_table_here"] (defScope s_law_all_telling) := ⟨rfl, rfl, rfl, by decide +kernel, rfl, by decide +kernel, by decide +kernel⟩
def pre_at (ds : List D) : Prop := ∃ T : Tb, ds = [tabD T] ∧ KOk T
def S_at (ds : List D) (d : D) : Prop := ∀ T : Tb, ds = [tabD T] → d = .lst ((tellL T).map triD)
theorem ok_law_all_telling {f : Addr} {fd : FuncData} (Fu : Fun K "_law_all_telling" "_law_all_telling" s_law_all_telling f fd) (T : Txt K mg C) (c__law_confusions : C8.Cal P w K mg base 2 "_law_confusions" (spS K pre_lc S_lc) []) : FnOk P w K mg base CX0 3 f fd ["_law_table_here"] (spS K pre_at S_at) := by
  refine fn_pure Fu sc_law_all_telling (fun ds h => by obtain ⟨M, rfl, _⟩ := h; rfl) fun cdv A outer s H E hr => ⟨_, (pss_cons (ps_par (i := 2) (j := 3) rfl sc_law_all_telling.nd rfl rfl (by decide) rfl rfl (pa_cons (pe_lst pa_nil) (pa_cons (pe_callB (r := rLenS K) cr_len (by rfl) T.len (by decide +kernel) (pa_cons (pe_ix (r := rIx K) ix_seq (pv 0) pe_int (fun _ _ => rfl)) pa_nil)) pa_nil)) (by rfl)) (pss_cons (ps_for PassesOwn.never rfl (pi_range1 rfl T.range (pa_cons (pe_callB (r := rLenS K) cr_len (by rfl) T.len (by decide +kernel) (pa_cons (pv 0) pa_nil)) pa_nil)) (pg_name (i := 1) sc_law_all_telling.nd rfl (by first | exact Or.inl rfl | exact Or.inr rfl)) (pss_one (ps_for PassesOwn.never rfl (pi_range1 rfl T.range (pa_cons (pv 3) pa_nil)) (pg_name (i := 4) sc_law_all_telling.nd rfl (by first | exact Or.inl rfl | exact Or.inr rfl)) (pss_one (ps_for PassesOwn.never rfl (pi_range1 rfl T.range (pa_cons (pv 3) pa_nil)) (pg_name (i := 5) sc_law_all_telling.nd rfl (by first | exact Or.inl rfl | exact Or.inr rfl)) (pss_one (ps_if (pt_cmpR (r := rEqD K) (op_eqD hr.units) (C8.pe_c c__law_confusions hr (by decide) rfl (pa_cons (pv 0) (pa_cons (pe_tup (pa_cons (pv 1) (pa_cons (pv 4) (pa_cons (pv 5) pa_nil)))) pa_nil))) (pe_lst pa_nil) (nomark _)) (pss_one (ps_expr (pe_bm PySem.F.plainAttrs_list PySem.F.slot_list_append PySem.F.type_list_append mt_append (pv 2) (pa_cons (pe_tup (pa_cons (pv 1) (pa_cons (pv 4) (pa_cons (pv 5) pa_nil)))) pa_nil)))) pss_nil))))))) (pss_one (ps_ret (pv 2))))), fun F ds hp => ?_⟩
  obtain ⟨M, rfl, ok⟩ := hp
  have s12 := ok.s12
  have o8 := ok.o8
  refine sq_parKL (S := fun d => d = dN (nops M)) (fun l => ev_n0 (en_var 0 rfl) ok) fun l H0 _ e => ?_
  subst e
  let Γs : Option D → Option D → Option D → G := fun x1 x4 x5 => [some (tabD M), x1, some (.adr l), some (dN (nops M)), x4, x5]
  have l3 : ∀ {i j k : Nat}, i < M.length → j < nops M → k ≤ nops M → ((sheetL M i ++ lineL M i j ++ rowL M i j k).map triD).length ≤ 100000 := fun {i j k} hi hj hk => by
    have h1 := sheet_len (T := M) (k := i)
    have h2 := line_len (T := M) (s := i) (k := j)
    have h3 := row_len (T := M) (s := i) (f := j) (k := k)
    have h4 : i * (nops M * nops M) ≤ 12 * (8 * 8) := Nat.mul_le_mul (by omega) (Nat.mul_le_mul o8 o8)
    have h5 : j * nops M ≤ 8 * 8 := Nat.mul_le_mul (by omega) o8
    rw [List.length_map, List.length_append, List.length_append]
    omega
  have rg : ∀ {n i : Nat} {d : D}, ((List.range n).map dN)[i]? = some d → i < n ∧ d = dN i := fun {n i d} hd => by
    have il := (List.getElem?_eq_some_iff.mp hd).1
    rw [List.length_map, List.length_range] at il
    rw [List.getElem?_map, List.getElem?_range il] at hd
    injection hd with hd
    exact ⟨il, hd.symm⟩
  refine so_seq (fun Γ' ds' => ∃ x1 x4 x5, Γ' = Γs x1 x4 x5 ∧ ds' = (tellL M).map triD) (so_for (xs := (List.range M.length).map dN) (itx_rng (ea_cons (ev_tl (en_var 0 rfl)) ea_nil) (by omega)) (fun i Γ' ds' => ∃ x1 x4 x5, Γ' = Γs x1 x4 x5 ∧ ds' = (sheetL M i).map triD) ⟨none, none, none, rfl, rfl⟩ ?_ ?_) ?_
  · rintro i d Γ' ds' hd ⟨x1, x4, x5, rfl, rfl⟩
    obtain ⟨il, rfl⟩ := rg hd
    refine ⟨_, _, tg_name 1, so_for (xs := (List.range (nops M)).map dN) (itx_rng (ea_cons (en_var 3 rfl) ea_nil) (by omega)) (fun j Γ' ds' => ∃ x4 x5, Γ' = Γs (some (dN i)) x4 x5 ∧ ds' = (sheetL M i ++ lineL M i j).map triD) ⟨x4, x5, rfl, by show _ = (sheetL M i ++ []).map triD; rw [List.append_nil]⟩ ?_ ?_⟩
    · rintro j d Γ' ds' hd ⟨x4, x5, rfl, rfl⟩
      obtain ⟨jl, rfl⟩ := rg hd
      refine ⟨_, _, tg_name 4, so_for (xs := (List.range (nops M)).map dN) (itx_rng (ea_cons (en_var 3 rfl) ea_nil) (by omega)) (fun k Γ' ds' => ∃ x5, Γ' = Γs (some (dN i)) (some (dN j)) x5 ∧ ds' = (sheetL M i ++ lineL M i j ++ rowL M i j k).map triD) ⟨x5, rfl, by show _ = (sheetL M i ++ lineL M i j ++ []).map triD; rw [List.append_nil]⟩ ?_ ?_⟩
      · rintro k d Γ' ds' hd ⟨x5, rfl, rfl⟩
        obtain ⟨kl, rfl⟩ := rg hd
        refine ⟨_, _, tg_name 5, ?_⟩
        refine so_if (i := 2) (b := tellsB M i j k) rfl (EvT1.is (et_test (en_op1 (a := .lst ((confL M i j k).map cnfD)) (b := .lst []) (en_call (S := fun d => d = .lst ((confL M i j k).map cnfD)) (ds := [tabD M, triD (i, j, k)]) (ea_cons (en_var 0 rfl) (ea_cons (en_tup (ea_cons (en_var 1 rfl) (ea_cons (en_var 4 rfl) (ea_cons (en_var 5 rfl) ea_nil))) (by simp)) ea_nil)) ⟨M, i, j, k, rfl, ok, il, jl, kl⟩ fun d h => h M i j k rfl) (en_lst ea_nil (by simp)) (o_eqP (n := 3) (by decide) (pur_lst fun x hx => by obtain ⟨c, _, rfl⟩ := List.mem_map.mp hx; exact pur_cnf c) rfl))) (by rw [eqv_nil]; rfl)) (fun e => ?_) fun e => ?_
        · refine so_app (i := 2) (d := triD (i, j, k)) rfl (en_tup (ea_cons (en_var 1 rfl) (ea_cons (en_var 4 rfl) (ea_cons (en_var 5 rfl) ea_nil))) (by simp)) (l3 il jl (by omega)) ⟨_, rfl, ?_⟩
          rw [row_succ, e, if_pos rfl, ← List.append_assoc (sheetL M i ++ lineL M i j)]
          exact (List.map_append (f := triD) (l₁ := sheetL M i ++ lineL M i j ++ rowL M i j k) (l₂ := [(i, j, k)])).symm
        · refine so_next ⟨_, rfl, ?_⟩
          rw [row_succ, e]
          simp only [Bool.false_eq_true, if_false, List.append_nil]
      · rintro Γ' ds' ⟨x5, rfl, rfl⟩
        rw [List.length_map, List.length_range]
        exact ⟨_, x5, rfl, by rw [line_succ, ← List.append_assoc]⟩
    · rintro Γ' ds' ⟨x4, x5, rfl, rfl⟩
      rw [List.length_map, List.length_range]
      exact ⟨_, x4, x5, rfl, by rw [sheet_succ]⟩
  · rintro Γ' ds' ⟨x1, x4, x5, rfl, rfl⟩
    rw [List.length_map, List.length_range, sheet_all]
    exact ⟨x1, x4, x5, rfl, rfl⟩
  · rintro _ _ ⟨x1, x4, x5, rfl, rfl⟩
    exact so_dis (i := 2) rfl (sg_ret (d := .lst ((tellL M).map triD)) (en_var 2 rfl) fun M' e => by rw [tabD_inj (List.cons.inj e).1])
abbrev CAll (P : Program) (w : World) (K : PySem.W.Frag) (mg : Str → Option Value) (base : Heap) : Prop := C8.Cal P w K mg base 3 "_law_all_telling" (spS K pre_at S_at) []
theorem ev_all {m : Mo} {Γ : G} {te : TE} {E : XK} {T : Tb} (e : Ev1 m K te Γ (tabD T)) (ok : KOk T) : Ev1 m K (tCall (spS K pre_at S_at) [] E (tCons te tNil)) Γ (.lst ((tellL T).map triD)) :=
  en_call (S := fun d => d = .lst ((tellL T).map triD)) (ds := [tabD T]) (ea_cons e ea_nil) ⟨T, rfl, ok⟩ fun d h => h T rfl
theorem sc_law_plan_drawn : FnScope ["_law_jug_here", "_law_table_here", "_law_many"] ["_law_jug_here", "_law_table_here"] (defScope s_law_plan_drawn) := ⟨rfl, rfl, rfl, by decide +kernel, rfl, by decide +kernel, by decide +kernel⟩
def pre_pd (ds : List D) : Prop := ∃ T : Tb, ds = [tabD T] ∧ KOk T
def S_pd (ds : List D) (d : D) : Prop := ∀ T : Tb, ds = [tabD T] → ∃ s f g, d = triD (s, f, g) ∧ s < T.length ∧ f < nops T ∧ g < nops T
theorem ok_law_plan_drawn {f : Addr} {fd : FuncData} (Fu : Fun K "_law_plan_drawn" "_law_plan_drawn" s_law_plan_drawn f fd) (T : Txt K mg C) (c__law_pour : CPour P w K mg base) : FnOk P w K mg base CX0 2 f fd ["_law_jug_here", "_law_table_here"] (spP K pre_pd S_pd) := by
  refine fn_pouch Fu sc_law_plan_drawn (fun ds h => by obtain ⟨M, rfl, _⟩ := h; rfl) fun cdv A outer s H E hr => ⟨_, (pss_cons (ps_set (i := 2) sc_law_plan_drawn.nd rfl (by first | exact Or.inl rfl | exact Or.inr rfl) (pe_callB (r := rLenS K) cr_len (by rfl) T.len (by decide +kernel) (pa_cons (pe_ix (r := rIx K) ix_seq (pv 1) pe_int (fun _ _ => rfl)) pa_nil))) (pss_one (ps_ret (pe_tup (pa_cons (C8.pe_c c__law_pour hr (by decide) rfl (pa_cons (pv 0) (pa_cons (pe_callB (r := rLenS K) cr_len (by rfl) T.len (by decide +kernel) (pa_cons (pv 1) pa_nil)) pa_nil))) (pa_cons (C8.pe_c c__law_pour hr (by decide) rfl (pa_cons (pv 0) (pa_cons (pv 2) pa_nil))) (pa_cons (C8.pe_c c__law_pour hr (by decide) rfl (pa_cons (pv 0) (pa_cons (pv 2) pa_nil))) pa_nil))))))), fun p F ds hp => ?_⟩
  obtain ⟨M, rfl, ok⟩ := hp
  have s1 := ok.s1
  have s12 := ok.s12
  have o1 := ok.o1
  have o8 := ok.o8
  have HP := HasP.self p F
  refine sq_asg (d := dN (nops M)) (ev_n0 (en_var 1 rfl) ok) ?_
  refine sg_retN (en_tupN (T := fun ds => ∃ s f g, ds = [dN s, dN f, dN g] ∧ s < M.length ∧ f < nops M ∧ g < nops M) (ea_consN (ep HP (en_var 0 rfl) (ev_tl (en_var 1 rfl)) s1 (by omega)) (ea_consN (T := fun ds => ∃ g, ds = [dN g] ∧ g < nops M) (U := fun ds => ∃ f g, ds = [dN f, dN g] ∧ f < nops M ∧ g < nops M) (ep HP (en_var 0 rfl) (en_var 2 rfl) o1 (by omega)) (ea_consN (T := fun x => x = []) (ep HP (en_var 0 rfl) (en_var 2 rfl) o1 (by omega)) ea_nil fun d ds ⟨g, e, h⟩ e2 => ⟨g, by rw [e, e2], h⟩) fun d ds ⟨f, e, h⟩ ⟨g, e2, h2⟩ => ⟨f, g, by rw [e, e2], h, h2⟩) fun d ds ⟨s, e, h⟩ ⟨f, g, e2, h2⟩ => ⟨s, f, g, by rw [e, e2], h, h2⟩) fun ds ⟨s, f, g, e, _⟩ => by rw [e]; simp) ?_
  rintro _ ⟨ds, rfl, s, f, g, rfl, h1, h2, h3⟩ M' e
  have := tabD_inj (List.cons.inj e).1
  subst this
  exact ⟨s, f, g, rfl, h1, h2, h3⟩
theorem sc_law_made_plan : FnScope ["_law_table_here", "_law_plan"] ["_law_table_here", "_law_plan"] (defScope s_law_made_plan) := ⟨rfl, rfl, rfl, by decide +kernel, rfl, by decide +kernel, by decide +kernel⟩
def pre_mp (ds : List D) : Prop := ∃ (T : Tb) (s f g : Nat), ds = [tabD T, triD (s, f, g)] ∧ KOk T ∧ s < T.length ∧ f < nops T ∧ g < nops T
def S_mp (C Cq : Addr) (ds : List D) (d : D) : Prop := ∀ (T : Tb) (s f g : Nat), ds = [tabD T, triD (s, f, g)] → d = planD C Cq T s f g
theorem ok_law_made_plan {f : Addr} {fd : FuncData} (Fu : Fun K "_law_made_plan" "_law_made_plan" s_law_made_plan f fd) (T : Txt K mg C) (k_Kind1 : CKind P w K mg base C) (k_Plan4 : CPlan P w K mg base C Cq) : FnOk P w K mg base CX0 7 f fd ["_law_table_here", "_law_plan"] (spS K pre_mp (S_mp C Cq)) := by
  refine fn_pure Fu sc_law_made_plan (fun ds h => by obtain ⟨M, s, f, g, rfl, _⟩ := h; rfl) fun cdv A outer s H E hr => ⟨_, (pss_one (ps_ret (C8.pe_mk k_Plan4 hr (by decide) rfl (pa_cons (C8.pe_mk k_Kind1 hr (by decide) rfl (pa_cons (pv 0) pa_nil)) (pa_cons (pe_ix (r := rIx K) ix_seq (pv 1) pe_int (fun _ _ => rfl)) (pa_cons (pe_ix (r := rIx K) ix_seq (pv 1) pe_int (fun _ _ => rfl)) (pa_cons (pe_ix (r := rIx K) ix_seq (pv 1) pe_int (fun _ _ => rfl)) pa_nil))))))), fun F ds hp => ?_⟩
  obtain ⟨M, s, f, g, rfl, ok, hs, hf, hg⟩ := hp
  refine sg_ret (ev_plan (ev_kind (en_var 0 rfl) ok) (ev_t0 (p := (s, f, g)) (en_var 1 rfl)) (ev_t1 (p := (s, f, g)) (en_var 1 rfl)) (ev_t2 (p := (s, f, g)) (en_var 1 rfl)) ok hs hf hg) fun M' s' f' g' e => ?_
  injection e with e e1
  injection e1 with e1
  have q := triD_inj e1
  injection q with q1 q2
  injection q2 with q2 q3
  rw [tabD_inj e, q1, q2, q3]
theorem sc_law_pairs : FnScope ["_law_size", "_law_found", "_law_one", "_law_other"] ["_law_size"] (defScope s_law_pairs) := ⟨rfl, rfl, rfl, by decide +kernel, rfl, by decide +kernel, by decide +kernel⟩
def pre_prs (ds : List D) : Prop := ∃ z : Nat, ds = [dN z] ∧ z ≤ 12
def S_prs (ds : List D) (d : D) : Prop := ∀ z : Nat, ds = [dN z] → d = .lst ((prsL z z).map entD)
theorem ok_law_pairs {f : Addr} {fd : FuncData} (Fu : Fun K "_law_pairs" "_law_pairs" s_law_pairs f fd) (T : Txt K mg C) : FnOk P w K mg base CX0 1 f fd ["_law_size"] (spS K pre_prs S_prs) := by
  refine fn_pure Fu sc_law_pairs (fun ds h => by obtain ⟨z, rfl, _⟩ := h; rfl) fun cdv A outer s H E hr => ⟨_, (pss_cons (ps_set (i := 1) sc_law_pairs.nd rfl (by first | exact Or.inl rfl | exact Or.inr rfl) (pe_lst pa_nil)) (pss_cons (ps_for PassesOwn.never rfl (pi_range1 rfl T.range (pa_cons (pv 0) pa_nil)) (pg_name (i := 2) sc_law_pairs.nd rfl (by first | exact Or.inl rfl | exact Or.inr rfl)) (pss_one (ps_set (i := 1) sc_law_pairs.nd rfl (by first | exact Or.inl rfl | exact Or.inr rfl) (pe_op (r := rAddU K) op_addU (pv 1) (pe_lc (own := [("_law_other", 3)]) rfl sc_law_pairs.nd (pi_range1 rfl T.range (pa_cons (pv 0) pa_nil)) (blkOk_by (by kernel_rfl)) (fun _ _ _ _ _ => (pg_name (i := 3) sc_law_pairs.nd rfl (by first | exact Or.inl rfl | exact Or.inr rfl))) (fun _ _ _ _ _ => pts_nil) (fun _ _ _ _ _ => (pe_tup (pa_cons (pv 2) (pa_cons (pv 3) pa_nil))))))))) (pss_one (ps_ret (pv 1))))), fun F ds hp => ?_⟩
  obtain ⟨z, rfl, z12⟩ := hp
  refine sq_asg (d := .lst ((prsL z 0).map entD)) (en_lst ea_nil (show 0 ≤ 100000 by decide)) ?_
  refine sg_seq (fun Γ' => ∃ x2, Γ' = [some (dN z), some (.lst ((prsL z z).map entD)), x2, none]) (sg_for (js := [2]) (T := fun x => x = (List.range z).map dN) (it_rng (n := z) (ea_cons (en_var 0 rfl) ea_nil) (by omega)) (fun _ i Γ' => ∃ x2, Γ' = [some (dN z), some (.lst ((prsL z i).map entD)), x2, none]) (fun _ _ => ⟨none, rfl⟩) ?_ ?_) ?_
  · rintro ys i d Γ' rfl hd ⟨x2, rfl⟩
    have hi := (List.getElem?_eq_some_iff.mp hd).1
    rw [List.length_map, List.length_range] at hi
    rw [List.getElem?_map, List.getElem?_range hi] at hd
    injection hd with hd
    subst hd
    have h1 := prs_len (z := z) (k := i)
    have h2 : i * z ≤ 12 * 12 := Nat.mul_le_mul (by omega) z12
    refine ⟨_, tg_name 2, sg_asg (d := .lst ((prsL z (i + 1)).map entD)) (Ev1.is (en_op1 (en_var 1 rfl) (en_lcMA (xs := List.range z) dN (fun b => entD (i, b)) (fun x _ y _ e => dN_inj e) (js := [3]) (by simp) (it_rng (n := z) (ea_cons (en_var 0 rfl) ea_nil) (by omega)) (by rw [List.length_range]; omega) fun m' le b hb => ⟨_, tg_name 3, en_tup (ea_cons (en_var 2 rfl) (ea_cons (en_var 3 rfl) ea_nil)) (by simp)⟩) (o_addL (by rw [List.length_map, List.length_map, List.length_range]; omega))) ?_) ⟨_, rfl⟩⟩
    rw [prs_succ, List.map_append, List.map_map]
    rfl
  · rintro ys Γ' rfl ⟨x2, rfl⟩
    rw [List.length_map, List.length_range]
    exact ⟨x2, rfl⟩
  · rintro _ ⟨x2, rfl⟩
    exact sg_ret (en_var 1 rfl) fun z' e => by rw [dN_inj (List.cons.inj e).1]
end
end K63

set_option Elab.async false
set_option linter.all false
set_option maxRecDepth 100000
set_option maxHeartbeats 4000000
set_option autoImplicit false
namespace K63
open PySem L2 Tx
def difL (z : Nat) : List Tri := ((prsL z z).filter fun p => !decide ((p.1 : Int) = p.2)).map fun p => (0, p.1, p.2)
def dueR (z st : Nat) : List Tri := ((prsL z z).filter fun p => !decide (st ∈ [p.1 + 1, p.2 + 1])).map fun p => (st, p.1, p.2)
def dueL (z k : Nat) : List Tri := (List.range k).flatMap fun st => dueR z st
theorem due_succ {z k : Nat} : dueL z (k + 1) = dueL z k ++ dueR z k := by unfold dueL; rw [List.range_succ, List.flatMap_append]; simp
theorem dueR_len {z st : Nat} : (dueR z st).length ≤ z * z := by
  unfold dueR
  rw [List.length_map]
  exact Nat.le_trans (List.length_filter_le _ _) prs_len
theorem due_len {z k : Nat} : (dueL z k).length ≤ k * (z * z) := by
  have := flat_le (l := List.range k) (c := z * z) (f := fun st => dueR z st) fun st _ => dueR_len
  rwa [List.length_range] at this
theorem known1 : ∀ z ∈ [1, 2, 4], tellL (pk3 z) = [] ∧ tellL (pk4 z) = difL z ∧ tellL (pk2 z) = dueL z (z + 1) := by decide +kernel
theorem known2 : ∀ z ∈ [1, 2, 3, 12], tellL (ad z) = if 1 < z then (List.range z).map fun s => (s, 0, 0) else [] := by decide +kernel
theorem known3 : tellL pk0 = [(0, 0, 0)] := by decide +kernel
theorem pur_tri (p : Tri) : pur 1 (triD p) = true := pur_tup fun x hx => by
  simp only [List.mem_cons, List.not_mem_nil, or_false] at hx
  rcases hx with rfl | rfl | rfl <;> rfl
theorem pur_tris (L : List Tri) : pur 2 (.lst (L.map triD)) = true := pur_lst fun x hx => by obtain ⟨p, _, rfl⟩ := List.mem_map.mp hx; exact pur_tri p
theorem pur_trit (L : List Tri) : pur 2 (.tup (L.map triD)) = true := pur_tup fun x hx => by obtain ⟨p, _, rfl⟩ := List.mem_map.mp hx; exact pur_tri p
section
variable {P : Program} {w : World} {K : PySem.W.Frag} {mg : Str → Option Value} {base : Heap} {C Cq : Addr}
theorem ev_sz {m : Mo} {Γ : G} {te : TE} {E : XK} {g : Nat → Tb} {z M : Nat} (e : Ev1 m K te Γ (dN z)) (h1 : 1 ≤ z) (h2 : z ≤ M) : Ev1 m K (tCall (spS K (pre_sz M) (S_sz C g)) [] E (tCons te tNil)) Γ (kindD C (g z)) :=
  en_call (S := fun d => d = kindD C (g z)) (ds := [dN z]) (ea_cons e ea_nil) ⟨z, rfl, h1, h2⟩ fun d h => h z rfl
theorem ev_prs {m : Mo} {Γ : G} {te : TE} {E : XK} {z : Nat} (e : Ev1 m K te Γ (dN z)) (h : z ≤ 12) : Ev1 m K (tCall (spS K pre_prs S_prs) [] E (tCons te tNil)) Γ (.lst ((prsL z z).map entD)) :=
  en_call (S := fun d => d = .lst ((prsL z z).map entD)) (ds := [dN z]) (ea_cons e ea_nil) ⟨z, rfl, h⟩ fun d h => h z rfl
/-- list(telling_plans(kind)) -/
theorem ev_ltell {m : Mo} {Γ : G} {te : TE} {E : XK} {T : Tb} (e : Ev1 m K te Γ (kindD C T)) (ok : KOk T) : Ev1 m K (tCB (rLst K) (tCons (tCall (spS K (pre_kd C) (S_kd C tellD)) [] E (tCons te tNil)) tNil)) Γ (.lst ((tellL T).map triD)) := en_cb1 (ea_cons (ev_telling e ok) ea_nil) (c_list (.inl rfl))
theorem sc_law_known_right : FnScope ["_law_size", "_law_due", "_law_start", "_law_one", "_law_other"] [] (defScope s_law_known_right) := ⟨rfl, rfl, rfl, by decide +kernel, rfl, by decide +kernel, by decide +kernel⟩
theorem ok_law_known_right {f : Addr} {fd : FuncData} (Fu : Fun K "_law_known_right" "_law_known_right" s_law_known_right f fd) (T : Txt K mg C)
    (c__law_pairs : C8.Cal P w K mg base 1 "_law_pairs" (spS K pre_prs S_prs) []) (c_telling_plans : CTelling P w K mg base C)
    (c_flag_kind : C8.Cal P w K mg base 7 "flag_kind" (spF K (fun ds => ds = []) fun _ => kindD C pk0) [])
    (c_adder_kind : C8.Cal P w K mg base 7 "adder_kind" (spS K (pre_sz 12) (S_sz C ad)) [])
    (c_swap_kind : C8.Cal P w K mg base 7 "swap_kind" (spS K (pre_sz 7) (S_sz C pk2)) [])
    (c_cell_kind : C8.Cal P w K mg base 7 "cell_kind" (spS K (pre_sz 7) (S_sz C pk3)) [])
    (c_sticky_kind : C8.Cal P w K mg base 7 "sticky_kind" (spS K (pre_sz 7) (S_sz C pk4)) []) :
    FnOk P w K mg base CX0 9 f fd [] (spF K (fun ds => ds = []) fun _ => .bl true) := by
  refine fn_pure Fu sc_law_known_right (fun ds h => by subst h; rfl) fun cdv A outer s H E hr => ⟨_, (pss_cons (ps_for PassesOwn.never rfl (show PI _ _ _ (iSeq K _) from pi_seq (pe_tup (pa_cons pe_int (pa_cons pe_int (pa_cons pe_int pa_nil))))) (pg_name (i := 0) sc_law_known_right.nd rfl (by first | exact Or.inl rfl | exact Or.inr rfl)) (pss_cons (ps_if (pt_cmpR (r := rNeD K) (op_neD hr.units) (C8.pe_c c_telling_plans hr (by decide) rfl (pa_cons (C8.pe_c c_cell_kind hr (by decide) rfl (pa_cons (pv 0) pa_nil)) pa_nil)) (pe_tup pa_nil) (nomark _)) (pss_one (ps_ret pe_bl)) pss_nil) (pss_cons (ps_setLc (i := 1) (own := [("_law_one", 3), ("_law_other", 4)]) rfl sc_law_known_right.nd rfl rfl (sw_true rfl rfl rfl (by decide +kernel)) (show PI _ _ _ (iSeq K _) from pi_seq (C8.pe_c c__law_pairs hr (by decide) rfl (pa_cons (pv 0) pa_nil))) (blkOk_by (by kernel_rfl)) (fun _ _ _ _ _ => (show PG _ _ (gTup K 2 (gCons (gName 3) (gCons (gName 4) gNil))) from pg_tup rfl (pgs_cons (pg_name (i := 3) sc_law_known_right.nd rfl (by first | exact Or.inl rfl | exact Or.inr rfl)) (pgs_cons (pg_name (i := 4) sc_law_known_right.nd rfl (by first | exact Or.inl rfl | exact Or.inr rfl)) pgs_nil)))) (fun _ _ _ _ _ => (pts_one (pt_cmpR (r := rNeD K) (op_neD hr.units) (pv 3) (pv 4) (nomark _)))) (fun _ _ _ _ _ => (pe_tup (pa_cons pe_int (pa_cons (pv 3) (pa_cons (pv 4) pa_nil)))))) (pss_cons (ps_if (pt_cmpR (r := rNeD K) (op_neD hr.units) (pe_callTy (r := rLst K) cr_lst (by rfl) T.list (by decide +kernel) (pa_cons (C8.pe_c c_telling_plans hr (by decide) rfl (pa_cons (C8.pe_c c_sticky_kind hr (by decide) rfl (pa_cons (pv 0) pa_nil)) pa_nil)) pa_nil)) (pv 1) (nomark _)) (pss_one (ps_ret pe_bl)) pss_nil) (pss_cons (ps_set (i := 1) sc_law_known_right.nd rfl (by first | exact Or.inl rfl | exact Or.inr rfl) (pe_lst pa_nil)) (pss_cons (ps_for PassesOwn.never rfl (pi_range1 rfl T.range (pa_cons (pe_op (r := rAddU K) op_addU (pv 0) pe_int) pa_nil)) (pg_name (i := 2) sc_law_known_right.nd rfl (by first | exact Or.inl rfl | exact Or.inr rfl)) (pss_one (ps_set (i := 1) sc_law_known_right.nd rfl (by first | exact Or.inl rfl | exact Or.inr rfl) (pe_op (r := rAddU K) op_addU (pv 1) (pe_lc (own := [("_law_one", 3), ("_law_other", 4)]) rfl sc_law_known_right.nd (show PI _ _ _ (iSeq K _) from pi_seq (C8.pe_c c__law_pairs hr (by decide) rfl (pa_cons (pv 0) pa_nil))) (blkOk_by (by kernel_rfl)) (fun _ _ _ _ _ => (show PG _ _ (gTup K 2 (gCons (gName 3) (gCons (gName 4) gNil))) from pg_tup rfl (pgs_cons (pg_name (i := 3) sc_law_known_right.nd rfl (by first | exact Or.inl rfl | exact Or.inr rfl)) (pgs_cons (pg_name (i := 4) sc_law_known_right.nd rfl (by first | exact Or.inl rfl | exact Or.inr rfl)) pgs_nil)))) (fun _ _ _ _ _ => (pts_one (pt_cmpR (r := rInS K true) (op_notInS (hu65 hr)) (pv 2) (pe_tup (pa_cons (pe_op (r := rAddU K) op_addU (pv 3) pe_int) (pa_cons (pe_op (r := rAddU K) op_addU (pv 4) pe_int) pa_nil))) (by rfl)))) (fun _ _ _ _ _ => (pe_tup (pa_cons (pv 2) (pa_cons (pv 3) (pa_cons (pv 4) pa_nil)))))))))) (pss_one (ps_if (pt_cmpR (r := rNeD K) (op_neD hr.units) (pe_callTy (r := rLst K) cr_lst (by rfl) T.list (by decide +kernel) (pa_cons (C8.pe_c c_telling_plans hr (by decide) rfl (pa_cons (C8.pe_c c_swap_kind hr (by decide) rfl (pa_cons (pv 0) pa_nil)) pa_nil)) pa_nil)) (pv 1) (nomark _)) (pss_one (ps_ret pe_bl)) pss_nil)))))))) (pss_cons (ps_for PassesOwn.never rfl (show PI _ _ _ (iSeq K _) from pi_seq (pe_tup (pa_cons pe_int (pa_cons pe_int (pa_cons pe_int (pa_cons pe_int pa_nil)))))) (pg_name (i := 0) sc_law_known_right.nd rfl (by first | exact Or.inl rfl | exact Or.inr rfl)) (pss_one (ps_if (pt_cmpR (r := rNeD K) (op_neD hr.units) (C8.pe_c c_telling_plans hr (by decide) rfl (pa_cons (C8.pe_c c_adder_kind hr (by decide) rfl (pa_cons (pv 0) pa_nil)) pa_nil)) (pe_ifExp (pt_cmpR op_gt (pv 0) pe_int (nomark _)) (pe_callTy (r := rTup K) cr_tup (by rfl) T.tuple (by decide +kernel) (pa_cons (pe_lc (own := [("_law_start", 2)]) rfl sc_law_known_right.nd (pi_range1 rfl T.range (pa_cons (pv 0) pa_nil)) (blkOk_by (by kernel_rfl)) (fun _ _ _ _ _ => (pg_name (i := 2) sc_law_known_right.nd rfl (by first | exact Or.inl rfl | exact Or.inr rfl))) (fun _ _ _ _ _ => pts_nil) (fun _ _ _ _ _ => (pe_tup (pa_cons (pv 2) (pa_cons pe_int (pa_cons pe_int pa_nil)))))) pa_nil)) (pe_tup pa_nil)) (nomark _)) (pss_one (ps_ret pe_bl)) pss_nil))) (pss_one (ps_ret (pe_cmpR (r := rEqD K) (op_eqD hr.units) (C8.pe_c c_telling_plans hr (by decide) rfl (pa_cons (pe_c0 c_flag_kind hr (by decide) rfl) pa_nil)) (pe_tup (pa_cons (pe_tup (pa_cons pe_int (pa_cons pe_int (pa_cons pe_int pa_nil)))) pa_nil)) (nomark _)))))), fun F ds hp => ?_⟩
  subst hp
  let Γs : Option D → Option D → Option D → G := fun x0 x1 x2 => [x0, x1, x2, none, none]
  refine sg_seq (fun Γ' => ∃ x0 x1 x2, Γ' = Γs x0 x1 x2) (sg_for (js := [0]) (T := fun x => x = [dN 1, dN 2, dN 4]) (it_seq (d := .tup [dN 1, dN 2, dN 4]) (en_tup (ea_cons (en_int 1) (ea_cons (en_int 2) (ea_cons (en_int 4) ea_nil))) (by simp)) (.inl rfl)) (fun _ _ Γ' => ∃ x0 x1 x2, Γ' = Γs x0 x1 x2) (fun _ _ => ⟨none, none, none, rfl⟩) ?_ (fun _ Γ' _ w => w)) ?_
  · rintro ys i d Γ' rfl hd ⟨x0, x1, x2, rfl⟩
    have hz : ∃ z, d = dN z ∧ z ∈ [1, 2, 4] := by
      have := List.mem_of_getElem? hd
      simp only [List.mem_cons, List.not_mem_nil, or_false] at this
      rcases this with rfl | rfl | rfl
      · exact ⟨1, rfl, by decide⟩
      · exact ⟨2, rfl, by decide⟩
      · exact ⟨4, rfl, by decide⟩
    obtain ⟨z, rfl, zm⟩ := hz
    obtain ⟨n1, n2, n3⟩ := known1 z zm
    have z1 : 1 ≤ z ∧ z ≤ 4 := by
      simp only [List.mem_cons, List.not_mem_nil, or_false] at zm
      omega
    obtain ⟨z1, z4⟩ := z1
    have z7 : z ≤ 7 := by omega
    have zz : z * z ≤ 4 * 4 := Nat.mul_le_mul z4 z4
    refine ⟨_, tg_name 0, ?_⟩
    show SG (pureMo F) K _ (Γs (some (dN z)) x1 x2) _
    refine sg_seqIf (b := false) (et_test (en_op1 (a := .tup []) (Ev1.is (ev_telling (ev_sz (en_var 0 rfl) z1 z7) (k3_ok z1 z7)) (by show D.tup ((tellL (pk3 z)).map triD) = _; rw [n1]; rfl)) (en_tup ea_nil (by simp)) (o_neS (n := 1) (by decide) rfl))) (fun e => nomatch e) fun _ => ?_
    refine sq_asg (d := .lst ((difL z).map triD)) (Ev1.is (en_lcM (xs := prsL z z) entD (fun p => !decide ((p.1 : Int) = p.2)) (fun p => triD (0, p.1, p.2)) (fun x _ y _ e => entD_inj e) (js := [3, 4]) (by simp) (it_seq (ev_prs (en_var 0 rfl) (by omega)) (.inr (.inl rfl))) (Nat.le_trans prs_len (by omega)) fun m' le p hp => ⟨_, tg_pair (a := dN p.1) (b := dN p.2), et_test (en_op1 (a := dN p.1) (b := dN p.2) (en_var 3 rfl) (en_var 4 rfl) o_neI), fun _ => en_tup (ea_cons (en_int 0) (ea_cons (en_var 3 rfl) (ea_cons (en_var 4 rfl) ea_nil))) (by simp)⟩) (by unfold difL; rw [List.map_map]; rfl)) ?_
    show SG (pureMo F) K _ (Γs (some (dN z)) (some (.lst ((difL z).map triD))) x2) _
    refine sg_seqIf (b := false) (et_test (en_op1 (a := .lst ((difL z).map triD)) (Ev1.is (ev_ltell (ev_sz (en_var 0 rfl) z1 z7) (k4_ok z1 z7)) (by rw [n2])) (en_var 1 rfl) (o_neS (n := 2) (by decide) (pur_tris _)))) (fun e => nomatch e) fun _ => ?_
    refine sq_asg (d := .lst ((dueL z 0).map triD)) (en_lst ea_nil (show 0 ≤ 100000 by decide)) ?_
    show SG (pureMo F) K _ (Γs (some (dN z)) (some (.lst ((dueL z 0).map triD))) x2) _
    refine sg_seq (fun Γ' => ∃ x2, Γ' = Γs (some (dN z)) (some (.lst ((dueL z (z + 1)).map triD))) x2) (sg_for (js := [2]) (T := fun x => x = (List.range (z + 1)).map dN) (it_rng (n := z + 1) (ea_cons (ev_add1 (en_var 0 rfl)) ea_nil) (by omega)) (fun _ i Γ' => ∃ x2, Γ' = Γs (some (dN z)) (some (.lst ((dueL z i).map triD))) x2) (fun _ _ => ⟨x2, rfl⟩) ?_ ?_) ?_
    · rintro ys i d Γ' rfl hd ⟨x2, rfl⟩
      have hi := (List.getElem?_eq_some_iff.mp hd).1
      rw [List.length_map, List.length_range] at hi
      rw [List.getElem?_map, List.getElem?_range hi] at hd
      injection hd with hd
      subst hd
      have h1 := due_len (z := z) (k := i)
      have h2 : i * (z * z) ≤ 5 * (4 * 4) := Nat.mul_le_mul (by omega) zz
      have h3 := dueR_len (z := z) (st := i)
      refine ⟨_, tg_name 2, sg_asg (d := .lst ((dueL z (i + 1)).map triD)) (Ev1.is (en_op1 (b := .lst ((dueR z i).map triD)) (en_var 1 rfl) (Ev1.is (en_lcM (xs := prsL z z) entD (fun p => !decide (i ∈ [p.1 + 1, p.2 + 1])) (fun p => triD (i, p.1, p.2)) (fun x _ y _ e => entD_inj e) (js := [3, 4]) (by simp) (it_seq (ev_prs (en_var 0 rfl) (by omega)) (.inr (.inl rfl))) (Nat.le_trans prs_len (by omega)) fun m' le p hp => ⟨_, tg_pair (a := dN p.1) (b := dN p.2), et_test (en_op1 (en_var 2 rfl) (en_tup (ds := [dN (p.1 + 1), dN (p.2 + 1)]) (ea_cons (ev_add1 (en_var 3 rfl)) (ea_cons (ev_add1 (en_var 4 rfl)) ea_nil)) (by simp)) (o_niN (l := [p.1 + 1, p.2 + 1]) (.inl rfl))), fun _ => en_tup (ea_cons (en_var 2 rfl) (ea_cons (en_var 3 rfl) (ea_cons (en_var 4 rfl) ea_nil))) (by simp)⟩) (by unfold dueR; rw [List.map_map]; rfl)) (o_addL (by rw [List.length_map, List.length_map]; omega))) ?_) ⟨_, rfl⟩⟩
      rw [due_succ, List.map_append]
    · rintro ys Γ' rfl ⟨x2, rfl⟩
      rw [List.length_map, List.length_range]
      exact ⟨x2, rfl⟩
    rintro _ ⟨x2, rfl⟩
    exact sg_if (b := false) (et_test (en_op1 (a := .lst ((dueL z (z + 1)).map triD)) (Ev1.is (ev_ltell (ev_sz (en_var 0 rfl) z1 z7) (k2_ok z1 z7)) (by rw [n3])) (en_var 1 rfl) (o_neS (n := 2) (by decide) (pur_tris _)))) (fun e => nomatch e) fun _ => sg_next ⟨_, _, _, rfl⟩
  rintro _ ⟨x0, x1, x2, rfl⟩
  refine sg_seq (fun Γ' => ∃ x0 x2, Γ' = Γs x0 x1 x2) (sg_for (js := [0]) (T := fun x => x = [dN 1, dN 2, dN 3, dN 12]) (it_seq (d := .tup [dN 1, dN 2, dN 3, dN 12]) (en_tup (ea_cons (en_int 1) (ea_cons (en_int 2) (ea_cons (en_int 3) (ea_cons (en_int 12) ea_nil)))) (by simp)) (.inl rfl)) (fun _ _ Γ' => ∃ x0 x2, Γ' = Γs x0 x1 x2) (fun _ _ => ⟨x0, x2, rfl⟩) ?_ (fun _ Γ' _ w => w)) ?_
  · rintro ys i d Γ' rfl hd ⟨x0, x2, rfl⟩
    have hz : ∃ z, d = dN z ∧ z ∈ [1, 2, 3, 12] := by
      have := List.mem_of_getElem? hd
      simp only [List.mem_cons, List.not_mem_nil, or_false] at this
      rcases this with rfl | rfl | rfl | rfl
      · exact ⟨1, rfl, by decide⟩
      · exact ⟨2, rfl, by decide⟩
      · exact ⟨3, rfl, by decide⟩
      · exact ⟨12, rfl, by decide⟩
    obtain ⟨z, rfl, zm⟩ := hz
    have n1 := known2 z zm
    have z1 : 1 ≤ z ∧ z ≤ 12 := by
      simp only [List.mem_cons, List.not_mem_nil, or_false] at zm
      omega
    obtain ⟨z1, z12⟩ := z1
    refine ⟨_, tg_name 0, ?_⟩
    show SG (pureMo F) K _ (Γs (some (dN z)) x1 x2) _
    refine sg_if (b := false) (et_test (en_op1 (a := tellD (ad z)) (ev_telling (ev_sz (en_var 0 rfl) z1 z12) (ad_ok z1 z12)) (en_if1 (k := decide (1 < z)) (EvT1.is (et_test (en_op1 (en_var 0 rfl) (en_int 1) o_bl)) (decide_eq_decide.mpr (by omega))) (fun e => ?_) fun e => ?_) (o_neS (n := 2) (by decide) (pur_trit _)))) (fun e => nomatch e) fun _ => sg_next ⟨_, _, rfl⟩
    · refine Ev1.is (en_cb1 (ea_cons (en_lcMA (xs := List.range z) dN (fun s => triD (s, 0, 0)) (fun x _ y _ e => dN_inj e) (js := [2]) (by simp) (it_rng (n := z) (ea_cons (en_var 0 rfl) ea_nil) (by omega)) (by rw [List.length_range]; omega) fun m' le s hs => ⟨_, tg_name 2, en_tup (ea_cons (en_var 2 rfl) (ea_cons (en_int 0) (ea_cons (en_int 0) ea_nil))) (by simp)⟩) ea_nil) (c_tuple (.inr (.inl rfl)))) ?_
      show _ = D.tup ((tellL (ad z)).map triD)
      rw [n1, if_pos (of_decide_eq_true e), List.map_map]
      rfl
    · refine Ev1.is (en_tup ea_nil (by simp)) ?_
      show _ = D.tup ((tellL (ad z)).map triD)
      rw [n1, if_neg (of_decide_eq_false e)]
      rfl
  rintro _ ⟨x0, x2, rfl⟩
  refine sg_ret (d := .bl true) (en_op1 (a := .tup [triD (0, 0, 0)]) (Ev1.is (ev_telling (en_callF (ds := []) ea_nil rfl) (tok_of (by decide)).ok) (by show D.tup ((tellL pk0).map triD) = _; rw [known3]; rfl)) (en_tup (ea_cons (en_tup (ea_cons (en_int 0) (ea_cons (en_int 0) (ea_cons (en_int 0) ea_nil))) (by simp)) ea_nil) (by simp)) (o_eqS (n := 2) (by decide) rfl)) rfl
end
end K63

set_option Elab.async false
set_option linter.all false
set_option maxRecDepth 100000
set_option maxHeartbeats 4000000
set_option autoImplicit false
namespace K63
open PySem L2 Tx
/-! ### when a plan tells -/
def cA (T : Tb) (s f g : Nat) : Bool := decide (((at2 T s f).2, (at2 T s f).1) = ((at2 T (at2 T s g).1 f).2, (at2 T (at2 T s g).1 f).1))
def cB (T : Tb) (s f g : Nat) : Bool := decide (((at2 T s f).2, (at2 T (at2 T s f).1 g).1) = ((at2 T (at2 T s g).1 f).2, (at2 T (at2 T s g).1 f).1))
theorem tells_eq (T : Tb) (s f g : Nat) : tellsB T s f g = (!cA T s f g && !cB T s f g && !cA T s g f && !cB T s g f) := by
  have h1 : confB T s f g (0, [0]) = cA T s f g := rfl
  have h2 : confB T s f g (0, [0, 1]) = cB T s f g := rfl
  have h3 : confB T s f g (1, [1]) = cA T s g f := rfl
  have h4 : confB T s f g (1, [1, 0]) = cB T s g f := rfl
  unfold tellsB cand
  simp only [List.filter_cons, List.filter_nil, h1, h2, h3, h4]
  cases cA T s f g <;> cases cB T s f g <;> cases cA T s g f <;> cases cB T s g f <;> rfl
theorem tells_sym (T : Tb) (s f g : Nat) : tellsB T s g f = tellsB T s f g := by
  rw [tells_eq, tells_eq]
  cases cA T s f g <;> cases cB T s f g <;> cases cA T s g f <;> cases cB T s g f <;> rfl
theorem mem_tell {T : Tb} {p : Tri} : p ∈ tellL T ↔ p.1 < T.length ∧ p.2.1 < nops T ∧ p.2.2 < nops T ∧ tellsB T p.1 p.2.1 p.2.2 = true := by
  obtain ⟨s, f, g⟩ := p
  unfold tellL
  simp only [List.mem_flatMap, List.mem_range, List.mem_map, List.mem_filter, Prod.mk.injEq]
  constructor
  · rintro ⟨s', hs, f', hf, g', ⟨hg, ht⟩, rfl, rfl, rfl⟩
    exact ⟨hs, hf, hg, ht⟩
  · rintro ⟨hs, hf, hg, ht⟩
    exact ⟨s, hs, f, hf, g, ⟨hg, ht⟩, rfl, rfl, rfl⟩
theorem tell_small {T : Tb} (ok : KOk T) : ∀ p ∈ tellL T, Small p := fun p hp => by
  obtain ⟨h1, h2, h3, _⟩ := mem_tell.mp hp
  have := ok.s12
  have := ok.o8
  exact ⟨by omega, by omega, by omega⟩
theorem tell_up {T : Tb} (ok : KOk T) : (tellL T).Pairwise fun x y => triC x < triC y := by
  have o8 := ok.o8
  unfold tellL
  rw [List.pairwise_flatMap]
  refine ⟨fun s _ => ?_, List.pairwise_lt_range.imp fun {a b} hab x hx y hy => ?_⟩
  · rw [List.pairwise_flatMap]
    refine ⟨fun f _ => ?_, List.pairwise_lt_range.imp fun {a b} hab x hx y hy => ?_⟩
    · refine List.pairwise_map.mpr ((List.pairwise_lt_range.filter _).imp fun {a b} hab => ?_)
      simp only [triC]
      omega
    · obtain ⟨c, hc, rfl⟩ := List.mem_map.mp hx
      obtain ⟨d, hd, rfl⟩ := List.mem_map.mp hy
      have h1 := List.mem_range.mp (List.mem_filter.mp hc).1
      have h2 := List.mem_range.mp (List.mem_filter.mp hd).1
      simp only [triC]
      omega
  · obtain ⟨c, hc, hx⟩ := List.mem_flatMap.mp hx
    obtain ⟨d, hd, hy⟩ := List.mem_flatMap.mp hy
    obtain ⟨c', hc', rfl⟩ := List.mem_map.mp hx
    obtain ⟨d', hd', rfl⟩ := List.mem_map.mp hy
    have h1 := List.mem_range.mp (List.mem_filter.mp hc').1
    have h2 := List.mem_range.mp (List.mem_filter.mp hd').1
    have h3 := List.mem_range.mp hc
    have h4 := List.mem_range.mp hd
    simp only [triC]
    omega
theorem up_nd {L : List Tri} (h : L.Pairwise fun x y => triC x < triC y) : L.Nodup := h.imp fun {a b} q e => by rw [e] at q; omega
/-! ### other numbers -/
theorem rel_to {T : Tb} {ss os : List Nat} (ok : KOk T) (ps : ss.Perm (List.range T.length)) (po : os.Perm (List.range (nops T))) {s o : Nat} (hs : s < T.length) (ho : o < nops T) : at2 (relT T ss os) (ss.getD s 0) (os.getD o 0) = (ss.getD (at2 T s o).1 0, (at2 T s o).2) := by
  rw [rel_at (pm_s ps hs) (pm_s po ho), pm_ts ps hs, pm_ts po ho]
theorem num_inj {ns : List Nat} {n a b : Nat} (p : ns.Perm (List.range n)) (ha : a < n) (hb : b < n) : ns.getD a 0 = ns.getD b 0 ↔ a = b := by
  constructor
  · intro e
    have := congrArg ns.idxOf e
    rwa [pm_ts p ha, pm_ts p hb] at this
  · intro e; rw [e]
section
variable {T : Tb} {ss os : List Nat}
theorem cA_rel (ok : KOk T) (ps : ss.Perm (List.range T.length)) (po : os.Perm (List.range (nops T))) {s f g : Nat} (hs : s < T.length) (hf : f < nops T) (hg : g < nops T) : cA (relT T ss os) (ss.getD s 0) (os.getD f 0) (os.getD g 0) = cA T s f g := by
  have l1 := ok.lt hs hf
  have l2 := ok.lt hs hg
  have l3 := ok.lt l2 hf
  unfold cA
  rw [rel_to ok ps po hs hf, rel_to ok ps po hs hg]
  simp only [rel_to ok ps po l2 hf]
  refine decide_eq_decide.mpr ?_
  rw [Prod.mk.injEq, Prod.mk.injEq, num_inj ps l1 l3]
theorem cB_rel (ok : KOk T) (ps : ss.Perm (List.range T.length)) (po : os.Perm (List.range (nops T))) {s f g : Nat} (hs : s < T.length) (hf : f < nops T) (hg : g < nops T) : cB (relT T ss os) (ss.getD s 0) (os.getD f 0) (os.getD g 0) = cB T s f g := by
  have l1 := ok.lt hs hf
  have l2 := ok.lt hs hg
  have l3 := ok.lt l2 hf
  have l4 := ok.lt l1 hg
  unfold cB
  rw [rel_to ok ps po hs hf, rel_to ok ps po hs hg]
  simp only [rel_to ok ps po l2 hf, rel_to ok ps po l1 hg]
  refine decide_eq_decide.mpr ?_
  rw [Prod.mk.injEq, Prod.mk.injEq, num_inj ps l4 l3]
theorem tells_rel (ok : KOk T) (ps : ss.Perm (List.range T.length)) (po : os.Perm (List.range (nops T))) {s f g : Nat} (hs : s < T.length) (hf : f < nops T) (hg : g < nops T) : tellsB (relT T ss os) (ss.getD s 0) (os.getD f 0) (os.getD g 0) = tellsB T s f g := by
  rw [tells_eq, tells_eq, cA_rel ok ps po hs hf hg, cB_rel ok ps po hs hf hg, cA_rel ok ps po hs hg hf, cB_rel ok ps po hs hg hf]
def movL (T : Tb) (ss os : List Nat) : List Tri := (tellL T).map fun p => (ss.getD p.1 0, os.getD p.2.1 0, os.getD p.2.2 0)
theorem mov_perm (ok : KOk T) (ps : ss.Perm (List.range T.length)) (po : os.Perm (List.range (nops T))) : (tellL (relT T ss os)).Perm (movL T ss os) := by
  have rok := rel_ok ok ps po
  refine (List.perm_ext_iff_of_nodup (up_nd (tell_up rok)) ?_).mpr fun p => ?_
  · unfold movL
    refine List.pairwise_map.mpr (List.Pairwise.imp_of_mem (fun {a b} ha hb h e => h ?_) (up_nd (tell_up ok)))
    obtain ⟨a1, a2, a3, _⟩ := mem_tell.mp ha
    obtain ⟨b1, b2, b3, _⟩ := mem_tell.mp hb
    injection e with e1 e
    injection e with e2 e3
    exact Prod.ext ((num_inj ps a1 b1).mp e1) (Prod.ext ((num_inj po a2 b2).mp e2) ((num_inj po a3 b3).mp e3))
  · rw [mem_tell, rel_len, rel_nops ok]
    unfold movL
    rw [List.mem_map]
    constructor
    · rintro ⟨h1, h2, h3, ht⟩
      have k1 := pm_t ps h1
      have k2 := pm_t po h2
      have k3 := pm_t po h3
      refine ⟨(ss.idxOf p.1, os.idxOf p.2.1, os.idxOf p.2.2), mem_tell.mpr ⟨k1, k2, k3, ?_⟩, ?_⟩
      · rw [← tells_rel ok ps po k1 k2 k3, pm_st ps h1, pm_st po h2, pm_st po h3]
        exact ht
      · show (ss.getD (ss.idxOf p.1) 0, os.getD (os.idxOf p.2.1) 0, os.getD (os.idxOf p.2.2) 0) = p
        rw [pm_st ps h1, pm_st po h2, pm_st po h3]
    · rintro ⟨q, hq, rfl⟩
      obtain ⟨h1, h2, h3, ht⟩ := mem_tell.mp hq
      exact ⟨pm_s ps h1, pm_s po h2, pm_s po h3, by show tellsB _ (ss.getD q.1 0) (os.getD q.2.1 0) (os.getD q.2.2 0) = true; rw [tells_rel ok ps po h1 h2 h3]; exact ht⟩
end
/-! ### two kinds side by side -/
section
variable {T U : Tb}
theorem mul_rowS {s t : Nat} (hs : s < T.length) (ht : t < U.length) : (mulT T U).getD (s * U.length + t) [] = sideL (T.getD s []) (U.getD t []) s t U.length := by
  have hn : 0 < U.length := by omega
  have hi := mul_lt hs ht
  unfold mulT
  rw [List.getD_eq_getElem?_getD, List.getElem?_map, List.getElem?_range hi]
  show sideL (T.getD ((s * U.length + t) / U.length) []) (U.getD ((s * U.length + t) % U.length) []) ((s * U.length + t) / U.length) ((s * U.length + t) % U.length) U.length = _
  rw [Nat.mul_comm s, Nat.mul_add_div hn, Nat.mul_add_mod, Nat.div_eq_of_lt ht, Nat.mod_eq_of_lt ht, Nat.add_zero]
theorem mul_at1 (ok : KOk T) {s t o : Nat} (hs : s < T.length) (ht : t < U.length) (ho : o < nops T) : at2 (mulT T U) (s * U.length + t) o = ((at2 T s o).1 * U.length + t, (at2 T s o).2) := by
  have hl := ok.rl hs
  unfold at2
  rw [mul_rowS hs ht]
  unfold sideL
  rw [List.getD_eq_getElem?_getD, List.getElem?_append_left (by rw [List.length_map]; omega), List.getElem?_map, ok.at_get hs ho]
  rfl
theorem mul_at2 (ok : KOk T) (ok' : KOk U) {s t o : Nat} (hs : s < T.length) (ht : t < U.length) (ho : o < nops U) : at2 (mulT T U) (s * U.length + t) (o + nops T) = (s * U.length + (at2 U t o).1, (at2 U t o).2) := by
  have hl := ok.rl hs
  unfold at2
  rw [mul_rowS hs ht]
  unfold sideL
  rw [List.getD_eq_getElem?_getD, List.getElem?_append_right (by rw [List.length_map]; omega), List.length_map, hl, Nat.add_sub_cancel, List.getElem?_map, ok'.at_get ht ho]
  rfl
theorem mul_inj {a b n t : Nat} (hn : 0 < n) : a * n + t = b * n + t ↔ a = b := by
  constructor
  · intro e
    exact Nat.eq_of_mul_eq_mul_right hn (by omega)
  · intro e; rw [e]
theorem tells_m1 (ok : KOk T) {s t f g : Nat} (hs : s < T.length) (ht : t < U.length) (hf : f < nops T) (hg : g < nops T) : tellsB (mulT T U) (s * U.length + t) f g = tellsB T s f g := by
  have hn : 0 < U.length := by omega
  have a : ∀ {f g : Nat}, f < nops T → g < nops T → cA (mulT T U) (s * U.length + t) f g = cA T s f g := fun {f g} hf hg => by
    unfold cA
    rw [mul_at1 ok hs ht hf, mul_at1 ok hs ht hg]
    simp only [mul_at1 ok (ok.lt hs hg) ht hf]
    refine decide_eq_decide.mpr ?_
    rw [Prod.mk.injEq, Prod.mk.injEq, mul_inj hn]
  have b : ∀ {f g : Nat}, f < nops T → g < nops T → cB (mulT T U) (s * U.length + t) f g = cB T s f g := fun {f g} hf hg => by
    unfold cB
    rw [mul_at1 ok hs ht hf, mul_at1 ok hs ht hg]
    simp only [mul_at1 ok (ok.lt hs hg) ht hf, mul_at1 ok (ok.lt hs hf) ht hg]
    refine decide_eq_decide.mpr ?_
    rw [Prod.mk.injEq, Prod.mk.injEq, mul_inj hn]
  rw [tells_eq, tells_eq, a hf hg, b hf hg, a hg hf, b hg hf]
theorem tells_m2 (ok : KOk T) (ok' : KOk U) {s t f g : Nat} (hs : s < T.length) (ht : t < U.length) (hf : f < nops U) (hg : g < nops U) : tellsB (mulT T U) (s * U.length + t) (f + nops T) (g + nops T) = tellsB U t f g := by
  have a : ∀ {f g : Nat}, f < nops U → g < nops U → cA (mulT T U) (s * U.length + t) (f + nops T) (g + nops T) = cA U t f g := fun {f g} hf hg => by
    unfold cA
    rw [mul_at2 ok ok' hs ht hf, mul_at2 ok ok' hs ht hg]
    simp only [mul_at2 ok ok' hs (ok'.lt ht hg) hf]
    refine decide_eq_decide.mpr ?_
    rw [Prod.mk.injEq, Prod.mk.injEq, Nat.add_left_cancel_iff]
  have b : ∀ {f g : Nat}, f < nops U → g < nops U → cB (mulT T U) (s * U.length + t) (f + nops T) (g + nops T) = cB U t f g := fun {f g} hf hg => by
    unfold cB
    rw [mul_at2 ok ok' hs ht hf, mul_at2 ok ok' hs ht hg]
    simp only [mul_at2 ok ok' hs (ok'.lt ht hg) hf, mul_at2 ok ok' hs (ok'.lt ht hf) hg]
    refine decide_eq_decide.mpr ?_
    rw [Prod.mk.injEq, Prod.mk.injEq, Nat.add_left_cancel_iff]
  rw [tells_eq, tells_eq, a hf hg, b hf hg, a hg hf, b hg hf]
theorem tells_mix (ok : KOk T) (ok' : KOk U) {s t f g : Nat} (hs : s < T.length) (ht : t < U.length) (hf : f < nops T) (hg : g < nops U) : tellsB (mulT T U) (s * U.length + t) f (g + nops T) = false := by
  have b : cB (mulT T U) (s * U.length + t) f (g + nops T) = true := by
    unfold cB
    rw [mul_at1 ok hs ht hf, mul_at2 ok ok' hs ht hg]
    simp only [mul_at1 ok hs (ok'.lt ht hg) hf, mul_at2 ok ok' (ok.lt hs hf) ht hg]
    exact decide_eq_true trivial
  rw [tells_eq, b]
  cases cA (mulT T U) (s * U.length + t) f (g + nops T) <;> cases cA (mulT T U) (s * U.length + t) (g + nops T) f <;> cases cB (mulT T U) (s * U.length + t) (g + nops T) f <;> rfl
end
end K63

set_option Elab.async false
set_option linter.all false
set_option maxRecDepth 100000
set_option maxHeartbeats 4000000
set_option autoImplicit false
namespace K63
open PySem L2 Tx
theorem filt_len (T : Tb) (s : Nat) : ((tellL T).filter fun p => decide (p.1 = s)).length ≤ nops T * nops T ∨ ¬ KOk T := by
  by_cases ok : KOk T
  · refine .inl ?_
    have nd : ((tellL T).filter fun p => decide (p.1 = s)).Nodup := (up_nd (tell_up ok)).sublist List.filter_sublist
    have h := List.Nodup.length_le_of_subset nd (fun p hp => by
      obtain ⟨h1, h2⟩ := List.mem_filter.mp hp
      obtain ⟨_, hf, hg, _⟩ := mem_tell.mp h1
      have e := of_decide_eq_true h2
      refine List.mem_flatMap.mpr ⟨p.2.1, List.mem_range.mpr hf, List.mem_map.mpr ⟨p.2.2, List.mem_range.mpr hg, ?_⟩⟩
      rw [← e] : ∀ p, p ∈ (tellL T).filter (fun p => decide (p.1 = s)) → p ∈ (List.range (nops T)).flatMap fun f => (List.range (nops T)).map fun g => ((s, f, g) : Tri))
    have h2 := flat_le (l := List.range (nops T)) (c := nops T) (f := fun f => (List.range (nops T)).map fun g => ((s, f, g) : Tri)) fun f _ => by rw [List.length_map, List.length_range]; exact Nat.le_refl _
    rw [List.length_range] at h2
    exact Nat.le_trans h h2
  · exact .inr ok
section
variable {T U : Tb}
def mineL (T U : Tb) (i : Nat) : List Tri := (tellL (mulT T U)).filter fun p => decide (p.1 = i)
def want1 (T : Tb) (s i : Nat) : List Tri := ((tellL T).filter fun p => decide (p.1 = s)).map fun p => (i, p.2.1, p.2.2)
def want2 (T U : Tb) (t i : Nat) : List Tri := ((tellL U).filter fun p => decide (p.1 = t)).map fun p => (i, p.2.1 + nops T, p.2.2 + nops T)
theorem mine_perm (ok : KOk T) (ok' : KOk U) (h12 : T.length * U.length ≤ 12) (h8 : nops T + nops U ≤ 8) {s t i : Nat} (hs : s < T.length) (ht : t < U.length) (hi : i = s * U.length + t) : (mineL T U i).Perm (want1 T s i ++ want2 T U t i) := by
  have mok := mul_ok ok ok' h12 h8
  have mn := mul_nops ok ok'
  have ml := mul_len T U
  have lt := mul_lt hs ht
  have nd1 : (want1 T s i).Nodup := by
    unfold want1
    refine List.pairwise_map.mpr (List.Pairwise.imp_of_mem (fun {a b} ha hb h e => h ?_) ((up_nd (tell_up ok)).sublist List.filter_sublist))
    have e1 := of_decide_eq_true (List.mem_filter.mp ha).2
    have e2 := of_decide_eq_true (List.mem_filter.mp hb).2
    injection e with _ e
    injection e with e3 e4
    exact Prod.ext (e1.trans e2.symm) (Prod.ext e3 e4)
  have nd2 : (want2 T U t i).Nodup := by
    unfold want2
    refine List.pairwise_map.mpr (List.Pairwise.imp_of_mem (fun {a b} ha hb h e => h ?_) ((up_nd (tell_up ok')).sublist List.filter_sublist))
    have e1 := of_decide_eq_true (List.mem_filter.mp ha).2
    have e2 := of_decide_eq_true (List.mem_filter.mp hb).2
    injection e with _ e
    injection e with e3 e4
    exact Prod.ext (e1.trans e2.symm) (Prod.ext (by omega) (by omega))
  have nd : (want1 T s i ++ want2 T U t i).Nodup := by
    rw [List.nodup_append]
    refine ⟨nd1, nd2, fun a ha b hb e => ?_⟩
    unfold want1 at ha
    unfold want2 at hb
    obtain ⟨x, hx, rfl⟩ := List.mem_map.mp ha
    obtain ⟨y, hy, rfl⟩ := List.mem_map.mp hb
    have h1 := (mem_tell.mp (List.mem_filter.mp hx).1).2.1
    injection e with _ e
    injection e with e3 e4
    omega
  refine (List.perm_ext_iff_of_nodup ((up_nd (tell_up mok)).sublist List.filter_sublist) nd).mpr fun p => ?_
  · obtain ⟨q, f, g⟩ := p
    unfold want1 want2
    simp only [List.mem_append, List.mem_map, List.mem_filter, mem_tell, decide_eq_true_eq, mn, ml]
    constructor
    · rintro ⟨⟨h1, h2, h3, h4⟩, rfl⟩
      subst hi
      by_cases f1 : f < nops T
      · by_cases g1 : g < nops T
        · exact .inl ⟨(s, f, g), ⟨⟨hs, f1, g1, by rw [← tells_m1 (U := U) ok hs ht f1 g1]; exact h4⟩, rfl⟩, rfl⟩
        · have := tells_mix ok ok' hs ht f1 (show g - nops T < nops U by omega)
          rw [Nat.sub_add_cancel (by omega)] at this
          rw [this] at h4
          cases h4
      · by_cases g1 : g < nops T
        · have := tells_mix ok ok' hs ht g1 (show f - nops T < nops U by omega)
          rw [Nat.sub_add_cancel (by omega), tells_sym] at this
          rw [this] at h4
          cases h4
        · have := tells_m2 ok ok' hs ht (show f - nops T < nops U by omega) (show g - nops T < nops U by omega)
          rw [Nat.sub_add_cancel (by omega), Nat.sub_add_cancel (by omega)] at this
          refine .inr ⟨(t, f - nops T, g - nops T), ⟨⟨ht, by show f - nops T < _; omega, by show g - nops T < _; omega, by rw [← this]; exact h4⟩, rfl⟩, ?_⟩
          show ((s * U.length + t, f - nops T + nops T, g - nops T + nops T) : Tri) = _
          rw [Nat.sub_add_cancel (by omega), Nat.sub_add_cancel (by omega)]
    · rintro (⟨p, ⟨⟨h1, h2, h3, h4⟩, h5⟩, e⟩ | ⟨p, ⟨⟨h1, h2, h3, h4⟩, h5⟩, e⟩)
      · injection e with e1 e
        injection e with e2 e3
        subst e1; subst e2; subst e3; subst h5; subst hi
        exact ⟨⟨lt, by omega, by omega, by rw [tells_m1 ok hs ht h2 h3]; exact h4⟩, rfl⟩
      · injection e with e1 e
        injection e with e2 e3
        subst e1; subst e2; subst e3; subst h5; subst hi
        exact ⟨⟨lt, by omega, by omega, by rw [tells_m2 ok ok' hs ht h2 h3]; exact h4⟩, rfl⟩
theorem no_mix (ok : KOk T) (ok' : KOk U) : ∀ p ∈ tellL (mulT T U), (decide ((p.2.1 : Int) < nops T) : Bool) = decide ((p.2.2 : Int) < nops T) := fun p hp => by
  obtain ⟨h1, h2, h3, h4⟩ := mem_tell.mp hp
  rw [mul_len] at h1
  rw [mul_nops ok ok'] at h2 h3
  have hs := div_lt h1
  have ht := mod_lt h1
  have ei : p.1 = p.1 / U.length * U.length + p.1 % U.length := by rw [Nat.mul_comm]; exact (Nat.div_add_mod _ _).symm
  rw [ei] at h4
  by_cases f1 : p.2.1 < nops T
  · by_cases g1 : p.2.2 < nops T
    · rw [decide_eq_true (by omega), decide_eq_true (by omega)]
    · have := tells_mix ok ok' hs ht f1 (show p.2.2 - nops T < nops U by omega)
      rw [Nat.sub_add_cancel (by omega)] at this
      rw [this] at h4
      cases h4
  · by_cases g1 : p.2.2 < nops T
    · have := tells_mix ok ok' hs ht g1 (show p.2.1 - nops T < nops U by omega)
      rw [Nat.sub_add_cancel (by omega), tells_sym] at this
      rw [this] at h4
      cases h4
    · rw [decide_eq_false (by omega), decide_eq_false (by omega)]
end
abbrev spKL (K : PySem.W.Frag) (C : Addr) : Sp := spS K (pre_kd C) (S_kd C fun T => dN T.length)
section
variable {P : Program} {w : World} {K : PySem.W.Frag} {mg : Str → Option Value} {base : Heap} {C Cq : Addr}
section
variable {m : Mo} {Γ : G} {te ta tb : TE} {T U : Tb} {E : XK}
theorem ev_klen (e : Ev1 m K te Γ (kindD C T)) (ok : KOk T) : Ev1 m K (tCB (rLenU K C (spKL K C)) (tCons te tNil)) Γ (dN T.length) :=
  en_cb1 (ea_cons e ea_nil) (c_lenOS ⟨T, rfl, ok⟩ (fun d h => h T rfl) ⟨by omega, by have := ok.s12; omega⟩)
theorem ev_mul (a : Ev1 m K ta Γ (kindD C T)) (b : Ev1 m K tb Γ (kindD C U)) (ok : KOk T) (ok' : KOk U) (h1 : T.length * U.length ≤ 12) (h2 : nops T + nops U ≤ 8) : Ev1 m K (tOp (rMulO C (spS K (pre_mul C) (S_mul C))) ta tb) Γ (kindD C (mulT T U)) :=
  en_op1 a b (o_mulOS ⟨T, U, rfl, ok, ok', h1, h2⟩ fun z h => h T U rfl)
theorem ev_prod {a b : Nat} (h : Ev1 m K ta Γ (dN a)) (h' : Ev1 m K tb Γ (dN b)) (ha : a ≤ 1000) : Ev1 m K (tOp (rMulU K) ta tb) Γ (dN (a * b)) := Ev1.is (en_op1 h h' (o_mulI (.inl ⟨by omega, by omega⟩))) rfl
theorem ev_sum {a b : Nat} (h : Ev1 m K ta Γ (dN a)) (h' : Ev1 m K tb Γ (dN b)) : Ev1 m K (tOp (rAddU K) ta tb) Γ (dN (a + b)) := Ev1.is (en_op1 h h' o_addI) rfl
end
abbrev CAny (P : Program) (w : World) (K : PySem.W.Frag) (mg : Str → Option Value) (base : Heap) : Prop := C8.Cal P w K mg base 5 "_law_any_table" (spP K pre_tbl S_tbl) []
theorem sc_law_sides_right : FnScope ["_law_jug_here", "_law_table_here", "_law_due", "_law_other", "_law_told", "_law_start", "_law_both", "_law_shift", "_law_mine", "_law_wanted", "_law_s", "_law_t", "_law_one"] ["_law_jug_here", "_law_table_here", "_law_due"] (defScope s_law_sides_right) := ⟨rfl, rfl, rfl, by decide +kernel, rfl, by decide +kernel, by decide +kernel⟩
def pre_sr (ds : List D) : Prop := ∃ T : Tb, ds = [tabD T, .lst ((tellL T).map triD)] ∧ TOk T
theorem ok_law_sides_right {f : Addr} {fd : FuncData} (Fu : Fun K "_law_sides_right" "_law_sides_right" s_law_sides_right f fd) (T : Txt K mg C) (c__law_any_table : CAny P w K mg base) (c__law_all_telling : CAll P w K mg base) (c_telling_plans : CTelling P w K mg base C) (k_Kind1 : CKind P w K mg base C) (O_klen : OwnK P w K mg base C "__len__" 1 (spKL K C)) (O_mul : MulK P w K mg base C 7 (spS K (pre_mul C) (S_mul C))) : FnOk P w K mg base CX0 10 f fd ["_law_jug_here", "_law_table_here", "_law_due"] (spP K pre_sr fun _ d => d = .bl true) := by
  refine fn_pouch Fu sc_law_sides_right (fun ds h => by obtain ⟨M, rfl, _⟩ := h; rfl) fun cdv A outer s H E hr => ⟨_, (pss_cons (ps_set (i := 3) sc_law_sides_right.nd rfl (by first | exact Or.inl rfl | exact Or.inr rfl) (C8.pe_c c__law_any_table hr (by decide) rfl (pa_cons (pv 0) (pa_cons pe_int pa_nil)))) (pss_cons (ps_if (PW.pt (pw_or (pt_cmpR op_gt (pe_op (r := rMulU K) op_mulU (pe_callB (r := rLenS K) cr_len (by rfl) T.len (by decide +kernel) (pa_cons (pv 1) pa_nil)) (pe_callB (r := rLenS K) cr_len (by rfl) T.len (by decide +kernel) (pa_cons (pv 3) pa_nil))) pe_int (nomark _)) (pw_or1 (pt_cmpR op_gt (pe_op (r := rAddU K) op_addU (pe_callB (r := rLenS K) cr_len (by rfl) T.len (by decide +kernel) (pa_cons (pe_ix (r := rIx K) ix_seq (pv 1) pe_int (fun _ _ => rfl)) pa_nil)) (pe_callB (r := rLenS K) cr_len (by rfl) T.len (by decide +kernel) (pa_cons (pe_ix (r := rIx K) ix_seq (pv 3) pe_int (fun _ _ => rfl)) pa_nil))) pe_int (nomark _))))) (pss_one (ps_ret pe_bl)) pss_nil) (pss_cons (ps_asg (pe_tup (pa_cons (pe_op (r := rMulO C (spS K (pre_mul C) (S_mul C))) (op_mulO O_mul hr (by decide)) (C8.pe_mk k_Kind1 hr (by decide) rfl (pa_cons (pv 1) pa_nil)) (C8.pe_mk k_Kind1 hr (by decide) rfl (pa_cons (pv 3) pa_nil))) (pa_cons (pe_callB (r := rLenS K) cr_len (by rfl) T.len (by decide +kernel) (pa_cons (pe_ix (r := rIx K) ix_seq (pv 1) pe_int (fun _ _ => rfl)) pa_nil)) pa_nil))) (show PG _ _ (gTup K 2 (gCons (gName 6) (gCons (gName 7) gNil))) from pg_tup rfl (pgs_cons (pg_name (i := 6) sc_law_sides_right.nd rfl (by first | exact Or.inl rfl | exact Or.inr rfl)) (pgs_cons (pg_name (i := 7) sc_law_sides_right.nd rfl (by first | exact Or.inl rfl | exact Or.inr rfl)) pgs_nil)))) (pss_cons (ps_set (i := 4) sc_law_sides_right.nd rfl (by first | exact Or.inl rfl | exact Or.inr rfl) (C8.pe_c c_telling_plans hr (by decide) rfl (pa_cons (pv 6) pa_nil))) (pss_cons (ps_for PassesOwn.never rfl (pi_range1 rfl T.range (pa_cons (pe_callB (r := rLenU K C (spKL K C)) (cr_lenK O_klen hr (by decide)) (by rfl) T.len (by decide +kernel) (pa_cons (pv 6) pa_nil)) pa_nil)) (pg_name (i := 5) sc_law_sides_right.nd rfl (by first | exact Or.inl rfl | exact Or.inr rfl)) (pss_cons (ps_asg (pe_tup (pa_cons (pe_op op_fdiv (pv 5) (pe_callB (r := rLenS K) cr_len (by rfl) T.len (by decide +kernel) (pa_cons (pv 3) pa_nil))) (pa_cons (pe_op op_mod (pe_callTy cr_int (by rfl) T.int (by decide +kernel) (pa_cons (pv 5) pa_nil)) (pe_callB (r := rLenS K) cr_len (by rfl) T.len (by decide +kernel) (pa_cons (pv 3) pa_nil))) pa_nil))) (show PG _ _ (gTup K 2 (gCons (gName 10) (gCons (gName 11) gNil))) from pg_tup rfl (pgs_cons (pg_name (i := 10) sc_law_sides_right.nd rfl (by first | exact Or.inl rfl | exact Or.inr rfl)) (pgs_cons (pg_name (i := 11) sc_law_sides_right.nd rfl (by first | exact Or.inl rfl | exact Or.inr rfl)) pgs_nil)))) (pss_cons (ps_setLc (i := 8) (own := [("_law_one", 12)]) rfl sc_law_sides_right.nd rfl rfl (sw_true rfl rfl rfl (by decide +kernel)) (show PI _ _ _ (iSeq K _) from pi_seq (pv 4)) (blkOk_by (by kernel_rfl)) (fun _ _ _ _ _ => (pg_name (i := 12) sc_law_sides_right.nd rfl (by first | exact Or.inl rfl | exact Or.inr rfl))) (fun _ _ _ _ _ => (pts_one (pt_cmpR (r := rEqD K) (op_eqD hr.units) (pe_ix (r := rIx K) ix_seq (pv 12) pe_int (fun _ _ => rfl)) (pv 5) (nomark _)))) (fun _ _ _ _ _ => (pv 12))) (pss_cons (ps_setLc (i := 9) (own := [("_law_one", 12)]) rfl sc_law_sides_right.nd rfl rfl (sw_true rfl rfl rfl (by decide +kernel)) (show PI _ _ _ (iSeq K _) from pi_seq (pv 2)) (blkOk_by (by kernel_rfl)) (fun _ _ _ _ _ => (pg_name (i := 12) sc_law_sides_right.nd rfl (by first | exact Or.inl rfl | exact Or.inr rfl))) (fun _ _ _ _ _ => (pts_one (pt_cmpR (r := rEqD K) (op_eqD hr.units) (pe_ix (r := rIx K) ix_seq (pv 12) pe_int (fun _ _ => rfl)) (pv 10) (nomark _)))) (fun _ _ _ _ _ => (pe_tup (pa_cons (pv 5) (pa_cons (pe_ix (r := rIx K) ix_seq (pv 12) pe_int (fun _ _ => rfl)) (pa_cons (pe_ix (r := rIx K) ix_seq (pv 12) pe_int (fun _ _ => rfl)) pa_nil)))))) (pss_cons (ps_set (i := 9) sc_law_sides_right.nd rfl (by first | exact Or.inl rfl | exact Or.inr rfl) (pe_op (r := rAddU K) op_addU (pv 9) (pe_lc (own := [("_law_one", 12)]) rfl sc_law_sides_right.nd (show PI _ _ _ (iSeq K _) from pi_seq (C8.pe_c c__law_all_telling hr (by decide) rfl (pa_cons (pv 3) pa_nil))) (blkOk_by (by kernel_rfl)) (fun _ _ _ _ _ => (pg_name (i := 12) sc_law_sides_right.nd rfl (by first | exact Or.inl rfl | exact Or.inr rfl))) (fun _ _ _ _ _ => (pts_one (pt_cmpR (r := rEqD K) (op_eqD hr.units) (pe_ix (r := rIx K) ix_seq (pv 12) pe_int (fun _ _ => rfl)) (pv 11) (nomark _)))) (fun _ _ _ _ _ => (pe_tup (pa_cons (pv 5) (pa_cons (pe_op (r := rAddU K) op_addU (pe_ix (r := rIx K) ix_seq (pv 12) pe_int (fun _ _ => rfl)) (pv 7)) (pa_cons (pe_op (r := rAddU K) op_addU (pe_ix (r := rIx K) ix_seq (pv 12) pe_int (fun _ _ => rfl)) (pv 7)) pa_nil)))))))) (pss_one (ps_if (pt_cmpR (r := rNeD K) (op_neD hr.units) (pv 8) (pe_callB (r := rSortU K 3 64) (cr_sortT (by decide)) (by rfl) T.sorted (by decide +kernel) (pa_cons (pv 9) pa_nil)) (nomark _)) (pss_one (ps_ret pe_bl)) pss_nil))))))) (pss_one (ps_ret (pe_cmpR (r := rEqD K) (op_eqD hr.units) (pe_lc (own := [("_law_one", 12)]) rfl sc_law_sides_right.nd (show PI _ _ _ (iSeq K _) from pi_seq (pv 4)) (blkOk_by (by kernel_rfl)) (fun _ _ _ _ _ => (pg_name (i := 12) sc_law_sides_right.nd rfl (by first | exact Or.inl rfl | exact Or.inr rfl))) (fun _ _ _ _ _ => (pts_one (pt_cmpR (r := rNeD K) (op_neD hr.units) (pe_cmpR op_lt (pe_ix (r := rIx K) ix_seq (pv 12) pe_int (fun _ _ => rfl)) (pv 7) (nomark _)) (pe_cmpR op_lt (pe_ix (r := rIx K) ix_seq (pv 12) pe_int (fun _ _ => rfl)) (pv 7) (nomark _)) (nomark _)))) (fun _ _ _ _ _ => (pv 12))) (pe_lst pa_nil) (nomark _))))))))), fun p F ds hp => ?_⟩
  obtain ⟨M, rfl, tok⟩ := hp
  have ok := tok.ok
  have s5 := tok.s5
  have o4 := tok.o4
  have HP := HasP.self p F
  refine sq_asgN (S := fun d => ∃ U : Tb, d = tabD U ∧ TOk U) (en_pcall1 HP (ds := [dN 2]) (ea_cons (en_var 0 rfl) (ea_cons (en_int 2) ea_nil)) ⟨2, rfl, by decide, by decide⟩ fun d hd => hd) ?_
  rintro _ ⟨U, rfl, tok'⟩
  have ok' := tok'.ok
  have s5' := tok'.s5
  have o4' := tok'.o4
  have u1 := ok'.s1
  refine sg_seqIf (b := decide (12 < M.length * U.length) || decide (8 < nops M + nops U)) (EvT1.is (et_or (p := decide (12 < M.length * U.length)) (k := decide (8 < nops M + nops U)) (EvT1.is (et_test (en_op1 (ev_prod (ev_tl (en_var 1 rfl)) (ev_tl (en_var 3 rfl)) (by omega)) (en_int 12) o_bl)) (decide_eq_decide.mpr (by omega))) fun _ => EvT1.is (et_test (en_op1 (ev_sum (ev_n0 (en_var 1 rfl) ok) (ev_n0 (en_var 3 rfl) ok')) (en_int 8) o_bl)) (decide_eq_decide.mpr (by omega))) (by cases decide (12 < M.length * U.length) <;> rfl)) (fun _ => sg_ret (en_bl true) rfl) fun e => ?_
  rw [Bool.or_eq_false_iff, decide_eq_false_iff_not, decide_eq_false_iff_not] at e
  have h12 : M.length * U.length ≤ 12 := by omega
  have h8 : nops M + nops U ≤ 8 := by omega
  have mok := mul_ok ok ok' h12 h8
  have ml := mul_len M U
  have mn := mul_nops ok ok'
  have tl := tell_len (mulT M U)
  have tlm : (tellL (mulT M U)).length ≤ 12 * (8 * 8) := Nat.le_trans tl (Nat.mul_le_mul (by rw [ml]; exact h12) (Nat.mul_le_mul (by rw [mn]; exact h8) (by rw [mn]; exact h8)))
  have tl1 : (tellL M).length ≤ 5 * (4 * 4) := Nat.le_trans (tell_len M) (Nat.mul_le_mul s5 (Nat.mul_le_mul o4 o4))
  have tl2 : (tellL U).length ≤ 5 * (4 * 4) := Nat.le_trans (tell_len U) (Nat.mul_le_mul s5' (Nat.mul_le_mul o4' o4'))
  refine sq_asgT (S := fun d => d = .tup [kindD C (mulT M U), dN (nops M)]) (en_tup (ea_cons (ev_mul (ev_kind (en_var 1 rfl) ok) (ev_kind (en_var 3 rfl) ok') ok ok' h12 h8) (ea_cons (ev_n0 (en_var 1 rfl) ok) ea_nil)) (by simp)) ?_
  rintro _ rfl
  refine ⟨_, _, tg_pair, ?_⟩
  refine sq_asg (d := tellD (mulT M U)) (ev_telling (en_var 6 rfl) mok) ?_
  let Γs : Option D → Option D → Option D → Option D → Option D → G := fun x5 x8 x9 x10 x11 => [some (.adr p), some (tabD M), some (.lst ((tellL M).map triD)), some (tabD U), some (tellD (mulT M U)), x5, some (kindD C (mulT M U)), some (dN (nops M)), x8, x9, x10, x11, none]
  show SG (pouchMo p F) K _ (Γs none none none none none) _
  refine sg_seq (fun Γ' => ∃ x5 x8 x9 x10 x11, Γ' = Γs x5 x8 x9 x10 x11) (sg_for (js := [5]) (T := fun x => x = (List.range (mulT M U).length).map dN) (it_rng (n := (mulT M U).length) (ea_cons (ev_klen (en_var 6 rfl) mok) ea_nil) (by rw [ml]; omega)) (fun _ _ Γ' => ∃ x5 x8 x9 x10 x11, Γ' = Γs x5 x8 x9 x10 x11) (fun _ _ => ⟨none, none, none, none, none, rfl⟩) ?_ (fun _ Γ' _ w => w)) ?_
  · rintro ys i d Γ' rfl hd ⟨x5, x8, x9, x10, x11, rfl⟩
    have hi := (List.getElem?_eq_some_iff.mp hd).1
    rw [List.length_map, List.length_range] at hi
    rw [List.getElem?_map, List.getElem?_range hi] at hd
    injection hd with hd
    subst hd
    rw [ml] at hi
    have hs := div_lt hi
    have ht := mod_lt hi
    obtain ⟨q, hq⟩ : ∃ q, i / U.length = q := ⟨_, rfl⟩
    obtain ⟨t, htq⟩ : ∃ t, i % U.length = t := ⟨_, rfl⟩
    have ei : i = q * U.length + t := by rw [← hq, ← htq, Nat.mul_comm]; exact (Nat.div_add_mod _ _).symm
    rw [hq] at hs
    rw [htq] at ht
    refine ⟨_, tg_name 5, ?_⟩
    show SG (pouchMo p F) K _ (Γs (some (dN i)) x8 x9 x10 x11) _
    have cd : CDiv (i : Int) (U.length : Int) := ⟨by omega, by omega⟩
    refine sq_asgT (S := fun d => d = .tup [dN q, dN t]) (en_tup (ea_cons (Ev1.is (en_op1 (en_var 5 rfl) (ev_tl (en_var 3 rfl)) (o_intC (g := fun i j => i / j) cd)) (by rw [← hq]; exact congrArg D.int (Int.natCast_ediv _ _).symm)) (ea_cons (Ev1.is (en_op1 (en_cb1 (ea_cons (en_var 5 rfl) ea_nil) c_intI) (ev_tl (en_var 3 rfl)) (o_intC (g := fun i j => i % j) (by show (0 : Int) < (U.length : Int); omega))) (by rw [← htq]; exact congrArg D.int (Int.natCast_emod _ _).symm)) ea_nil)) (by simp)) ?_
    rintro _ rfl
    refine ⟨_, _, tg_pair, ?_⟩
    show SG (pouchMo p F) K _ (Γs (some (dN i)) x8 x9 (some (dN q)) (some (dN t))) _
    refine sq_asg (d := .lst ((mineL M U i).map triD)) (Ev1.is (en_lcM (xs := tellL (mulT M U)) triD (fun p => decide (p.1 = i)) triD (fun x _ y _ e => triD_inj e) (js := [12]) (by simp) (it_seq (d := tellD (mulT M U)) (en_var 4 rfl) (.inl rfl)) (by omega) fun m' le o ho => ⟨_, tg_name 12, EvT1.is (et_test (en_op1 (ev_t0 (en_var 12 rfl)) (en_var 5 rfl) o_eqI)) (decide_eq_decide.mpr (by omega)), fun _ => en_var 12 rfl⟩) rfl) ?_
    show SG (pouchMo p F) K _ (Γs (some (dN i)) (some (.lst ((mineL M U i).map triD))) x9 (some (dN q)) (some (dN t))) _
    refine sq_asg (d := .lst ((want1 M q i).map triD)) (Ev1.is (en_lcM (xs := tellL M) triD (fun p => decide (p.1 = q)) (fun p => triD (i, p.2.1, p.2.2)) (fun x _ y _ e => triD_inj e) (js := [12]) (by simp) (it_seq (d := .lst ((tellL M).map triD)) (en_var 2 rfl) (.inr (.inl rfl))) (by omega) fun m' le o ho => ⟨_, tg_name 12, EvT1.is (et_test (en_op1 (ev_t0 (en_var 12 rfl)) (en_var 10 rfl) o_eqI)) (decide_eq_decide.mpr (by omega)), fun _ => en_tup (ea_cons (en_var 5 rfl) (ea_cons (ev_t1 (p := o) (en_var 12 rfl)) (ea_cons (ev_t2 (p := o) (en_var 12 rfl)) ea_nil))) (by simp)⟩) (by unfold want1; rw [List.map_map]; rfl)) ?_
    show SG (pouchMo p F) K _ (Γs (some (dN i)) (some (.lst ((mineL M U i).map triD))) (some (.lst ((want1 M q i).map triD))) (some (dN q)) (some (dN t))) _
    have w1 : (want1 M q i).length ≤ 4 * 4 := by
      unfold want1
      rw [List.length_map]
      exact Nat.le_trans ((filt_len M q).elim id fun n => absurd ok n) (Nat.mul_le_mul o4 o4)
    have w2 : (want2 M U t i).length ≤ 4 * 4 := by
      unfold want2
      rw [List.length_map]
      exact Nat.le_trans ((filt_len U t).elim id fun n => absurd ok' n) (Nat.mul_le_mul o4' o4')
    refine sq_asg (d := .lst ((want1 M q i ++ want2 M U t i).map triD)) (Ev1.is (en_op1 (b := .lst ((want2 M U t i).map triD)) (en_var 9 rfl) (Ev1.is (en_lcM (xs := tellL U) triD (fun p => decide (p.1 = t)) (fun p => triD (i, p.2.1 + nops M, p.2.2 + nops M)) (fun x _ y _ e => triD_inj e) (js := [12]) (by simp) (it_seq (ev_all (en_var 3 rfl) ok') (.inr (.inl rfl))) (by omega) fun m' le o ho => ⟨_, tg_name 12, EvT1.is (et_test (en_op1 (ev_t0 (en_var 12 rfl)) (en_var 11 rfl) o_eqI)) (decide_eq_decide.mpr (by omega)), fun _ => en_tup (ea_cons (en_var 5 rfl) (ea_cons (ev_sum (ev_t1 (p := o) (en_var 12 rfl)) (en_var 7 rfl)) (ea_cons (ev_sum (ev_t2 (p := o) (en_var 12 rfl)) (en_var 7 rfl)) ea_nil))) (by simp)⟩) (by unfold want2; rw [List.map_map]; rfl)) (o_addL (by rw [List.length_map, List.length_map]; omega))) (by rw [List.map_append])) ?_
    show SG (pouchMo p F) K _ (Γs (some (dN i)) (some (.lst ((mineL M U i).map triD))) (some (.lst ((want1 M q i ++ want2 M U t i).map triD))) (some (dN q)) (some (dN t))) _
    have pm := mine_perm ok ok' h12 h8 hs ht ei
    refine sg_if (b := false) (et_test (en_op1 (a := .lst ((mineL M U i).map triD)) (en_var 8 rfl) (en_cb1 (ea_cons (en_var 9 rfl) ea_nil) (c_sort3 (L := want1 M q i ++ want2 M U t i) (by rw [List.length_append]; omega) pm (fun x hx => tell_small mok x (List.mem_filter.mp (pm.mem_iff.mpr hx)).1) ((tell_up mok).sublist List.filter_sublist))) (o_neS (n := 2) (by decide) (pur_tris _)))) (fun e => nomatch e) fun _ => sg_next ⟨_, _, _, _, _, rfl⟩
  rintro _ ⟨x5, x8, x9, x10, x11, rfl⟩
  refine sg_ret (d := .bl true) (en_op1 (a := .lst []) (Ev1.is (en_lcM (xs := tellL (mulT M U)) triD (fun p => !PyData.eqv (D.bl (decide ((p.2.1 : Int) < nops M))).py (D.bl (decide ((p.2.2 : Int) < nops M))).py) triD (fun x _ y _ e => triD_inj e) (js := [12]) (by simp) (it_seq (d := tellD (mulT M U)) (en_var 4 rfl) (.inl rfl)) (by omega) fun m' le o ho => ⟨_, tg_name 12, et_test (en_op1 (en_op1 (ev_t1 (en_var 12 rfl)) (en_var 7 rfl) o_bl) (en_op1 (ev_t2 (en_var 12 rfl)) (en_var 7 rfl) o_bl) (o_neP (n := 0) (by decide) rfl rfl)), fun _ => en_var 12 rfl⟩) ?_) (en_lst ea_nil (by simp)) (o_eqS (n := 1) (by decide) rfl)) rfl
  rw [List.filter_eq_nil_iff.mpr (fun o ho => by rw [no_mix ok ok' o ho, eqv_self (n := 0) rfl]; decide)]
  rfl
end
end K63

set_option Elab.async false
set_option linter.all false
set_option maxRecDepth 100000
set_option maxHeartbeats 4000000
set_option autoImplicit false
namespace K63
open PySem L2 Tx
theorem tri_eqv {p q : Tri} : PyData.eqv (triD p).py (triD q).py = decide (p = q) := by
  cases h : decide (p = q) with
  | true => rw [of_decide_eq_true h]; exact eqv_self (pur_tri _)
  | false =>
    have n := of_decide_eq_false h
    obtain ⟨a, b, c⟩ := p
    obtain ⟨a', b', c'⟩ := q
    simp only [triD, D.py, D.pys, PyData.eqv, PyData.eqvAll]
    have : ¬ (a = a' ∧ b = b' ∧ c = c') := fun z => n (by rw [z.1, z.2.1, z.2.2])
    simp
    intro e1 e2 e3
    exact this ⟨by omega, by omega, by omega⟩
theorem tri_any {L : List Tri} {p : Tri} : ((D.pys (L.map triD)).any fun z => PyData.eqv z (triD p).py) = decide (p ∈ L) := by
  rw [pys_map, List.map_map, List.any_map]
  have e : ((fun z => PyData.eqv z (triD p).py) ∘ (D.py ∘ triD)) = fun q : Tri => decide (q = p) := by funext q; exact tri_eqv
  rw [e]
  induction L with
  | nil => rfl
  | cons x L ih =>
    rw [List.any_cons, ih]
    by_cases h : x = p
    · subst h; simp
    · by_cases h2 : p ∈ L
      · simp [h2]
      · have : p ∉ x :: L := fun z => (List.mem_cons.mp z).elim (fun z => h z.symm) h2
        simp [h, h2, this]
section
variable {P : Program} {w : World} {K : PySem.W.Frag} {mg : Str → Option Value} {base : Heap} {C Cq : Addr}
section
variable {m : Mo} {L : List Tri} {p : Tri}
theorem lst_pys (L : List Tri) : SeqAt.shaped (.list (D.pys (L.map triD))) = true := pur_shaped (n := 2) (d := .lst (L.map triD)) (by decide) (pur_tris L)
theorem o_inT : Op1 m K (rInS K false) (triD p) (.lst (L.map triD)) (.bl (decide (p ∈ L))) := by
  have h := o_inS (m := m) (K := K) (neg := false) (a := triD p) (b := .lst (L.map triD)) (ds := L.map triD) (.inr (.inl rfl)) (pur_all 1 _ (pur_tri p)).1 (plains_of fun x hx => by obtain ⟨q, _, rfl⟩ := List.mem_map.mp hx; exact (pur_all 1 _ (pur_tri q)).1) (pur_shaped (by decide) (pur_tri p)) (lst_pys L)
  rw [tri_any] at h
  exact h
theorem o_niT : Op1 m K (rInS K true) (triD p) (.lst (L.map triD)) (.bl (!decide (p ∈ L))) := by
  have h := o_inS (m := m) (K := K) (neg := true) (a := triD p) (b := .lst (L.map triD)) (ds := L.map triD) (.inr (.inl rfl)) (pur_all 1 _ (pur_tri p)).1 (plains_of fun x hx => by obtain ⟨q, _, rfl⟩ := List.mem_map.mp hx; exact (pur_all 1 _ (pur_tri q)).1) (pur_shaped (by decide) (pur_tri p)) (lst_pys L)
  rw [tri_any] at h
  exact h
end
abbrev CRel (P : Program) (w : World) (K : PySem.W.Frag) (mg : Str → Option Value) (base : Heap) (C : Addr) : Prop := C8.Met P w K mg base 7 C "relabeled" (spS K (pre_rel C) (S_rel C)) []
abbrev CSides (P : Program) (w : World) (K : PySem.W.Frag) (mg : Str → Option Value) (base : Heap) : Prop := C8.Cal P w K mg base 10 "_law_sides_right" (spP K pre_sr fun _ d => d = .bl true) []
section
variable {m : Mo} {Γ : G} {te ta tb : TE} {T : Tb} {E : XK}
theorem ev_rel {ss os : List Nat} (e : Ev1 m K te Γ (kindD C T)) (a : Ev1 m K ta Γ (tupN ss)) (b : Ev1 m K tb Γ (tupN os)) (ok : KOk T) (ps : ss.Perm (List.range T.length)) (po : os.Perm (List.range (nops T))) : Ev1 m K (tMeth C "relabeled" (spS K (pre_rel C) (S_rel C)) [] E te (tCons ta (tCons tb tNil))) Γ (kindD C (relT T ss os)) :=
  en_methN (T := fun ds => ds = [tupN ss, tupN os]) e (by decide) (ea_cons a (ea_cons b ea_nil)) (fun ds z => by rw [z]; exact ⟨T, ss, os, rfl, ok, ps, po⟩) fun ds d z h => by rw [z] at h; exact h T ss os rfl
end
theorem sc_law_right : FnScope ["_law_jug_here", "_law_table_here", "_law_moved", "_law_plan", "_law_kind", "_law_due", "_law_states", "_law_operations", "_law_one"] ["_law_jug_here"] (defScope s_law_right) := ⟨rfl, rfl, rfl, by decide +kernel, rfl, by decide +kernel, by decide +kernel⟩
theorem ok_law_right {f : Addr} {fd : FuncData} (Fu : Fun K "_law_right" "_law_right" s_law_right f fd) (T : Txt K mg C)
    (c__law_any_table : CAny P w K mg base) (c__law_all_telling : CAll P w K mg base) (c__law_order_of : COrd P w K mg base) (c_telling_plans : CTelling P w K mg base C)
    (c__law_plan_drawn : C8.Cal P w K mg base 2 "_law_plan_drawn" (spP K pre_pd S_pd) []) (c__law_made_plan : C8.Cal P w K mg base 7 "_law_made_plan" (spS K pre_mp (S_mp C Cq)) [])
    (c_tells : CTells P w K mg base C Cq) (c__law_sides_right : CSides P w K mg base)
    (k_Kind1 : CKind P w K mg base C) (m_relabeled : CRel P w K mg base C) : FnOk P w K mg base CX0 11 f fd ["_law_jug_here"] (spP K (fun ds => ds = []) fun _ d => d = .bl true) := by
  refine fn_pouch Fu sc_law_right (fun ds h => by subst h; rfl) fun cdv A outer s H E hr => ⟨_, (pss_cons (ps_set (i := 1) sc_law_right.nd rfl (by first | exact Or.inl rfl | exact Or.inr rfl) (C8.pe_c c__law_any_table hr (by decide) rfl (pa_cons (pv 0) (pa_cons pe_int pa_nil)))) (pss_cons (ps_asg (pe_tup (pa_cons (C8.pe_mk k_Kind1 hr (by decide) rfl (pa_cons (pv 1) pa_nil)) (pa_cons (C8.pe_c c__law_all_telling hr (by decide) rfl (pa_cons (pv 1) pa_nil)) pa_nil))) (show PG _ _ (gTup K 2 (gCons (gName 4) (gCons (gName 5) gNil))) from pg_tup rfl (pgs_cons (pg_name (i := 4) sc_law_right.nd rfl (by first | exact Or.inl rfl | exact Or.inr rfl)) (pgs_cons (pg_name (i := 5) sc_law_right.nd rfl (by first | exact Or.inl rfl | exact Or.inr rfl)) pgs_nil)))) (pss_cons (ps_if (PW.pt (pw_or (pt_cmpR (r := rNeD K) (op_neD hr.units) (pe_callTy (r := rLst K) cr_lst (by rfl) T.list (by decide +kernel) (pa_cons (C8.pe_c c_telling_plans hr (by decide) rfl (pa_cons (pv 4) pa_nil)) pa_nil)) (pv 5) (nomark _)) (pw_or1 (pt_cmpR (r := rNeD K) (op_neD hr.units) (C8.pe_c c_telling_plans hr (by decide) rfl (pa_cons (pv 4) pa_nil)) (C8.pe_c c_telling_plans hr (by decide) rfl (pa_cons (C8.pe_mk k_Kind1 hr (by decide) rfl (pa_cons (pv 1) pa_nil)) pa_nil)) (nomark _))))) (pss_one (ps_ret pe_bl)) pss_nil) (pss_cons (ps_if (pt_cmpR (r := rNeD K) (op_neD hr.units) (pe_lc (own := [("_law_one", 8)]) rfl sc_law_right.nd (show PI _ _ _ (iSeq K _) from pi_seq (pv 5)) (blkOk_by (by kernel_rfl)) (fun _ _ _ _ _ => (pg_name (i := 8) sc_law_right.nd rfl (by first | exact Or.inl rfl | exact Or.inr rfl))) (fun _ _ _ _ _ => (pts_one (pt_cmpR (r := rInS K true) (op_notInS (hu65 hr)) (pe_tup (pa_cons (pe_ix (r := rIx K) ix_seq (pv 8) pe_int (fun _ _ => rfl)) (pa_cons (pe_ix (r := rIx K) ix_seq (pv 8) pe_int (fun _ _ => rfl)) (pa_cons (pe_ix (r := rIx K) ix_seq (pv 8) pe_int (fun _ _ => rfl)) pa_nil)))) (pv 5) (by rfl)))) (fun _ _ _ _ _ => (pv 8))) (pe_lst pa_nil) (nomark _)) (pss_one (ps_ret pe_bl)) pss_nil) (pss_cons (ps_asg (pe_tup (pa_cons (C8.pe_c c__law_order_of hr (by decide) rfl (pa_cons (pv 0) (pa_cons (pe_callB (r := rLenS K) cr_len (by rfl) T.len (by decide +kernel) (pa_cons (pv 1) pa_nil)) pa_nil))) (pa_cons (C8.pe_c c__law_order_of hr (by decide) rfl (pa_cons (pv 0) (pa_cons (pe_callB (r := rLenS K) cr_len (by rfl) T.len (by decide +kernel) (pa_cons (pe_ix (r := rIx K) ix_seq (pv 1) pe_int (fun _ _ => rfl)) pa_nil)) pa_nil))) pa_nil))) (show PG _ _ (gTup K 2 (gCons (gName 6) (gCons (gName 7) gNil))) from pg_tup rfl (pgs_cons (pg_name (i := 6) sc_law_right.nd rfl (by first | exact Or.inl rfl | exact Or.inr rfl)) (pgs_cons (pg_name (i := 7) sc_law_right.nd rfl (by first | exact Or.inl rfl | exact Or.inr rfl)) pgs_nil)))) (pss_cons (ps_set (i := 2) sc_law_right.nd rfl (by first | exact Or.inl rfl | exact Or.inr rfl) (pe_callB (r := rSortU K 3 64) (cr_sortT (by decide)) (by rfl) T.sorted (by decide +kernel) (pa_cons (pe_lc (own := [("_law_one", 8)]) rfl sc_law_right.nd (show PI _ _ _ (iSeq K _) from pi_seq (pv 5)) (blkOk_by (by kernel_rfl)) (fun _ _ _ _ _ => (pg_name (i := 8) sc_law_right.nd rfl (by first | exact Or.inl rfl | exact Or.inr rfl))) (fun _ _ _ _ _ => pts_nil) (fun _ _ _ _ _ => (pe_tup (pa_cons (pe_ix (r := rIx K) ix_seq (pv 6) (pe_ix (r := rIx K) ix_seq (pv 8) pe_int (fun _ _ => rfl)) (fun _ _ => rfl)) (pa_cons (pe_ix (r := rIx K) ix_seq (pv 7) (pe_ix (r := rIx K) ix_seq (pv 8) pe_int (fun _ _ => rfl)) (fun _ _ => rfl)) (pa_cons (pe_ix (r := rIx K) ix_seq (pv 7) (pe_ix (r := rIx K) ix_seq (pv 8) pe_int (fun _ _ => rfl)) (fun _ _ => rfl)) pa_nil)))))) pa_nil))) (pss_cons (ps_if (pt_cmpR (r := rNeD K) (op_neD hr.units) (pe_callTy (r := rLst K) cr_lst (by rfl) T.list (by decide +kernel) (pa_cons (C8.pe_c c_telling_plans hr (by decide) rfl (pa_cons (C8.pe_mt m_relabeled hr (by decide) (pv 4) (pa_cons (pv 6) (pa_cons (pv 7) pa_nil))) pa_nil)) pa_nil)) (pv 2) (nomark _)) (pss_one (ps_ret pe_bl)) pss_nil) (pss_cons (ps_set (i := 3) sc_law_right.nd rfl (by first | exact Or.inl rfl | exact Or.inr rfl) (C8.pe_c c__law_plan_drawn hr (by decide) rfl (pa_cons (pv 0) (pa_cons (pv 1) pa_nil)))) (pss_cons (ps_if (pt_cmpR (r := rNeD K) (op_neD hr.units) (C8.pe_c c_tells hr (by decide) rfl (pa_cons (C8.pe_c c__law_made_plan hr (by decide) rfl (pa_cons (pv 1) (pa_cons (pv 3) pa_nil))) pa_nil)) (pe_cmpR (r := rInS K false) (op_inS (hu65 hr)) (pv 3) (pv 5) (by rfl)) (nomark _)) (pss_one (ps_ret pe_bl)) pss_nil) (pss_one (ps_ret (C8.pe_c c__law_sides_right hr (by decide) rfl (pa_cons (pv 0) (pa_cons (pv 1) (pa_cons (pv 5) pa_nil))))))))))))))), fun p F ds hp => ?_⟩
  subst hp
  have HP := HasP.self p F
  refine sq_asgN (S := fun d => ∃ T : Tb, d = tabD T ∧ TOk T) (en_pcall1 HP (ds := [dN 4]) (ea_cons (en_var 0 rfl) (ea_cons (en_int 4) ea_nil)) ⟨4, rfl, by decide, by decide⟩ fun d hd => hd) ?_
  rintro _ ⟨M, rfl, tok⟩
  have ok := tok.ok
  have s12 := ok.s12
  have o8 := ok.o8
  have tl : (tellL M).length ≤ 48 := Nat.le_trans (tell_len M) tok.sq
  refine sq_asgT (S := fun d => d = .tup [kindD C M, .lst ((tellL M).map triD)]) (en_tup (ea_cons (ev_kind (en_var 1 rfl) ok) (ea_cons (ev_all (en_var 1 rfl) ok) ea_nil)) (by simp)) ?_
  rintro _ rfl
  refine ⟨_, _, tg_pair, ?_⟩
  let Γs : Option D → Option D → Option D → Option D → G := fun x2 x3 x6 x7 => [some (.adr p), some (tabD M), x2, x3, some (kindD C M), some (.lst ((tellL M).map triD)), x6, x7, none]
  show SG (pouchMo p F) K _ (Γs none none none none) _
  refine sg_seqIf (b := false) (EvT1.is (et_or (p := false) (k := false) (et_test (en_op1 (a := .lst ((tellL M).map triD)) (ev_ltell (en_var 4 rfl) ok) (en_var 5 rfl) (o_neS (n := 2) (by decide) (pur_tris _)))) fun _ => et_test (en_op1 (a := tellD M) (ev_telling (en_var 4 rfl) ok) (ev_telling (ev_kind (en_var 1 rfl) ok) ok) (o_neS (n := 2) (by decide) (pur_trit _)))) rfl) (fun e => nomatch e) fun _ => ?_
  refine sg_seqIf (b := false) (et_test (en_op1 (a := .lst []) (Ev1.is (en_lcM (xs := tellL M) triD (fun q => !decide ((q.1, q.2.2, q.2.1) ∈ tellL M)) triD (fun x _ y _ e => triD_inj e) (js := [8]) (by simp) (it_seq (d := .lst ((tellL M).map triD)) (en_var 5 rfl) (.inr (.inl rfl))) (by omega) fun m' le o ho => ⟨_, tg_name 8, et_test (en_op1 (a := triD (o.1, o.2.2, o.2.1)) (en_tup (ea_cons (ev_t0 (p := o) (en_var 8 rfl)) (ea_cons (ev_t2 (p := o) (en_var 8 rfl)) (ea_cons (ev_t1 (p := o) (en_var 8 rfl)) ea_nil))) (by simp)) (en_var 5 rfl) o_niT), fun _ => en_var 8 rfl⟩) ?_) (en_lst ea_nil (by simp)) (o_neS (n := 1) (by decide) rfl))) (fun e => nomatch e) fun _ => ?_
  · rw [List.filter_eq_nil_iff.mpr (fun o ho => ?_)]
    · rfl
    · obtain ⟨h1, h2, h3, h4⟩ := mem_tell.mp ho
      have : ((o.1, o.2.2, o.2.1) : Tri) ∈ tellL M := mem_tell.mpr ⟨h1, h3, h2, by rw [tells_sym]; exact h4⟩
      rw [decide_eq_true this]
      decide
  refine sq_asgT (S := fun d => ∃ ss os, d = .tup [ftN ss, ftN os] ∧ ss.Perm (List.range M.length) ∧ os.Perm (List.range (nops M))) (EvN.mono (en_tupN (T := fun ds => ∃ ss os, ds = [ftN ss, ftN os] ∧ ss.Perm (List.range M.length) ∧ os.Perm (List.range (nops M))) (ea_consN (S := fun d => ∃ ss, d = ftN ss ∧ ss.Perm (List.range M.length)) (en_pcall1 HP (ds := [dN M.length]) (ea_cons (en_var 0 rfl) (ea_cons (ev_tl (en_var 1 rfl)) ea_nil)) ⟨_, rfl, by omega⟩ fun d hd => hd _ rfl) (ea_consN (S := fun d => ∃ os, d = ftN os ∧ os.Perm (List.range (nops M))) (T := fun ds => ds = []) (U := fun ds => ∃ os, ds = [ftN os] ∧ os.Perm (List.range (nops M))) (en_pcall1 HP (ds := [dN (nops M)]) (ea_cons (en_var 0 rfl) (ea_cons (ev_n0 (en_var 1 rfl) ok) ea_nil)) ⟨_, rfl, by omega⟩ fun d hd => hd _ rfl) ea_nil fun d ds ⟨os, e, h⟩ e2 => ⟨os, by rw [e, e2], h⟩) fun d ds ⟨ss, e, h⟩ ⟨os, e2, h2⟩ => ⟨ss, os, by rw [e, e2], h, h2⟩) fun ds ⟨ss, os, e, _⟩ => by rw [e]; simp) fun d ⟨ds, e, ss, os, e2, h⟩ => ⟨ss, os, by rw [e, e2], h⟩) ?_
  rintro _ ⟨ss, os, rfl, ps, po⟩
  refine ⟨_, _, tg_pair, ?_⟩
  show SG (pouchMo p F) K _ (Γs none none (some (ftN ss)) (some (ftN os))) _
  have rok := rel_ok ok ps po
  have pm := mov_perm ok ps po
  have ml : (movL M ss os).length ≤ 48 := by unfold movL; rw [List.length_map]; exact tl
  refine sq_asg (d := .lst ((tellL (relT M ss os)).map triD)) (en_cb1 (ea_cons (d := .lst ((movL M ss os).map triD)) (Ev1.is (en_lcMA (xs := tellL M) triD (fun q => triD (ss.getD q.1 0, os.getD q.2.1 0, os.getD q.2.2 0)) (fun x _ y _ e => triD_inj e) (js := [8]) (by simp) (it_seq (d := .lst ((tellL M).map triD)) (en_var 5 rfl) (.inr (.inl rfl))) (by omega) fun m' le o ho => ⟨_, tg_name 8, ?_⟩) (by unfold movL; rw [List.map_map]; rfl)) ea_nil) (c_sort3 (L := movL M ss os) (by omega) pm (fun x hx => tell_small rok x (pm.mem_iff.mpr hx)) (tell_up rok))) ?_
  · obtain ⟨h1, h2, h3, _⟩ := mem_tell.mp ho
    exact en_tup (ea_cons (ev_num ps (en_ftp (en_var 6 rfl)) (ev_t0 (p := o) (en_var 8 rfl)) h1) (ea_cons (ev_num po (en_ftp (en_var 7 rfl)) (ev_t1 (p := o) (en_var 8 rfl)) h2) (ea_cons (ev_num po (en_ftp (en_var 7 rfl)) (ev_t2 (p := o) (en_var 8 rfl)) h3) ea_nil))) (by simp)
  show SG (pouchMo p F) K _ (Γs (some (.lst ((tellL (relT M ss os)).map triD))) none (some (ftN ss)) (some (ftN os))) _
  refine sg_seqIf (b := false) (et_test (en_op1 (a := .lst ((tellL (relT M ss os)).map triD)) (ev_ltell (ev_rel (en_var 4 rfl) (en_ftp (en_var 6 rfl)) (en_ftp (en_var 7 rfl)) ok ps po) rok) (en_var 2 rfl) (o_neS (n := 2) (by decide) (pur_tris _)))) (fun e => nomatch e) fun _ => ?_
  refine sq_asgN (S := fun d => ∃ s f g, d = triD (s, f, g) ∧ s < M.length ∧ f < nops M ∧ g < nops M) (en_pcall1 HP (ds := [tabD M]) (ea_cons (en_var 0 rfl) (ea_cons (en_var 1 rfl) ea_nil)) ⟨M, rfl, ok⟩ fun d hd => hd M rfl) ?_
  rintro _ ⟨s, f, g, rfl, hs, hf, hg⟩
  show SG (pouchMo p F) K _ (Γs (some (.lst ((tellL (relT M ss os)).map triD))) (some (triD (s, f, g))) (some (ftN ss)) (some (ftN os))) _
  have same : decide (((s, f, g) : Tri) ∈ tellL M) = tellsB M s f g := by
    cases h : tellsB M s f g with
    | true => exact decide_eq_true (mem_tell.mpr ⟨hs, hf, hg, h⟩)
    | false => exact decide_eq_false fun z => by have := (mem_tell.mp z).2.2.2; rw [show tellsB M s f g = true from this] at h; cases h
  refine sg_seqIf (b := false) (et_test (en_op1 (a := .bl (tellsB M s f g)) (ev_tells (en_call (S := fun d => d = planD C Cq M s f g) (ds := [tabD M, triD (s, f, g)]) (ea_cons (en_var 1 rfl) (ea_cons (en_var 3 rfl) ea_nil)) ⟨M, s, f, g, rfl, ok, hs, hf, hg⟩ fun d h => h M s f g rfl) ok hs hf hg) (Ev1.is (en_op1 (en_var 3 rfl) (en_var 5 rfl) o_inT) (by rw [same])) (o_neS (n := 0) (by decide) rfl))) (fun e => nomatch e) fun _ => ?_
  exact sg_retN (en_pcall1 (S := fun d => d = .bl true) HP (ds := [tabD M, .lst ((tellL M).map triD)]) (ea_cons (en_var 0 rfl) (ea_cons (en_var 1 rfl) (ea_cons (en_var 5 rfl) ea_nil))) ⟨M, rfl, tok⟩ fun d hd => hd) fun d h => h
theorem sc_law : FnScope ["_law_script", "_law_at", "_law_jug_here", "_law_turn"] ["_law_script"] (defScope s_law) := ⟨rfl, rfl, rfl, by decide +kernel, rfl, by decide +kernel, by decide +kernel⟩
def pre_law (ds : List D) : Prop := ∃ xs : List Int, ds = [.frl (xs.map D.int)] ∧ xs.length ≤ 63
theorem ok_law {f : Addr} {fd : FuncData} (Fu : Fun K "law" "law" s_law f fd) (T : Txt K mg C)
    (c__law_jug : C8.Cal P w K mg base 1 "_law_jug" (spNew K pre_jug) [])
    (c__law_known_right : C8.Cal P w K mg base 9 "_law_known_right" (spF K (fun ds => ds = []) fun _ => .bl true) [])
    (c__law_right : C8.Cal P w K mg base 11 "_law_right" (spP K (fun ds => ds = []) fun _ d => d = .bl true) []) :
    FnOk P w K mg base CX0 12 f fd ["_law_script"] (spS K pre_law fun _ d => d = .bl true) := by
  refine fn_pure Fu sc_law (fun ds h => by obtain ⟨xs, rfl, _⟩ := h; rfl) fun cdv A outer s H E hr => ⟨_, (pss_cons (ps_if (pt_not (pt_val (pe_c0 c__law_known_right hr (by decide) rfl))) (pss_one (ps_ret pe_bl)) pss_nil) (pss_cons (ps_for PassesOwn.never rfl (pi_range1 rfl T.range (pa_cons (pe_callB (r := rMaxU K) (cr_maxU rfl hr.units) (by rfl) T.max (by decide +kernel) (pa_cons pe_int (pa_cons (pe_callB (cr_min2 rfl) (by rfl) T.min (by decide +kernel) (pa_cons pe_int (pa_cons (pe_callB (r := rLenS K) cr_len (by rfl) T.len (by decide +kernel) (pa_cons (pv 0) pa_nil)) pa_nil))) pa_nil))) pa_nil)) (pg_name (i := 1) sc_law.nd rfl (by first | exact Or.inl rfl | exact Or.inr rfl)) (pss_cons (ps_set (i := 2) sc_law.nd rfl (by first | exact Or.inl rfl | exact Or.inr rfl) (C8.pe_c c__law_jug hr (by decide) rfl (pa_cons (pv 0) (pa_cons (pv 1) pa_nil)))) (pss_one (ps_for PassesOwn.never rfl (pi_range1 rfl T.range (pa_cons pe_int pa_nil)) (pg_name (i := 3) sc_law.nd rfl (by first | exact Or.inl rfl | exact Or.inr rfl)) (pss_one (ps_if (pt_not (pt_val (C8.pe_c c__law_right hr (by decide) rfl (pa_cons (pv 2) pa_nil)))) (pss_one (ps_ret pe_bl)) pss_nil)))))) (pss_one (ps_ret pe_bl)))), fun F ds hp => ?_⟩
  obtain ⟨xs, rfl, hx⟩ := hp
  have hN : ∃ n : Nat, n ≤ 4 ∧ (if (if ((xs.map D.int).length : Int) < 4 then ((xs.map D.int).length : Int) else 4) > 1 then (if ((xs.map D.int).length : Int) < 4 then ((xs.map D.int).length : Int) else 4) else 1) = (n : Int) := by
    generalize (xs.map D.int).length = k
    by_cases h1 : (k : Int) < 4
    · rw [if_pos h1]
      by_cases h2 : (k : Int) > 1
      · exact ⟨k, by omega, by rw [if_pos h2]⟩
      · exact ⟨1, by omega, by rw [if_neg h2]; rfl⟩
    · rw [if_neg h1]
      exact ⟨4, by omega, by rfl⟩
  obtain ⟨n, n4, en⟩ := hN
  refine sg_seqIf (b := false) (EvT1.is (et_not (et_B (en_callF (ds := []) ea_nil rfl))) rfl) (fun e => nomatch e) fun _ => ?_
  let Γs : Option D → Option D → Option D → G := fun x1 x2 x3 => [some (.frl (xs.map D.int)), x1, x2, x3]
  refine sg_seq (fun Γ' => ∃ x1 x2 x3, Γ' = Γs x1 x2 x3) (sg_for (js := [1]) (T := fun x => x = (List.range n).map dN) (it_rng (n := n) (ea_cons (Ev1.is (en_cb1 (ea_cons (en_int 1) (ea_cons (en_cb1 (ea_cons (en_int 4) (ea_cons (en_cb1 (ea_cons (en_var 0 rfl) ea_nil) (c_len (.inr (.inr rfl)))) ea_nil)) c_min2) ea_nil)) c_max2) (by rw [en])) ea_nil) (by omega)) (fun _ _ Γ' => ∃ x1 x2 x3, Γ' = Γs x1 x2 x3) (fun _ _ => ⟨none, none, none, rfl⟩) ?_ (fun _ Γ' _ w => w)) ?_
  · rintro ys i d Γ' rfl hd ⟨x1, x2, x3, rfl⟩
    have hi := (List.getElem?_eq_some_iff.mp hd).1
    rw [List.length_map, List.length_range] at hi
    rw [List.getElem?_map, List.getElem?_range hi] at hd
    injection hd with hd
    subst hd
    refine ⟨_, tg_name 1, sq_pouch (en_newcall (pre := pre_jug) (xs := xs) (i := i) (ea_cons (en_var 0 rfl) (ea_cons (en_var 1 rfl) ea_nil)) ⟨i, rfl, by omega⟩) fun p => ?_⟩
    have HP := HasP.self p F
    refine sg_for (js := [3]) (T := fun x => x = (List.range 2).map dN) (it_rng (n := 2) (ea_cons (en_int 2) ea_nil) (by decide)) (fun _ _ Γ' => ∃ x3, Γ' = Γs (some (dN i)) (some (.adr p)) x3) (fun _ _ => ⟨x3, rfl⟩) ?_ (fun _ Γ' _ ⟨x3, e⟩ => ⟨_, _, x3, e⟩)
    rintro ys j d Γ' rfl hd ⟨x3, rfl⟩
    refine ⟨_, tg_name 3, ?_⟩
    exact sg_if (b := false) (EvT1.is (et_not (et_B (en_pcall1 (S := fun d => d = .bl true) HP (ds := []) (ea_cons (en_var 2 rfl) ea_nil) rfl fun d hd => hd))) rfl) (fun e => nomatch e) fun _ => sg_next ⟨_, rfl⟩
  rintro _ ⟨x1, x2, x3, rfl⟩
  exact sg_ret (d := .bl true) (en_bl true) rfl
theorem law_sp {H : Hp} {a : Addr} {ns : List Int} (hl : ns.length ≤ 63) (hO : Only H) (hS : SqL K H a (ns.map V.int)) : spS K pre_law (fun _ d => d = .bl true) [.ref a] H (fun v _ => v = .bl true) fun _ _ _ => False := by
  have allI : ∀ (ns : List Int), RpAll K (fun _ => False) H (ns.map V.int) (ns.map D.int) := fun ns => by
    induction ns with
    | nil => exact .nil
    | cons n ns ih => exact .cons (.int _) ih
  refine ⟨fun _ => False, [.frl (ns.map D.int)], fun a f => f.elim, .cons ?_ .nil, ⟨ns, rfl, hl⟩, fun v d H' e _ rv => by subst e; exact rv.blE⟩
  rcases hS with (h | ⟨o, h⟩) | h
  · rcases hO a with e | ⟨o, xs, e⟩
    · rw [e] at h; cases h
    · rw [e] at h; cases h
  · exact .frl (fun z => z) h (allI ns)
  · exact .kfrl h (allI ns)
end
end K63

set_option Elab.async false
set_option linter.all false
set_option maxRecDepth 100000
set_option maxHeartbeats 4000000
set_option autoImplicit false
namespace K63
open PySem PySem.Spec PyProof.Rows L2 Tx
theorem funD_mk {K : PySem.W.Frag} {x qual : Str} {st : Stmt} {f T : Addr} {oc ocT : Value} {od an odT : Option Addr} {osl oslT : Array (Option Value)} {kV doc pm cdv ct : Value} {nT : Nat} (l : K.lookup f = some ⟨oc, od, .func (PySem.W.fnOf x qual (defArgs st) (defBody st) (defScope st) (.ref T) kV doc pm an cdv ct), osl⟩)
    (c : PySem.W.codeIn K cdv qual = true) (k : PySem.W.keepIn K (.ref f) = true) (d : K.lookup T = some ⟨ocT, odT, .seq [Value.none].toArray nT, oslT⟩) : FunD K x qual (defArgs st) (defBody st) (defScope st) [.non] [] f (PySem.W.fnOf x qual (defArgs st) (defBody st) (defScope st) (.ref T) kV doc pm an cdv ct) :=
  ⟨⟨oc, od, .ref T, kV, doc, pm, an, cdv, ct, osl, rfl, l, c, .inr ⟨by simp, T, _, [Value.none], nT, rfl, d, rfl, .cons rfl .nil⟩, .inl rfl⟩, k⟩
theorem funD0_mk {K : PySem.W.Frag} {x qual : Str} {st : Stmt} {f : Addr} {oc : Value} {od an : Option Addr} {osl : Array (Option Value)} {kV doc pm cdv ct : Value} (l : K.lookup f = some ⟨oc, od, .func (PySem.W.fnOf x qual (defArgs st) (defBody st) (defScope st) .none kV doc pm an cdv ct), osl⟩)
    (c : PySem.W.codeIn K cdv qual = true) (k : PySem.W.keepIn K (.ref f) = true) : FunD K x qual (defArgs st) (defBody st) (defScope st) [] [] f (PySem.W.fnOf x qual (defArgs st) (defBody st) (defScope st) .none kV doc pm an cdv ct) :=
  ⟨⟨oc, od, .none, kV, doc, pm, an, cdv, ct, osl, rfl, l, c, .inl ⟨rfl, rfl⟩, .inl rfl⟩, k⟩
theorem all_mk {l : PySem.W.OpenLaw} {w : World} {K : PySem.W.Frag} {h : Heap} {mg : Str → Option Value} {fa : Addr} {C Cq : Addr} {u12 u8 u99 u7 : Value} {fA_law_jug : Addr} {fd_law_jug : FuncData} {fA_law_pairs : Addr} {fd_law_pairs : FuncData} {fA_check_kind : Addr} {fd_check_kind : FuncData} {fA_Kind_states : Addr} {fd_Kind_states : FuncData} {p_Kind_states_ : Addr} {r_Kind_states_ : List Value} {fA_Kind_operations : Addr} {fd_Kind_operations : FuncData} {p_Kind_operations_ : Addr} {r_Kind_operations_ : List Value} {fA_is_number : Addr} {fd_is_number : FuncData} {fA_check_number : Addr} {fd_check_number : FuncData} {fA_Plan_init : Addr} {fd_Plan_init : FuncData} {fA_check_plan : Addr} {fd_check_plan : FuncData} {fA_are_numbers : Addr} {fd_are_numbers : FuncData} {fA_Kind_after : Addr} {fd_Kind_after : FuncData} {fA_Plan_seen : Addr} {fd_Plan_seen : FuncData} {fA_confusions : Addr} {fd_confusions : FuncData} {fA_tells : Addr} {fd_tells : FuncData} {fA_telling_plans : Addr} {fd_telling_plans : FuncData} {fA_is_pair : Addr} {fd_is_pair : FuncData} {fA_is_entry : Addr} {fd_is_entry : FuncData} {fA_are_entries : Addr} {fd_are_entries : FuncData} {fA_is_kind_table : Addr} {fd_is_kind_table : FuncData} {fA_Kind_init : Addr} {fd_Kind_init : FuncData} {fA_flag_kind : Addr} {fd_flag_kind : FuncData} {fA_adder_kind : Addr} {fd_adder_kind : FuncData} {fA_swap_kind : Addr} {fd_swap_kind : FuncData} {fA_cell_kind : Addr} {fd_cell_kind : FuncData} {fA_sticky_kind : Addr} {fd_sticky_kind : FuncData} {fA_law_known_right : Addr} {fd_law_known_right : FuncData} {fA_law_pour : Addr} {fd_law_pour : FuncData} {fA_law_plain_kind : Addr} {fd_law_plain_kind : FuncData} {fA_law_one_of : Addr} {fd_law_one_of : FuncData} {fA_law_table : Addr} {fd_law_table : FuncData} {fA_law_any_table : Addr} {fd_law_any_table : FuncData} {fA_law_seen : Addr} {fd_law_seen : FuncData} {fA_law_confusions : Addr} {fd_law_confusions : FuncData} {fA_law_all_telling : Addr} {fd_law_all_telling : FuncData} {fA_law_order_of : Addr} {fd_law_order_of : FuncData} {fA_law_plan_drawn : Addr} {fd_law_plan_drawn : FuncData} {fA_law_made_plan : Addr} {fd_law_made_plan : FuncData} {fA_Kind_len : Addr} {fd_Kind_len : FuncData} {fA_check_few_parts : Addr} {fd_check_few_parts : FuncData} {fA_side_by_side : Addr} {fd_side_by_side : FuncData} {fA_Kind_mul : Addr} {fd_Kind_mul : FuncData} {fA_law_sides_right : Addr} {fd_law_sides_right : FuncData} {fA_are_all_numbers : Addr} {fd_are_all_numbers : FuncData} {fA_Kind_relabeled : Addr} {fd_Kind_relabeled : FuncData} {fA_law_right : Addr} {fd_law_right : FuncData} {fA_law : Addr} {fd_law : FuncData} (X : K.In h) (G : h.Ns mainGlobals mg) (hfa : mg "law" = some (.ref fa)) (r12 : RelV (.int 12) u12) (r8 : RelV (.int 8) u8) (r99 : RelV (.int 99) u99) (r7 : RelV (.int 7) u7)
    (aC : PySem.W.nsIn K mainGlobals "Kind" = some (some (.ref C)))
    (a_MAX_STATES : PySem.W.nsIn K mainGlobals "MAX_STATES" = some (some u12))
    (a_MAX_OPERATIONS : PySem.W.nsIn K mainGlobals "MAX_OPERATIONS" = some (some u8))
    (a_MAX_ANSWER : PySem.W.nsIn K mainGlobals "MAX_ANSWER" = some (some u99))
    (a_MAX_VALUES : PySem.W.nsIn K mainGlobals "MAX_VALUES" = some (some u7))
    (aCq : PySem.W.nsIn K mainGlobals "Plan" = some (some (.ref Cq)))
    (pg : PySem.W.plainGet K C Str.empty = true)
    (hd : PySem.W.hasDictIn K C = true)
    (po : PySem.W.plainOver K C = true)
    (sa : PySem.W.findIn K (.ref C) "__setattr__" = some (some (.builtin "object.__setattr__")))
    (mk : PySem.W.makesIn K C = true)
    (kc : PySem.W.keepIn K (.ref C) = true)
    (ha : PySem.W.findIn K (.ref C) "__class__" = some (some (.builtin "object.__class__")))
    (hm : PySem.W.mroIn K C (.type "object") = some true)
    (pgq : PySem.W.plainGet K Cq Str.empty = true)
    (hdq : PySem.W.hasDictIn K Cq = true)
    (poq : PySem.W.plainOver K Cq = true)
    (saq : PySem.W.findIn K (.ref Cq) "__setattr__" = some (some (.builtin "object.__setattr__")))
    (mkq : PySem.W.makesIn K Cq = true)
    (kcq : PySem.W.keepIn K (.ref Cq) = true)
    (haq : PySem.W.findIn K (.ref Cq) "__class__" = some (some (.builtin "object.__class__")))
    (hmq : PySem.W.mroIn K Cq (.type "object") = some true)
    (hn : PySem.W.specialIn K (.builtin "object.__class__") "__get__" = some (some (.builtin "getset_descriptor.__get__")))
    (htk : PySem.W.takesIn K (.builtin "object.__class__") = some true)
    (sf : PySem.W.selfFirst K C = true)
    (n_table : PySem.W.findIn K (.ref C) "_table" = some none)
    (n_kind : PySem.W.findIn K (.ref Cq) "_kind" = some none)
    (n_start : PySem.W.findIn K (.ref Cq) "_start" = some none)
    (n_operations : PySem.W.findIn K (.ref Cq) "_operations" = some none)
    (z_isinstance : PySem.W.nsIn K mainGlobals "isinstance" = some none)
    (z_int : PySem.W.nsIn K mainGlobals "int" = some none)
    (z_bool : PySem.W.nsIn K mainGlobals "bool" = some none)
    (z_tuple : PySem.W.nsIn K mainGlobals "tuple" = some none)
    (z_list : PySem.W.nsIn K mainGlobals "list" = some none)
    (z_str : PySem.W.nsIn K mainGlobals "str" = some none)
    (z_all : PySem.W.nsIn K mainGlobals "all" = some none)
    (z_any : PySem.W.nsIn K mainGlobals "any" = some none)
    (z_len : PySem.W.nsIn K mainGlobals "len" = some none)
    (z_range : PySem.W.nsIn K mainGlobals "range" = some none)
    (z_enumerate : PySem.W.nsIn K mainGlobals "enumerate" = some none)
    (z_sorted : PySem.W.nsIn K mainGlobals "sorted" = some none)
    (z_sum : PySem.W.nsIn K mainGlobals "sum" = some none)
    (z_max : PySem.W.nsIn K mainGlobals "max" = some none)
    (z_min : PySem.W.nsIn K mainGlobals "min" = some none)
    (z_abs : PySem.W.nsIn K mainGlobals "abs" = some none)
    (z_set : PySem.W.nsIn K mainGlobals "set" = some none)
    (z_zip : PySem.W.nsIn K mainGlobals "zip" = some none)
    (a_law_jug : PySem.W.nsIn K mainGlobals "_law_jug" = some (some (.ref fA_law_jug)))
    (F_law_jug : Fun K "_law_jug" "_law_jug" s_law_jug fA_law_jug fd_law_jug)
    (a_law_pairs : PySem.W.nsIn K mainGlobals "_law_pairs" = some (some (.ref fA_law_pairs)))
    (F_law_pairs : Fun K "_law_pairs" "_law_pairs" s_law_pairs fA_law_pairs fd_law_pairs)
    (a_check_kind : PySem.W.nsIn K mainGlobals "check_kind" = some (some (.ref fA_check_kind)))
    (F_check_kind : Fun K "check_kind" "check_kind" s_check_kind fA_check_kind fd_check_kind)
    (a_Kind_states : PySem.W.findIn K (.ref C) "states" = some (some (.ref p_Kind_states_)))
    (g_Kind_states : PySem.W.specialIn K (.ref p_Kind_states_) "__get__" = some (some (.builtin "property.__get__")))
    (t_Kind_states : PySem.W.takesIn K (.ref p_Kind_states_) = some true)
    (r_Kind_states : PySem.W.recIn K p_Kind_states_ "property" = some (.ref fA_Kind_states :: r_Kind_states_))
    (F_Kind_states : Fun K "states" "Kind.states" s_Kind_states fA_Kind_states fd_Kind_states)
    (a_Kind_operations : PySem.W.findIn K (.ref C) "operations" = some (some (.ref p_Kind_operations_)))
    (g_Kind_operations : PySem.W.specialIn K (.ref p_Kind_operations_) "__get__" = some (some (.builtin "property.__get__")))
    (t_Kind_operations : PySem.W.takesIn K (.ref p_Kind_operations_) = some true)
    (r_Kind_operations : PySem.W.recIn K p_Kind_operations_ "property" = some (.ref fA_Kind_operations :: r_Kind_operations_))
    (F_Kind_operations : Fun K "operations" "Kind.operations" s_Kind_operations fA_Kind_operations fd_Kind_operations)
    (a_is_number : PySem.W.nsIn K mainGlobals "is_number" = some (some (.ref fA_is_number)))
    (F_is_number : Fun K "is_number" "is_number" s_is_number fA_is_number fd_is_number)
    (a_check_number : PySem.W.nsIn K mainGlobals "check_number" = some (some (.ref fA_check_number)))
    (F_check_number : Fun K "check_number" "check_number" s_check_number fA_check_number fd_check_number)
    (a_Plan_init : PySem.W.findIn K (.ref Cq) "__init__" = some (some (.ref fA_Plan_init)))
    (i_Plan_init : PySem.W.isFn K (.ref fA_Plan_init) = true)
    (F_Plan_init : FunD K "__init__" "Plan.__init__" (defArgs s_Plan___init) (defBody s_Plan___init) (defScope s_Plan___init) [] [] fA_Plan_init fd_Plan_init)
    (a_check_plan : PySem.W.nsIn K mainGlobals "check_plan" = some (some (.ref fA_check_plan)))
    (F_check_plan : Fun K "check_plan" "check_plan" s_check_plan fA_check_plan fd_check_plan)
    (a_are_numbers : PySem.W.nsIn K mainGlobals "are_numbers" = some (some (.ref fA_are_numbers)))
    (F_are_numbers : Fun K "are_numbers" "are_numbers" s_are_numbers fA_are_numbers fd_are_numbers)
    (a_Kind_after : PySem.W.findIn K (.ref C) "after" = some (some (.ref fA_Kind_after)))
    (i_Kind_after : PySem.W.isFn K (.ref fA_Kind_after) = true)
    (F_Kind_after : Fun K "after" "Kind.after" s_Kind_after fA_Kind_after fd_Kind_after)
    (a_Plan_seen : PySem.W.findIn K (.ref Cq) "seen" = some (some (.ref fA_Plan_seen)))
    (i_Plan_seen : PySem.W.isFn K (.ref fA_Plan_seen) = true)
    (F_Plan_seen : Fun K "seen" "Plan.seen" s_Plan_seen fA_Plan_seen fd_Plan_seen)
    (a_confusions : PySem.W.nsIn K mainGlobals "confusions" = some (some (.ref fA_confusions)))
    (F_confusions : Fun K "confusions" "confusions" s_confusions fA_confusions fd_confusions)
    (a_tells : PySem.W.nsIn K mainGlobals "tells" = some (some (.ref fA_tells)))
    (F_tells : Fun K "tells" "tells" s_tells fA_tells fd_tells)
    (a_telling_plans : PySem.W.nsIn K mainGlobals "telling_plans" = some (some (.ref fA_telling_plans)))
    (F_telling_plans : Fun K "telling_plans" "telling_plans" s_telling_plans fA_telling_plans fd_telling_plans)
    (a_is_pair : PySem.W.nsIn K mainGlobals "is_pair" = some (some (.ref fA_is_pair)))
    (F_is_pair : Fun K "is_pair" "is_pair" s_is_pair fA_is_pair fd_is_pair)
    (a_is_entry : PySem.W.nsIn K mainGlobals "is_entry" = some (some (.ref fA_is_entry)))
    (F_is_entry : Fun K "is_entry" "is_entry" s_is_entry fA_is_entry fd_is_entry)
    (a_are_entries : PySem.W.nsIn K mainGlobals "are_entries" = some (some (.ref fA_are_entries)))
    (F_are_entries : Fun K "are_entries" "are_entries" s_are_entries fA_are_entries fd_are_entries)
    (a_is_kind_table : PySem.W.nsIn K mainGlobals "is_kind_table" = some (some (.ref fA_is_kind_table)))
    (F_is_kind_table : Fun K "is_kind_table" "is_kind_table" s_is_kind_table fA_is_kind_table fd_is_kind_table)
    (a_Kind_init : PySem.W.findIn K (.ref C) "__init__" = some (some (.ref fA_Kind_init)))
    (i_Kind_init : PySem.W.isFn K (.ref fA_Kind_init) = true)
    (F_Kind_init : FunD K "__init__" "Kind.__init__" (defArgs s_Kind___init) (defBody s_Kind___init) (defScope s_Kind___init) [] [] fA_Kind_init fd_Kind_init)
    (a_flag_kind : PySem.W.nsIn K mainGlobals "flag_kind" = some (some (.ref fA_flag_kind)))
    (F_flag_kind : Fun K "flag_kind" "flag_kind" s_flag_kind fA_flag_kind fd_flag_kind)
    (a_adder_kind : PySem.W.nsIn K mainGlobals "adder_kind" = some (some (.ref fA_adder_kind)))
    (F_adder_kind : Fun K "adder_kind" "adder_kind" s_adder_kind fA_adder_kind fd_adder_kind)
    (a_swap_kind : PySem.W.nsIn K mainGlobals "swap_kind" = some (some (.ref fA_swap_kind)))
    (F_swap_kind : Fun K "swap_kind" "swap_kind" s_swap_kind fA_swap_kind fd_swap_kind)
    (a_cell_kind : PySem.W.nsIn K mainGlobals "cell_kind" = some (some (.ref fA_cell_kind)))
    (F_cell_kind : Fun K "cell_kind" "cell_kind" s_cell_kind fA_cell_kind fd_cell_kind)
    (a_sticky_kind : PySem.W.nsIn K mainGlobals "sticky_kind" = some (some (.ref fA_sticky_kind)))
    (F_sticky_kind : Fun K "sticky_kind" "sticky_kind" s_sticky_kind fA_sticky_kind fd_sticky_kind)
    (a_law_known_right : PySem.W.nsIn K mainGlobals "_law_known_right" = some (some (.ref fA_law_known_right)))
    (F_law_known_right : Fun K "_law_known_right" "_law_known_right" s_law_known_right fA_law_known_right fd_law_known_right)
    (a_law_pour : PySem.W.nsIn K mainGlobals "_law_pour" = some (some (.ref fA_law_pour)))
    (F_law_pour : Fun K "_law_pour" "_law_pour" s_law_pour fA_law_pour fd_law_pour)
    (a_law_plain_kind : PySem.W.nsIn K mainGlobals "_law_plain_kind" = some (some (.ref fA_law_plain_kind)))
    (F_law_plain_kind : Fun K "_law_plain_kind" "_law_plain_kind" s_law_plain_kind fA_law_plain_kind fd_law_plain_kind)
    (a_law_one_of : PySem.W.nsIn K mainGlobals "_law_one_of" = some (some (.ref fA_law_one_of)))
    (F_law_one_of : Fun K "_law_one_of" "_law_one_of" s_law_one_of fA_law_one_of fd_law_one_of)
    (a_law_table : PySem.W.nsIn K mainGlobals "_law_table" = some (some (.ref fA_law_table)))
    (F_law_table : Fun K "_law_table" "_law_table" s_law_table fA_law_table fd_law_table)
    (a_law_any_table : PySem.W.nsIn K mainGlobals "_law_any_table" = some (some (.ref fA_law_any_table)))
    (F_law_any_table : Fun K "_law_any_table" "_law_any_table" s_law_any_table fA_law_any_table fd_law_any_table)
    (a_law_seen : PySem.W.nsIn K mainGlobals "_law_seen" = some (some (.ref fA_law_seen)))
    (F_law_seen : Fun K "_law_seen" "_law_seen" s_law_seen fA_law_seen fd_law_seen)
    (a_law_confusions : PySem.W.nsIn K mainGlobals "_law_confusions" = some (some (.ref fA_law_confusions)))
    (F_law_confusions : Fun K "_law_confusions" "_law_confusions" s_law_confusions fA_law_confusions fd_law_confusions)
    (a_law_all_telling : PySem.W.nsIn K mainGlobals "_law_all_telling" = some (some (.ref fA_law_all_telling)))
    (F_law_all_telling : Fun K "_law_all_telling" "_law_all_telling" s_law_all_telling fA_law_all_telling fd_law_all_telling)
    (a_law_order_of : PySem.W.nsIn K mainGlobals "_law_order_of" = some (some (.ref fA_law_order_of)))
    (F_law_order_of : Fun K "_law_order_of" "_law_order_of" s_law_order_of fA_law_order_of fd_law_order_of)
    (a_law_plan_drawn : PySem.W.nsIn K mainGlobals "_law_plan_drawn" = some (some (.ref fA_law_plan_drawn)))
    (F_law_plan_drawn : Fun K "_law_plan_drawn" "_law_plan_drawn" s_law_plan_drawn fA_law_plan_drawn fd_law_plan_drawn)
    (a_law_made_plan : PySem.W.nsIn K mainGlobals "_law_made_plan" = some (some (.ref fA_law_made_plan)))
    (F_law_made_plan : Fun K "_law_made_plan" "_law_made_plan" s_law_made_plan fA_law_made_plan fd_law_made_plan)
    (a_Kind_len : PySem.W.findIn K (.ref C) "__len__" = some (some (.ref fA_Kind_len)))
    (i_Kind_len : PySem.W.isFn K (.ref fA_Kind_len) = true)
    (F_Kind_len : Fun K "__len__" "Kind.__len__" s_Kind___len fA_Kind_len fd_Kind_len)
    (a_check_few_parts : PySem.W.nsIn K mainGlobals "check_few_parts" = some (some (.ref fA_check_few_parts)))
    (F_check_few_parts : Fun K "check_few_parts" "check_few_parts" s_check_few_parts fA_check_few_parts fd_check_few_parts)
    (a_side_by_side : PySem.W.nsIn K mainGlobals "side_by_side" = some (some (.ref fA_side_by_side)))
    (F_side_by_side : Fun K "side_by_side" "side_by_side" s_side_by_side fA_side_by_side fd_side_by_side)
    (a_Kind_mul : PySem.W.findIn K (.ref C) "__mul__" = some (some (.ref fA_Kind_mul)))
    (i_Kind_mul : PySem.W.isFn K (.ref fA_Kind_mul) = true)
    (F_Kind_mul : Fun K "__mul__" "Kind.__mul__" s_Kind___mul fA_Kind_mul fd_Kind_mul)
    (a_law_sides_right : PySem.W.nsIn K mainGlobals "_law_sides_right" = some (some (.ref fA_law_sides_right)))
    (F_law_sides_right : Fun K "_law_sides_right" "_law_sides_right" s_law_sides_right fA_law_sides_right fd_law_sides_right)
    (a_are_all_numbers : PySem.W.nsIn K mainGlobals "are_all_numbers" = some (some (.ref fA_are_all_numbers)))
    (F_are_all_numbers : Fun K "are_all_numbers" "are_all_numbers" s_are_all_numbers fA_are_all_numbers fd_are_all_numbers)
    (a_Kind_relabeled : PySem.W.findIn K (.ref C) "relabeled" = some (some (.ref fA_Kind_relabeled)))
    (i_Kind_relabeled : PySem.W.isFn K (.ref fA_Kind_relabeled) = true)
    (F_Kind_relabeled : Fun K "relabeled" "Kind.relabeled" s_Kind_relabeled fA_Kind_relabeled fd_Kind_relabeled)
    (a_law_right : PySem.W.nsIn K mainGlobals "_law_right" = some (some (.ref fA_law_right)))
    (F_law_right : Fun K "_law_right" "_law_right" s_law_right fA_law_right fd_law_right)
    (a_law : PySem.W.nsIn K mainGlobals "law" = some (some (.ref fA_law)))
    (F_law : Fun K "law" "law" s_law fA_law fd_law) :
    ∃ fd : FuncData, (∀ (s : Shared) (v : Value), BindsTo s fd ⟨[v], []⟩ [("_law_script", v)]) ∧ ∀ base : Heap, K.In base → base.Ns mainGlobals mg → FnOk l.prog w K mg base CX0 12 fa fd ["_law_script"] (spS K pre_law fun _ d => d = .bl true) := by
  have e := hfa.symm.trans (PySem.W.mg_of X G a_law)
  cases e
  have T : Txt K mg C := ⟨PySem.W.mg_none_of X G z_isinstance, PySem.W.mg_none_of X G z_int, PySem.W.mg_none_of X G z_bool, PySem.W.mg_none_of X G z_tuple, PySem.W.mg_none_of X G z_list, PySem.W.mg_none_of X G z_str, PySem.W.mg_none_of X G z_all, PySem.W.mg_none_of X G z_any, PySem.W.mg_none_of X G z_len, PySem.W.mg_none_of X G z_range, PySem.W.mg_none_of X G z_enumerate, PySem.W.mg_none_of X G z_sorted, PySem.W.mg_none_of X G z_sum, PySem.W.mg_none_of X G z_max, PySem.W.mg_none_of X G z_min, PySem.W.mg_none_of X G z_abs, PySem.W.mg_none_of X G z_set, PySem.W.mg_none_of X G z_zip, ⟨_, PySem.W.mg_of X G a_MAX_STATES, r12⟩, ⟨_, PySem.W.mg_of X G a_MAX_OPERATIONS, r8⟩, ⟨_, PySem.W.mg_of X G a_MAX_ANSWER, r99⟩, ⟨_, PySem.W.mg_of X G a_MAX_VALUES, r7⟩, PySem.W.mg_of X G aC⟩
  have cl : Cls K C := ⟨pg, hd, po, sa⟩
  have W : KindC K C := ⟨cl, n_table⟩
  have ic : C8.InsC K C := ⟨cl, ha, hn, htk, hm, by unfold PySem.W.kitOne; rw [if_pos (by simp)]⟩
  have TP : TxtP K mg C Cq := ⟨T, PySem.W.mg_of X G aCq⟩
  have clq : Cls K Cq := ⟨pgq, hdq, poq, saq⟩
  have Wp : PlanC K Cq := ⟨clq, n_kind, n_start, n_operations⟩
  have icq : C8.InsC K Cq := ⟨clq, haq, hn, htk, hmq, by unfold PySem.W.kitOne; rw [if_pos (by simp)]⟩
  have B_law_jug := F_law_jug.binds (ps := ["_law_script", "_law_at"]) fun _ _ _ _ _ _ us hl => match us, hl with | [_, _], _ => rfl
  have B_law_pairs := F_law_pairs.binds (ps := ["_law_size"]) fun _ _ _ _ _ _ us hl => match us, hl with | [_], _ => rfl
  have B_check_kind := F_check_kind.binds (ps := ["kind"]) fun _ _ _ _ _ _ us hl => match us, hl with | [_], _ => rfl
  have B_Kind_states := F_Kind_states.binds (ps := ["self"]) fun _ _ _ _ _ _ us hl => match us, hl with | [_], _ => rfl
  have B_Kind_operations := F_Kind_operations.binds (ps := ["self"]) fun _ _ _ _ _ _ us hl => match us, hl with | [_], _ => rfl
  have B_is_number := F_is_number.binds (ps := ["value", "low", "high"]) fun _ _ _ _ _ _ us hl => match us, hl with | [_, _, _], _ => rfl
  have B_check_number := F_check_number.binds (ps := ["value", "low", "high"]) fun _ _ _ _ _ _ us hl => match us, hl with | [_, _, _], _ => rfl
  have B_Plan_init := F_Plan_init.bindsN (ps := ["self", "kind", "start", "first", "second"]) fun _ _ _ _ _ _ us hl => match us, hl with | [_, _, _, _, _], _ => rfl
  have B_check_plan := F_check_plan.binds (ps := ["plan"]) fun _ _ _ _ _ _ us hl => match us, hl with | [_], _ => rfl
  have B_are_numbers := F_are_numbers.binds (ps := ["value", "low", "high"]) fun _ _ _ _ _ _ us hl => match us, hl with | [_, _, _], _ => rfl
  have B_Kind_after := F_Kind_after.binds (ps := ["self", "state", "operations"]) fun _ _ _ _ _ _ us hl => match us, hl with | [_, _, _], _ => rfl
  have B_Plan_seen := F_Plan_seen.binds (ps := ["self", "thread", "order"]) fun _ _ _ _ _ _ us hl => match us, hl with | [_, _, _], _ => rfl
  have B_confusions := F_confusions.binds (ps := ["plan"]) fun _ _ _ _ _ _ us hl => match us, hl with | [_], _ => rfl
  have B_tells := F_tells.binds (ps := ["plan"]) fun _ _ _ _ _ _ us hl => match us, hl with | [_], _ => rfl
  have B_telling_plans := F_telling_plans.binds (ps := ["kind"]) fun _ _ _ _ _ _ us hl => match us, hl with | [_], _ => rfl
  have B_is_pair := F_is_pair.binds (ps := ["value"]) fun _ _ _ _ _ _ us hl => match us, hl with | [_], _ => rfl
  have B_is_entry := F_is_entry.binds (ps := ["value", "states"]) fun _ _ _ _ _ _ us hl => match us, hl with | [_, _], _ => rfl
  have B_are_entries := F_are_entries.binds (ps := ["value", "states"]) fun _ _ _ _ _ _ us hl => match us, hl with | [_, _], _ => rfl
  have B_is_kind_table := F_is_kind_table.binds (ps := ["value"]) fun _ _ _ _ _ _ us hl => match us, hl with | [_], _ => rfl
  have B_Kind_init := F_Kind_init.bindsN (ps := ["self", "table"]) fun _ _ _ _ _ _ us hl => match us, hl with | [_, _], _ => rfl
  have B_flag_kind := F_flag_kind.binds (ps := []) fun _ _ _ _ _ _ us hl => match us, hl with | [], _ => rfl
  have B_adder_kind := F_adder_kind.binds (ps := ["states"]) fun _ _ _ _ _ _ us hl => match us, hl with | [_], _ => rfl
  have B_swap_kind := F_swap_kind.binds (ps := ["values"]) fun _ _ _ _ _ _ us hl => match us, hl with | [_], _ => rfl
  have B_cell_kind := F_cell_kind.binds (ps := ["values"]) fun _ _ _ _ _ _ us hl => match us, hl with | [_], _ => rfl
  have B_sticky_kind := F_sticky_kind.binds (ps := ["values"]) fun _ _ _ _ _ _ us hl => match us, hl with | [_], _ => rfl
  have B_law_known_right := F_law_known_right.binds (ps := []) fun _ _ _ _ _ _ us hl => match us, hl with | [], _ => rfl
  have B_law_pour := F_law_pour.binds (ps := ["_law_jug_here", "_law_size"]) fun _ _ _ _ _ _ us hl => match us, hl with | [_, _], _ => rfl
  have B_law_plain_kind := F_law_plain_kind.binds (ps := ["_law_jug_here"]) fun _ _ _ _ _ _ us hl => match us, hl with | [_], _ => rfl
  have B_law_one_of := F_law_one_of.binds (ps := ["_law_jug_here", "_law_items"]) fun _ _ _ _ _ _ us hl => match us, hl with | [_, _], _ => rfl
  have B_law_table := F_law_table.binds (ps := ["_law_jug_here", "_law_most"]) fun _ _ _ _ _ _ us hl => match us, hl with | [_, _], _ => rfl
  have B_law_any_table := F_law_any_table.binds (ps := ["_law_jug_here", "_law_most"]) fun _ _ _ _ _ _ us hl => match us, hl with | [_, _], _ => rfl
  have B_law_seen := F_law_seen.binds (ps := ["_law_table_here", "_law_plan", "_law_thread", "_law_order"]) fun _ _ _ _ _ _ us hl => match us, hl with | [_, _, _, _], _ => rfl
  have B_law_confusions := F_law_confusions.binds (ps := ["_law_table_here", "_law_plan"]) fun _ _ _ _ _ _ us hl => match us, hl with | [_, _], _ => rfl
  have B_law_all_telling := F_law_all_telling.binds (ps := ["_law_table_here"]) fun _ _ _ _ _ _ us hl => match us, hl with | [_], _ => rfl
  have B_law_order_of := F_law_order_of.binds (ps := ["_law_jug_here", "_law_size"]) fun _ _ _ _ _ _ us hl => match us, hl with | [_, _], _ => rfl
  have B_law_plan_drawn := F_law_plan_drawn.binds (ps := ["_law_jug_here", "_law_table_here"]) fun _ _ _ _ _ _ us hl => match us, hl with | [_, _], _ => rfl
  have B_law_made_plan := F_law_made_plan.binds (ps := ["_law_table_here", "_law_plan"]) fun _ _ _ _ _ _ us hl => match us, hl with | [_, _], _ => rfl
  have B_Kind_len := F_Kind_len.binds (ps := ["self"]) fun _ _ _ _ _ _ us hl => match us, hl with | [_], _ => rfl
  have B_check_few_parts := F_check_few_parts.binds (ps := ["states", "operations"]) fun _ _ _ _ _ _ us hl => match us, hl with | [_, _], _ => rfl
  have B_side_by_side := F_side_by_side.binds (ps := ["first", "second", "one", "two", "many"]) fun _ _ _ _ _ _ us hl => match us, hl with | [_, _, _, _, _], _ => rfl
  have B_Kind_mul := F_Kind_mul.binds (ps := ["self", "other"]) fun _ _ _ _ _ _ us hl => match us, hl with | [_, _], _ => rfl
  have B_law_sides_right := F_law_sides_right.binds (ps := ["_law_jug_here", "_law_table_here", "_law_due"]) fun _ _ _ _ _ _ us hl => match us, hl with | [_, _, _], _ => rfl
  have B_are_all_numbers := F_are_all_numbers.binds (ps := ["value", "size"]) fun _ _ _ _ _ _ us hl => match us, hl with | [_, _], _ => rfl
  have B_Kind_relabeled := F_Kind_relabeled.binds (ps := ["self", "states", "operations"]) fun _ _ _ _ _ _ us hl => match us, hl with | [_, _, _], _ => rfl
  have B_law_right := F_law_right.binds (ps := ["_law_jug_here"]) fun _ _ _ _ _ _ us hl => match us, hl with | [_], _ => rfl
  refine ⟨fd_law, fun s v => ?_, fun base _ _ => ?_⟩
  · obtain ⟨oc, od, kV, doc, pm, an, cdv, ct, osl, rfl, lk, hcd⟩ := F_law.ex
    exact .of_eq rfl
  have c__law_jug : C8.Cal l.prog w K mg base 1 "_law_jug" (spNew K pre_jug) [] := ⟨⟨_, _, _, _, ok_law_jug F_law_jug T, PySem.W.mg_of X G a_law_jug, F_law_jug.kp, B_law_jug, .nil⟩⟩
  have c__law_pairs : C8.Cal l.prog w K mg base 1 "_law_pairs" (spS K pre_prs S_prs) [] := ⟨⟨_, _, _, _, ok_law_pairs F_law_pairs T, PySem.W.mg_of X G a_law_pairs, F_law_pairs.kp, B_law_pairs, .nil⟩⟩
  have c_check_kind : C8.Cal l.prog w K mg base 1 "check_kind" (spF K (pre_kd C) fun _ => .non) [] := ⟨⟨_, _, _, _, ok_check_kind F_check_kind T ic, PySem.W.mg_of X G a_check_kind, F_check_kind.kp, B_check_kind, .nil⟩⟩
  have p_states : C8.PrM l.prog w K mg base 1 C "states" (spS K (pre_kd C) (S_kd C fun T => dN T.length)) := ⟨⟨_, _, _, _, W.cl, ⟨a_Kind_states, g_Kind_states, t_Kind_states, _, r_Kind_states⟩, ok_Kind_states F_Kind_states T W, B_Kind_states⟩⟩
  have p_operations : C8.PrM l.prog w K mg base 1 C "operations" (spS K (pre_kd C) (S_kd C fun T => dN (nops T))) := ⟨⟨_, _, _, _, W.cl, ⟨a_Kind_operations, g_Kind_operations, t_Kind_operations, _, r_Kind_operations⟩, ok_Kind_operations F_Kind_operations T W, B_Kind_operations⟩⟩
  have c_is_number : C8.Cal l.prog w K mg base 1 "is_number" (spF K pre_num F_num) [] := ⟨⟨_, _, _, _, ok_is_number F_is_number T, PySem.W.mg_of X G a_is_number, F_is_number.kp, B_is_number, .nil⟩⟩
  have c_check_number : C8.Cal l.prog w K mg base 2 "check_number" (spF K pre_chk fun _ => .non) [] := ⟨⟨_, _, _, _, ok_check_number F_check_number T c_is_number, PySem.W.mg_of X G a_check_number, F_check_number.kp, B_check_number, .nil⟩⟩
  have k_Plan4 : C8.Mak l.prog w K mg base 3 "Plan" Cq (spIS K Cq (pre_plan C) planNs (S_plan C)) [] := ⟨⟨_, _, _, _, ⟨mkq, a_Plan_init, i_Plan_init, kcq⟩, ok_Plan_init F_Plan_init T Wp c_check_kind c_check_number p_states p_operations, PySem.W.mg_of X G aCq, B_Plan_init, .nil⟩⟩
  have c_check_plan : C8.Cal l.prog w K mg base 1 "check_plan" (spF K (pre_pl C Cq) fun _ => .non) [] := ⟨⟨_, _, _, _, ok_check_plan F_check_plan TP icq, PySem.W.mg_of X G a_check_plan, F_check_plan.kp, B_check_plan, .nil⟩⟩
  have c_are_numbers : C8.Cal l.prog w K mg base 1 "are_numbers" (spF K pre_nums fun _ => .bl true) [] := ⟨⟨_, _, _, _, ok_are_numbers F_are_numbers T, PySem.W.mg_of X G a_are_numbers, F_are_numbers.kp, B_are_numbers, .nil⟩⟩
  have m_after : C8.Met l.prog w K mg base 4 C "after" (spS K (pre_af C) (S_af C)) [] := ⟨⟨_, _, _, _, W.cl, ⟨a_Kind_after, i_Kind_after, F_Kind_after.kp⟩, ok_Kind_after F_Kind_after T W c_check_number c_are_numbers, B_Kind_after, .nil⟩⟩
  have m_seen : C8.Met l.prog w K mg base 5 Cq "seen" (spS K (pre_seen C Cq) (S_seen C Cq)) [] := ⟨⟨_, _, _, _, Wp.cl, ⟨a_Plan_seen, i_Plan_seen, F_Plan_seen.kp⟩, ok_Plan_seen F_Plan_seen T Wp c_check_number c_are_numbers m_after, B_Plan_seen, .nil⟩⟩
  have c_confusions : C8.Cal l.prog w K mg base 6 "confusions" (spS K (pre_pl C Cq) (S_conf C Cq)) [] := ⟨⟨_, _, _, _, ok_confusions F_confusions T m_seen, PySem.W.mg_of X G a_confusions, F_confusions.kp, B_confusions, .nil⟩⟩
  have c_tells : C8.Cal l.prog w K mg base 7 "tells" (spS K (pre_pl C Cq) (S_tells C Cq)) [] := ⟨⟨_, _, _, _, ok_tells F_tells T c_check_plan c_confusions, PySem.W.mg_of X G a_tells, F_tells.kp, B_tells, .nil⟩⟩
  have c_telling_plans : C8.Cal l.prog w K mg base 8 "telling_plans" (spS K (pre_kd C) (S_kd C tellD)) [] := ⟨⟨_, _, _, _, ok_telling_plans F_telling_plans T c_check_kind p_states p_operations k_Plan4 c_tells, PySem.W.mg_of X G a_telling_plans, F_telling_plans.kp, B_telling_plans, .nil⟩⟩
  have c_is_pair : C8.Cal l.prog w K mg base 1 "is_pair" (spF K pre_pair F_pair) [] := ⟨⟨_, _, _, _, ok_is_pair F_is_pair T, PySem.W.mg_of X G a_is_pair, F_is_pair.kp, B_is_pair, .nil⟩⟩
  have c_is_entry : C8.Cal l.prog w K mg base 2 "is_entry" (spF K pre_ent fun _ => .bl true) [] := ⟨⟨_, _, _, _, ok_is_entry F_is_entry T c_is_pair c_is_number, PySem.W.mg_of X G a_is_entry, F_is_entry.kp, B_is_entry, .nil⟩⟩
  have c_are_entries : C8.Cal l.prog w K mg base 3 "are_entries" (spF K pre_ents fun _ => .bl true) [] := ⟨⟨_, _, _, _, ok_are_entries F_are_entries T c_is_entry, PySem.W.mg_of X G a_are_entries, F_are_entries.kp, B_are_entries, .nil⟩⟩
  have c_is_kind_table : C8.Cal l.prog w K mg base 4 "is_kind_table" (spF K pre_tab fun _ => .bl true) [] := ⟨⟨_, _, _, _, ok_is_kind_table F_is_kind_table T c_are_entries, PySem.W.mg_of X G a_is_kind_table, F_is_kind_table.kp, B_is_kind_table, .nil⟩⟩
  have k_Kind1 : C8.Mak l.prog w K mg base 5 "Kind" C (spIS K C pre_tab kindNs S_Kind) [] := ⟨⟨_, _, _, _, ⟨mk, a_Kind_init, i_Kind_init, kc⟩, ok_Kind_init F_Kind_init T W c_is_kind_table, PySem.W.mg_of X G aC, B_Kind_init, .nil⟩⟩
  have c_flag_kind : C8.Cal l.prog w K mg base 7 "flag_kind" (spF K (fun ds => ds = []) fun _ => kindD C pk0) [] := ⟨⟨_, _, _, _, ok_flag_kind F_flag_kind T k_Kind1, PySem.W.mg_of X G a_flag_kind, F_flag_kind.kp, B_flag_kind, .nil⟩⟩
  have c_adder_kind : C8.Cal l.prog w K mg base 7 "adder_kind" (spS K (pre_sz 12) (S_sz C ad)) [] := ⟨⟨_, _, _, _, ok_adder_kind F_adder_kind T c_check_number k_Kind1, PySem.W.mg_of X G a_adder_kind, F_adder_kind.kp, B_adder_kind, .nil⟩⟩
  have c_swap_kind : C8.Cal l.prog w K mg base 7 "swap_kind" (spS K (pre_sz 7) (S_sz C pk2)) [] := ⟨⟨_, _, _, _, ok_swap_kind F_swap_kind T c_check_number k_Kind1, PySem.W.mg_of X G a_swap_kind, F_swap_kind.kp, B_swap_kind, .nil⟩⟩
  have c_cell_kind : C8.Cal l.prog w K mg base 7 "cell_kind" (spS K (pre_sz 7) (S_sz C pk3)) [] := ⟨⟨_, _, _, _, ok_cell_kind F_cell_kind T c_check_number k_Kind1, PySem.W.mg_of X G a_cell_kind, F_cell_kind.kp, B_cell_kind, .nil⟩⟩
  have c_sticky_kind : C8.Cal l.prog w K mg base 7 "sticky_kind" (spS K (pre_sz 7) (S_sz C pk4)) [] := ⟨⟨_, _, _, _, ok_sticky_kind F_sticky_kind T c_check_number k_Kind1, PySem.W.mg_of X G a_sticky_kind, F_sticky_kind.kp, B_sticky_kind, .nil⟩⟩
  have c__law_known_right : C8.Cal l.prog w K mg base 9 "_law_known_right" (spF K (fun ds => ds = []) fun _ => .bl true) [] := ⟨⟨_, _, _, _, ok_law_known_right F_law_known_right T c__law_pairs c_telling_plans c_flag_kind c_adder_kind c_swap_kind c_cell_kind c_sticky_kind, PySem.W.mg_of X G a_law_known_right, F_law_known_right.kp, B_law_known_right, .nil⟩⟩
  have c__law_pour : C8.Cal l.prog w K mg base 1 "_law_pour" (spP K pre_pour S_pour) [] := ⟨⟨_, _, _, _, ok_law_pour F_law_pour T, PySem.W.mg_of X G a_law_pour, F_law_pour.kp, B_law_pour, .nil⟩⟩
  have c__law_plain_kind : C8.Cal l.prog w K mg base 2 "_law_plain_kind" (spP K pre_pk S_tbl) [] := ⟨⟨_, _, _, _, ok_law_plain_kind F_law_plain_kind T c__law_pour, PySem.W.mg_of X G a_law_plain_kind, F_law_plain_kind.kp, B_law_plain_kind, .nil⟩⟩
  have c__law_one_of : C8.Cal l.prog w K mg base 2 "_law_one_of" (spP K pre_one S_one) [] := ⟨⟨_, _, _, _, ok_law_one_of F_law_one_of T c__law_pour, PySem.W.mg_of X G a_law_one_of, F_law_one_of.kp, B_law_one_of, .nil⟩⟩
  have c__law_table : C8.Cal l.prog w K mg base 3 "_law_table" (spP K pre_tbl S_tbl) [] := ⟨⟨_, _, _, _, ok_law_table F_law_table T c__law_pour c__law_one_of, PySem.W.mg_of X G a_law_table, F_law_table.kp, B_law_table, .nil⟩⟩
  have c__law_any_table : C8.Cal l.prog w K mg base 5 "_law_any_table" (spP K pre_tbl S_tbl) [] := ⟨⟨_, _, _, _, ok_law_any_table F_law_any_table T c__law_pour c__law_plain_kind c__law_table, PySem.W.mg_of X G a_law_any_table, F_law_any_table.kp, B_law_any_table, .nil⟩⟩
  have c__law_seen : C8.Cal l.prog w K mg base 1 "_law_seen" (spS K pre_ls S_ls) [] := ⟨⟨_, _, _, _, ok_law_seen F_law_seen T, PySem.W.mg_of X G a_law_seen, F_law_seen.kp, B_law_seen, .nil⟩⟩
  have c__law_confusions : C8.Cal l.prog w K mg base 2 "_law_confusions" (spS K pre_lc S_lc) [] := ⟨⟨_, _, _, _, ok_law_confusions F_law_confusions T c__law_seen, PySem.W.mg_of X G a_law_confusions, F_law_confusions.kp, B_law_confusions, .nil⟩⟩
  have c__law_all_telling : C8.Cal l.prog w K mg base 3 "_law_all_telling" (spS K pre_at S_at) [] := ⟨⟨_, _, _, _, ok_law_all_telling F_law_all_telling T c__law_confusions, PySem.W.mg_of X G a_law_all_telling, F_law_all_telling.kp, B_law_all_telling, .nil⟩⟩
  have c__law_order_of : C8.Cal l.prog w K mg base 2 "_law_order_of" (spP K pre_ord S_ord) [] := ⟨⟨_, _, _, _, ok_law_order_of F_law_order_of T c__law_pour, PySem.W.mg_of X G a_law_order_of, F_law_order_of.kp, B_law_order_of, .nil⟩⟩
  have c__law_plan_drawn : C8.Cal l.prog w K mg base 2 "_law_plan_drawn" (spP K pre_pd S_pd) [] := ⟨⟨_, _, _, _, ok_law_plan_drawn F_law_plan_drawn T c__law_pour, PySem.W.mg_of X G a_law_plan_drawn, F_law_plan_drawn.kp, B_law_plan_drawn, .nil⟩⟩
  have c__law_made_plan : C8.Cal l.prog w K mg base 7 "_law_made_plan" (spS K pre_mp (S_mp C Cq)) [] := ⟨⟨_, _, _, _, ok_law_made_plan F_law_made_plan T k_Kind1 k_Plan4, PySem.W.mg_of X G a_law_made_plan, F_law_made_plan.kp, B_law_made_plan, .nil⟩⟩
  have O_klen : OwnK l.prog w K mg base C "__len__" 1 (spS K (pre_kd C) (S_kd C fun T => dN T.length)) := ⟨⟨_, a_Kind_len, i_Kind_len, _, _, ok_Kind_len F_Kind_len T W, B_Kind_len⟩⟩
  have c_check_few_parts : C8.Cal l.prog w K mg base 1 "check_few_parts" (spF K pre_few fun _ => .non) [] := ⟨⟨_, _, _, _, ok_check_few_parts F_check_few_parts T, PySem.W.mg_of X G a_check_few_parts, F_check_few_parts.kp, B_check_few_parts, .nil⟩⟩
  have c_side_by_side : C8.Cal l.prog w K mg base 1 "side_by_side" (spS K pre_sbs S_sbs) [] := ⟨⟨_, _, _, _, ok_side_by_side F_side_by_side T, PySem.W.mg_of X G a_side_by_side, F_side_by_side.kp, B_side_by_side, .nil⟩⟩
  have O_mul : MulK l.prog w K mg base C 7 (spS K (pre_mul C) (S_mul C)) := ⟨⟨_, a_Kind_mul, i_Kind_mul, sf, _, _, ok_Kind_mul F_Kind_mul T W ic c_check_few_parts c_side_by_side k_Kind1, B_Kind_mul⟩⟩
  have c__law_sides_right : C8.Cal l.prog w K mg base 10 "_law_sides_right" (spP K pre_sr fun _ d => d = .bl true) [] := ⟨⟨_, _, _, _, ok_law_sides_right F_law_sides_right T c__law_any_table c__law_all_telling c_telling_plans k_Kind1 O_klen O_mul, PySem.W.mg_of X G a_law_sides_right, F_law_sides_right.kp, B_law_sides_right, .nil⟩⟩
  have c_are_all_numbers : C8.Cal l.prog w K mg base 2 "are_all_numbers" (spF K pre_all fun _ => .bl true) [] := ⟨⟨_, _, _, _, ok_are_all_numbers F_are_all_numbers T c_are_numbers, PySem.W.mg_of X G a_are_all_numbers, F_are_all_numbers.kp, B_are_all_numbers, .nil⟩⟩
  have m_relabeled : C8.Met l.prog w K mg base 7 C "relabeled" (spS K (pre_rel C) (S_rel C)) [] := ⟨⟨_, _, _, _, W.cl, ⟨a_Kind_relabeled, i_Kind_relabeled, F_Kind_relabeled.kp⟩, ok_Kind_relabeled F_Kind_relabeled T W c_are_all_numbers k_Kind1, B_Kind_relabeled, .nil⟩⟩
  have c__law_right : C8.Cal l.prog w K mg base 11 "_law_right" (spP K (fun ds => ds = []) fun _ d => d = .bl true) [] := ⟨⟨_, _, _, _, ok_law_right F_law_right T c__law_any_table c__law_all_telling c__law_order_of c_telling_plans c__law_plan_drawn c__law_made_plan c_tells c__law_sides_right k_Kind1 m_relabeled, PySem.W.mg_of X G a_law_right, F_law_right.kp, B_law_right, .nil⟩⟩
  exact ok_law F_law T c__law_jug c__law_known_right c__law_right
theorem walk {l : PySem.W.OpenLaw} {q : Program} {loose : List Str} {XP : (Str → Option Value) → Heap → Prop} {YP : World → Heap → Prop} {d : DefRec} {K : Params → PySem.W.Frag} (hn : l.most = some 63) (hdf : d.params.defaults = [])
    (hY : ∀ (w : World) (h : Heap), YP w h → (K w.params).In h)
    (F : ∀ (w : World) (mg : Str → Option Value) (fa : Addr) (h : Heap), (K w.params).In h → h.Ns mainGlobals mg → mg d.name = some (.ref fa) →
      ∃ fd : FuncData, (∀ (s : Shared) (u : Value), BindsTo s fd ⟨[u], []⟩ [("_law_script", u)]) ∧ ∀ base : Heap, (K w.params).In base → base.Ns mainGlobals mg → FnOk l.prog w (K w.params) mg base CX0 12 fa fd ["_law_script"] (spS (K w.params) pre_law fun _ d => d = .bl true)) :
    PySem.W.WalkO q loose XP YP l.row.toRowW d [] (fun f vs => PySem.call f vs) :=
  L2.walk_of (n := 63) (k := 12) (x := "_law_script") (CX := fun _ => CX0) (sp := fun w => spS (K w.params) pre_law fun _ d => d = .bl true) hn (by decide) hdf ⟨rfl, by decide, by decide⟩ hY F (fun _ H a ns hl hO hS => law_sp hl hO hS) fun _ _ _ _ _ z => z
end K63

open PySem PySem.W PyProof.Rows
set_option Elab.async false
set_option maxRecDepth 100000 in
set_option maxHeartbeats 0 in
theorem PySem.Challenge.cw_poolmaps_k63_whole_telling_plans_of_kind_holds : PySem.Challenge.rw_poolmaps_k63_whole_telling_plans_of_kind.Holds := by
  w_on; o_law; k_head; (case hw => w_witness2)
  k_fill
  refine K63.walk (l := PySem.Challenge.rw_poolmaps_k63_whole_telling_plans_of_kind) rfl rfl (fun w h Y => PySem.W.kIn_of Y) ?F
  case F =>
    intro w mg fa h KX G hmg
    refine' K63.all_mk KX G hmg ?r12 ?r8 ?r99 ?r7 ?aC ?a_MAX_STATES ?a_MAX_OPERATIONS ?a_MAX_ANSWER ?a_MAX_VALUES ?aCq ?pg ?hd ?po ?sa ?mk ?kc ?ha ?hm ?pgq ?hdq ?poq ?saq ?mkq ?kcq ?haq ?hmq ?hn ?htk ?sf ?n_table ?n_kind ?n_start ?n_operations ?z_isinstance ?z_int ?z_bool ?z_tuple ?z_list ?z_str ?z_all ?z_any ?z_len ?z_range ?z_enumerate ?z_sorted ?z_sum ?z_max ?z_min ?z_abs ?z_set ?z_zip ?a_law_jug (L2.fun_mk ?l_law_jug ?c_law_jug ?k_law_jug) ?a_law_pairs (L2.fun_mk ?l_law_pairs ?c_law_pairs ?k_law_pairs) ?a_check_kind (L2.fun_mk ?l_check_kind ?c_check_kind ?k_check_kind) ?a_Kind_states ?g_Kind_states ?t_Kind_states ?r_Kind_states (L2.fun_mk ?l_Kind_states ?c_Kind_states ?k_Kind_states) ?a_Kind_operations ?g_Kind_operations ?t_Kind_operations ?r_Kind_operations (L2.fun_mk ?l_Kind_operations ?c_Kind_operations ?k_Kind_operations) ?a_is_number (L2.fun_mk ?l_is_number ?c_is_number ?k_is_number) ?a_check_number (L2.fun_mk ?l_check_number ?c_check_number ?k_check_number) ?a_Plan_init ?i_Plan_init (K63.funD0_mk ?l_Plan_init ?c_Plan_init ?k_Plan_init) ?a_check_plan (L2.fun_mk ?l_check_plan ?c_check_plan ?k_check_plan) ?a_are_numbers (L2.fun_mk ?l_are_numbers ?c_are_numbers ?k_are_numbers) ?a_Kind_after ?i_Kind_after (L2.fun_mk ?l_Kind_after ?c_Kind_after ?k_Kind_after) ?a_Plan_seen ?i_Plan_seen (L2.fun_mk ?l_Plan_seen ?c_Plan_seen ?k_Plan_seen) ?a_confusions (L2.fun_mk ?l_confusions ?c_confusions ?k_confusions) ?a_tells (L2.fun_mk ?l_tells ?c_tells ?k_tells) ?a_telling_plans (L2.fun_mk ?l_telling_plans ?c_telling_plans ?k_telling_plans) ?a_is_pair (L2.fun_mk ?l_is_pair ?c_is_pair ?k_is_pair) ?a_is_entry (L2.fun_mk ?l_is_entry ?c_is_entry ?k_is_entry) ?a_are_entries (L2.fun_mk ?l_are_entries ?c_are_entries ?k_are_entries) ?a_is_kind_table (L2.fun_mk ?l_is_kind_table ?c_is_kind_table ?k_is_kind_table) ?a_Kind_init ?i_Kind_init (K63.funD0_mk ?l_Kind_init ?c_Kind_init ?k_Kind_init) ?a_flag_kind (L2.fun_mk ?l_flag_kind ?c_flag_kind ?k_flag_kind) ?a_adder_kind (L2.fun_mk ?l_adder_kind ?c_adder_kind ?k_adder_kind) ?a_swap_kind (L2.fun_mk ?l_swap_kind ?c_swap_kind ?k_swap_kind) ?a_cell_kind (L2.fun_mk ?l_cell_kind ?c_cell_kind ?k_cell_kind) ?a_sticky_kind (L2.fun_mk ?l_sticky_kind ?c_sticky_kind ?k_sticky_kind) ?a_law_known_right (L2.fun_mk ?l_law_known_right ?c_law_known_right ?k_law_known_right) ?a_law_pour (L2.fun_mk ?l_law_pour ?c_law_pour ?k_law_pour) ?a_law_plain_kind (L2.fun_mk ?l_law_plain_kind ?c_law_plain_kind ?k_law_plain_kind) ?a_law_one_of (L2.fun_mk ?l_law_one_of ?c_law_one_of ?k_law_one_of) ?a_law_table (L2.fun_mk ?l_law_table ?c_law_table ?k_law_table) ?a_law_any_table (L2.fun_mk ?l_law_any_table ?c_law_any_table ?k_law_any_table) ?a_law_seen (L2.fun_mk ?l_law_seen ?c_law_seen ?k_law_seen) ?a_law_confusions (L2.fun_mk ?l_law_confusions ?c_law_confusions ?k_law_confusions) ?a_law_all_telling (L2.fun_mk ?l_law_all_telling ?c_law_all_telling ?k_law_all_telling) ?a_law_order_of (L2.fun_mk ?l_law_order_of ?c_law_order_of ?k_law_order_of) ?a_law_plan_drawn (L2.fun_mk ?l_law_plan_drawn ?c_law_plan_drawn ?k_law_plan_drawn) ?a_law_made_plan (L2.fun_mk ?l_law_made_plan ?c_law_made_plan ?k_law_made_plan) ?a_Kind_len ?i_Kind_len (L2.fun_mk ?l_Kind_len ?c_Kind_len ?k_Kind_len) ?a_check_few_parts (L2.fun_mk ?l_check_few_parts ?c_check_few_parts ?k_check_few_parts) ?a_side_by_side (L2.fun_mk ?l_side_by_side ?c_side_by_side ?k_side_by_side) ?a_Kind_mul ?i_Kind_mul (L2.fun_mk ?l_Kind_mul ?c_Kind_mul ?k_Kind_mul) ?a_law_sides_right (L2.fun_mk ?l_law_sides_right ?c_law_sides_right ?k_law_sides_right) ?a_are_all_numbers (L2.fun_mk ?l_are_all_numbers ?c_are_all_numbers ?k_are_all_numbers) ?a_Kind_relabeled ?i_Kind_relabeled (L2.fun_mk ?l_Kind_relabeled ?c_Kind_relabeled ?k_Kind_relabeled) ?a_law_right (L2.fun_mk ?l_law_right ?c_law_right ?k_law_right) ?a_law (L2.fun_mk ?l_law ?c_law ?k_law)
    (case aC => k_is)
    (case a_MAX_STATES => k_is)
    (case a_MAX_OPERATIONS => k_is)
    (case a_MAX_ANSWER => k_is)
    (case a_MAX_VALUES => k_is)
    (case aCq => k_is)
    (case pg => k_is)
    (case hd => k_is)
    (case po => k_is)
    (case sa => k_is)
    (case mk => k_is)
    (case kc => k_is)
    (case ha => k_is)
    (case hm => k_is)
    (case pgq => k_is)
    (case hdq => k_is)
    (case poq => k_is)
    (case saq => k_is)
    (case mkq => k_is)
    (case kcq => k_is)
    (case haq => k_is)
    (case hmq => k_is)
    (case hn => k_is)
    (case htk => k_is)
    (case sf => k_is)
    (case n_table => k_is)
    (case n_kind => k_is)
    (case n_start => k_is)
    (case n_operations => k_is)
    (case z_isinstance => k_is)
    (case z_int => k_is)
    (case z_bool => k_is)
    (case z_tuple => k_is)
    (case z_list => k_is)
    (case z_str => k_is)
    (case z_all => k_is)
    (case z_any => k_is)
    (case z_len => k_is)
    (case z_range => k_is)
    (case z_enumerate => k_is)
    (case z_sorted => k_is)
    (case z_sum => k_is)
    (case z_max => k_is)
    (case z_min => k_is)
    (case z_abs => k_is)
    (case z_set => k_is)
    (case z_zip => k_is)
    (case a_law_jug => k_is)
    (case l_law_jug => k_is)
    (case c_law_jug => k_is)
    (case k_law_jug => k_is)
    (case a_law_pairs => k_is)
    (case l_law_pairs => k_is)
    (case c_law_pairs => k_is)
    (case k_law_pairs => k_is)
    (case a_check_kind => k_is)
    (case l_check_kind => k_is)
    (case c_check_kind => k_is)
    (case k_check_kind => k_is)
    (case a_Kind_states => k_is)
    (case g_Kind_states => k_is)
    (case t_Kind_states => k_is)
    (case r_Kind_states => k_is)
    (case l_Kind_states => k_is)
    (case c_Kind_states => k_is)
    (case k_Kind_states => k_is)
    (case a_Kind_operations => k_is)
    (case g_Kind_operations => k_is)
    (case t_Kind_operations => k_is)
    (case r_Kind_operations => k_is)
    (case l_Kind_operations => k_is)
    (case c_Kind_operations => k_is)
    (case k_Kind_operations => k_is)
    (case a_is_number => k_is)
    (case l_is_number => k_is)
    (case c_is_number => k_is)
    (case k_is_number => k_is)
    (case a_check_number => k_is)
    (case l_check_number => k_is)
    (case c_check_number => k_is)
    (case k_check_number => k_is)
    (case a_Plan_init => k_is)
    (case i_Plan_init => k_is)
    (case l_Plan_init => k_is)
    (case c_Plan_init => k_is)
    (case k_Plan_init => k_is)
    (case a_check_plan => k_is)
    (case l_check_plan => k_is)
    (case c_check_plan => k_is)
    (case k_check_plan => k_is)
    (case a_are_numbers => k_is)
    (case l_are_numbers => k_is)
    (case c_are_numbers => k_is)
    (case k_are_numbers => k_is)
    (case a_Kind_after => k_is)
    (case i_Kind_after => k_is)
    (case l_Kind_after => k_is)
    (case c_Kind_after => k_is)
    (case k_Kind_after => k_is)
    (case a_Plan_seen => k_is)
    (case i_Plan_seen => k_is)
    (case l_Plan_seen => k_is)
    (case c_Plan_seen => k_is)
    (case k_Plan_seen => k_is)
    (case a_confusions => k_is)
    (case l_confusions => k_is)
    (case c_confusions => k_is)
    (case k_confusions => k_is)
    (case a_tells => k_is)
    (case l_tells => k_is)
    (case c_tells => k_is)
    (case k_tells => k_is)
    (case a_telling_plans => k_is)
    (case l_telling_plans => k_is)
    (case c_telling_plans => k_is)
    (case k_telling_plans => k_is)
    (case a_is_pair => k_is)
    (case l_is_pair => k_is)
    (case c_is_pair => k_is)
    (case k_is_pair => k_is)
    (case a_is_entry => k_is)
    (case l_is_entry => k_is)
    (case c_is_entry => k_is)
    (case k_is_entry => k_is)
    (case a_are_entries => k_is)
    (case l_are_entries => k_is)
    (case c_are_entries => k_is)
    (case k_are_entries => k_is)
    (case a_is_kind_table => k_is)
    (case l_is_kind_table => k_is)
    (case c_is_kind_table => k_is)
    (case k_is_kind_table => k_is)
    (case a_Kind_init => k_is)
    (case i_Kind_init => k_is)
    (case l_Kind_init => k_is)
    (case c_Kind_init => k_is)
    (case k_Kind_init => k_is)
    (case a_flag_kind => k_is)
    (case l_flag_kind => k_is)
    (case c_flag_kind => k_is)
    (case k_flag_kind => k_is)
    (case a_adder_kind => k_is)
    (case l_adder_kind => k_is)
    (case c_adder_kind => k_is)
    (case k_adder_kind => k_is)
    (case a_swap_kind => k_is)
    (case l_swap_kind => k_is)
    (case c_swap_kind => k_is)
    (case k_swap_kind => k_is)
    (case a_cell_kind => k_is)
    (case l_cell_kind => k_is)
    (case c_cell_kind => k_is)
    (case k_cell_kind => k_is)
    (case a_sticky_kind => k_is)
    (case l_sticky_kind => k_is)
    (case c_sticky_kind => k_is)
    (case k_sticky_kind => k_is)
    (case a_law_known_right => k_is)
    (case l_law_known_right => k_is)
    (case c_law_known_right => k_is)
    (case k_law_known_right => k_is)
    (case a_law_pour => k_is)
    (case l_law_pour => k_is)
    (case c_law_pour => k_is)
    (case k_law_pour => k_is)
    (case a_law_plain_kind => k_is)
    (case l_law_plain_kind => k_is)
    (case c_law_plain_kind => k_is)
    (case k_law_plain_kind => k_is)
    (case a_law_one_of => k_is)
    (case l_law_one_of => k_is)
    (case c_law_one_of => k_is)
    (case k_law_one_of => k_is)
    (case a_law_table => k_is)
    (case l_law_table => k_is)
    (case c_law_table => k_is)
    (case k_law_table => k_is)
    (case a_law_any_table => k_is)
    (case l_law_any_table => k_is)
    (case c_law_any_table => k_is)
    (case k_law_any_table => k_is)
    (case a_law_seen => k_is)
    (case l_law_seen => k_is)
    (case c_law_seen => k_is)
    (case k_law_seen => k_is)
    (case a_law_confusions => k_is)
    (case l_law_confusions => k_is)
    (case c_law_confusions => k_is)
    (case k_law_confusions => k_is)
    (case a_law_all_telling => k_is)
    (case l_law_all_telling => k_is)
    (case c_law_all_telling => k_is)
    (case k_law_all_telling => k_is)
    (case a_law_order_of => k_is)
    (case l_law_order_of => k_is)
    (case c_law_order_of => k_is)
    (case k_law_order_of => k_is)
    (case a_law_plan_drawn => k_is)
    (case l_law_plan_drawn => k_is)
    (case c_law_plan_drawn => k_is)
    (case k_law_plan_drawn => k_is)
    (case a_law_made_plan => k_is)
    (case l_law_made_plan => k_is)
    (case c_law_made_plan => k_is)
    (case k_law_made_plan => k_is)
    (case a_Kind_len => k_is)
    (case i_Kind_len => k_is)
    (case l_Kind_len => k_is)
    (case c_Kind_len => k_is)
    (case k_Kind_len => k_is)
    (case a_check_few_parts => k_is)
    (case l_check_few_parts => k_is)
    (case c_check_few_parts => k_is)
    (case k_check_few_parts => k_is)
    (case a_side_by_side => k_is)
    (case l_side_by_side => k_is)
    (case c_side_by_side => k_is)
    (case k_side_by_side => k_is)
    (case a_Kind_mul => k_is)
    (case i_Kind_mul => k_is)
    (case l_Kind_mul => k_is)
    (case c_Kind_mul => k_is)
    (case k_Kind_mul => k_is)
    (case a_law_sides_right => k_is)
    (case l_law_sides_right => k_is)
    (case c_law_sides_right => k_is)
    (case k_law_sides_right => k_is)
    (case a_are_all_numbers => k_is)
    (case l_are_all_numbers => k_is)
    (case c_are_all_numbers => k_is)
    (case k_are_all_numbers => k_is)
    (case a_Kind_relabeled => k_is)
    (case i_Kind_relabeled => k_is)
    (case l_Kind_relabeled => k_is)
    (case c_Kind_relabeled => k_is)
    (case k_Kind_relabeled => k_is)
    (case a_law_right => k_is)
    (case l_law_right => k_is)
    (case c_law_right => k_is)
    (case k_law_right => k_is)
    (case a_law => k_is)
    (case l_law => k_is)
    (case c_law => k_is)
    (case k_law => k_is)
    (case r12 => exact ⟨_, rfl⟩); (case r8 => exact ⟨_, rfl⟩); (case r99 => exact ⟨_, rfl⟩); (case r7 => exact ⟨_, rfl⟩)
#print axioms PySem.Challenge.cw_poolmaps_k63_whole_telling_plans_of_kind_holds
