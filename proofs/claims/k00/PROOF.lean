import PyProof.Rows.All
import Wide.All
import OpenK.AllK
import Wide.FinOn
import HandS.Head0
import HandS.Head1
import HandS.Head2
import HandS.Lambda
import HandS.ForMost
import HandS.Walk
import HandS.IsInst
import HandS.Property
import HandS.FStr
import HandS.Star
import HandS.TupAny
import HandS.Conv
import HandS.Flow
import HandS.Evl
import KE.GoesMore
import KE.GoesEnum
import KE.DataMinMax
import KE.DataAny
import KE.DataCmp
import KE.SortData
import KE.KSortedM
import HandS.TupMul
import HandS.Deep
import OpenK.KOps
import KE.KCallOwn
import HandS.Codes
import HandS.Wide
import HandS.Defaults
import HandS.OwnEq
import HandS.WordsExc
import HandS.TryOnly
import HandS.ExcInit
import HandS.ExcField
import KE.KExcInit
import PyProof.InstStoreFacts
import PyProof.Rows.FactsExc_KeyError
import HandS.TryMany
import HandS.EndTab
import PyProof.InstNe
import PyProof.FactsAll.object_1
import PyProof.FactsAll.object_2
import HandS.Strs
import HandS.SetBool
import HandS.SetFor
import HandS.Zip
import PyProof.SumWalkG
import PyProof.ListOps
import PyProof.WalksS
import KE.KeyNested
import KE.KDictSum
import KE.KDictCopyH
import PyProof.DictMoreH
import HandS.DictComp
import PyProof.ReprRoads
import PySem.Challenge.RW_poolmaps_k00_errors_keep_what_they_are_m
set_option Elab.async false
set_option linter.all false
set_option maxRecDepth 100000
set_option autoImplicit false
/-! TxHD: k_head's facts by one kernel run over the heap as a tree -/
namespace TxHD
open PySem PySem.W PySem.Calls PyProof.Rows
noncomputable def obK (as : List Addr) (s : SharedT) : List (Option Obj) := as.map (HandSHeadRun.getT s)
theorem head_k {r : OpenRow} {q : Program} {K : Params → Frag} {as : List Addr} {e0 : ∀ P, as = (K P).map (·.1)} {M : Nat} {loose : List PySem.Str} {d : DefRec} {kwd : List (PySem.Str × PySem.Expr)} (H : Hook) (_hH : kHook K as e0 = H)
    (e : opening r.prog = plainProg r.prog.main.scope.names) (f : ∀ s, fenceModules? r.prog s = some s) (run : ∀ w, HandSHeadRun.RunEq r q (kHook K as e0) (obK as) M loose w)
    (hdef : defOf q r.name = some (d, kwd)) (hp : r.prog.theDef r.name = some (d.params, d.body, d.scope)) (hk : kwWritten? d.params.kwonlyargs d.params.kw_defaults = some kwd)
    (hwr : (!r.writes || r.records.isEmpty) = true) (k1 : r.wellSaid = true) (ok : (chainsOk q && opensWell r.prog && (frees r.toRowW && r.within.isEmpty)) = true) (hb : r.prog.bare) (hw : r.toRowW.promised)
    (call : WalkO q loose (XL q []) (kHook K as e0).says r.toRowW d kwd fun f vs => PySem.call f vs) : r.Holds :=
  HandSHeadRun.head_any (H := kHook K as e0) (ob := obK as) (M := M) (fun s => by
    show as.map (HandSHeadRun.getT s) = as.map s.abs.heap.get?
    exact List.map_congr_left fun a _ => HandSHeadRun.getT_eq s a) e f run hdef hp hk hwr k1 ok hb hw call
end TxHD

set_option Elab.async false
set_option linter.all false
set_option maxRecDepth 100000
set_option autoImplicit false
/-! TxHT: the head of a law that makes lambdas: the tables of code objects are empty -/
namespace TxHD
open PySem PySem.W PySem.Calls PyProof.Rows
noncomputable def obT (as ts : List Addr) (s : SharedT) : List (Option Obj) × List (Option Obj) := (as.map (HandSHeadRun.getT s), ts.map (HandSHeadRun.getT s))
theorem head_t {r : OpenRow} {q : Program} {K : Params → Frag} {as ts : List Addr} {e0 : ∀ P, as = (K P).map (·.1)} {M : Nat} {loose : List PySem.Str} {d : DefRec} {kwd : List (PySem.Str × PySem.Expr)} (H : Hook) (_hH : kmHook K as e0 ts = H)
    (e : opening r.prog = plainProg r.prog.main.scope.names) (f : ∀ s, fenceModules? r.prog s = some s) (run : ∀ w, HandSHeadRun.RunEq r q (kmHook K as e0 ts) (obT as ts) M loose w)
    (hdef : defOf q r.name = some (d, kwd)) (hp : r.prog.theDef r.name = some (d.params, d.body, d.scope)) (hk : kwWritten? d.params.kwonlyargs d.params.kw_defaults = some kwd)
    (hwr : (!r.writes || r.records.isEmpty) = true) (k1 : r.wellSaid = true) (ok : (chainsOk q && opensWell r.prog && (frees r.toRowW && r.within.isEmpty)) = true) (hb : r.prog.bare) (hw : r.toRowW.promised)
    (call : WalkO q loose (XL q []) (kmHook K as e0 ts).says r.toRowW d kwd fun f vs => PySem.call f vs) : r.Holds :=
  HandSHeadRun.head_any (H := kmHook K as e0 ts) (ob := obT as ts) (M := M) (fun s => by
    show (as.map (HandSHeadRun.getT s), ts.map (HandSHeadRun.getT s)) = (as.map s.abs.heap.get?, ts.map s.abs.heap.get?)
    exact congr (congrArg Prod.mk (List.map_congr_left fun a _ => HandSHeadRun.getT_eq s a)) (List.map_congr_left fun a _ => HandSHeadRun.getT_eq s a)) e f run hdef hp hk hwr k1 ok hb hw call
end TxHD

set_option Elab.async false
set_option linter.all false
set_option maxRecDepth 100000
set_option maxHeartbeats 0
namespace HdK00
open PySem PySem.W PySem.Calls PyProof.Rows
abbrev R : OpenRow := OpenLaw.row PySem.Challenge.rw_poolmaps_k00_errors_keep_what_they_are_m
abbrev qv : Program := view R.prog [27]
def names0 : List PySem.Str := ["PoolError", "InvalidWeb", "InvalidPool", "InvalidWord", "InvalidRow", "InvalidTask", "InvalidRule", "InvalidKind", "InvalidMachine", "InvalidName", "InvalidOperation", "ParseError", "InvalidNumber", "UnknownName", "NothingToUndo", "TooMany", "Refused", "_law_pouch", "_law_coin", "_law_any"]
def names1 : List PySem.Str := ["_law_caught", "_law_plain", "_law_own", "_law_keeping", "_law_kept"]
def names : List PySem.Str := names0 ++ names1
section
local macro_rules | `(tactic| o_head $H:term) => `(tactic| (have hook : Hook := $H; assumption))
theorem frag (h : R.Holds) : R.Holds := by k_head
end
noncomputable def as_ : List Addr := (frag.heap_1 { strHash := fun _ => 0, shareClass := fun _ => 0, mergeTok := fun t => t, idOf := fun _ => 0, idOfShared := fun _ _ => 0, followText := fun _ => false, idOfImm := fun _ => 0 }).map (·.1)
theorem as_eq : ∀ P, as_ = (frag.heap_1 P).map (·.1) := fun _ => by kernel_rfl
theorem run (w : World) : HandSHeadRun.RunEq R qv (kmHook frag.heap_1 as_ as_eq [324]) (TxHD.obT as_ [324]) 30000 names w := by
  intro os
  kernel_rfl
theorem nm : (HandSHeadRun.topDef R.prog 27).name = ("law" : PySem.Str) := by kernel_rfl
theorem dfl : (HandSHeadRun.topDef R.prog 27).params.defaults = [] := by kernel_rfl
theorem done (k1 : R.wellSaid = true) (hw : R.toRowW.promised) (call : WalkO qv names (XL qv []) (kmHook frag.heap_1 as_ as_eq [324]).says R.toRowW (HandSHeadRun.topDef R.prog 27) [] fun f vs => PySem.call f vs) : R.Holds :=
  TxHD.head_t (r := R) (q := qv) (M := 30000) (loose := names) (d := HandSHeadRun.topDef R.prog 27) (kwd := []) (kmHook frag.heap_1 as_ as_eq [324]) rfl (by kernel_rfl) (fun s => by kernel_rfl) run (by kernel_rfl) (by kernel_rfl) (by kernel_rfl) (by rfl) k1 (by decide +kernel) ⟨rfl, rfl, rfl, rfl, rfl, by decide +kernel⟩ hw call
end HdK00

set_option Elab.async false
set_option linter.all false
set_option maxRecDepth 100000
set_option autoImplicit false
/-! Tx: data behind values, judgements of readings by data. -/
namespace Tx
open PySem L2

/-- data behind a value -/
inductive D where
  | non | bl (b : Bool) | int (i : Int) | str (s : Str)
  | lst (xs : List D) | tup (xs : List D)
  | obj (C : Addr) (ns : List Str) (xs : List D)
  | adr (a : Addr) | dic | frl (xs : List D)
  | ftp (xs : List D)
  | dct (hs : List Int) (ks vs : List D)

/-- a tuple of the written part -/
def KTup (K : PySem.W.Frag) (a : Addr) (xs : List V) : Prop := ∃ (o : Obj) (its : Array Value) (n : Nat), K.lookup a = some o ∧ o.cls = .type "tuple" ∧ o.data = .seq its n ∧ its.size ≤ sizeLine ∧ Vals xs its.toList
/-- a list of the written part -/
def KLst (K : PySem.W.Frag) (a : Addr) (xs : List V) : Prop := ∃ (o : Obj) (its : Array Value) (n : Nat), K.lookup a = some o ∧ o.cls = .type "list" ∧ o.dict = none ∧ o.data = .seq its n ∧ its.size ≤ sizeLine ∧ Vals xs its.toList
/-- the object at a is a dict of these entries: hash, key, value -/
def isDict (a : Addr) (es : List (Int × V × V)) (ep : Nat) : Heap → Prop := fun h => ∃ o ents, h.get? a = some o ∧ o.ExactDict ∧ o.data = .dict ents ep ∧ (a == sysModules) = false ∧ es.length ≤ 10000 ∧ Paired (fun (e : Int × V × V) (x : DictEntry) => x.hash = e.1 ∧ RelV e.2.1 x.key ∧ RelV e.2.2 x.val) es ents.toList
mutual
inductive Rp (K : PySem.W.Frag) (F : Addr → Prop) (H : Hp) : V → D → Prop
  | non : Rp K F H .non .non
  | bl (b : Bool) : Rp K F H (.bl b) (.bl b)
  | int (i : Int) : Rp K F H (.int i) (.int i)
  | str (s : Str) : Rp K F H (.str s) (.str s)
  | lst {a : Addr} {vs : List V} {ds : List D} : ¬ F a → H a = some (.lst vs) → RpAll K F H vs ds → Rp K F H (.ref a) (.lst ds)
  | tup {a : Addr} {vs : List V} {ds : List D} : ¬ F a → Rd H a (.tup vs) → RpAll K F H vs ds → Rp K F H (.ref a) (.tup ds)
  | ktup {a : Addr} {vs : List V} {ds : List D} : KTup K a vs → RpAll K F H vs ds → Rp K F H (.ref a) (.tup ds)
  | frl {a : Addr} {o : Obj} {vs : List V} {ds : List D} : ¬ F a → H a = some (.frz o (.lst vs)) → RpAll K F H vs ds → Rp K F H (.ref a) (.frl ds)
  | kfrl {a : Addr} {vs : List V} {ds : List D} : KLst K a vs → RpAll K F H vs ds → Rp K F H (.ref a) (.frl ds)
  | ftp {a : Addr} {o : Obj} {vs : List V} {ds : List D} : ¬ F a → H a = some (.frz o (.tup vs)) → o.cls = .type "tuple" → o.dict = none → RpAll K F H vs ds → Rp K F H (.ref a) (.ftp ds)
  | obj {a C dx : Addr} {ns : List Str} {vs : List V} {ds : List D} : ¬ F a → H a = some (.ins C dx (ns.zip vs)) → ns.length = vs.length → RpAll K F H vs ds → Rp K F H (.ref a) (.obj C ns ds)
  | adr (a : Addr) : Rp K F H (.ref a) (.adr a)
  | dic {a : Addr} : ¬ F a → H a = some (.dK []) → Rp K F H (.ref a) .dic
  | dct {a : Addr} {es : List (Int × V × V)} {ep : Nat} {hs : List Int} {ks vs : List D} : ¬ F a → H a = some (.ext (isDict a es ep)) → es.map (·.1) = hs → RpAll K F H (es.map (·.2.1)) ks → RpAll K F H (es.map (·.2.2)) vs → Rp K F H (.ref a) (.dct hs ks vs)
inductive RpAll (K : PySem.W.Frag) (F : Addr → Prop) (H : Hp) : List V → List D → Prop
  | nil : RpAll K F H [] []
  | cons {v : V} {vs : List V} {d : D} {ds : List D} : Rp K F H v d → RpAll K F H vs ds → RpAll K F H (v :: vs) (d :: ds)
end

section
variable {K : PySem.W.Frag} {F F' : Addr → Prop} {H H' : Hp}
theorem RpAll.len : ∀ {vs : List V} {ds : List D}, RpAll K F H vs ds → vs.length = ds.length
  | _, _, .nil => rfl
  | _, _, .cons _ t => by rw [List.length_cons, List.length_cons, t.len]
theorem RpAll.get : ∀ {vs : List V} {ds : List D} {i : Nat} {d : D}, RpAll K F H vs ds → ds[i]? = some d → ∃ v, vs[i]? = some v ∧ Rp K F H v d
  | _, _, _, _, .nil, e => by simp at e
  | _, _, 0, _, .cons r _, e => by simp at e; subst e; exact ⟨_, rfl, r⟩
  | _, _, i + 1, _, .cons _ t, e => by
    obtain ⟨v, h1, h2⟩ := RpAll.get (i := i) t (by simpa using e)
    exact ⟨v, by simpa using h1, h2⟩
theorem RpAll.at : ∀ {vs : List V} {ds : List D} {i : Nat} {v : V}, RpAll K F H vs ds → vs[i]? = some v → ∃ d, ds[i]? = some d ∧ Rp K F H v d
  | _, _, _, _, .nil, e => by simp at e
  | _, _, 0, _, .cons r _, e => by simp at e; subst e; exact ⟨_, rfl, r⟩
  | _, _, i + 1, _, .cons _ t, e => by
    obtain ⟨v, h1, h2⟩ := RpAll.at (i := i) t (by simpa using e)
    exact ⟨v, by simpa using h1, h2⟩
theorem RpAll.append : ∀ {vs ws : List V} {ds es : List D}, RpAll K F H vs ds → RpAll K F H ws es → RpAll K F H (vs ++ ws) (ds ++ es)
  | _, _, _, _, .nil, s => s
  | _, _, _, _, .cons r t, s => .cons r (t.append s)
theorem RpAll.take : ∀ {vs : List V} {ds : List D} (n : Nat), RpAll K F H vs ds → RpAll K F H (vs.take n) (ds.take n)
  | _, _, 0, _ => by simpa using RpAll.nil
  | _, _, _ + 1, .nil => by simpa using RpAll.nil
  | _, _, n + 1, .cons r t => by simpa using RpAll.cons r (RpAll.take n t)
theorem RpAll.drop : ∀ {vs : List V} {ds : List D} (n : Nat), RpAll K F H vs ds → RpAll K F H (vs.drop n) (ds.drop n)
  | _, _, 0, r => by simpa using r
  | _, _, _ + 1, .nil => by simpa using RpAll.nil
  | _, _, n + 1, .cons _ t => by simpa using RpAll.drop n t
theorem RpAll.set {v : V} {d : D} (r : Rp K F H v d) : ∀ {vs : List V} {ds : List D} (i : Nat), RpAll K F H vs ds → RpAll K F H (vs.set i v) (ds.set i d)
  | _, _, _, .nil => .nil
  | _, _, 0, .cons _ t => .cons r t
  | _, _, i + 1, .cons q t => .cons q (RpAll.set r i t)
theorem RpAll.rep {v : V} {d : D} (r : Rp K F H v d) : ∀ n : Nat, RpAll K F H (List.replicate n v) (List.replicate n d)
  | 0 => .nil
  | n + 1 => .cons r (RpAll.rep r n)
theorem RpAll.map {α : Type} {f : α → V} {g : α → D} (h : ∀ x, Rp K F H (f x) (g x)) : ∀ l : List α, RpAll K F H (l.map f) (l.map g)
  | [] => .nil
  | x :: l => .cons (h x) (RpAll.map h l)
theorem rd_up {a : Addr} {u : HO} (h : Rd H a u) (e : ∀ o, H a = some o → H' a = some o) : Rd H' a u := h.elim (fun h => .inl (e _ h)) fun ⟨o, h⟩ => .inr ⟨o, e _ h⟩
mutual
theorem Rp.go (k : ∀ a o, ¬ F a → H a = some o → ¬ F' a ∧ H' a = some o) : ∀ {d : D} {v : V}, Rp K F H v d → Rp K F' H' v d
  | .non, _, .non => .non
  | .bl _, _, .bl b => .bl b
  | .int _, _, .int i => .int i
  | .str _, _, .str s => .str s
  | .lst _, _, .lst n h t => .lst (k _ _ n h).1 (k _ _ n h).2 (Rp.goAll k t)
  | .tup _, _, .tup n h t => .tup (h.elim (fun h => (k _ _ n h).1) fun ⟨_, h⟩ => (k _ _ n h).1) (rd_up h fun o e => (k _ o n e).2) (Rp.goAll k t)
  | .tup _, _, .ktup h t => .ktup h (Rp.goAll k t)
  | .obj _ _ _, _, .obj n h l t => .obj (k _ _ n h).1 (k _ _ n h).2 l (Rp.goAll k t)
  | .adr _, _, .adr a => .adr a
  | .dic, _, .dic n h => .dic (k _ _ n h).1 (k _ _ n h).2
  | .dct _ _ _, _, .dct n h e a b => .dct (k _ _ n h).1 (k _ _ n h).2 e (Rp.goAll k a) (Rp.goAll k b)
  | .frl _, _, .frl n h t => .frl (k _ _ n h).1 (k _ _ n h).2 (Rp.goAll k t)
  | .frl _, _, .kfrl h t => .kfrl h (Rp.goAll k t)
  | .ftp _, _, .ftp n h c e t => .ftp (k _ _ n h).1 (k _ _ n h).2 c e (Rp.goAll k t)
theorem Rp.goAll (k : ∀ a o, ¬ F a → H a = some o → ¬ F' a ∧ H' a = some o) : ∀ {ds : List D} {vs : List V}, RpAll K F H vs ds → RpAll K F' H' vs ds
  | [], _, .nil => .nil
  | _ :: _, _, .cons r t => .cons (Rp.go k r) (Rp.goAll k t)
end
theorem Rp.mv (k : ∀ a o, ¬ F a → H a = some o → H' a = some o) {d : D} {v : V} (r : Rp K F H v d) : Rp K F H' v d := r.go fun a o n e => ⟨n, k a o n e⟩
theorem RpAll.mv (k : ∀ a o, ¬ F a → H a = some o → H' a = some o) {ds : List D} {vs : List V} (r : RpAll K F H vs ds) : RpAll K F H' vs ds := Rp.goAll (fun a o n e => ⟨n, k a o n e⟩) r
theorem Rp.sqt {a : Addr} {ds : List D} (r : Rp K F H (.ref a) (.tup ds)) : ∃ vs, SqT K H a vs ∧ RpAll K F H vs ds := by
  cases r with
  | tup n h t => exact ⟨_, .inl h, t⟩
  | ktup h t => exact ⟨_, .inr h, t⟩
theorem Rp.tupE {v : V} {ds : List D} (r : Rp K F H v (.tup ds)) : ∃ a vs, v = .ref a ∧ SqT K H a vs ∧ RpAll K F H vs ds := by
  cases r with
  | tup n h t => exact ⟨_, _, rfl, .inl h, t⟩
  | ktup h t => exact ⟨_, _, rfl, .inr h, t⟩
theorem Rp.lstE {v : V} {ds : List D} (r : Rp K F H v (.lst ds)) : ∃ a vs, v = .ref a ∧ H a = some (.lst vs) ∧ RpAll K F H vs ds := by
  cases r with
  | lst n h t => exact ⟨_, _, rfl, h, t⟩
theorem Rp.intE {v : V} {i : Int} (r : Rp K F H v (.int i)) : v = .int i := by cases r; rfl
theorem Rp.blE {v : V} {i : Bool} (r : Rp K F H v (.bl i)) : v = .bl i := by cases r; rfl
theorem Rp.strE {v : V} {i : Str} (r : Rp K F H v (.str i)) : v = .str i := by cases r; rfl
theorem Rp.adrE {v : V} {a : Addr} (r : Rp K F H v (.adr a)) : v = .ref a := by cases r; rfl
theorem RpAll.ints : ∀ {l : List Int} {vs : List V}, RpAll K F H vs (l.map D.int) → vs = l.map V.int
  | [], _, .nil => rfl
  | _ :: _, _, .cons r t => by rw [r.intE, RpAll.ints t] <;> rfl
theorem RpAll.bls : ∀ {l : List Bool} {vs : List V}, RpAll K F H vs (l.map D.bl) → vs = l.map V.bl
  | [], _, .nil => rfl
  | _ :: _, _, .cons r t => by rw [r.blE, RpAll.bls t] <;> rfl
theorem RpAll.strs : ∀ {l : List Str} {vs : List V}, RpAll K F H vs (l.map D.str) → vs = l.map V.str
  | [], _, .nil => rfl
  | _ :: _, _, .cons r t => by rw [r.strE, RpAll.strs t] <;> rfl
end

/-! ### plain data -/
mutual
def D.py : D → PyData
  | .non => .none | .bl b => .bool b | .int i => .int i | .str s => .str s
  | .lst xs => .list (D.pys xs) | .tup xs => .tuple (D.pys xs)
  | .obj _ _ _ => .none | .adr _ => .none | .dic => .none | .frl xs => .list (D.pys xs) | .ftp _ => .none | .dct _ _ _ => .none
def D.pys : List D → List PyData
  | [] => []
  | x :: xs => x.py :: D.pys xs
end
mutual
def D.plain : D → Bool
  | .non => true | .bl _ => true | .int _ => true | .str _ => true
  | .lst xs => D.plains xs | .tup xs => D.plains xs
  | .obj _ _ _ => false | .adr _ => false | .dic => false | .frl xs => D.plains xs | .ftp _ => false | .dct _ _ _ => false
def D.plains : List D → Bool
  | [] => true
  | x :: xs => x.plain && D.plains xs
end
section
variable {K : PySem.W.Frag} {F : Addr → Prop} {H : Hp}
mutual
theorem Rp.dp : ∀ {d : D} {v : V}, Rp K F H v d → d.plain = true → Dp K H v d.py
  | .non, _, .non, _ => .non
  | .bl _, _, .bl b, _ => .bl b
  | .int _, _, .int i, _ => .int i
  | .str _, _, .str s, _ => .str s
  | .lst _, _, .lst n h t, p => .lst (.inl (.inl h)) (Rp.dpAll t (by simpa [D.plain] using p))
  | .tup _, _, .tup n h t, p => .tup (.inl h) (Rp.dpAll t (by simpa [D.plain] using p))
  | .tup _, _, .ktup h t, p => .tup (.inr h) (Rp.dpAll t (by simpa [D.plain] using p))
  | .obj _ _ _, _, .obj n h l t, p => by simp [D.plain] at p
  | .adr _, _, .adr a, p => by simp [D.plain] at p
  | .ftp _, _, .ftp n h c e t, p => by simp [D.plain] at p
  | .dic, _, .dic n h, p => by simp [D.plain] at p
  | .dct _ _ _, _, .dct n h e a b, p => by simp [D.plain] at p
  | .frl _, _, .frl n h t, p => .lst (.inl (.inr ⟨_, h⟩)) (Rp.dpAll t (by simpa [D.plain] using p))
  | .frl _, _, .kfrl h t, p => .lst (.inr h) (Rp.dpAll t (by simpa [D.plain] using p))
theorem Rp.dpAll : ∀ {ds : List D} {vs : List V}, RpAll K F H vs ds → D.plains ds = true → DpAll K H vs (D.pys ds)
  | [], _, .nil, _ => .nil
  | _ :: _, _, .cons r t, p => by
    have p' := Bool.and_eq_true_iff.mp (by simpa [D.plains] using p)
    exact .cons (Rp.dp r p'.1) (Rp.dpAll t p'.2)
end
end

/-! ### modes -/
/-- F: what data may not lean on; R: how the heap may move; I: what is true all along -/
structure Mo where
  F : Addr → Prop
  R : Hp → Hp → Prop
  I : Hp → Prop
  refl : ∀ H, R H H
  trans : ∀ {H H1 H2}, R H H1 → R H1 H2 → R H H2
  keep : ∀ {H H'}, R H H' → I H → ∀ a o, ¬ F a → H a = some o → H' a = some o
  grow : ∀ {H H'}, I H → Same H H' → R H H'
  inv : ∀ {H H'}, R H H' → I H → I H'
  fa : ∀ {H a}, I H → F a → H a ≠ none
  chg : ∀ {H H1 p o}, I H → R H H1 → H p = none → R H (upd H1 p o)
  had : ∀ {H H' a}, I H → R H H' → H a ≠ none → H' a ≠ none
theorem same_chg {H H' : Hp} {p : Addr} {o : HO} (e : Same H H') (h : H p = none) : Same H (upd H' p o) := fun a u ha => by
  rw [upd_ne (ne_of_none ha h)]
  exact e a u ha
theorem same_new {H : Hp} {p : Addr} {o : HO} (h : H p = none) : Same H (upd H p o) := same_chg (Same.refl H) h
/-- nothing known changes -/
def pureMo (F : Addr → Prop) : Mo where
  F := F
  R := Same
  I := fun H => ∀ a, F a → H a ≠ none
  refl := Same.refl
  trans := fun a b => a.trans b
  keep := fun r _ a o _ e => r a o e
  grow := fun _ r => r
  inv := fun {H H'} r i a f => by
    cases e : H a with
    | none => exact absurd e (i a f)
    | some o => rw [r a o e]; exact fun z => nomatch z
  fa := fun i f => i _ f
  chg := fun _ r h => same_chg r h
  had := fun {H H' a} _ r n => by
    cases e : H a with
    | none => exact absurd e n
    | some o => rw [r a o e]; exact fun z => nomatch z
/-- one more address that data may not lean on -/
def Mo.ext (m : Mo) (p : Addr) : Mo where
  F := fun a => m.F a ∨ a = p
  R := m.R
  I := fun H => m.I H ∧ H p ≠ none
  refl := m.refl
  trans := m.trans
  keep := fun r i a o n e => m.keep r i.1 a o (fun z => n (.inl z)) e
  grow := fun i r => m.grow i.1 r
  inv := fun r i => ⟨m.inv r i.1, m.had i.1 r i.2⟩
  fa := fun i f => f.elim (fun f => m.fa i.1 f) fun e => e ▸ i.2
  chg := fun i r h => m.chg i.1 r h
  had := fun i r n => m.had i.1 r n
structure Mo.Le (m m' : Mo) : Prop where
  R : m'.R = m.R
  F : ∀ a, m.F a → m'.F a
  I : ∀ H, m'.I H → m.I H
theorem Mo.Le.refl (m : Mo) : m.Le m := ⟨rfl, fun _ h => h, fun _ h => h⟩
theorem Mo.Le.trans {m m1 m2 : Mo} (a : m.Le m1) (b : m1.Le m2) : m.Le m2 := ⟨b.R.trans a.R, fun x h => b.F x (a.F x h), fun H h => a.I H (b.I H h)⟩
theorem Mo.le_ext (m : Mo) (p : Addr) : m.Le (m.ext p) := ⟨rfl, fun _ h => .inl h, fun _ h => h.1⟩

end Tx

set_option Elab.async false
set_option linter.all false
set_option maxRecDepth 100000
set_option autoImplicit false
/-! Tx: judgements -/
namespace Tx
open PySem L2
abbrev G := List (Option D)
section
variable {K : PySem.W.Frag}
/-- the slots hold these data -/
structure ER (m : Mo) (K : PySem.W.Frag) (Γ : G) (σ : St) (H : Hp) : Prop where
  i : m.I H
  len : Γ.length = σ.length
  at_ : ∀ (i : Nat) (d : D), Γ[i]? = some (some d) → ∃ v, σ[i]? = some (some v) ∧ Rp K m.F H v d
theorem ER.mv {m : Mo} {Γ : G} {σ : St} {H H' : Hp} (e : ER m K Γ σ H) (r : m.R H H') : ER m K Γ σ H' :=
  ⟨m.inv r e.i, e.len, fun i d h => let ⟨v, h1, h2⟩ := e.at_ i d h; ⟨v, h1, h2.mv fun a o n x => m.keep r e.i a o n x⟩⟩
theorem ER.set {m : Mo} {Γ : G} {σ : St} {H : Hp} {v : V} {d : D} (e : ER m K Γ σ H) (j : Nat) (r : Rp K m.F H v d) : ER m K (Γ.set j (some d)) (σ.set j (some v)) H := by
  refine ⟨e.i, by rw [List.length_set, List.length_set, e.len], fun i d' h => ?_⟩
  by_cases hj : j = i
  · subst hj
    by_cases hl : j < Γ.length
    · rw [List.getElem?_set_self hl] at h
      cases h
      exact ⟨v, List.getElem?_set_self (e.len ▸ hl), r⟩
    · rw [List.getElem?_eq_none (by rw [List.length_set]; omega)] at h
      cases h
  · rw [List.getElem?_set_ne hj] at h
    obtain ⟨w, h1, h2⟩ := e.at_ i d' h
    exact ⟨w, by rw [List.getElem?_set_ne hj]; exact h1, h2⟩
def wipeG (Γ : G) : List Nat → G
  | [] => Γ
  | v :: vs => (wipeG Γ vs).set v none
theorem ER.unset {m : Mo} {Γ : G} {σ : St} {H : Hp} (e : ER m K Γ σ H) (j : Nat) : ER m K (Γ.set j none) (σ.set j none) H := by
  refine ⟨e.i, by rw [List.length_set, List.length_set, e.len], fun i d' h => ?_⟩
  by_cases hj : j = i
  · subst hj
    by_cases hl : j < Γ.length
    · rw [List.getElem?_set_self hl] at h
      cases h
    · rw [List.getElem?_eq_none (by rw [List.length_set]; omega)] at h
      cases h
  · rw [List.getElem?_set_ne hj] at h
    obtain ⟨w, h1, h2⟩ := e.at_ i d' h
    exact ⟨w, by rw [List.getElem?_set_ne hj]; exact h1, h2⟩
theorem ER.wipe {m : Mo} {Γ : G} {σ : St} {H : Hp} (e : ER m K Γ σ H) : ∀ vs : List Nat, ER m K (wipeG Γ vs) (L2.wipe σ vs) H
  | [] => e
  | v :: vs => (ER.wipe e vs).unset v
/-- a new object comes, which data may not lean on -/
theorem ER.ext {m : Mo} {Γ : G} {σ : St} {H H' : Hp} {p : Addr} (e : ER m K Γ σ H) (hp : H p = none) (r : m.R H H') (hp' : H' p ≠ none) : ER (m.ext p) K Γ σ H' :=
  ⟨⟨m.inv r e.i, hp'⟩, e.len, fun i d h => let ⟨v, h1, h2⟩ := e.at_ i d h; ⟨v, h1, h2.go fun a o n x => ⟨fun z => z.elim n fun z => (by rw [z, hp] at x; cases x), m.keep r e.i a o n x⟩⟩⟩

/-! ### expressions -/
def EvN (m : Mo) (K : PySem.W.Frag) (te : TE) (Γ : G) (S : D → Prop) : Prop :=
  ∀ σ H, ER m K Γ σ H → ∀ Q : VK, (∀ v d H', S d → m.R H H' → Rp K m.F H' v d → Q v H') → te σ H Q
def EvT (m : Mo) (K : PySem.W.Frag) (tt : TT) (Γ : G) (S : Bool → Prop) : Prop :=
  ∀ σ H, ER m K Γ σ H → ∀ Q : Bool → Hp → Prop, (∀ b H', S b → m.R H H' → Q b H') → tt σ H Q
def EvA (m : Mo) (K : PySem.W.Frag) (ta : TA) (Γ : G) (S : List D → Prop) : Prop :=
  ∀ σ H, ER m K Γ σ H → ∀ Q : List V → Hp → Prop, (∀ vs ds H', S ds → m.R H H' → RpAll K m.F H' vs ds → Q vs H') → ta σ H Q
abbrev Ev1 (m : Mo) (K : PySem.W.Frag) (te : TE) (Γ : G) (d : D) : Prop := EvN m K te Γ (fun x => x = d)
abbrev EvT1 (m : Mo) (K : PySem.W.Frag) (tt : TT) (Γ : G) (b : Bool) : Prop := EvT m K tt Γ (fun x => x = b)
abbrev EvA1 (m : Mo) (K : PySem.W.Frag) (ta : TA) (Γ : G) (ds : List D) : Prop := EvA m K ta Γ (fun x => x = ds)
/-- operations, calls by data -/
def OpN (m : Mo) (K : PySem.W.Frag) (r : R2) (a b : D) (S : D → Prop) : Prop :=
  ∀ x y H, m.I H → Rp K m.F H x a → Rp K m.F H y b → ∀ Q : VK, (∀ v d H', S d → m.R H H' → Rp K m.F H' v d → Q v H') → r x y H Q
abbrev Op1 (m : Mo) (K : PySem.W.Frag) (r : R2) (a b c : D) : Prop := OpN m K r a b (fun x => x = c)
def CaN (m : Mo) (K : PySem.W.Frag) (r : List V → Hp → VK → Prop) (ds : List D) (S : D → Prop) : Prop :=
  ∀ vs H, m.I H → RpAll K m.F H vs ds → ∀ Q : VK, (∀ v d H', S d → m.R H H' → Rp K m.F H' v d → Q v H') → r vs H Q
abbrev Ca1 (m : Mo) (K : PySem.W.Frag) (r : List V → Hp → VK → Prop) (ds : List D) (c : D) : Prop := CaN m K r ds (fun x => x = c)

variable {m : Mo} {Γ : G} {T0 : Bool → Prop} {ta tb tc te : TE} {tt tu : TT} {S Sa Sb Sc : D → Prop} {a b c d : D} {r r' : R2}
theorem EvN.mono (h : EvN m K te Γ Sa) (k : ∀ d, Sa d → S d) : EvN m K te Γ S := fun σ H e Q q => h σ H e Q fun v d H' s => q v d H' (k d s)
theorem EvT.mono {Sa S : Bool → Prop} (h : EvT m K tt Γ Sa) (k : ∀ d, Sa d → S d) : EvT m K tt Γ S := fun σ H e Q q => h σ H e Q fun d H' s => q d H' (k d s)
theorem Ev1.is (h : Ev1 m K te Γ a) (e : a = b) : Ev1 m K te Γ b := e ▸ h
theorem EvT1.is {a b : Bool} (h : EvT1 m K tt Γ a) (e : a = b) : EvT1 m K tt Γ b := e ▸ h
theorem en_var (i : Nat) (h : Γ[i]? = some (some d)) : Ev1 m K (tVar i) Γ d := fun σ H e Q q =>
  let ⟨v, h1, h2⟩ := e.at_ i d h; ⟨v, h1, q v d H rfl (m.refl H) h2⟩
theorem en_int (i : Int) : Ev1 m K (tC (.int i)) Γ (.int i) := fun σ H e Q q => q _ _ H rfl (m.refl H) (.int i)
theorem en_bl (i : Bool) : Ev1 m K (tC (.bl i)) Γ (.bl i) := fun σ H e Q q => q _ _ H rfl (m.refl H) (.bl i)
theorem en_str (i : Str) : Ev1 m K (tC (.str i)) Γ (.str i) := fun σ H e Q q => q _ _ H rfl (m.refl H) (.str i)
theorem en_non : Ev1 m K (tC .non) Γ .non := fun σ H e Q q => q _ _ H rfl (m.refl H) .non
theorem en_op (ha : EvN m K ta Γ Sa) (hb : EvN m K tb Γ Sb) (ho : ∀ a b, Sa a → Sb b → OpN m K r a b S) : EvN m K (tOp r ta tb) Γ S := fun σ H e Q q =>
  ha σ H e _ fun x a H1 sa r1 ra => hb σ H1 (e.mv r1) _ fun y b H2 sb r2 rb =>
    ho a b sa sb x y H2 (m.inv r2 (m.inv r1 e.i)) (ra.mv (m.keep r2 (m.inv r1 e.i))) rb Q fun v d H3 s r3 rv => q v d H3 s (m.trans r1 (m.trans r2 r3)) rv
theorem en_op1 (ha : Ev1 m K ta Γ a) (hb : Ev1 m K tb Γ b) (ho : OpN m K r a b S) : EvN m K (tOp r ta tb) Γ S := en_op ha hb fun _ _ e1 e2 => e1 ▸ e2 ▸ ho
theorem en_if (ht : EvT m K tt Γ T0) (h1 : T0 true → EvN m K ta Γ S) (h2 : T0 false → EvN m K tb Γ S) : EvN m K (tIf tt ta tb) Γ S := fun σ H e Q q =>
  ht σ H e _ fun k H1 s r1 => by
    cases k with
    | true => exact h1 s σ H1 (e.mv r1) Q fun v d H2 sd r2 => q v d H2 sd (m.trans r1 r2)
    | false => exact h2 s σ H1 (e.mv r1) Q fun v d H2 sd r2 => q v d H2 sd (m.trans r1 r2)
theorem en_if1 {k : Bool} (ht : EvT1 m K tt Γ k) (h1 : k = true → EvN m K ta Γ S) (h2 : k = false → EvN m K tb Γ S) : EvN m K (tIf tt ta tb) Γ S := en_if (T0 := fun x => x = k) ht (fun e => h1 e.symm) (fun e => h2 e.symm)
theorem en_andV {p : Bool} (ha : Ev1 m K ta Γ (.bl p)) (hb : p = true → EvN m K tb Γ S) (h0 : p = false → S (.bl false)) : EvN m K (tAndV ta tb) Γ S := fun σ H e Q q =>
  ha σ H e _ fun x a H1 sa r1 ra => by
    subst sa
    refine ⟨p, ra.blE, ?_⟩
    cases p with
    | true => exact hb rfl σ H1 (e.mv r1) Q fun v d H2 s r2 => q v d H2 s (m.trans r1 r2)
    | false => exact q _ _ H1 (h0 rfl) r1 (.bl false)
theorem en_and {p k : Bool} (ha : Ev1 m K ta Γ (.bl p)) (hb : p = true → Ev1 m K tb Γ (.bl k)) : Ev1 m K (tAndV ta tb) Γ (.bl (p && k)) :=
  en_andV ha (fun e => by subst e; exact hb rfl) fun e => by subst e; rfl
theorem en_orV {p : Bool} (ha : Ev1 m K ta Γ (.bl p)) (hb : p = false → EvN m K tb Γ S) (h0 : p = true → S (.bl true)) : EvN m K (tOrV ta tb) Γ S := fun σ H e Q q =>
  ha σ H e _ fun x a H1 sa r1 ra => by
    subst sa
    refine ⟨p, ra.blE, ?_⟩
    cases p with
    | false => exact hb rfl σ H1 (e.mv r1) Q fun v d H2 s r2 => q v d H2 s (m.trans r1 r2)
    | true => exact q _ _ H1 (h0 rfl) r1 (.bl true)
theorem en_or {p k : Bool} (ha : Ev1 m K ta Γ (.bl p)) (hb : p = false → Ev1 m K tb Γ (.bl k)) : Ev1 m K (tOrV ta tb) Γ (.bl (p || k)) :=
  en_orV ha (fun e => by subst e; exact hb rfl) fun e => by subst e; rfl
theorem en_not {p : Bool} (ha : Ev1 m K ta Γ (.bl p)) : Ev1 m K (tNotV ta) Γ (.bl (!p)) := fun σ H e Q q =>
  ha σ H e _ fun x a H1 sa r1 ra => by subst sa; exact ⟨p, ra.blE, q _ _ H1 rfl r1 (.bl _)⟩
theorem en_chain {k1 k2 : Bool} (ha : Ev1 m K ta Γ a) (hb : Ev1 m K tb Γ b) (hc : k1 = true → Ev1 m K tc Γ c) (h1 : Op1 m K r a b (.bl k1)) (h2 : k1 = true → Op1 m K r' b c (.bl k2)) :
    Ev1 m K (tChain r r' ta tb tc) Γ (.bl (k1 && k2)) := fun σ H e Q q =>
  ha σ H e _ fun x a' H1 sa r1 ra => hb σ H1 (e.mv r1) _ fun y b' H2 sb r2 rb => by
    subst sa; subst sb
    have i1 := m.inv r1 e.i
    have i2 := m.inv r2 i1
    refine h1 x y H2 i2 (ra.mv (m.keep r2 i1)) rb _ fun z d H3 s3 r3 rz => ?_
    subst s3
    refine ⟨k1, rz.blE, ?_⟩
    cases k1 with
    | false => exact q _ _ H3 rfl (m.trans r1 (m.trans r2 r3)) (.bl _)
    | true =>
      refine hc rfl σ H3 (e.mv (m.trans r1 (m.trans r2 r3))) _ fun w c' H4 s4 r4 rc => ?_
      subst s4
      have i3 := m.inv r3 i2
      refine h2 rfl y w H4 (m.inv r4 i3) (rb.mv (m.keep (m.trans r3 r4) i2)) rc Q fun v d H5 s5 r5 => q v d H5 ?_ (m.trans r1 (m.trans r2 (m.trans r3 (m.trans r4 r5))))
      subst s5
      simp
/-! tests -/
theorem et_test {k : Bool} (h : Ev1 m K te Γ (.bl k)) : EvT1 m K (tTest te) Γ k := fun σ H e Q q => h σ H e _ fun v d H1 s r1 rv => by subst s; exact ⟨k, rv.blE, q k H1 rfl r1⟩
theorem et_B {k : Bool} (h : Ev1 m K te Γ (.bl k)) : EvT1 m K (tB te) Γ k := fun σ H e Q q => h σ H e _ fun v d H1 s r1 rv => by subst s; exact ⟨k, rv.blE, q k H1 rfl r1⟩
theorem et_testN {T : Bool → Prop} (h : EvN m K te Γ (fun d => ∃ k, d = .bl k ∧ T k)) : EvT m K (tTest te) Γ T := fun σ H e Q q => h σ H e _ fun v d H1 s r1 rv => by obtain ⟨k, e, t⟩ := s; subst e; exact ⟨k, rv.blE, q k H1 t r1⟩
theorem et_BN {T : Bool → Prop} (h : EvN m K te Γ (fun d => ∃ k, d = .bl k ∧ T k)) : EvT m K (tB te) Γ T := fun σ H e Q q => h σ H e _ fun v d H1 s r1 rv => by obtain ⟨k, e, t⟩ := s; subst e; exact ⟨k, rv.blE, q k H1 t r1⟩
theorem et_andN {p : Bool} {T : Bool → Prop} (h1 : EvT1 m K tt Γ p) (h2 : p = true → EvT m K tu Γ T) (h0 : p = false → T false) : EvT m K (tAnd tt tu) Γ T := fun σ H e Q q =>
  h1 σ H e _ fun x H1 s r1 => by
    subst s
    cases x with
    | true => exact h2 rfl σ H1 (e.mv r1) Q fun b H2 s2 r2 => q b H2 s2 (m.trans r1 r2)
    | false => exact q _ H1 (h0 rfl) r1
theorem et_and {p k : Bool} (h1 : EvT1 m K tt Γ p) (h2 : p = true → EvT1 m K tu Γ k) : EvT1 m K (tAnd tt tu) Γ (p && k) :=
  et_andN h1 (fun e => by subst e; exact h2 rfl) fun e => by subst e; rfl
theorem et_orN {p : Bool} {T : Bool → Prop} (h1 : EvT1 m K tt Γ p) (h2 : p = false → EvT m K tu Γ T) (h0 : p = true → T true) : EvT m K (tOr tt tu) Γ T := fun σ H e Q q =>
  h1 σ H e _ fun x H1 s r1 => by
    subst s
    cases x with
    | false => exact h2 rfl σ H1 (e.mv r1) Q fun b H2 s2 r2 => q b H2 s2 (m.trans r1 r2)
    | true => exact q _ H1 (h0 rfl) r1
theorem et_or {p k : Bool} (h1 : EvT1 m K tt Γ p) (h2 : p = false → EvT1 m K tu Γ k) : EvT1 m K (tOr tt tu) Γ (p || k) :=
  et_orN h1 (fun e => by subst e; exact h2 rfl) fun e => by subst e; rfl
theorem et_not {p : Bool} (h1 : EvT1 m K tt Γ p) : EvT1 m K (tNot tt) Γ (!p) := fun σ H e Q q => h1 σ H e _ fun x H1 s r1 => by subst s; exact q _ H1 rfl r1
theorem et_notN {T : Bool → Prop} (h1 : EvT m K tt Γ (fun b => T (!b))) : EvT m K (tNot tt) Γ T := fun σ H e Q q => h1 σ H e _ fun x H1 s r1 => q _ H1 s r1
theorem et_yes : EvT1 m K tYes Γ true := fun σ H e Q q => q _ H rfl (m.refl H)
/-! arguments -/
theorem ea_nil : EvA1 m K tNil Γ [] := fun σ H e Q q => q _ _ H rfl (m.refl H) .nil
theorem ea_consN {tr : TA} {T U : List D → Prop} (h : EvN m K te Γ S) (hr : EvA m K tr Γ T) (k : ∀ d ds, S d → T ds → U (d :: ds)) : EvA m K (tCons te tr) Γ U := fun σ H e Q q =>
  h σ H e _ fun v d H1 s r1 rv => hr σ H1 (e.mv r1) _ fun vs ds H2 s2 r2 rs => q _ _ H2 (k d ds s s2) (m.trans r1 r2) (.cons (rv.mv (m.keep r2 (m.inv r1 e.i))) rs)
theorem ea_cons {tr : TA} {ds : List D} (h : Ev1 m K te Γ d) (hr : EvA1 m K tr Γ ds) : EvA1 m K (tCons te tr) Γ (d :: ds) := ea_consN h hr fun _ _ e1 e2 => by rw [e1, e2]
theorem EvA.mono {ta : TA} {T U : List D → Prop} (h : EvA m K ta Γ T) (k : ∀ d, T d → U d) : EvA m K ta Γ U := fun σ H e Q q => h σ H e Q fun v d H' s => q v d H' (k d s)
theorem rp_new {H : Hp} {p : Addr} {vs : List V} {ds : List D} (i : m.I H) (hp : H p = none) (r : RpAll K m.F H vs ds) : Rp K m.F (upd H p (.tup vs)) (.ref p) (.tup ds) :=
  .tup (fun f => m.fa i f hp) (.inl upd_same) (r.mv fun a o n e => same_new hp a o e)
theorem rp_newL {H : Hp} {p : Addr} {vs : List V} {ds : List D} (i : m.I H) (hp : H p = none) (r : RpAll K m.F H vs ds) : Rp K m.F (upd H p (.lst vs)) (.ref p) (.lst ds) :=
  .lst (fun f => m.fa i f hp) upd_same (r.mv fun a o n e => same_new hp a o e)
theorem en_tupN {ta : TA} {T : List D → Prop} (h : EvA m K ta Γ T) (hl : ∀ ds, T ds → ds.length ≤ 100000) : EvN m K (tTup ta) Γ (fun x => ∃ ds, x = .tup ds ∧ T ds) := fun σ H e Q q =>
  h σ H e _ fun vs ds H1 s r1 rs => ⟨Nat.le_trans (by rw [rs.len]; exact hl ds s) (by decide), fun p hp => q _ _ _ ⟨ds, rfl, s⟩ (m.trans r1 (m.grow (m.inv r1 e.i) (same_new hp))) (rp_new (m.inv r1 e.i) hp rs)⟩
theorem en_lstN {ta : TA} {T : List D → Prop} (h : EvA m K ta Γ T) (hl : ∀ ds, T ds → ds.length ≤ 100000) : EvN m K (tLst ta) Γ (fun x => ∃ ds, x = .lst ds ∧ T ds) := fun σ H e Q q =>
  h σ H e _ fun vs ds H1 s r1 rs => ⟨Nat.le_trans (by rw [rs.len]; exact hl ds s) (by decide), fun p hp => q _ _ _ ⟨ds, rfl, s⟩ (m.trans r1 (m.grow (m.inv r1 e.i) (same_new hp))) (rp_newL (m.inv r1 e.i) hp rs)⟩
theorem en_tup {ta : TA} {ds : List D} (h : EvA1 m K ta Γ ds) (hl : ds.length ≤ 100000) : Ev1 m K (tTup ta) Γ (.tup ds) := (en_tupN h fun x e => by rw [e]; exact hl).mono fun d ⟨x, e1, e2⟩ => by rw [e1, e2]
theorem en_lst {ta : TA} {ds : List D} (h : EvA1 m K ta Γ ds) (hl : ds.length ≤ 100000) : Ev1 m K (tLst ta) Γ (.lst ds) := (en_lstN h fun x e => by rw [e]; exact hl).mono fun d ⟨x, e1, e2⟩ => by rw [e1, e2]
/-- [*xs, ..] -/
theorem ea_starN {tr : TA} {T U : List D → Prop} (h : EvN m K te Γ S) (hr : EvA m K tr Γ T) (k : ∀ d ds, S d → T ds → ∃ es, (d = .tup es ∨ d = .lst es) ∧ U (es ++ ds)) (h0 : ∀ d, S d → ∃ es, d = .tup es ∨ d = .lst es) : EvA m K (StX.tStar K te tr) Γ U := by
  intro σ H e Q q
  refine h σ H e _ fun v d H1 s r1 rv => ?_
  have i1 := m.inv r1 e.i
  have fin : ∀ (a : Addr) (vs : List V) (es : List D), v = .ref a → (SqT K H1 a vs ∨ SqL K H1 a vs) → RpAll K m.F H1 vs es → (∀ ds, T ds → U (es ++ ds)) → ∃ p xs, v = V.ref p ∧ (SqT K H1 p xs ∨ SqL K H1 p xs) ∧ tr σ H1 fun ys H2 => Q (xs ++ ys) H2 := fun a vs es ev hs ra hu =>
    ⟨a, vs, ev, hs, hr σ H1 (e.mv r1) _ fun ws ds H2 s2 r2 rs => q _ _ H2 (hu ds s2) (m.trans r1 r2) ((ra.mv (m.keep r2 i1)).append rs)⟩
  obtain ⟨es, hd⟩ := h0 d s
  rcases hd with hd | hd
  · subst hd
    obtain ⟨a, vs, ev, hs, ra⟩ := rv.tupE
    exact fin a vs es ev (.inl hs) ra fun ds t => by
      obtain ⟨es', he, u⟩ := k _ ds s t
      rcases he with he | he
      · cases he; exact u
      · cases he
  · subst hd
    obtain ⟨a, vs, ev, hs, ra⟩ := rv.lstE
    exact fin a vs es ev (.inr (SqL.of hs)) ra fun ds t => by
      obtain ⟨es', he, u⟩ := k _ ds s t
      rcases he with he | he
      · cases he
      · cases he; exact u
theorem ea_star {tr : TA} {es ds : List D} (h : EvN m K te Γ (fun x => x = d)) (hd : d = .tup es ∨ d = .lst es) (hr : EvA1 m K tr Γ ds) : EvA1 m K (StX.tStar K te tr) Γ (es ++ ds) :=
  ea_starN h hr (fun x y e1 e2 => ⟨es, by rw [e1]; exact hd, by rw [e2]⟩) fun x e => ⟨es, by rw [e]; exact hd⟩
theorem en_cb {ta : TA} {rr : List V → Hp → VK → Prop} {T : List D → Prop} (h : EvA m K ta Γ T) (hc : ∀ ds, T ds → CaN m K rr ds S) : EvN m K (tCB rr ta) Γ S := fun σ H e Q q =>
  h σ H e _ fun vs ds H1 s r1 rs => hc ds s vs H1 (m.inv r1 e.i) rs Q fun v d H2 s2 r2 => q v d H2 s2 (m.trans r1 r2)
theorem en_cb1 {ta : TA} {rr : List V → Hp → VK → Prop} {ds : List D} (h : EvA1 m K ta Γ ds) (hc : CaN m K rr ds S) : EvN m K (tCB rr ta) Γ S := en_cb h fun _ e => e ▸ hc
end
end Tx

set_option Elab.async false
set_option linter.all false
set_option maxRecDepth 100000
set_option autoImplicit false
/-! Tx: statements, iteration, comprehensions -/
namespace Tx
open PySem L2
structure Out where
  nx : G → Prop
  rt : D → Prop
  bk : G → Prop := fun _ => False
  ct : G → Prop := fun _ => False
section
variable {K : PySem.W.Frag} {m : Mo} {Γ : G} {ta tb tc te : TE} {tt tu : TT} {ts tv : TS} {S : D → Prop} {d : D} {O O' : Out}
structure Meets (m : Mo) (K : PySem.W.Frag) (H : Hp) (O : Out) (E : Ends) : Prop where
  nx : ∀ Γ' σ' H', O.nx Γ' → m.R H H' → ER m K Γ' σ' H' → E.nx σ' H'
  rt : ∀ d v H', O.rt d → m.R H H' → Rp K m.F H' v d → E.rt v H'
  bk : ∀ Γ' σ' H', O.bk Γ' → m.R H H' → ER m K Γ' σ' H' → E.bk σ' H'
  ct : ∀ Γ' σ' H', O.ct Γ' → m.R H H' → ER m K Γ' σ' H' → E.ct σ' H'
theorem Meets.mv {H H1 : Hp} {E : Ends} (M : Meets m K H O E) (r : m.R H H1) : Meets m K H1 O E :=
  ⟨fun Γ' σ' H' o r' e => M.nx Γ' σ' H' o (m.trans r r') e, fun d v H' o r' e => M.rt d v H' o (m.trans r r') e, fun Γ' σ' H' o r' e => M.bk Γ' σ' H' o (m.trans r r') e, fun Γ' σ' H' o r' e => M.ct Γ' σ' H' o (m.trans r r') e⟩
def SG (m : Mo) (K : PySem.W.Frag) (ts : TS) (Γ : G) (O : Out) : Prop :=
  ∀ σ H, ER m K Γ σ H → ∀ E : Ends, Meets m K H O E → ts E σ H
theorem SG.mono (h : SG m K ts Γ O) (h1 : ∀ x, O.nx x → O'.nx x) (h2 : ∀ x, O.rt x → O'.rt x) (h3 : ∀ x, O.bk x → O'.bk x) (h4 : ∀ x, O.ct x → O'.ct x) : SG m K ts Γ O' := fun σ H e E M =>
  h σ H e E ⟨fun Γ' σ' H' o => M.nx Γ' σ' H' (h1 _ o), fun d v H' o => M.rt d v H' (h2 _ o), fun Γ' σ' H' o => M.bk Γ' σ' H' (h3 _ o), fun Γ' σ' H' o => M.ct Γ' σ' H' (h4 _ o)⟩
theorem sg_next (h : O.nx Γ) : SG m K tNext Γ O := fun σ H e E M => M.nx _ _ _ h (m.refl H) e
theorem sg_seq (N : G → Prop) (h1 : SG m K ts Γ { O with nx := N }) (h2 : ∀ Γ', N Γ' → SG m K tv Γ' O) : SG m K (tSeq ts tv) Γ O := fun σ H e E M =>
  h1 σ H e _ ⟨fun Γ' σ' H' o r e' => h2 Γ' o σ' H' e' E (M.mv r), M.rt, M.bk, M.ct⟩
theorem sg_retN (h : EvN m K te Γ S) (k : ∀ d, S d → O.rt d) : SG m K (tRet te) Γ O := fun σ H e E M => h σ H e _ fun v d H' s r rv => M.rt d v H' (k d s) r rv
theorem sg_ret (h : Ev1 m K te Γ d) (k : O.rt d) : SG m K (tRet te) Γ O := sg_retN h fun _ e => e ▸ k
theorem sg_asgN {i : Nat} (h : EvN m K te Γ S) (k : ∀ d, S d → O.nx (Γ.set i (some d))) : SG m K (tAsg te (gName i)) Γ O := fun σ H e E M =>
  h σ H e _ fun v d H' s r rv => M.nx _ _ _ (k d s) r ((e.mv r).set i rv)
theorem sg_asg {i : Nat} (h : Ev1 m K te Γ d) (k : O.nx (Γ.set i (some d))) : SG m K (tAsg te (gName i)) Γ O := sg_asgN h fun _ e => e ▸ k
/-- x = e; rest -/
theorem sq_asgN {i : Nat} (h : EvN m K te Γ S) (k : ∀ d, S d → SG m K tv (Γ.set i (some d)) O) : SG m K (tSeq (tAsg te (gName i)) tv) Γ O :=
  sg_seq (fun Γ' => ∃ d, S d ∧ Γ' = Γ.set i (some d)) (sg_asgN h fun d s => ⟨d, s, rfl⟩) fun Γ' ⟨d, s, e⟩ => e ▸ k d s
theorem sq_asg {i : Nat} (h : Ev1 m K te Γ d) (k : SG m K tv (Γ.set i (some d)) O) : SG m K (tSeq (tAsg te (gName i)) tv) Γ O := sq_asgN h fun _ e => e ▸ k
theorem sg_ifN {T : Bool → Prop} (h : EvT m K tt Γ T) (h1 : T true → SG m K ts Γ O) (h2 : T false → SG m K tv Γ O) : SG m K (tIfS tt ts tv) Γ O := fun σ H e E M =>
  h σ H e _ fun b H' s r => by
    cases b with
    | true => exact h1 s σ H' (e.mv r) E (M.mv r)
    | false => exact h2 s σ H' (e.mv r) E (M.mv r)
theorem sg_if {b : Bool} (h : EvT1 m K tt Γ b) (h1 : b = true → SG m K ts Γ O) (h2 : b = false → SG m K tv Γ O) : SG m K (tIfS tt ts tv) Γ O := sg_ifN h (fun e => h1 e.symm) (fun e => h2 e.symm)
theorem sg_drop (h : EvN m K te Γ S) (k : O.nx Γ) : SG m K (tDrop te) Γ O := fun σ H e E M => h σ H e _ fun v d H' s r rv => M.nx _ _ _ k r (e.mv r)
theorem sg_seqIf {b : Bool} {tw : TS} (h : EvT1 m K tt Γ b) (h1 : b = true → SG m K ts Γ { O with nx := fun _ => False }) (h2 : b = false → SG m K tw Γ O) : SG m K (tSeq (tIfS tt ts tNext) tw) Γ O :=
  sg_seq (fun Γ' => b = false ∧ Γ' = Γ) (sg_if h (fun e => (h1 e).mono (fun _ f => f.elim) (fun _ x => x) (fun _ x => x) (fun _ x => x)) fun e => sg_next ⟨e, rfl⟩) fun Γ' ⟨e, e2⟩ => by subst e2; exact h2 e
/-- while, by a word over what the slots hold and a number that falls -/
theorem sg_while (W : Nat → G → Prop) (m0 : Nat) (h0 : W m0 Γ)
    (hs : ∀ k Γ', W k Γ' → ∃ T : Bool → Prop, EvT m K tt Γ' T ∧ (T true → SG m K ts Γ' { nx := fun Γ2 => ∃ k', k' < k ∧ W k' Γ2, ct := fun Γ2 => ∃ k', k' < k ∧ W k' Γ2, bk := O.nx, rt := O.rt }) ∧ (T false → O.nx Γ')) : SG m K (tWhile tt ts) Γ O := fun σ H e E M => by
  refine ⟨fun k σ' H' => ∃ Γ', W k Γ' ∧ m.R H H' ∧ ER m K Γ' σ' H', ⟨m0, Γ, h0, m.refl H, e⟩, ?_⟩
  rintro k σ' H' ⟨Γ', w, r, e'⟩
  obtain ⟨T, ht, h1, h2⟩ := hs k Γ' w
  refine ht σ' H' e' _ fun b H2 s r2 => ?_
  have e2 := e'.mv r2
  cases b with
  | true =>
    show ∃ N : St → Hp → Prop, _ ∧ _
    refine ⟨fun σ3 H3 => ∃ k', k' < k ∧ ∃ Γ3, W k' Γ3 ∧ m.R H H3 ∧ ER m K Γ3 σ3 H3, fun σ3 H3 q => q, ?_⟩
    refine h1 s σ' H2 e2 _ ⟨?_, ?_, ?_, ?_⟩
    · rintro Γ3 σ3 H3 ⟨k', hk, w3⟩ r3 e3
      exact ⟨k', hk, Γ3, w3, m.trans r (m.trans r2 r3), e3⟩
    · exact fun d v H3 o r3 rv => M.rt d v H3 o (m.trans r (m.trans r2 r3)) rv
    · exact fun Γ3 σ3 H3 o r3 e3 => M.nx Γ3 σ3 H3 o (m.trans r (m.trans r2 r3)) e3
    · rintro Γ3 σ3 H3 ⟨k', hk, w3⟩ r3 e3
      exact ⟨k', hk, Γ3, w3, m.trans r (m.trans r2 r3), e3⟩
  | false => exact M.nx Γ' σ' H2 (h2 s) (m.trans r r2) e2

/-! ### what is walked -/
structure WkD (m : Mo) (K : PySem.W.Frag) (J : It) (H1 : Hp) (xs : List D) : Prop where
  go : ∀ i H, m.R H1 H → i < xs.length → J.go i H
  stop : ∀ H, m.R H1 H → J.stop xs.length H
  yld : ∀ i H x H', m.R H1 H → i < xs.length → J.yld i H x H' → m.R H H' ∧ ∃ d, xs[i]? = some d ∧ Rp K m.F H' x d
/-- the same with one more address that data may not lean on -/
def ItD (m : Mo) (K : PySem.W.Frag) (wi : TI) (Γ : G) (T : List D → Prop) : Prop :=
  ∀ σ H, ER m K Γ σ H → ∀ Q : It → Hp → Prop, (∀ J xs H1, T xs → m.R H H1 → (∀ m', Mo.Le m m' → ∀ H2, m'.I H2 → m.R H1 H2 → (∀ a, m'.F a → ¬ m.F a → H1 a = none) → WkD m' K J H2 xs) → Q J H1) → wi σ H Q
abbrev ItD1 (m : Mo) (K : PySem.W.Frag) (wi : TI) (Γ : G) (xs : List D) : Prop := ItD m K wi Γ (fun x => x = xs)
/-- what a target stores -/
def TgD (m : Mo) (K : PySem.W.Frag) (g : TG) (Γ : G) (d : D) (js : List Nat) (Γ2 : G) : Prop :=
  ∀ x σ H, ER m K Γ σ H → Rp K m.F H x d → ∀ Q : St → Hp → Prop, (∀ σ2 H2, ER m K Γ2 σ2 H2 → m.R H H2 → (∀ vs, (∀ j ∈ js, j ∈ vs) → wipe σ2 vs = wipe σ vs) → Q σ2 H2) → g x σ H Q
theorem wipe_set {vs : List Nat} {σ : St} {j : Nat} {x : Option V} : j ∈ vs → wipe (σ.set j x) vs = wipe σ vs := by
  induction vs with
  | nil => intro h; cases h
  | cons v vs ih =>
    intro h
    show (wipe (σ.set j x) vs).set v none = (wipe σ vs).set v none
    by_cases hj : j ∈ vs
    · rw [ih hj]
    · have e : j = v := by
        rcases List.mem_cons.mp h with h | h
        · exact h
        · exact absurd h hj
      subst e
      have : ∀ (us : List Nat), j ∉ us → wipe (σ.set j x) us = (wipe σ us).set j x := by
        intro us
        induction us with
        | nil => intro _; rfl
        | cons u us ih2 =>
          intro hu
          show (wipe (σ.set j x) us).set u none = ((wipe σ us).set u none).set j x
          rw [ih2 (fun z => hu (List.mem_cons_of_mem _ z)), List.set_comm]
          intro z
          exact hu (z ▸ List.mem_cons_self)
      rw [this vs hj, List.set_set]
theorem wipe_wipe (σ : St) (vs : List Nat) : wipe (wipe σ vs) vs = wipe σ vs := by
  have h : ∀ us : List Nat, (∀ u ∈ us, u ∈ vs) → wipe (wipe σ us) vs = wipe σ vs := by
    intro us
    induction us with
    | nil => intro _; rfl
    | cons u us ih =>
      intro hu
      show wipe ((wipe σ us).set u none) vs = wipe σ vs
      rw [wipe_set (hu u List.mem_cons_self), ih fun z hz => hu z (List.mem_cons_of_mem _ hz)]
  exact h vs fun u hu => hu
theorem tg_name (j : Nat) : TgD m K (gName j) Γ d [j] (Γ.set j (some d)) := fun x σ H e r Q q =>
  q _ H (e.set j r) (m.refl H) fun vs h => wipe_set (h j (List.mem_singleton.mpr rfl))
theorem tg_pair {i j : Nat} {a b : D} : TgD m K (gTup K 2 (gCons (gName i) (gCons (gName j) gNil))) Γ (.tup [a, b]) [i, j] ((Γ.set i (some a)).set j (some b)) := fun x σ H e r Q q => by
  obtain ⟨p, vs, ev, hs, ra⟩ := r.tupE
  cases ra with
  | cons r1 ra =>
    cases ra with
    | cons r2 ra =>
      cases ra
      refine ⟨p, _, ev, hs, rfl, _, _, rfl, _, _, rfl, rfl, ?_⟩
      refine q _ H ((e.set i r1).set j r2) (m.refl H) fun vs h => ?_
      rw [wipe_set (h j (by simp)), wipe_set (h i (by simp))]
/-! ### for -/
theorem sg_for {wi : TI} {g : TG} {T : List D → Prop} {js : List Nat} (hi : ItD m K wi Γ T) (W : List D → Nat → G → Prop) (h0 : ∀ xs, T xs → W xs 0 Γ)
    (hs : ∀ xs i d Γ', T xs → xs[i]? = some d → W xs i Γ' → ∃ Γ2, TgD m K g Γ' d js Γ2 ∧ SG m K ts Γ2 { nx := W xs (i + 1), ct := W xs (i + 1), bk := O.nx, rt := O.rt }) (hd : ∀ xs Γ', T xs → W xs xs.length Γ' → O.nx Γ') : SG m K (tFor wi g ts) Γ O := fun σ H e E M => by
  refine hi σ H e _ fun J xs H1 ht r1 wk => ?_
  have e1 := e.mv r1
  have wk1 := wk m (Mo.Le.refl m) H1 e1.i (m.refl H1) fun a f n => absurd f n
  refine ⟨fun i k σ' H' => k = xs.length - i ∧ i ≤ xs.length ∧ ∃ Γ', W xs i Γ' ∧ m.R H1 H' ∧ ER m K Γ' σ' H', ⟨_, rfl, Nat.zero_le _, Γ, h0 xs ht, m.refl H1, e1⟩, ?_⟩
  rintro i k σ' H' ⟨rfl, hle, Γ', w, r, e'⟩
  by_cases hlt : i < xs.length
  · refine .inr ⟨wk1.go i H' r hlt, fun σ3 H3 => ∃ Γ3, W xs (i + 1) Γ3 ∧ m.R H1 H3 ∧ ER m K Γ3 σ3 H3, fun σ3 H3 q => ⟨xs.length - (i + 1), by omega, rfl, hlt, q⟩, fun x H2 y => ?_⟩
    obtain ⟨r2, d, hd', rx⟩ := wk1.yld i H' x H2 r hlt y
    obtain ⟨Γ2, tg, body⟩ := hs xs i d Γ' ht hd' w
    refine tg x σ' H2 (e'.mv r2) rx _ fun σ3 H3 e3 r3 _ => ?_
    have rr := m.trans r (m.trans r2 r3)
    refine body σ3 H3 e3 _ ⟨?_, ?_, ?_, ?_⟩
    · exact fun Γ4 σ4 H4 o r4 e4 => ⟨Γ4, o, m.trans rr r4, e4⟩
    · exact fun d v H4 o r4 rv => M.rt d v H4 o (m.trans r1 (m.trans rr r4)) rv
    · exact fun Γ4 σ4 H4 o r4 e4 => M.nx Γ4 σ4 H4 o (m.trans r1 (m.trans rr r4)) e4
    · exact fun Γ4 σ4 H4 o r4 e4 => ⟨Γ4, o, m.trans rr r4, e4⟩
  · have e0 : i = xs.length := by omega
    subst e0
    exact .inl ⟨wk1.stop H' r, M.nx Γ' σ' H' (hd xs Γ' ht w) (m.trans r1 r) e'⟩
/-! ### comprehensions -/
inductive LcR (T : D → Bool → Prop) (V : D → D → Prop) : List D → List D → Prop
  | nil : LcR T V [] []
  | no {x : D} {xs ys : List D} : T x false → LcR T V xs ys → LcR T V (x :: xs) ys
  | yes {x y : D} {xs ys : List D} : T x true → V x y → LcR T V xs ys → LcR T V (x :: xs) (y :: ys)
theorem LcR.append {T : D → Bool → Prop} {V : D → D → Prop} {xs ys zs ws : List D} (a : LcR T V xs ys) (b : LcR T V zs ws) : LcR T V (xs ++ zs) (ys ++ ws) := by
  induction a with
  | nil => exact b
  | no t _ ih => exact .no t ih
  | yes t v _ ih => exact .yes t v ih
theorem LcR.len {T : D → Bool → Prop} {V : D → D → Prop} {xs ys : List D} (a : LcR T V xs ys) : ys.length ≤ xs.length := by
  induction a with
  | nil => exact Nat.le_refl _
  | no _ _ ih => exact Nat.le_succ_of_le ih
  | yes _ _ _ ih => exact Nat.succ_le_succ ih
theorem LcR.fn {t : D → Bool} {f : D → D} {T : D → Bool → Prop} {V : D → D → Prop} {xs ys : List D} (a : LcR T V xs ys) (ht : ∀ x ∈ xs, ∀ b, T x b → b = t x) (hf : ∀ x ∈ xs, ∀ y, V x y → y = f x) : ys = (xs.filter t).map f := by
  induction a with
  | nil => rfl
  | @no x xs ys h _ ih =>
    have e := ht x List.mem_cons_self _ h
    rw [ih (fun x hx => ht x (List.mem_cons_of_mem _ hx)) fun x hx => hf x (List.mem_cons_of_mem _ hx), List.filter_cons, ← e]
    rfl
  | @yes x y xs ys h v _ ih =>
    have e := ht x List.mem_cons_self _ h
    rw [ih (fun x hx => ht x (List.mem_cons_of_mem _ hx)) fun x hx => hf x (List.mem_cons_of_mem _ hx), List.filter_cons, ← e, if_pos rfl, List.map_cons, hf x List.mem_cons_self _ v]
theorem Rp.weak {F F' : Addr → Prop} {H : Hp} (k : ∀ a, F a → F' a) {d : D} {v : V} (r : Rp K F' H v d) : Rp K F H v d := r.go fun a o n e => ⟨fun f => n (k a f), e⟩
theorem RpAll.weak {F F' : Addr → Prop} {H : Hp} (k : ∀ a, F a → F' a) {d : List D} {v : List V} (r : RpAll K F' H v d) : RpAll K F H v d := Rp.goAll (fun a o n e => ⟨fun f => n (k a f), e⟩) r
theorem en_lc {wi : TI} {g : TG} {vs : List Nat} {U : List D → Prop} {T : D → Bool → Prop} {V' : D → D → Prop} {js : List Nat} (hj : ∀ j ∈ js, j ∈ vs) (hi : ItD m K wi Γ U) (hu : ∀ xs, U xs → xs.length ≤ 100000)
    (hs : ∀ m', Mo.Le m m' → ∀ xs d, U xs → d ∈ xs → ∃ Γ2, TgD m' K g (wipeG Γ vs) d js Γ2 ∧ EvT m' K tt Γ2 (T d) ∧ (T d true → EvN m' K te Γ2 (V' d))) : EvN m K (tLc wi g tt te vs) Γ (fun r => ∃ xs ys, U xs ∧ LcR T V' xs ys ∧ r = .lst ys) := fun σ H e Q q => by
  refine hi σ H e _ fun J xs H1 ht r1 wk => fun Dl hD => ?_
  have e1 := e.mv r1
  have rN : m.R H1 (upd H1 Dl (.lst [])) := m.grow e1.i (same_new hD)
  have nF : ¬ m.F Dl := fun f => m.fa e1.i f hD
  have wkA : ∀ H', m.R H1 H' → (m.ext Dl).I H' → WkD (m.ext Dl) K J H' xs := fun H' r i => wk (m.ext Dl) (m.le_ext Dl) H' i r fun a f n => f.elim (fun f => absurd f n) fun z => z ▸ hD
  -- the word: what the new list holds
  refine ⟨fun i k H' => k = xs.length - i ∧ i ≤ xs.length ∧ m.R H1 H' ∧ ∃ acc ys, H' Dl = some (.lst acc) ∧ RpAll K (m.ext Dl).F H' acc ys ∧ LcR T V' (xs.take i) ys, ⟨_, rfl, Nat.zero_le _, rN, [], [], upd_same, .nil, by simpa using LcR.nil⟩, ?_⟩
  rintro i k H' ⟨rfl, hle, r, acc, ys, hacc, ra, lr⟩
  have eX : ER (m.ext Dl) K Γ σ H' := e1.ext hD r (by rw [hacc]; exact fun z => nomatch z)
  have iX := eX.i
  have wkX := wkA H' r iX
  by_cases hlt : i < xs.length
  · refine .inr ⟨wkX.go i H' (m.refl _) hlt, fun H3 => m.R H1 H3 ∧ ∃ acc ys, H3 Dl = some (.lst acc) ∧ RpAll K (m.ext Dl).F H3 acc ys ∧ LcR T V' (xs.take (i + 1)) ys, fun H3 q => ⟨xs.length - (i + 1), by omega, rfl, hlt, q⟩, fun x H2 y => ?_⟩
    obtain ⟨r2, d, hd', rx⟩ := wkX.yld i H' x H2 (m.refl _) hlt y
    obtain ⟨Γ2, tg, tst, el⟩ := hs (m.ext Dl) (m.le_ext Dl) xs d ht (List.mem_of_getElem? hd')
    have hlen : acc.length < sizeLine := Nat.lt_of_lt_of_le (show acc.length < 100001 by
      have := lr.len; have h2 := ra.len; have h3 := hu xs ht; rw [List.length_take] at this; omega) (by decide)
    have tk : xs.take (i + 1) = xs.take i ++ [d] := by rw [List.take_add_one, hd']; rfl
    have kD : ∀ {Ha Hb : Hp}, (m.ext Dl).I Ha → m.R Ha Hb → Ha Dl = some (.lst acc) → Hb Dl = some (.lst acc) := fun ia r h => m.keep r ia.1 Dl _ nF h
    refine tg x (wipe σ vs) H2 ((eX.mv r2).wipe vs) rx _ fun σ3 H3 e3 r3 w3 => ⟨by rw [w3 vs hj, wipe_wipe], ?_⟩
    have i2 := (m.ext Dl).inv r2 iX
    refine tst σ3 H3 e3 _ fun b H4 tb' r4 => ?_
    have i3 := e3.i
    have i4 := (m.ext Dl).inv r4 i3
    have rr := m.trans r2 (m.trans r3 r4)
    cases b with
    | false =>
      exact ⟨m.trans r rr, acc, ys, kD iX rr hacc, ra.mv ((m.ext Dl).keep rr iX), by rw [tk]; simpa using lr.append (.no tb' .nil)⟩
    | true =>
      refine el tb' σ3 H4 (e3.mv r4) _ fun w dw H5 sv r5 rw' => ?_
      have i5 := (m.ext Dl).inv r5 i4
      have rr5 := m.trans rr r5
      refine ⟨acc, kD iX rr5 hacc, hlen, m.chg e1.i (m.trans r rr5) hD, acc ++ [w], ys ++ [dw], upd_same, ?_, by rw [tk]; exact lr.append (.yes tb' sv .nil)⟩
      have k5 : ∀ a o, ¬ (m.ext Dl).F a → H5 a = some o → (upd H5 Dl (.lst (acc ++ [w]))) a = some o := fun a o n x => by rw [upd_ne (fun z => n (.inr z))]; exact x
      exact (((ra.mv ((m.ext Dl).keep rr5 iX)).append (.cons rw' .nil)).mv k5)
  · have e0 : i = xs.length := by omega
    subst e0
    exact .inl ⟨wkX.stop H' (m.refl _), q _ _ H' ⟨xs, ys, ht, by simpa using lr, rfl⟩ (m.trans r1 r) (.lst nF hacc (ra.weak fun a f => .inl f))⟩
/-- the plain form: what each gives is a function of it -/
theorem en_lc1 {wi : TI} {g : TG} {vs : List Nat} {xs : List D} {js : List Nat} (t : D → Bool) (f : D → D) (hj : ∀ j ∈ js, j ∈ vs) (hi : ItD1 m K wi Γ xs) (hu : xs.length ≤ 100000)
    (hs : ∀ m', Mo.Le m m' → ∀ d, d ∈ xs → ∃ Γ2, TgD m' K g (wipeG Γ vs) d js Γ2 ∧ EvT1 m' K tt Γ2 (t d) ∧ (t d = true → Ev1 m' K te Γ2 (f d))) : Ev1 m K (tLc wi g tt te vs) Γ (.lst ((xs.filter t).map f)) :=
  (en_lc (U := fun x => x = xs) (T := fun d b => b = t d) (V' := fun d y => y = f d) hj hi (fun x e => e ▸ hu) fun m' l x d e hd => by
    subst e
    obtain ⟨Γ2, h1, h2, h3⟩ := hs m' l d hd
    exact ⟨Γ2, h1, h2, fun e => h3 e.symm⟩).mono fun r ⟨x, ys, e1, e2, e3⟩ => by
      subst e1
      rw [e3, e2.fn (t := t) (f := f) (fun _ _ _ e => e) fun _ _ _ e => e]
/-- without a test -/
theorem en_lcA {wi : TI} {g : TG} {vs : List Nat} {xs : List D} {js : List Nat} (f : D → D) (hj : ∀ j ∈ js, j ∈ vs) (hi : ItD1 m K wi Γ xs) (hu : xs.length ≤ 100000)
    (hs : ∀ m', Mo.Le m m' → ∀ d, d ∈ xs → ∃ Γ2, TgD m' K g (wipeG Γ vs) d js Γ2 ∧ Ev1 m' K te Γ2 (f d)) : Ev1 m K (tLc wi g tYes te vs) Γ (.lst (xs.map f)) :=
  (en_lc1 (fun _ => true) f hj hi hu fun m' l d hd => by
    obtain ⟨Γ2, h1, h2⟩ := hs m' l d hd
    exact ⟨Γ2, h1, et_yes, fun _ => h2⟩).is (by rw [List.filter_eq_self.mpr (fun _ _ => rfl)])
end
end Tx

set_option Elab.async false
set_option linter.all false
set_option maxRecDepth 100000
set_option autoImplicit false
/-! Tx: enumerate of a tuple; a list or a tuple walked -/
namespace PySem
open Sem (wp)
open AutoSeq1 (wpAny_loadPart')
theorem tx_enumerate_newT (l : Addr) (items : Array Value) (n : Nat) (dct : Option Addr) (sl : Array (Option Value)) :
    Meets (Builtin.«enumerate.__new__» ⟨[.type "enumerate", .ref l], []⟩) (fun _ R s => s.heap.get? l = some { cls := .type "tuple", dict := dct, data := .seq items n, slots := sl } ∧
      R (.ok (.ret (.ref (s.heap.push { cls := .type "tuple_iterator", data := .fields #[.ref l, .int 0 0] }).objs.size)))
        { s with heap := (s.heap.push { cls := .type "tuple_iterator", data := .fields #[.ref l, .int 0 0] }).push { cls := .type "enumerate", data := .fields #[.none, .bool false, .ref s.heap.objs.size, rawInt 0, .none, .none] } }) :=
  .of_wp fun prog w A R s h => by
    obtain ⟨hp, g, d, tk, os⟩ := s; obtain ⟨hl, h⟩ := h
    have hsub := sub_enumerate
    have hL : Heap.IsTuple (Shared.heap ⟨hp, g, d, tk, os⟩) l items := ⟨_, hl, rfl, n, rfl⟩
    wp_walk using wpAny_loadPart' hl
    refine wpAny_stack_any fun st => wpAny_pure ?_
    split
    · rename_i c _ _ _ _ _
      cases (c == Value.type "enumerate")
      · wp_walk using wpAny_loadPart' hl, wpAny_pyIter_tuple hL
        exact ⟨_, rfl, h⟩
      · wp_walk using wpAny_loadPart' hl, wpAny_pyIter_tuple hL
        exact ⟨_, rfl, h⟩
    · wp_walk using wpAny_loadPart' hl, wpAny_pyIter_tuple hL
      exact ⟨_, rfl, h⟩
section
variable {prog : Program} {w : World} {A : Around} {E : Value → Shared → Prop} {s : Shared}
theorem tx_call_enumerate_tuple {l : Addr} {items : Array Value} {Q : Value → Shared → Prop} (hL : s.heap.IsTuple l items)
    (h : ∀ h', IsEnum h' (s.heap.objs.size + 1) s.heap.objs.size 0 .none → h'.IsTupleIter s.heap.objs.size l 0 → h'.objs.size = s.heap.objs.size + 2 →
      (∀ b o, s.heap.get? b = some o → h'.get? b = some o) → Q (.ref (s.heap.objs.size + 1)) { s with heap := h' }) :
    wpAny (model prog w) A (call (.type "enumerate") [.ref l]) Q E s := by
  obtain ⟨⟨c, dct, dt, sl⟩, hl, hc, n, hd⟩ := hL
  replace hc : c = .type "tuple" := hc
  replace hd : dt = .seq items n := hd
  subst hc hd
  refine callType_new F.called_enumerate (by decide) (F.typeCall_enumerate_1 _) (F.newCall_enumerate_1 _) (fun obj => F.args_object_init_2 obj _) F.entry_enumerate_new
    (tx_enumerate_newT l items n dct sl) ⟨hl, ?_⟩
  have hz : (s.heap.push { cls := .type "tuple_iterator", data := .fields #[.ref l, .int 0 0] }).objs.size = s.heap.objs.size + 1 := Heap.size_push ..
  show _ ∧ _
  rw [hz]
  have he : IsEnum ((s.heap.push { cls := .type "tuple_iterator", data := .fields #[.ref l, .int 0 0] }).push
      { cls := .type "enumerate", data := .fields #[.none, .bool false, .ref s.heap.objs.size, rawInt 0, .none, .none] }) (s.heap.objs.size + 1) s.heap.objs.size 0 .none := by
    have := Heap.get?_push_size (s.heap.push { cls := .type "tuple_iterator", data := .fields #[.ref l, .int 0 0] })
      (o := { cls := .type "enumerate", data := .fields #[.none, .bool false, .ref s.heap.objs.size, rawInt 0, .none, .none] }) rfl
    rw [hz] at this; exact this
  refine ⟨⟨_, he, rfl⟩, h _ he ⟨_, Heap.get?_push_of_some _ (Heap.get?_push_size _ rfl), rfl, rfl⟩ (by rw [Heap.size_push, hz]) fun b o x => Heap.get?_push_of_some _ (Heap.get?_push_of_some _ x)⟩
theorem tx_pyNext_enumT_end {e it l : Addr} {i : Nat} {items : Array Value} {old : Value} {Q : Option Value → Shared → Prop} (hh : A.handled = none)
    (he : IsEnum s.heap e it i old) (hit : s.heap.IsTupleIter it l i) (hl : s.heap.IsTuple l items) (hx : items[i]? = none)
    (hQ : ∀ h', Heap.ExtBut it s.heap h' → Q none { s with heap := h' }) : wpAny (model prog w) A (pyNext (.ref e)) Q E s := by
  have hT : s.TypeIs (.ref e) "enumerate" := ⟨_, he, rfl⟩
  unfold pyNext
  refine wpAny_bind (wpAny_attempt (wpAny_callSpecial?_slot (name := Str.ofString "__next__") hT F.slot_enumerate_next
    (wpAny_call_entry F.slot_enumerate_next hT F.entry_enumerate_next ?_ (F.args_enumerate_next_1 _))))
  show wpAny _ _ (field (.ref e) 2 >>= _) _ _ _
  refine wpAny_bind (wpAny_field he rfl (x := .ref it) rfl ?_)
  refine wpAny_bind (wpAny_nextOf_tuple_end hh hit hl hx fun h' x he' hx' => ?_)
  obtain ⟨o, ho, hc⟩ := hx'
  refine wpAny_bind (wpAny_isInstance (T := "StopIteration") (b := true) ⟨o, ho, hc⟩ isSubtype_stop ?_)
  exact wpAny_pure (hQ _ he')
end
end PySem
namespace Tx
open PySem PySem.Spec PyProof.Rows L2
/-- the tuple at a, each item in a new pair -/
def IteT (K : PySem.W.Frag) (a : Addr) : It :=
  ⟨fun i H => ∃ (xs : List V) (x : V), SqT K H a xs ∧ xs[i]? = some x, fun i H v H' => ∃ T x, v = .ref T ∧ H T = none ∧ H' = upd H T (.tup [.int (i : Nat), x]) ∧ ∀ xs, SqT K H a xs → xs[i]? = some x, fun i H => ∃ xs : List V, SqT K H a xs ∧ xs.length ≤ i⟩
theorem turn_enumT {P : Program} {w : World} {K : PySem.W.Frag} {elts : List Expr} {kk : Nat} {tpos : Pos} (a e it : Addr) :
    Turn P w K (.Tuple elts kk tpos) (IteT K a) [e, it] e (fun i h => (∃ old, IsEnum h e it ((i : Nat) : Int) old) ∧ h.IsTupleIter it a i ∧ e ≠ it) where
  mem := by simp
  obj := fun i h st b hb => by
    obtain ⟨⟨old, he⟩, ⟨o, ho, hc, hd⟩, _⟩ := st
    have e' : b = e ∨ b = it := by simpa using hb
    rcases e' with z | z
    · rw [z]; exact ⟨_, he, fun v q => nomatch q⟩
    · rw [z]; exact ⟨o, ho, fun v q => by rw [hd] at q; cases q⟩
  keep := fun i h h' st k => let ⟨⟨old, he⟩, hi, hne⟩ := st; ⟨⟨old, k e (by simp) _ he⟩, hi.at fun o q => k it (by simp) o q, hne⟩
  item := by
    intro X hP hw hK hc i pins s σ H E I hf st hg
    subst hP hw hK
    obtain ⟨⟨old, he⟩, hit, hne⟩ := st
    obtain ⟨xs, x, hq, hx⟩ := hg
    obtain ⟨its, rv, p, hz⟩ := I.tuple hq
    have pT : s.heap.IsTuple a its.toArray := p
    obtain ⟨u, hu, ru⟩ := rv.get hx
    have hel : e < s.heap.objs.size := Heap.lt_size he
    have hil : it < s.heap.objs.size := by obtain ⟨_, q, _⟩ := hit; exact Heap.lt_size q
    have hai : a ≠ it := by
      rintro rfl
      obtain ⟨o1, q1, c1, _⟩ := hit
      obtain ⟨o2, q2, c2, _⟩ := pT
      rw [q1] at q2
      cases q2
      rw [c1] at c2
      exact absurd (Value.type.inj c2) (by decide)
    have hae : e ≠ a := by
      rintro rfl
      obtain ⟨o2, q2, c2, _⟩ := pT
      have he' : s.heap.get? e = some _ := he
      rw [he'] at q2
      cases q2
      exact absurd (Value.type.inj c2) (by decide)
    have hlt : i < its.length := by
      have := (List.getElem?_eq_some_iff.mp hu).1
      exact this
    refine wpAny_pyNext_enum_itemD (Draws.tuple (A := X.A.in1) (I.ok.hd hc) it a hai its.toArray) he ⟨hit, pT⟩ (by simpa using hlt) hne (by simp only [List.mem_cons, List.not_mem_nil, or_false, not_or]; exact ⟨hne, hae⟩) fun y h' tk hP ho hit' hT hsz hk => ?_
    have hy : y = u := by
      have : its[i]? = some y := by simpa using hP
      rw [hu] at this
      exact (Option.some.inj this).symm
    subst hy
    refine ⟨_, rfl, wpAny_letOwnedTupleGo_enum (s := { s with heap := h', toks := tk + 1 }) ho fun h'' he' sb => ?_⟩
    have hT2 : h''.get? s.heap.objs.size = some { cls := .type "tuple", data := .seq #[.int i tk, y] } := (sb.2 _ (Nat.ne_of_gt hel)).trans hT
    have new : ObjOk X.prog X.w (upd H s.heap.objs.size (.tup [.int (i : Nat), x])) h'' s.heap.objs.size (.tup [.int (i : Nat), x]) :=
      ⟨by show 2 ≤ sizeLine; decide, [.int i tk, y], .cons ⟨_, rfl⟩ (.cons ru .nil), ⟨_, hT2, rfl, _, rfl⟩⟩
    have I1 : Inv X pins σ (upd H s.heap.objs.size (.tup [.int (i : Nat), x])) { s with heap := h'', toks := tk + 1 } :=
      I.turnedNew (ch := [e, it]) (fun b ob hb q => (sb.2 b (fun z => hb (by simp [z]))).trans (hk b ob (fun z => hb (by simp [z])) (fun z => hb (by simp [z])) q)) hf (Nat.le_refl _) new
    refine ⟨.ref s.heap.objs.size, _, I1, rfl, ⟨_, x, rfl, I.hok.fresh (Nat.le_refl _), rfl, fun ys hy => by rw [I.tuple_inj hy hq]; exact hx⟩, ⟨⟨y, ?_⟩, hit'.1.at fun o q => (sb.2 it (Ne.symm hne)).trans q, hne⟩, fun b hb => ?_⟩
    · have e1 : ((i + 1 : Nat) : Int) = (i : Int) + 1 := by omega
      rw [e1]; exact he'
    · have hb' : b < s.heap.objs.size := by
        have e' : b = e ∨ b = it := by simpa using hb
        rcases e' with z | z
        · rw [z]; exact hel
        · rw [z]; exact hil
      rw [upd_ne (Nat.ne_of_lt hb')]
      exact (hf b hb).1
  done := by
    intro X hP hw hK hc i pins s σ H E I hf st hg
    subst hP hw hK
    obtain ⟨⟨old, he⟩, hit, hne⟩ := st
    obtain ⟨xs, hq, hx⟩ := hg
    obtain ⟨its, rv, p, hz⟩ := I.tuple hq
    have pT : s.heap.IsTuple a its.toArray := p
    obtain ⟨f0, f1, f2, f3, f4, f5⟩ := hf it (by simp)
    have hl := rv.length
    have hai : a ≠ it := by
      rintro rfl
      obtain ⟨o1, q1, c1, _⟩ := hit
      obtain ⟨o2, q2, c2, _⟩ := pT
      rw [q1] at q2
      cases q2
      rw [c1] at c2
      exact absurd (Value.type.inj c2) (by decide)
    have e0 : its.toArray.size ≤ i := by simp; omega
    exact tx_pyNext_enumT_end (I.ok.hd hc) he hit pT (by simp; omega) fun h' eb => ⟨rfl, I.turned (t' := s.toks) (fun b o hb q => eb b o hb q) f0 f1 f3 f4 f5⟩
  self := fun A i s Q E st h => let ⟨⟨_, he⟩, _⟩ := st; wpAny_pyIter_enum he h

section
variable {X : Cx} {tg : Expr}
/-- for x in e: e a list or a tuple -/
def iSeq (K : PySem.W.Frag) (tl : TE) : TI := fun σ H R => tl σ H fun x H1 => ∃ a, x = .ref a ∧ (((∃ xs, SqL K H1 a xs) ∧ R (Itl K a) H1) ∨ ((∃ xs, SqT K H1 a xs) ∧ R (Itt K a) H1))
theorem pi_seq {l : Expr} {tl : TE} (hl : PE X l tl) : PI X tg l (iSeq X.K tl) := by
  refine ⟨fun pins s σ H R I h => ?_⟩
  refine thn (hl.run pins s σ H _ I h) fun v s1 ⟨x, H1, I1, r1, q1⟩ => ?_
  obtain ⟨a, e, q⟩ := q1
  subst e
  cases r1
  rcases q with ⟨⟨xs, hq⟩, q⟩ | ⟨⟨xs, hq⟩, q⟩
  · obtain ⟨its, rv, p, hz⟩ := I1.list hq
    refine wpAny_pyIter_list p.isList ?_
    refine ⟨s1.heap.objs.size, [s1.heap.objs.size], _, _, H1, rfl, I1.kept (t' := s1.toks) fun b o e => Heap.get?_push_of_some _ e, turn_list a _, ⟨_, Heap.get?_push_size _ rfl, rfl, rfl⟩, fun b hb => ?_, q⟩
    have e : b = s1.heap.objs.size := by simpa using hb
    subst e
    exact I1.fpOk (Nat.le_refl _) (I1.hok.fresh (Nat.le_refl _))
  · obtain ⟨its, rv, p, hz⟩ := I1.tuple hq
    refine wpAny_pyIter_tuple (show s1.heap.IsTuple a its.toArray from p) ?_
    refine ⟨s1.heap.objs.size, [s1.heap.objs.size], _, _, H1, rfl, I1.kept (t' := s1.toks) fun b o e => Heap.get?_push_of_some _ e, turn_tuple a _, ⟨_, Heap.get?_push_size _ rfl, rfl, rfl⟩, fun b hb => ?_, q⟩
    have e : b = s1.heap.objs.size := by simpa using hb
    subst e
    exact I1.fpOk (Nat.le_refl _) (I1.hok.fresh (Nat.le_refl _))
/-- for i, x in enumerate(e): e a list or a tuple -/
def iEnumS (K : PySem.W.Frag) (ta : TA) : TI := fun σ H R => ta σ H fun vs H1 => ∃ a, vs = [.ref a] ∧ (((∃ xs, SqL K H1 a xs) ∧ R (Ite K a) H1) ∨ ((∃ xs, SqT K H1 a xs) ∧ R (IteT K a) H1))
theorem pi_enumS {e : Expr} {ta : TA} {p pos tpos : Pos} {elts : List Expr} {kk : Nat} (hg : Gl X "enumerate") (hm : X.mg "enumerate" = none) (ha : PA X [e] ta) (hs : starEach [e] X.env = [(false, eval e X.env)] := by rfl) :
    PI X (.Tuple elts kk tpos) (.Call (.Name "enumerate" p) [e] [] pos) (iEnumS X.K ta) := by
  refine ⟨fun pins s σ H R I h => ?_⟩
  refine Call_ (ld_blt I hg hm boot_enumerate (PyProof.Rows.callWith_type1 (thn (ha.run pos pins s σ H _ I h) fun us s1 ⟨vs, H1, I1, r1, q1⟩ => ?_) hs rfl))
  obtain ⟨a, ex, q⟩ := q1
  subst ex
  cases r1 with
  | cons r rr =>
    cases rr
    cases r
    have ap : ∀ b, (b ∈ [s1.heap.objs.size + 1, s1.heap.objs.size]) → FpOk X pins H1 b := fun b hb => by
      have e' : b = s1.heap.objs.size + 1 ∨ b = s1.heap.objs.size := by simpa using hb
      have hle : s1.heap.objs.size ≤ b := by
        rcases e' with z | z
        · rw [z]; exact Nat.le_add_right _ _
        · rw [z]; exact Nat.le_refl _
      exact I1.fpOk hle (I1.hok.fresh hle)
    rcases q with ⟨⟨xs, hq⟩, q⟩ | ⟨⟨xs, hq⟩, q⟩
    · obtain ⟨its, rv, p', hz⟩ := I1.list hq
      refine call_enumerate_list p'.isList fun h' he hit hsz hk => wpAny_pyIter_enum he ?_
      have I2 : Inv X pins σ H1 { s1 with heap := h' } := I1.kept (t' := s1.toks) hk
      exact ⟨s1.heap.objs.size + 1, [s1.heap.objs.size + 1, s1.heap.objs.size], _, _, H1, rfl, I2, turn_enum a (s1.heap.objs.size + 1) s1.heap.objs.size, ⟨⟨.none, he⟩, hit, Nat.succ_ne_self _⟩, ap, q⟩
    · obtain ⟨its, rv, p', hz⟩ := I1.tuple hq
      refine tx_call_enumerate_tuple (show s1.heap.IsTuple a its.toArray from p') fun h' he hit hsz hk => wpAny_pyIter_enum he ?_
      have I2 : Inv X pins σ H1 { s1 with heap := h' } := I1.kept (t' := s1.toks) hk
      exact ⟨s1.heap.objs.size + 1, [s1.heap.objs.size + 1, s1.heap.objs.size], _, _, H1, rfl, I2, turn_enumT a (s1.heap.objs.size + 1) s1.heap.objs.size, ⟨⟨.none, he⟩, hit, Nat.succ_ne_self _⟩, ap, q⟩
end
end Tx

set_option Elab.async false
set_option linter.all false
set_option maxRecDepth 100000
set_option maxHeartbeats 1000000
set_option autoImplicit false
/-! Tx: built-in functions, by values -/
namespace PyProof.Rows
open PySem PyProof
section
variable {prog : Program} {w : World} {A : Around} {E : Value → Shared → Prop} {s : Shared}
theorem tx_collect_tuple {l : Addr} {vs : List Value} {Q : List Value → Shared → Prop} (hl : s.heap.IsTuple l vs.toArray)
    (h : Q vs { s with heap := (s.heap.push (seqObj "list" #[] 0)).update s.heap.objs.size (Obj.mapSeq (· ++ vs.toArray)) }) (hsz : vs.length ≤ sizeLine) :
    wpAny (model prog w) A (collect (.ref l)) Q E s := by
  obtain ⟨o, ho, hc, n, hd⟩ := id hl
  unfold collect
  refine wpAny_bind (wpAny_runValue (codeAny_builtin entry_proto_collect' ?_))
  show wpAny _ _ (do again (.builtin "list.__iadd__" ⟨[← newList [], .ref l], []⟩)) _ _ s
  refine wpAny_bind (wpAny_newList (wpAny_pure ⟨Code.quiet_builtin _ (by decide +kernel), codeAny_builtin entry_list_iadd' ?_⟩))
  show wpAny _ _ (Builtin.List.listExtendWith (.ref s.heap.objs.size) (.ref l) (.ref s.heap.objs.size)) _ _ { s with heap := s.heap.push (seqObj "list" #[] 0) }
  unfold Builtin.List.listExtendWith
  have ho' : (s.heap.push (seqObj "list" #[] 0)).get? l = some o := Heap.get?_push_of_some _ ho
  refine wpAny_bind (wpAny_typeOf (T := "tuple") ⟨o, ho', hc⟩ ?_)
  have ht : (Value.type "tuple" == Value.type "tuple") = true := by rfl
  rw [if_pos (by rw [ht]; simp)]
  refine wpAny_bind (listItems_at ho' hd ?_)
  refine wpAny_bind (listItems_at (xs := #[]) (n := 0) (Heap.get?_push_size _ rfl) rfl ?_)
  rw [if_neg (by simp)]
  refine wpAny_bind (listUpdate_at (xs := #[]) (n := 0) (Heap.get?_push_size _ rfl) rfl ?_ (Nat.zero_le _) (by show (#[] ++ vs.toArray).size ≤ sizeLine + 1; simp only [Array.size_append, List.size_toArray, List.length_nil]; omega))
  refine wpAny_pure ?_
  show wpAny (model prog w) A (do
      let o ← load s.heap.objs.size
      match o.data with
      | .seq xs _ => pure xs.toList
      | _ => unsupported "internal:collect") Q E { s with heap := (s.heap.push (seqObj "list" #[] 0)).update s.heap.objs.size (Obj.mapSeq (· ++ vs.toArray)) }
  refine wpAny_bind (wpAny_load (get?_update_seq (Heap.get?_push_size _ rfl) _) ?_)
  show wpAny _ _ (pure ((#[] : Array Value) ++ vs.toArray).toList) Q E _
  rw [show ((#[] : Array Value) ++ vs.toArray).toList = vs by simp]
  exact wpAny_pure h
theorem tx_sorted_ints_tup {l : Addr} {vs : List Value} {ns : List Int} {Q : Value → Shared → Prop} (hl : s.heap.IsTuple l vs.toArray) (hI : IntsAre vs ns) (h64 : vs.length < 64)
    (h : ∀ (out : Array Value) (ns' : List Int), IntsAre out.toList ns' → ns'.Perm ns → ns'.Pairwise (· ≤ ·) → Q (.ref (s.heap.objs.size + 1)) { s with heap := sortedAll s.heap vs out }) :
    wpAny (model prog w) A (call (.builtin "sorted") [.ref l]) Q E s := by
  refine Calls.call_function_entry kind_sorted plain_sorted entry_sorted (args_sorted1 _) ?_
  unfold Builtin.«sorted»
  refine wpAny_bind (m := checkCount "sorted" 1 1 _) (wpAny_pure ?_)
  refine wpAny_bind (tx_collect_tuple hl ?_ (by rw [sizeLine_eq]; omega))
  refine wpAny_bind (wpAny_newList ?_)
  have hsz : ((s.heap.push (seqObj "list" #[] 0)).update s.heap.objs.size (Obj.mapSeq (· ++ vs.toArray))).objs.size = s.heap.objs.size + 1 := by
    rw [Heap.size_update, size_push']
  have hoL : (((s.heap.push (seqObj "list" #[] 0)).update s.heap.objs.size (Obj.mapSeq (· ++ vs.toArray))).push (seqObj "list" vs.toArray 0)).get? (s.heap.objs.size + 1) = some (seqObj "list" vs.toArray 0) := by
    rw [← hsz]; exact Heap.get?_push_size _ rfl
  show wpAny _ _ _ _ _ { s with heap := ((s.heap.push (seqObj "list" #[] 0)).update s.heap.objs.size (Obj.mapSeq (· ++ vs.toArray))).push (seqObj "list" vs.toArray 0) }
  rw [hsz]
  refine wpAny_bind (wpAny_holding (wpAny_call_entry slot_list_sort ⟨_, hoL, rfl⟩ entry_list_sort (list_sort_tree hoL hI h64 fun out ns' a1 a2 a3 => ⟨_, rfl, ?_⟩) (args_list_sort _)))
  exact wpAny_pure ⟨_, rfl, h out ns' a1 a2 a3⟩
end
end PyProof.Rows

namespace Tx
open PySem PySem.Spec PyProof.Rows L2
section
variable {X : Cx}
def srt (l : List Int) : List Int := l.mergeSort fun a b => decide (a ≤ b)
theorem srt_perm (l : List Int) : (srt l).Perm l := List.mergeSort_perm l _
theorem srt_up (l : List Int) : (srt l).Pairwise (· ≤ ·) := by
  have h := List.pairwise_mergeSort (le := fun a b : Int => decide (a ≤ b)) (fun a b c h1 h2 => by simp at *; omega) (fun a b => by simp; omega) l
  exact h.imp fun {a b} q => by simpa using q
theorem srt_of {l l' : List Int} (p : l'.Perm l) (u : l'.Pairwise (· ≤ ·)) : l' = srt l := PySem.W.ksm_same (p.trans (srt_perm l).symm) u (srt_up l)
/-- sorted(xs), a list or tuple of fewer than 64 ints -/
def rSortS (K : PySem.W.Frag) : List V → Hp → VK → Prop := fun vs H Q => ∃ (a : Addr) (ns : List Int), vs = [V.ref a] ∧ (SqL K H a (ns.map V.int) ∨ SqT K H a (ns.map V.int)) ∧ ns.length < 64 ∧
  ∀ p : Addr, H p = none → Q (.ref p) (upd H p (.lst ((srt ns).map V.int)))
theorem cr_sortS : CallR X (.builtin "sorted") (rSortS X.K) := by
  intro pins s σ H vs us Q I r h
  obtain ⟨a, ns, rfl, hs, h64, q⟩ := h
  rw [Vals.ref1 r]
  have fin : ∀ (its : List Value) (out : Array Value) (ns' : List Int), IntsAre out.toList ns' → ns'.Perm ns → ns'.Pairwise (· ≤ ·) → EP X pins σ Q (.ref (s.heap.objs.size + 1)) { s with heap := sortedAll s.heap its out } := fun its out ns' h1 h2 h3 => by
    obtain ⟨ep, he'⟩ := PyProof.Rows.sortedAll_at s.heap its out
    have e := srt_of h2 h3
    subst e
    have hlen : ((srt ns).map V.int).length ≤ sizeLine := by rw [List.length_map, h2.length_eq]; exact small64 h64
    exact ⟨.ref _, upd H (s.heap.objs.size + 1) (.lst ((srt ns).map V.int)), I.laid (t' := s.toks) (fun _ _ => PyProof.Rows.sortedAll_old) (Nat.le_succ _) ⟨hlen, out.toList, ep, vals_of_ints h1, he'⟩, rfl, q _ (I.hok.fresh (Nat.le_succ _))⟩
  rcases hs with hs | hs
  · obtain ⟨its, rv, hl, _⟩ := I.list hs
    have hi := rv.ints
    exact PyProof.Rows.sorted_ints hl.isList hi (by rw [hi.length]; exact h64) fun out ns' h1 h2 h3 => fin its out ns' h1 h2 h3
  · obtain ⟨its, rv, hl, _⟩ := I.tuple hs
    have hi := rv.ints
    exact PyProof.Rows.tx_sorted_ints_tup (show s.heap.IsTuple a its.toArray from hl) hi (by rw [hi.length]; exact h64) fun out ns' h1 h2 h3 => fin its out ns' h1 h2 h3
theorem dp_ints {K : PySem.W.Frag} {H : Hp} : ∀ ns : List Int, DpAll K H (ns.map V.int) (ns.map PyData.int)
  | [] => .nil
  | n :: ns => .cons (.int n) (dp_ints ns)
theorem alike_int (l : List Int) : PySem.W.AlikeAll (l.map PyData.int) := by
  refine ⟨fun x hx y hy => ?_, fun x hx => ?_⟩
  · obtain ⟨a, _, rfl⟩ := List.mem_map.mp hx
    obtain ⟨b, _, rfl⟩ := List.mem_map.mp hy
    simp [PySem.W.alike]
  · obtain ⟨a, _, rfl⟩ := List.mem_map.mp hx
    exact fun z => nomatch z
/-- max(xs), a list or tuple of ints, not empty -/
def rMaxS (K : PySem.W.Frag) : List V → Hp → VK → Prop := fun vs H Q => ∃ (a : Addr) (n : Int) (ns : List Int), vs = [V.ref a] ∧ (SqL K H a ((n :: ns).map V.int) ∨ SqT K H a ((n :: ns).map V.int)) ∧ Q (.int (ns.foldl max n)) H
theorem cr_maxS (hc : X.calm = true) (hu : X.A.units + 64 < cLine) : CallR X (.builtin "max") (rMaxS X.K) := by
  intro pins s σ H vs us Q I r h
  obtain ⟨a, n, ns, rfl, hs, q⟩ := h
  rw [Vals.ref1 r]
  have hz : PyData.depthAll ((n :: ns).map PyData.int) = 0 := PySem.W.depth_ints _
  have fin : ∀ (v : Value) (h' : Heap) (tk : Nat) (bs : List Addr), Reads h' v (PySem.W.maxD (.int n) (ns.map PyData.int)) bs → (∀ b o, s.heap.get? b = some o → h'.get? b = some o) → EP X pins σ Q v { s with heap := h', toks := tk } := fun v h' tk bs hr hk => by
    rw [PySem.W.maxD_ints] at hr
    cases hr with
    | int i t => exact ⟨.int _, H, I.kept (t' := tk) hk, ⟨_, rfl⟩, q⟩
  rcases hs with hs | hs
  · obtain ⟨its, rv, hl, _⟩ := I.list hs
    obtain ⟨as, ra⟩ := Dp.readsAll I _ _ its (dp_ints (n :: ns)) rv
    exact PySem.W.max_list_data (I.ok.hd hc) hl.isList (x := .int n) (xs := ns.map .int) ra (alike_int (n :: ns)) (by have e : PyData.depthAll (PyData.int n :: ns.map PyData.int) = 0 := hz; rw [e]; omega) fun i v h' tk bs _ hr hk => fin v h' tk bs hr hk
  · obtain ⟨its, rv, hl, _⟩ := I.tuple hs
    obtain ⟨as, ra⟩ := Dp.readsAll I _ _ its (dp_ints (n :: ns)) rv
    exact PySem.W.max_tuple_data (I.ok.hd hc) (show s.heap.IsTuple a its.toArray from hl) (x := .int n) (xs := ns.map .int) ra (alike_int (n :: ns)) (by have e : PyData.depthAll (PyData.int n :: ns.map PyData.int) = 0 := hz; rw [e]; omega) fun i v h' tk bs _ hr hk => fin v h' tk bs hr hk
/-- any(xs), all(xs): truth values, a list -/
def rAnyS (K : PySem.W.Frag) : List V → Hp → VK → Prop := fun vs H Q => (∃ (a : Addr) (bs : List Bool), vs = [V.ref a] ∧ SqL K H a (bs.map V.bl) ∧ Q (.bl (bs.any id)) H) ∨ (∃ (a : Addr) (ns : List Int), vs = [V.ref a] ∧ SqT K H a (ns.map V.int) ∧ Q (.bl (ns.any (· != 0))) H)
theorem plain_ints : ∀ l : List Int, PyData.plainAll (l.map PyData.int) = true
  | [] => by simp [PyData.plainAll]
  | n :: l => by simp [PyData.plainAll, PyData.plain, plain_ints l]
theorem cr_anyS (hc : X.calm = true) : CallR X (.builtin "any") (rAnyS X.K) := by
  intro pins s σ H vs us Q I r h
  rcases h with h | h
  · exact cr_any hc pins s σ H vs us Q I r h
  · obtain ⟨a, ns, rfl, hs, q⟩ := h
    rw [Vals.ref1 r]
    obtain ⟨its, rv, hl, _⟩ := I.tuple hs
    obtain ⟨as, ra⟩ := Dp.readsAll I _ _ its (dp_ints ns) rv
    refine PySem.W.any_tuple_data (I.ok.hd hc) (show s.heap.IsTuple a its.toArray from hl) ra (plain_ints ns) (fun x hx => ?_) fun h' tk hk => ?_
    · obtain ⟨k, _, rfl⟩ := List.mem_map.mp hx
      trivial
    · refine ⟨.bl _, H, I.kept (t' := tk) hk, ?_, q⟩
      show Value.bool _ = Value.bool _
      rw [List.any_map]
      rfl
/-- x in t, t a tuple or list of data -/
def rInS (K : PySem.W.Frag) (neg : Bool) : R2 := fun x y H Q => ∃ (d : PyData) (ds : List PyData), Dp K H x d ∧ (Dp K H y (.list ds) ∨ Dp K H y (.tuple ds)) ∧ SeqAt.shaped d = true ∧ SeqAt.shaped (.list ds) = true ∧ Q (.bl (if neg then !(ds.any fun z => PyData.eqv z d) else ds.any fun z => PyData.eqv z d)) H
theorem op_inS (hu : X.A.units + 65 < cLine) : OpR X (compareOp .In) (rInS X.K false) := by
  intro pins s σ H x y v u Q I rx ry h
  obtain ⟨d, ds, hd, he, sd, se, q⟩ := h
  obtain ⟨as, r1⟩ := Dp.reads I d x v hd rx
  rcases he with he | he
  · obtain ⟨bs, r2⟩ := Dp.reads I (.list ds) y u he ry
    exact SeqAt.in_list_reads r2 r1 (SeqAt.canLay_of_shaped se) (SeqAt.canLay_of_shaped sd) (room_in_shaped sd hu) ⟨.bl _, H, I, rfl, q⟩
  · obtain ⟨bs, r2⟩ := Dp.reads I (.tuple ds) y u he ry
    exact SeqAt.in_tuple_reads r2 r1 (SeqAt.canLay_of_shaped se) (SeqAt.canLay_of_shaped sd) (room_in_shaped sd hu) ⟨.bl _, H, I, rfl, q⟩
theorem op_notInS (hu : X.A.units + 65 < cLine) : OpR X (compareOp .NotIn) (rInS X.K true) := by
  intro pins s σ H x y v u Q I rx ry h
  obtain ⟨d, ds, hd, he, sd, se, q⟩ := h
  obtain ⟨as, r1⟩ := Dp.reads I d x v hd rx
  rcases he with he | he
  · obtain ⟨bs, r2⟩ := Dp.reads I (.list ds) y u he ry
    exact SeqAt.notIn_list_reads r2 r1 (SeqAt.canLay_of_shaped se) (SeqAt.canLay_of_shaped sd) (room_in_shaped sd hu) ⟨.bl _, H, I, rfl, q⟩
  · obtain ⟨bs, r2⟩ := Dp.reads I (.tuple ds) y u he ry
    exact SeqAt.notIn_tuple_reads r2 r1 (SeqAt.canLay_of_shaped se) (SeqAt.canLay_of_shaped sd) (room_in_shaped sd hu) ⟨.bl _, H, I, rfl, q⟩
/-! t * k -/
theorem tuple_mul1 (l : Addr) (items : Array Value) (n : Nat) (dd : Option Addr) (sl : Array (Option Value)) (x : Int) (u : Tok) (c0 : (decide (x < -(2 ^ 63)) || decide (x ≥ 2 ^ 63)) = false) (c1 : (items.isEmpty || x == 1) = true) :
    PySem.Meets (Builtin.«tuple.__mul__» ⟨[.ref l, .int x u], []⟩) (fun _ R s => s.heap.get? l = some { cls := .type "tuple", dict := dd, data := .seq items n, slots := sl } ∧ R (.ok (.ret (Value.ref l))) s) :=
  .of_wp fun prog w A R s h => by
    obtain ⟨hp, g, d, tk, os⟩ := s
    obtain ⟨hl, h⟩ := h
    have f1 := AutoSeq1.idx_int
    wp_walk using wpAny_loadPart' hl
    repeat (first
      | (refine wpAny_ite_false (decide_eq_false (by rw [c0]; exact Bool.false_ne_true)) ?_; wp_walk using wpAny_loadPart' hl)
      | (refine wpAny_ite_true (decide_eq_true (by rw [c1])) ?_; wp_walk using wpAny_loadPart' hl))
    exact ⟨_, rfl, h⟩
/-- t * k, k at least 1 -/
def rRepS (K : PySem.W.Frag) : R2 := fun x y H Q => ∃ (l : Addr) (k : Int) (xs : List V), x = .ref l ∧ y = .int k ∧ SqT K H l xs ∧ xs ≠ [] ∧ 1 ≤ k ∧ k ≤ 1000 ∧ xs.length ≤ 1000 ∧ (k = 1 → Q (.ref l) H) ∧ (2 ≤ k → ∀ p, H p = none → Q (.ref p) (upd H p (.tup (List.replicate k.toNat xs).flatten)))
theorem op_repS : OpR X (binaryOp .Mult) (rRepS X.K) := by
  intro pins s σ H x y v u Q I rx ry h
  obtain ⟨l, k, xs, rfl, rfl, hT, hne, h1, h2, hz, q1, q2⟩ := h
  by_cases hk : k = 1
  · cases rx
    obtain ⟨t, rfl⟩ := ry
    obtain ⟨its, r, ⟨⟨cls, dd, data, sl⟩, ho, hc, n, hd⟩, hs⟩ := I.tuple hT
    simp only at hc hd
    subst hc hd
    refine wpAny_binaryOp_repeat_ref (T := "tuple") (U := "int") (by decide) ⟨_, ho, rfl⟩ (fun s' => typeIs_int s' k t) noFill_tuple_mul F.fills_int_mul F.slot_int_rmul repeat_tuple F.slot_int_index.lookup
      (call_meets F.slot_int_rmul (typeIs_int s k t) F.entry_int_rmul (F.args_int_rmul_2 _ _) (int_rmul_tuple k t l its.toArray n dd sl)
        ⟨ho, rfl, ⟨_, ho, rfl⟩, call_meets F.slot_tuple_mul ⟨_, ho, rfl⟩ F.entry_tuple_mul (F.args_tuple_mul_2 _ _) (tuple_mul1 l its.toArray n dd sl k t (by subst hk; decide) (by subst hk; simp)) ⟨ho, ?_⟩⟩)
    exact ⟨.ref l, H, I, rfl, q1 hk⟩
  · exact op_repT pins s σ H (.ref l) (.int k) v u Q I rx ry ⟨l, k, xs, rfl, rfl, hT, hne, by omega, h2, hz, q2 (by omega)⟩
end
end Tx

set_option Elab.async false
set_option linter.all false
set_option maxRecDepth 100000
set_option maxHeartbeats 1000000
set_option autoImplicit false
/-! Tx: len, in, str, == of own instances, by their own methods -/
namespace Tx
open PySem PySem.Spec PyProof.Rows L2
theorem rr1 (a : Addr) : Vals [V.ref a] [Value.ref a] := .cons rfl .nil
theorem rr2 (a : Addr) {x : V} {u : Value} (r : RelV x u) : Vals [V.ref a, x] [Value.ref a, u] := .cons rfl (.cons r .nil)
section
variable {X : Cx} {pins : List (Addr × Obj)} {σ : L2.St} {H : Hp} {s : Shared}
theorem run_own {n : Nat} {f : Addr} {fd : FuncData} {ps : List Str} {sp : Sp} {vs : List V} {us : List Value} {Q : VK} {A : Around} {E' : Value → Shared → Prop} (F : FnOk X.prog X.w X.K X.mg X.base CX0 n f fd ps sp) (hb : Binds X.K fd ps [])
    (hr : Room n A) (fr : A.frames = X.A.frames) (I : Inv X pins σ H s) (r : Vals vs us) (h : sp vs H Q E0) : wpAny (model X.prog X.w) A (call (.ref f) us) (EP X pins σ Q) E' s := by
  have e0 : Env0 X.prog X.w X.K X.mg X.base A X.stack s H := by
    have e := I.env0
    exact ⟨by rw [fr]; exact e.frames, e.mod, e.bs, e.bsz, e.funs, e.frf, e.hok, e.bare⟩
  have hl := F.len _ _ _ _ h
  refine wpAny_call (codeAny_mono (F.run A X.stack s H ⟨us, []⟩ us vs Q E0 hr e0 (by
    have := hb s us I.kIn (by rw [List.append_nil, ← r.length]; exact hl)
    simpa using this) r h) fun r s' hq => ?_)
  cases r with
  | error e => exact False.elim hq
  | ok fl =>
    cases fl with
    | ret w => exact I.after hq
    | next => exact False.elim hq
    | brk => exact False.elim hq
    | cont => exact False.elim hq
/-- what an own method promises of the instance and what else it gets -/
structure Own (X : Cx) (C : Addr) (nm : Str) (n : Nat) (f : Addr) (sp : Sp) : Prop where
  at_ : PySem.W.findIn X.K (.ref C) nm = some (some (.ref f))
  fn : PySem.W.isFn X.K (.ref f) = true
  ok : ∃ fd ps, FnOk X.prog X.w X.K X.mg X.base CX0 n f fd ps sp ∧ Binds X.K fd ps []
/-- len(o) -/
def rLenO (C : Addr) (sp : Sp) : List V → Hp → VK → Prop := fun vs H Q => ∃ (a dx : Addr) (fs : List (Str × V)), vs = [.ref a] ∧ H a = some (.ins C dx fs) ∧ sp [.ref a] H (fun v H' => ∃ n : Int, v = .int n ∧ 0 ≤ n ∧ n < 2 ^ 63 ∧ Q (.int n) H') E0
theorem cr_lenO {C f : Addr} {n : Nat} {sp : Sp} (O : Own X C "__len__" n f sp) (hr : Room (n + 1) X.A) : CallR X (.builtin "len") (rLenO C sp) := by
  intro pins s σ H vs us Q I r h
  obtain ⟨a, dx, fs, rfl, ha, hsp⟩ := h
  rw [Vals.ref1 r]
  obtain ⟨fd, ps, F, hb⟩ := O.ok
  obtain ⟨mA, J, _⟩ := ins_get I.hok ha
  obtain ⟨od, J, _⟩ := J.look
  obtain ⟨m, hF⟩ := I.fr
  refine PySem.W.len_K hF I.ok.mod.kin J O.at_ O.fn (wpAny_mono (run_own F hb hr.in1 rfl I (rr1 a) hsp) (fun v s' hv => ?_) fun _ _ z => z)
  obtain ⟨w, H', I', rw', n', e, h0, h1, q⟩ := hv
  subst e
  obtain ⟨t, rfl⟩ := rw'
  exact ⟨⟨h0, h1⟩, .int n', H', I'.tok _, ⟨_, rfl⟩, q⟩
/-- str(o) -/
def rStrO (C : Addr) (sp : Sp) : List V → Hp → VK → Prop := fun vs H Q => ∃ (a dx : Addr) (fs : List (Str × V)), vs = [.ref a] ∧ H a = some (.ins C dx fs) ∧ sp [.ref a] H (fun v H' => ∃ n : Str, v = .str n ∧ Q (.str n) H') E0
theorem cr_strO {C f : Addr} {n : Nat} {sp : Sp} (O : Own X C "__str__" n f sp) (hr : Room (n + 2) X.A) : CallR X (.type "str") (rStrO C sp) := by
  intro pins s σ H vs us Q I r h
  obtain ⟨a, dx, fs, rfl, ha, hsp⟩ := h
  rw [Vals.ref1 r]
  obtain ⟨fd, ps, F, hb⟩ := O.ok
  obtain ⟨mA, J, _⟩ := ins_get I.hok ha
  obtain ⟨od, J, _⟩ := J.look
  refine PySem.W.kso_call hr.in1.in1.units0 I.kIn J O.at_ O.fn (wpAny_mono (run_own F hb hr.in1.in1 rfl I (rr1 a) hsp) (fun v s' hv => ?_) fun _ _ z => z)
  obtain ⟨w, H', I', rw', n', e, q⟩ := hv
  subst e
  obtain ⟨t, rfl⟩ := rw'
  exact ⟨.str n', H', I', ⟨_, rfl⟩, q⟩
theorem in_own {M : Model} {A : Around} {E : Value → Shared → Prop} {K : PySem.W.Frag} {x C f : Addr} {ox : Obj} {od : Option Obj} {v : Value} {Q : Bool → Shared → Prop} (Xk : K.In s.heap) (I : PySem.W.InstAt s.heap x ox C od) (hs : PySem.W.findIn K (.ref C) "__contains__" = some (some (.ref f)))
    (hf : PySem.W.isFn K (.ref f) = true) (h : wpAny M A (call (.ref f) [.ref x, v]) (fun r s' => ∃ b, r = .bool b ∧ Q b s') E s) : wpAny M A (contains (.ref x) v) Q E s := by
  unfold contains
  refine wpAny_holding ?_
  rw [show stdlibNamesSay? (.ref x) v = none from rfl]
  refine wpAny_bind (wpAny_bind (I.type.here ((PySem.W.looks_findIn Xk hs).here ?_)))
  show wpAny M A (if (some (Value.ref f) == some Value.none) = true then _ else _) Q E s
  rw [if_neg (by simp)]
  refine wpAny_bind (m := callSpecialUnlessNone? (.ref x) (Str.ofString "__contains__") [v] _) ?_
  simp only [callSpecialUnlessNone?]
  refine wpAny_bind (wpAny_bind (I.type.here ((PySem.W.looks_findIn Xk hs).here ?_)))
  refine wpAny_holding (wpAny_bind ((PySem.W.bind_fn Xk _ (beq_iff_eq.mp hf)).here ?_))
  show wpAny M A (if (Value.ref f == Value.none) = true then _ else _) _ E s
  rw [if_neg (show ¬ (Value.ref f == Value.none) = true from Bool.false_ne_true)]
  refine wpAny_bind (wpAny_mono h (fun r s' hr => wpAny_pure ?_) fun _ _ z => z)
  obtain ⟨b, rfl, q⟩ := hr
  exact wpAny_truthy_bool q
/-- x in o -/
def rInO (C : Addr) (sp : Sp) : R2 := fun x y H Q => ∃ (a dx : Addr) (fs : List (Str × V)), y = .ref a ∧ H a = some (.ins C dx fs) ∧ sp [.ref a, x] H (fun v H' => ∃ b : Bool, v = .bl b ∧ Q (.bl b) H') E0
theorem op_inO {C f : Addr} {n : Nat} {sp : Sp} (O : Own X C "__contains__" n f sp) (hr : Room n X.A) : OpR X (compareOp .In) (rInO C sp) := by
  intro pins s σ H x y v u Q I rx ry h
  obtain ⟨a, dx, fs, rfl, ha, hsp⟩ := h
  cases ry
  obtain ⟨fd, ps, F, hb⟩ := O.ok
  obtain ⟨mA, J, _⟩ := ins_get I.hok ha
  obtain ⟨od, J, _⟩ := J.look
  show wpAny _ _ (do return Value.bool (← contains (.ref a) v)) _ _ s
  refine wpAny_bind (in_own I.kIn J O.at_ O.fn (wpAny_mono (run_own F hb hr rfl I (rr2 a rx) hsp) (fun w s' hv => ?_) fun _ _ z => z))
  obtain ⟨w', H', I', rw', b, e, q⟩ := hv
  subst e
  cases rw'
  exact ⟨b, rfl, wpAny_pure ⟨.bl b, H', I', rfl, q⟩⟩
/-- the type of what stands on the right, as == asks it -/
inductive NotSub (K : PySem.W.Frag) (C : Addr) (H : Hp) : V → Prop where
  | ins {a dx : Addr} {fs : List (Str × V)} : H a = some (.ins C dx fs) → NotSub K C H (.ref a)
  | tup {a : Addr} {vs : List V} : SqT K H a vs → PySem.W.notFirst K C (.type "tuple") = true → NotSub K C H (.ref a)
/-- o == y -/
def rEqO (K : PySem.W.Frag) (C : Addr) (sp : Sp) : R2 := fun x y H Q => ∃ (a dx : Addr) (fs : List (Str × V)), x = .ref a ∧ H a = some (.ins C dx fs) ∧ NotSub K C H y ∧ sp [.ref a, y] H (fun v H' => ∃ b : Bool, v = .bl b ∧ Q (.bl b) H') E0
theorem op_eqO {C f : Addr} {n : Nat} {sp : Sp} (O : Own X C "__eq__" n f sp) (hr : Room n X.A) : OpR X (compareOp .Eq) (rEqO X.K C sp) := by
  intro pins s σ H x y v u Q I rx ry h
  obtain ⟨a, dx, fs, rfl, ha, ns, hsp⟩ := h
  cases rx
  obtain ⟨fd, ps, F, hb⟩ := O.ok
  obtain ⟨mA, J, _⟩ := ins_get I.hok ha
  obtain ⟨od, J, _⟩ := J.look
  obtain ⟨m, hF⟩ := I.fr
  have hl : ∃ tb, PySem.W.Looks (model X.prog X.w) s.heap (typeOf u) tb ∧ PySem.W.notFirst X.K C tb = true := by
    cases ns with
    | ins hb' =>
      cases ry
      obtain ⟨mB, J', _⟩ := ins_get I.hok hb'
      obtain ⟨od', J', _⟩ := J'.look
      exact ⟨_, J'.type, by simp [PySem.W.notFirst]⟩
    | tup ht hn =>
      cases ry
      obtain ⟨its, rv, p, _⟩ := I.tuple ht
      obtain ⟨o, ho, hc, _⟩ := p
      refine ⟨_, ?_, hn⟩
      exact hc ▸ (PySem.W.Looks.ld ho).andThen .now
  obtain ⟨tb, hl, hn⟩ := hl
  show wpAny _ X.A (richCompare .Eq (.ref a) u) (EP X pins σ Q) X.xe s
  refine PySem.W.cmp_K (op := .Eq) (tb := tb) hr.units0 hF I.ok.mod.kin J hl hn O.at_ O.fn (wpAny_mono (run_own F hb hr rfl I (rr2 a ry) hsp) (fun w s' hv => ?_) fun _ _ z => z)
  obtain ⟨w', H', I', rw', b, e, q⟩ := hv
  subst e
  cases rw'
  exact ⟨.bl b, H', I', rfl, q⟩
end
end Tx

set_option Elab.async false
set_option linter.all false
set_option maxRecDepth 100000
set_option maxHeartbeats 1000000
set_option autoImplicit false
/-! Tx: what is walked, operators and built-ins, by data -/
namespace Tx
open PySem L2
section
variable {K : PySem.W.Frag} {m : Mo} {Γ : G} {ta tb te : TE} {d : D} {ds : List D}
theorem carry {m' : Mo} {H1 H : Hp} (i1 : m.I H1) (r : m.R H1 H) (c : ∀ a, m'.F a → ¬ m.F a → H1 a = none) : ∀ b o, ¬ m.F b → H1 b = some o → ¬ m'.F b ∧ H b = some o := fun b o n e =>
  ⟨fun f => (by rw [c b f n] at e; cases e), m.keep r i1 b o n e⟩
theorem wk_list {m' : Mo} {H1 H2 : Hp} {a : Addr} {vs : List V} (i1 : m.I H1) (le : m.Le m') (i2 : m'.I H2) (r : m.R H1 H2) (c : ∀ a, m'.F a → ¬ m.F a → H1 a = none)
    (hs : ∀ H, m.R H1 H → SqL K H a vs) (ra : RpAll K m.F H1 vs ds) : WkD m' K (Itl K a) H2 ds := by
  have hl := ra.len
  have up : ∀ H, m'.R H2 H → m.R H1 H := fun H q => m.trans r (by have := q; rw [le.R] at this; exact this)
  refine ⟨fun i H q hi => ⟨vs, vs[i], hs H (up H q), by simp [hl, hi]⟩, fun H q => ⟨vs, hs H (up H q), by omega⟩, fun i H x H' q hi y => ?_⟩
  obtain ⟨e, y⟩ := y
  subst e
  have hx := y vs (hs H' (up H' q))
  obtain ⟨d, hd, rd⟩ := ra.at hx
  exact ⟨m'.refl _, d, hd, rd.go (carry i1 (up H' q) c)⟩
theorem wk_tup {m' : Mo} {H1 H2 : Hp} {a : Addr} {vs : List V} (i1 : m.I H1) (le : m.Le m') (i2 : m'.I H2) (r : m.R H1 H2) (c : ∀ a, m'.F a → ¬ m.F a → H1 a = none)
    (hs : ∀ H, m.R H1 H → SqT K H a vs) (ra : RpAll K m.F H1 vs ds) : WkD m' K (Itt K a) H2 ds := by
  have hl := ra.len
  have up : ∀ H, m'.R H2 H → m.R H1 H := fun H q => m.trans r (by have := q; rw [le.R] at this; exact this)
  refine ⟨fun i H q hi => ⟨vs, vs[i], hs H (up H q), by simp [hl, hi]⟩, fun H q => ⟨vs, hs H (up H q), by omega⟩, fun i H x H' q hi y => ?_⟩
  obtain ⟨e, y⟩ := y
  subst e
  have hx := y vs (hs H' (up H' q))
  obtain ⟨d, hd, rd⟩ := ra.at hx
  exact ⟨m'.refl _, d, hd, rd.go (carry i1 (up H' q) c)⟩
def isSeq (d : D) (ds : List D) : Prop := d = .tup ds ∨ d = .lst ds ∨ d = .frl ds
/-- how a sequence stands, and stays -/
theorem seq_stands {H1 : Hp} {v : V} (i1 : m.I H1) (rv : Rp K m.F H1 v d) (hd : isSeq d ds) : ∃ a vs, v = .ref a ∧ RpAll K m.F H1 vs ds ∧ ((∀ H, m.R H1 H → SqL K H a vs) ∨ (∀ H, m.R H1 H → SqT K H a vs)) := by
  rcases hd with e | e | e
  · subst e
    cases rv with
    | tup n h t => exact ⟨_, _, rfl, t, .inr fun H r => .inl (rd_up h fun o q => m.keep r i1 _ o n q)⟩
    | ktup h t => exact ⟨_, _, rfl, t, .inr fun H r => .inr h⟩
  · subst e
    cases rv with
    | lst n h t => exact ⟨_, _, rfl, t, .inl fun H r => SqL.of (m.keep r i1 _ _ n h)⟩
  · subst e
    cases rv with
    | frl n h t => exact ⟨_, _, rfl, t, .inl fun H r => .inl (.inr ⟨_, m.keep r i1 _ _ n h⟩)⟩
    | kfrl h t => exact ⟨_, _, rfl, t, .inl fun H r => .inr h⟩
theorem it_seqN {S : D → Prop} {T : List D → Prop} (h : EvN m K te Γ S) (hd : ∀ d, S d → ∃ ds, isSeq d ds ∧ T ds) : ItD m K (iSeq K te) Γ T := fun σ H e Q q =>
  h σ H e _ fun v d H1 s r1 rv => by
    obtain ⟨ds, hds, ht⟩ := hd d s
    have i1 := m.inv r1 e.i
    obtain ⟨a, vs, rfl, ra, hs⟩ := seq_stands i1 rv hds
    refine ⟨a, rfl, ?_⟩
    rcases hs with hs | hs
    · exact .inl ⟨⟨vs, hs H1 (m.refl _)⟩, q _ ds H1 ht r1 fun m' le H2 i2 r c => wk_list i1 le i2 r c hs ra⟩
    · exact .inr ⟨⟨vs, hs H1 (m.refl _)⟩, q _ ds H1 ht r1 fun m' le H2 i2 r c => wk_tup i1 le i2 r c hs ra⟩
theorem it_seq (h : Ev1 m K te Γ d) (hd : isSeq d ds) : ItD1 m K (iSeq K te) Γ ds := it_seqN h fun x e => ⟨ds, e ▸ hd, rfl⟩
def rngD (lo : Int) (n : Nat) : List D := (List.range n).map fun i : Nat => D.int (lo + (i : Int))
theorem rngD_len (lo : Int) (n : Nat) : (rngD lo n).length = n := by unfold rngD; rw [List.length_map, List.length_range]
theorem rngD_at {lo : Int} {n i : Nat} (h : i < n) : (rngD lo n)[i]? = some (.int (lo + (i : Int))) := by unfold rngD; simp [h]
theorem wk_rng {m' : Mo} {H2 : Hp} (lo : Int) (n : Nat) : WkD m' K (Itr lo n) H2 (rngD lo n) := by
  refine ⟨fun i H _ hi => by rw [rngD_len] at hi; exact hi, fun H _ => by rw [rngD_len]; exact Nat.le_refl _, fun i H x H' q hi y => ?_⟩
  rw [rngD_len] at hi
  obtain ⟨e, ex⟩ := y
  subst e; subst ex
  exact ⟨m'.refl _, _, rngD_at hi, .int _⟩
theorem it_rng1 {ta : TA} {n : Int} (h : EvA1 m K ta Γ [.int n]) (hn : -100000 ≤ n ∧ n ≤ 100000) : ItD1 m K (iRng1 ta) Γ (rngD 0 n.toNat) := fun σ H e Q q =>
  h σ H e _ fun vs ds H1 s r1 rs => by
    subst s
    cases rs with
    | cons r rs =>
      cases rs
      exact ⟨n, by rw [r.intE], by omega, by omega, q _ _ H1 rfl r1 fun m' _ H2 _ _ _ => wk_rng 0 n.toNat⟩
theorem it_rng2 {ta : TA} {lo n : Int} (h : EvA1 m K ta Γ [.int lo, .int n]) (hn : -100000 ≤ n ∧ n ≤ 100000 ∧ -100000 ≤ lo ∧ lo ≤ 100000) : ItD1 m K (iRng2 ta) Γ (rngD lo (n - lo).toNat) := fun σ H e Q q =>
  h σ H e _ fun vs ds H1 s r1 rs => by
    subst s
    cases rs with
    | cons r rs =>
      cases rs with
      | cons r' rs =>
        cases rs
        exact ⟨lo, n, by rw [r.intE, r'.intE], ⟨by omega, by omega, by omega, by omega⟩, q _ _ H1 rfl r1 fun m' _ H2 _ _ _ => wk_rng lo (n - lo).toNat⟩
def enumD (ds : List D) : List D := ds.mapIdx fun i d => .tup [.int (i : Int), d]
theorem enumD_len : (enumD ds).length = ds.length := by unfold enumD; rw [List.length_mapIdx]
theorem enumD_at {i : Nat} {d : D} (h : ds[i]? = some d) : (enumD ds)[i]? = some (.tup [.int (i : Int), d]) := by unfold enumD; rw [List.getElem?_mapIdx, h]; rfl
theorem wk_enum {m' : Mo} {J : It} {H1 H2 : Hp} {vs : List V} (i1 : m.I H1) (le : m.Le m') (i2 : m'.I H2) (r : m.R H1 H2) (c : ∀ a, m'.F a → ¬ m.F a → H1 a = none) (ra : RpAll K m.F H1 vs ds)
    (hg : ∀ i H, m.R H1 H → i < vs.length → J.go i H) (hp : ∀ H, m.R H1 H → J.stop vs.length H) (hy : ∀ i H x H', m.R H1 H → i < vs.length → J.yld i H x H' → ∃ T y, x = .ref T ∧ H T = none ∧ H' = upd H T (.tup [.int (i : Nat), y]) ∧ vs[i]? = some y) : WkD m' K J H2 (enumD ds) := by
  have hl := ra.len
  have up : ∀ H, m'.R H2 H → m.R H1 H := fun H q => m.trans r (by have := q; rw [le.R] at this; exact this)
  refine ⟨fun i H q hi => hg i H (up H q) (by rw [enumD_len] at hi; omega), fun H q => by rw [enumD_len, ← hl]; exact hp H (up H q), fun i H x H' q hi y => ?_⟩
  rw [enumD_len] at hi
  obtain ⟨T, w, rfl, hT, rfl, hw⟩ := hy i H x H' (up H q) (by omega) y
  obtain ⟨d, hd, rd⟩ := ra.at hw
  have iH : m'.I H := m'.inv q i2
  exact ⟨m'.grow iH (same_new hT), _, enumD_at hd, rp_new iH hT (.cons (.int _) (.cons (rd.go (carry i1 (up H q) c)) .nil))⟩
theorem it_enum {ta : TA} (h : EvA1 m K ta Γ [d]) (hd : isSeq d ds) : ItD1 m K (iEnumS K ta) Γ (enumD ds) := fun σ H e Q q =>
  h σ H e _ fun vs es H1 s r1 rs => by
    subst s
    cases rs with
    | cons rv rs =>
      cases rs
      have i1 := m.inv r1 e.i
      obtain ⟨a, ws, rfl, ra, hs⟩ := seq_stands i1 rv hd
      refine ⟨a, rfl, ?_⟩
      rcases hs with hs | hs
      · refine .inl ⟨⟨ws, hs H1 (m.refl _)⟩, q _ _ H1 rfl r1 fun m' le H2 i2 r c => wk_enum i1 le i2 r c ra (fun i H q hi => ⟨ws, ws[i], hs H q, by simp [hi]⟩) (fun H q => ⟨ws, hs H q, Nat.le_refl _⟩) fun i H x H' q hi y => ?_⟩
        obtain ⟨T, w, h1, h2, h3, h4⟩ := y
        exact ⟨T, w, h1, h2, h3, h4 ws (hs H q)⟩
      · refine .inr ⟨⟨ws, hs H1 (m.refl _)⟩, q _ _ H1 rfl r1 fun m' le H2 i2 r c => wk_enum i1 le i2 r c ra (fun i H q hi => ⟨ws, ws[i], hs H q, by simp [hi]⟩) (fun H q => ⟨ws, hs H q, Nat.le_refl _⟩) fun i H x H' q hi y => ?_⟩
        obtain ⟨T, w, h1, h2, h3, h4⟩ := y
        exact ⟨T, w, h1, h2, h3, h4 ws (hs H q)⟩

/-! ### operators -/
theorem o_I0 {g : Int → Int → V} {g' : Int → Int → D} (hg : ∀ i j F H, Rp K F H (g i j) (g' i j)) {i j : Int} : Op1 m K (rI0 g) (.int i) (.int j) (g' i j) := fun x y H I rx ry Q q => ⟨i, j, rx.intE, ry.intE, q _ _ H rfl (m.refl H) (hg i j _ _)⟩
theorem o_I {C : Int → Int → Prop} {g : Int → Int → V} {g' : Int → Int → D} (hg : ∀ i j F H, Rp K F H (g i j) (g' i j)) {i j : Int} (hc : C i j) : Op1 m K (rI C g) (.int i) (.int j) (g' i j) := fun x y H I rx ry Q q => ⟨i, j, rx.intE, ry.intE, hc, q _ _ H rfl (m.refl H) (hg i j _ _)⟩
theorem o_int {g : Int → Int → Int} {i j : Int} : Op1 m K (rI0 fun i j => .int (g i j)) (.int i) (.int j) (.int (g i j)) := o_I0 (g' := fun i j => .int (g i j)) fun _ _ _ _ => .int _
theorem o_bl {g : Int → Int → Bool} {i j : Int} : Op1 m K (rI0 fun i j => .bl (g i j)) (.int i) (.int j) (.bl (g i j)) := o_I0 (g' := fun i j => .bl (g i j)) fun _ _ _ _ => .bl _
theorem o_intC {C : Int → Int → Prop} {g : Int → Int → Int} {i j : Int} (hc : C i j) : Op1 m K (rI C fun i j => .int (g i j)) (.int i) (.int j) (.int (g i j)) := o_I (g' := fun i j => .int (g i j)) (fun _ _ _ _ => .int _) hc
theorem o_eqD {a b : D} (ha : a.plain = true) (hb : b.plain = true) (sa : SeqAt.shaped a.py = true) (sb : SeqAt.shaped b.py = true) : Op1 m K (rEqD K) a b (.bl (PyData.eqv a.py b.py)) := fun x y H I rx ry Q q => ⟨_, _, rx.dp ha, ry.dp hb, sa, sb, q _ _ H rfl (m.refl H) (.bl _)⟩
theorem o_neD {a b : D} (ha : a.plain = true) (hb : b.plain = true) (sa : SeqAt.shaped a.py = true) (sb : SeqAt.shaped b.py = true) : Op1 m K (rNeD K) a b (.bl (!PyData.eqv a.py b.py)) := fun x y H I rx ry Q q => ⟨_, _, rx.dp ha, ry.dp hb, sa, sb, q _ _ H rfl (m.refl H) (.bl _)⟩
theorem o_inS {neg : Bool} {a b : D} (hd : isSeq b ds) (ha : a.plain = true) (hb : D.plains ds = true) (sa : SeqAt.shaped a.py = true) (sb : SeqAt.shaped (.list (D.pys ds)) = true) : Op1 m K (rInS K neg) a b (.bl (if neg then !((D.pys ds).any fun z => PyData.eqv z a.py) else (D.pys ds).any fun z => PyData.eqv z a.py)) := fun x y H I rx ry Q q => by
  refine ⟨_, D.pys ds, rx.dp ha, ?_, sa, sb, q _ _ H rfl (m.refl H) (.bl _)⟩
  rcases hd with e | e | e
  · subst e; exact .inr (ry.dp (by simpa [D.plain] using hb))
  · subst e; exact .inl (ry.dp (by simpa [D.plain] using hb))
  · subst e; exact .inl (ry.dp (by simpa [D.plain] using hb))
theorem atI_D {vs : List V} {F : Addr → Prop} {H : Hp} (ra : RpAll K F H vs ds) {i : Int} (h : atI ds i = some d) : ∃ v, atI vs i = some v ∧ Rp K F H v d := by
  unfold atI at h ⊢
  rw [ra.len]
  cases e : ixN ds.length i with
  | none => rw [e] at h; cases h
  | some j =>
    rw [e] at h
    obtain ⟨v, h1, h2⟩ := ra.get (show ds[j]? = some d from h)
    exact ⟨v, h1, h2⟩
theorem o_ix {b : D} {i : Int} (hd : isSeq b ds) (h : atI ds i = some d) : Op1 m K (rIx K) b (.int i) d := fun x y H I rx ry Q q => by
  rcases hd with e | e | e
  · subst e
    obtain ⟨a, vs, rfl, hs, ra⟩ := rx.tupE
    obtain ⟨v, hv, rv⟩ := atI_D ra h
    exact .inr (.inl ⟨a, vs, i, v, rfl, ry.intE, hs, hv, q _ _ H rfl (m.refl H) rv⟩)
  · subst e
    obtain ⟨a, vs, rfl, hs, ra⟩ := rx.lstE
    obtain ⟨v, hv, rv⟩ := atI_D ra h
    exact .inl ⟨a, vs, i, v, rfl, ry.intE, SqL.of hs, hv, q _ _ H rfl (m.refl H) rv⟩
  · subst e
    cases rx with
    | frl n h' ra =>
      obtain ⟨v, hv, rv⟩ := atI_D ra h
      exact .inl ⟨_, _, i, v, rfl, ry.intE, .inl (.inr ⟨_, h'⟩), hv, q _ _ H rfl (m.refl H) rv⟩
    | kfrl h' ra =>
      obtain ⟨v, hv, rv⟩ := atI_D ra h
      exact .inl ⟨_, _, i, v, rfl, ry.intE, .inr h', hv, q _ _ H rfl (m.refl H) rv⟩
theorem atI_of {i : Nat} (h : ds[i]? = some d) : atI ds (i : Int) = some d := by
  have hl := (List.getElem?_eq_some_iff.mp h).1
  unfold atI
  rw [Evl.ixN_nat hl]
  exact h
theorem o_catT {as bs : List D} (hl : as.length + bs.length ≤ 100000) : Op1 m K (rCatA K) (.tup as) (.tup bs) (.tup (as ++ bs)) := fun x y H I rx ry Q q => by
  have rx0 := rx
  have ry0 := ry
  obtain ⟨a, vs, rfl, hs, ra⟩ := rx.tupE
  obtain ⟨b, ws, rfl, ht, rb⟩ := ry.tupE
  refine ⟨a, b, vs, ws, rfl, rfl, hs, ht, Nat.le_trans (by rw [ra.len, rb.len]; exact hl) (by decide), fun e => ?_, fun h1 e => ?_, fun h1 h2 p hp => ?_⟩
  · have e' : as = [] := List.eq_nil_of_length_eq_zero (by rw [← ra.len, e]; rfl)
    subst e'
    exact q _ _ H rfl (m.refl H) ry0
  · have e' : bs = [] := List.eq_nil_of_length_eq_zero (by rw [← rb.len, e]; rfl)
    subst e'
    exact q _ _ H (by rw [List.append_nil]) (m.refl H) rx0
  · exact q _ _ _ rfl (m.grow I (same_new hp)) (rp_new I hp (ra.append rb))
theorem o_catL {as bs : List D} (hl : as.length + bs.length ≤ 100000) : Op1 m K rCat (.lst as) (.lst bs) (.lst (as ++ bs)) := fun x y H I rx ry Q q => by
  obtain ⟨a, vs, rfl, hs, ra⟩ := rx.lstE
  obtain ⟨b, ws, rfl, ht, rb⟩ := ry.lstE
  exact ⟨a, b, vs, ws, rfl, rfl, hs, ht, Nat.le_trans (by rw [ra.len, rb.len]; exact hl) (by decide), fun p hp => q _ _ _ rfl (m.grow I (same_new hp)) (rp_newL I hp (ra.append rb))⟩
theorem flat_rep {F : Addr → Prop} {H : Hp} {vs : List V} (ra : RpAll K F H vs ds) : ∀ n : Nat, RpAll K F H (List.replicate n vs).flatten (List.replicate n ds).flatten
  | 0 => .nil
  | n + 1 => by rw [List.replicate_succ, List.replicate_succ, List.flatten_cons, List.flatten_cons]; exact ra.append (flat_rep ra n)
theorem o_repT {k : Int} (hn : ds ≠ []) (hk : 1 ≤ k ∧ k ≤ 1000) (hl : ds.length ≤ 1000) : Op1 m K (rRepS K) (.tup ds) (.int k) (.tup (List.replicate k.toNat ds).flatten) := fun x y H I rx ry Q q => by
  have rx0 := rx
  obtain ⟨a, vs, rfl, hs, ra⟩ := rx.tupE
  refine ⟨a, k, vs, rfl, ry.intE, hs, fun e => hn (List.eq_nil_of_length_eq_zero (by rw [← ra.len, e]; rfl)), hk.1, hk.2, by rw [ra.len]; exact hl, fun e => ?_, fun h2 p hp => ?_⟩
  · subst e
    exact q _ _ H (by simp) (m.refl H) rx0
  · exact q _ _ _ rfl (m.grow I (same_new hp)) (rp_new I hp (flat_rep ra _))

/-! ### built-ins -/
theorem c_len {b : D} (hd : isSeq b ds) : Ca1 m K (fun xs H Q => ∃ x n, xs = [x] ∧ LenV K x H n ∧ Q (.int (n : Nat)) H) [b] (.int ds.length) := fun vs H I rs Q q => by
  cases rs with
  | cons rv rs =>
    cases rs
    obtain ⟨a, ws, rfl, ra, hs⟩ := seq_stands I rv hd
    refine ⟨_, ws.length, rfl, ?_, q _ _ H (by rw [ra.len]) (m.refl H) (.int _)⟩
    rcases hs with hs | hs
    · exact .inl ⟨ws, hs H (m.refl H), rfl⟩
    · exact .inr ⟨ws, hs H (m.refl H), rfl⟩
theorem c_tuple {b : D} (hd : isSeq b ds) : Ca1 m K (fun xs H Q => ∃ p ys, xs = [V.ref p] ∧ ((SqL K H p ys ∧ ∀ (l : Addr), H l = none → Q (.ref l) (upd H l (.tup ys))) ∨ SqT K H p ys ∧ Q (.ref p) H)) [b] (.tup ds) := fun vs H I rs Q q => by
  cases rs with
  | cons rv rs =>
    cases rs
    have rv0 := rv
    rcases hd with e | e | e
    · subst e
      obtain ⟨a, ws, rfl, hs, ra⟩ := rv.tupE
      exact ⟨a, ws, rfl, .inr ⟨hs, q _ _ H rfl (m.refl H) rv0⟩⟩
    · subst e
      obtain ⟨a, ws, rfl, hs, ra⟩ := rv.lstE
      exact ⟨a, ws, rfl, .inl ⟨SqL.of hs, fun l hl => q _ _ _ rfl (m.grow I (same_new hl)) (rp_new I hl ra)⟩⟩
    · subst e
      cases rv with
      | frl n h' ra => exact ⟨_, _, rfl, .inl ⟨.inl (.inr ⟨_, h'⟩), fun l hl => q _ _ _ rfl (m.grow I (same_new hl)) (rp_new I hl ra)⟩⟩
      | kfrl h' ra => exact ⟨_, _, rfl, .inl ⟨.inr h', fun l hl => q _ _ _ rfl (m.grow I (same_new hl)) (rp_new I hl ra)⟩⟩
theorem c_list {b : D} (hd : isSeq b ds) : Ca1 m K (fun xs H Q => ∃ p ys, xs = [V.ref p] ∧ (SqL K H p ys ∨ SqT K H p ys) ∧ ∀ (l : Addr), H l = none → Q (.ref l) (upd H l (.lst ys))) [b] (.lst ds) := fun vs H I rs Q q => by
  cases rs with
  | cons rv rs =>
    cases rs
    obtain ⟨a, ws, rfl, ra, hs⟩ := seq_stands I rv hd
    refine ⟨a, ws, rfl, ?_, fun l hl => q _ _ _ rfl (m.grow I (same_new hl)) (rp_newL I hl ra)⟩
    rcases hs with hs | hs
    · exact .inl (hs H (m.refl H))
    · exact .inr (hs H (m.refl H))
theorem c_sorted {b : D} {ns : List Int} (hd : isSeq b (ns.map D.int)) (hl : ns.length < 64) : Ca1 m K (rSortS K) [b] (.lst ((srt ns).map D.int)) := fun vs H I rs Q q => by
  cases rs with
  | cons rv rs =>
    cases rs
    obtain ⟨a, ws, rfl, ra, hs⟩ := seq_stands I rv hd
    have e := ra.ints
    subst e
    refine ⟨a, ns, rfl, ?_, hl, fun p hp => q _ _ _ rfl (m.grow I (same_new hp)) (rp_newL I hp (RpAll.map (fun x => .int x) _))⟩
    rcases hs with hs | hs
    · exact .inl (hs H (m.refl H))
    · exact .inr (hs H (m.refl H))
theorem c_max {b : D} {n : Int} {ns : List Int} (hd : isSeq b ((n :: ns).map D.int)) : Ca1 m K (rMaxS K) [b] (.int (ns.foldl max n)) := fun vs H I rs Q q => by
  cases rs with
  | cons rv rs =>
    cases rs
    obtain ⟨a, ws, rfl, ra, hs⟩ := seq_stands I rv hd
    have e := ra.ints
    subst e
    refine ⟨a, n, ns, rfl, ?_, q _ _ _ rfl (m.refl H) (.int _)⟩
    rcases hs with hs | hs
    · exact .inl (hs H (m.refl H))
    · exact .inr (hs H (m.refl H))
theorem c_all {bs : List Bool} : Ca1 m K (rAll K) [.lst (bs.map D.bl)] (.bl (bs.all id)) := fun vs H I rs Q q => by
  cases rs with
  | cons rv rs =>
    cases rs
    obtain ⟨a, ws, rfl, hs, ra⟩ := rv.lstE
    have e := ra.bls
    subst e
    exact ⟨a, bs, rfl, SqL.of hs, q _ _ _ rfl (m.refl H) (.bl _)⟩
theorem c_any {bs : List Bool} : Ca1 m K (rAnyS K) [.lst (bs.map D.bl)] (.bl (bs.any id)) := fun vs H I rs Q q => by
  cases rs with
  | cons rv rs =>
    cases rs
    obtain ⟨a, ws, rfl, hs, ra⟩ := rv.lstE
    have e := ra.bls
    subst e
    exact .inl ⟨a, bs, rfl, SqL.of hs, q _ _ _ rfl (m.refl H) (.bl _)⟩
theorem c_anyI {ns : List Int} : Ca1 m K (rAnyS K) [.tup (ns.map D.int)] (.bl (ns.any (· != 0))) := fun vs H I rs Q q => by
  cases rs with
  | cons rv rs =>
    cases rs
    obtain ⟨a, ws, rfl, hs, ra⟩ := rv.tupE
    have e := ra.ints
    subst e
    exact .inr ⟨a, ns, rfl, hs, q _ _ _ rfl (m.refl H) (.bl _)⟩
theorem c_sum {b : D} {ns : List Int} (hd : b = .lst (ns.map D.int)) : Ca1 m K (rSum K) [b] (.int ns.sum) := fun vs H I rs Q q => by
  subst hd
  cases rs with
  | cons rv rs =>
    cases rs
    obtain ⟨a, ws, rfl, hs, ra⟩ := rv.lstE
    have e := ra.ints
    subst e
    exact ⟨a, ns, rfl, SqL.of hs, q _ _ _ rfl (m.refl H) (.int _)⟩
end
end Tx

set_option Elab.async false
set_option linter.all false
set_option maxRecDepth 100000
set_option maxHeartbeats 1000000
set_option autoImplicit false
/-! Tx: fields, calls, defs, the pouch -/
namespace Tx
open PySem L2
section
variable {K : PySem.W.Frag} {m : Mo} {Γ : G} {ta tb te : TE} {d : D} {ds : List D} {S : D → Prop} {O : Out} {tv : TS}
/-! ### fields -/
theorem lookup_zip {F : Addr → Prop} {H : Hp} {f : Str} : ∀ {ns : List Str} {vs : List V} {ds : List D}, RpAll K F H vs ds → (ns.zip ds).lookup f = some d → ∃ v, (ns.zip vs).lookup f = some v ∧ Rp K F H v d
  | [], _, _, _, h => by simp at h
  | n :: ns, _, _, .nil, h => by simp at h
  | n :: ns, _, _, .cons (v := v) r t, h => by
    rw [List.zip_cons_cons, List.lookup_cons] at h
    rw [List.zip_cons_cons, List.lookup_cons]
    cases e : f == n with
    | true =>
      rw [e] at h
      cases h
      exact ⟨v, rfl, r⟩
    | false =>
      rw [e] at h
      exact lookup_zip t h
theorem en_fld {C : Addr} {ns : List Str} {xs : List D} {f : Str} (h : Ev1 m K te Γ (.obj C ns xs)) (cl : Cls K C) (na : NoAttr K C f) (hf : (ns.zip xs).lookup f = some d) : Ev1 m K (tFld K te f) Γ d := fun σ H e Q q =>
  h σ H e _ fun v d' H1 s r1 rv => by
    subst s
    cases rv with
    | obj n h' hl t =>
      obtain ⟨v, hv, rv⟩ := lookup_zip t hf
      exact ⟨_, C, _, _, v, rfl, h', cl, na, hv, q v _ H1 rfl r1 rv⟩
theorem Rp.ins {F : Addr → Prop} {H : Hp} {v : V} {C : Addr} {ns : List Str} {xs : List D} (r : Rp K F H v (.obj C ns xs)) : ∃ a dx fs, v = .ref a ∧ H a = some (.ins C dx fs) ∧ ∀ f, f ∉ ns → fs.lookup f = none := by
  cases r with
  | obj n h' hl t =>
    refine ⟨_, _, _, rfl, h', fun f hf => ?_⟩
    have : ∀ {ns : List Str} {vs : List V}, f ∉ ns → (ns.zip vs).lookup f = none := by
      intro ns
      induction ns with
      | nil => intro vs _; rfl
      | cons n ns ih =>
        intro vs hn
        cases vs with
        | nil => rfl
        | cons v vs =>
          rw [List.zip_cons_cons, List.lookup_cons]
          have e : (f == n) = false := by
            simp only [List.mem_cons, not_or] at hn
            simpa using hn.1
          rw [e]
          exact ih fun z => hn (List.mem_cons_of_mem _ z)
    exact this hf
/-! ### promises of defs that change nothing -/
def spS (K : PySem.W.Frag) (pre : List D → Prop) (S : List D → D → Prop) : Sp := fun vs H Q _ => ∃ (F : Addr → Prop) (ds : List D), (∀ a, F a → H a ≠ none) ∧ RpAll K F H vs ds ∧ pre ds ∧ ∀ v d H', S ds d → Same H H' → Rp K F H' v d → Q v H'
theorem en_callN {pre : List D → Prop} {Sf : List D → D → Prop} {dvs : List V} {dds : List D} {E : XK} {ta : TA} {T : List D → Prop} (h : EvA m K ta Γ T) (hd : ∀ F H, RpAll K F H dvs dds) (hp : ∀ ds, T ds → pre (ds ++ dds)) (hs : ∀ ds d, T ds → Sf (ds ++ dds) d → S d) : EvN m K (tCall (spS K pre Sf) dvs E ta) Γ S := fun σ H e Q q =>
  h σ H e _ fun vs ds H1 s r1 rs => ⟨m.F, ds ++ dds, fun a f => m.fa (m.inv r1 e.i) f, rs.append (hd _ _), hp ds s, fun v d H' sd sm rv => q v d H' (hs ds d s sd) (m.trans r1 (m.grow (m.inv r1 e.i) sm)) rv⟩
theorem en_call {pre : List D → Prop} {Sf : List D → D → Prop} {E : XK} {ta : TA} (h : EvA1 m K ta Γ ds) (hp : pre ds) (hs : ∀ d, Sf ds d → S d) : EvN m K (tCall (spS K pre Sf) [] E ta) Γ S :=
  en_callN (T := fun x => x = ds) (dds := []) h (fun _ _ => .nil) (fun x e => by rw [e, List.append_nil]; exact hp) fun x d e sd => hs d (by rw [e, List.append_nil] at sd; exact sd)
/-- a deterministic one -/
def spF (K : PySem.W.Frag) (pre : List D → Prop) (f : List D → D) : Sp := spS K pre fun ds d => d = f ds
theorem en_callF {pre : List D → Prop} {f : List D → D} {E : XK} {ta : TA} (h : EvA1 m K ta Γ ds) (hp : pre ds) : Ev1 m K (tCall (spF K pre f) [] E ta) Γ (f ds) := en_call h hp fun _ e => e
/-- a property, a method -/
theorem en_propN {pre : List D → Prop} {Sf : List D → D → Prop} {C : Addr} {ns : List Str} {xs : List D} {E : XK} (h : Ev1 m K te Γ (.obj C ns xs)) (hp : pre [.obj C ns xs]) (hs : ∀ d, Sf [.obj C ns xs] d → S d) : EvN m K (tProp C (spS K pre Sf) [] E te) Γ S := fun σ H e Q q =>
  h σ H e _ fun v d' H1 s r1 rv => by
    subst s
    obtain ⟨a, dx, fs, rfl, ha, _⟩ := rv.ins
    have i1 := m.inv r1 e.i
    exact ⟨a, dx, fs, rfl, ha, m.F, [.obj C ns xs], fun a f => m.fa i1 f, .cons rv .nil, hp, fun v d H' sd sm rv => q v d H' (hs d sd) (m.trans r1 (m.grow i1 sm)) rv⟩
theorem en_prop {pre : List D → Prop} {f : List D → D} {C : Addr} {ns : List Str} {xs : List D} {E : XK} (h : Ev1 m K te Γ (.obj C ns xs)) (hp : pre [.obj C ns xs]) : Ev1 m K (tProp C (spF K pre f) [] E te) Γ (f [.obj C ns xs]) := en_propN h hp fun _ e => e
theorem en_methN {pre : List D → Prop} {Sf : List D → D → Prop} {C : Addr} {ns : List Str} {xs : List D} {mt : Str} {E : XK} {ta : TA} {T : List D → Prop} (h : Ev1 m K te Γ (.obj C ns xs)) (hn : mt ∉ ns) (ha : EvA m K ta Γ T) (hp : ∀ ds, T ds → pre (.obj C ns xs :: ds)) (hs : ∀ ds d, T ds → Sf (.obj C ns xs :: ds) d → S d) :
    EvN m K (tMeth C mt (spS K pre Sf) [] E te ta) Γ S := fun σ H e Q q =>
  h σ H e _ fun v d' H1 s r1 rv => by
    subst s
    obtain ⟨a, dx, fs, rfl, hi, hno⟩ := rv.ins
    have i1 := m.inv r1 e.i
    refine ⟨a, dx, fs, rfl, hi, hno mt hn, ha σ H1 (e.mv r1) _ fun vs ds H2 t r2 rs => ?_⟩
    have i2 := m.inv r2 i1
    exact ⟨m.F, .obj C ns xs :: ds, fun a f => m.fa i2 f, .cons (rv.mv (m.keep r2 i1)) (by rw [List.append_nil]; exact rs), hp ds t, fun v d H' sd sm rv => q v d H' (hs ds d t sd) (m.trans r1 (m.trans r2 (m.grow i2 sm))) rv⟩
theorem en_meth {pre : List D → Prop} {f : List D → D} {C : Addr} {ns : List Str} {xs : List D} {mt : Str} {E : XK} {ta : TA} (h : Ev1 m K te Γ (.obj C ns xs)) (hn : mt ∉ ns) (ha : EvA1 m K ta Γ ds) (hp : pre (.obj C ns xs :: ds)) : Ev1 m K (tMeth C mt (spF K pre f) [] E te ta) Γ (f (.obj C ns xs :: ds)) :=
  en_methN h hn ha (fun x e => e ▸ hp) fun x d e s => by rw [e] at s; exact s
/-! own methods behind len, str, in, == -/
theorem c_lenO {pre : List D → Prop} {f : List D → D} {C : Addr} {ns : List Str} {xs : List D} {n : Int} (hp : pre [.obj C ns xs]) (hn : f [.obj C ns xs] = .int n) (hb : 0 ≤ n ∧ n < 2 ^ 63) : Ca1 m K (rLenO C (spF K pre f)) [.obj C ns xs] (.int n) := fun vs H I rs Q q => by
  cases rs with
  | cons rv rs =>
    cases rs
    obtain ⟨a, dx, fs, rfl, ha, _⟩ := rv.ins
    exact ⟨a, dx, fs, rfl, ha, m.F, [.obj C ns xs], fun a f => m.fa I f, .cons rv .nil, hp, fun v d H' sd sm rv => ⟨n, (by rw [sd, hn] at rv; exact rv.intE), hb.1, hb.2, q _ _ H' rfl (m.grow I sm) (.int n)⟩⟩
theorem c_strO {pre : List D → Prop} {f : List D → D} {C : Addr} {ns : List Str} {xs : List D} {n : Str} (hp : pre [.obj C ns xs]) (hn : f [.obj C ns xs] = .str n) : Ca1 m K (rStrO C (spF K pre f)) [.obj C ns xs] (.str n) := fun vs H I rs Q q => by
  cases rs with
  | cons rv rs =>
    cases rs
    obtain ⟨a, dx, fs, rfl, ha, _⟩ := rv.ins
    exact ⟨a, dx, fs, rfl, ha, m.F, [.obj C ns xs], fun a f => m.fa I f, .cons rv .nil, hp, fun v d H' sd sm rv => ⟨n, (by rw [sd, hn] at rv; exact rv.strE), q _ _ H' rfl (m.grow I sm) (.str n)⟩⟩
theorem o_inO {pre : List D → Prop} {f : List D → D} {C : Addr} {ns : List Str} {xs : List D} {x : D} {b : Bool} (hp : pre [.obj C ns xs, x]) (hn : f [.obj C ns xs, x] = .bl b) : Op1 m K (rInO C (spF K pre f)) x (.obj C ns xs) (.bl b) := fun vx vo H I rx rv Q q => by
  obtain ⟨a, dx, fs, rfl, ha, _⟩ := rv.ins
  exact ⟨a, dx, fs, rfl, ha, m.F, [.obj C ns xs, x], fun a f => m.fa I f, .cons rv (.cons rx .nil), hp, fun v d H' sd sm rv => ⟨b, (by rw [sd, hn] at rv; exact rv.blE), q _ _ H' rfl (m.grow I sm) (.bl b)⟩⟩
theorem o_eqO {pre : List D → Prop} {f : List D → D} {C : Addr} {ns : List Str} {xs : List D} {x : D} {b : Bool} (hx : (∃ ns' xs', x = .obj C ns' xs') ∨ ((∃ ts, x = .tup ts) ∧ PySem.W.notFirst K C (.type "tuple") = true)) (hp : pre [.obj C ns xs, x]) (hn : f [.obj C ns xs, x] = .bl b) : Op1 m K (rEqO K C (spF K pre f)) (.obj C ns xs) x (.bl b) := fun vo vx H I rv rx Q q => by
  obtain ⟨a, dx, fs, rfl, ha, _⟩ := rv.ins
  refine ⟨a, dx, fs, rfl, ha, ?_, m.F, [.obj C ns xs, x], fun a f => m.fa I f, .cons rv (.cons rx .nil), hp, fun v d H' sd sm rv => ⟨b, (by rw [sd, hn] at rv; exact rv.blE), q _ _ H' rfl (m.grow I sm) (.bl b)⟩⟩
  rcases hx with ⟨ns', xs', e⟩ | ⟨⟨ts, e⟩, hnf⟩
  · subst e
    obtain ⟨a', dx', fs', rfl, ha', _⟩ := rx.ins
    exact .ins ha'
  · subst e
    obtain ⟨a', vs', rfl, hs, _⟩ := rx.tupE
    exact .tup hs hnf
/-! ### making an instance: its __init__ fills the fields -/
def spI (K : PySem.W.Frag) (C : Addr) (pre : List D → Prop) (ns : List Str) (f : List D → List D) : Sp := fun vs H Q _ => ∃ (F : Addr → Prop) (x dx : Addr) (ws : List V) (ds : List D), vs = .ref x :: ws ∧ H x = some (.ins C dx []) ∧ F x ∧ (∀ a, F a → H a ≠ none) ∧ RpAll K F H ws ds ∧ pre ds ∧
  ∀ fvs H', (∀ a o, a ≠ x → H a = some o → H' a = some o) → H' x = some (.ins C dx (ns.zip fvs)) → ns.length = fvs.length → RpAll K F H' fvs (f ds) → Q .non H'
theorem en_make {C : Addr} {pre : List D → Prop} {ns : List Str} {f : List D → List D} {dvs : List V} {dds : List D} {E : XK} {ta : TA} (h : EvA1 m K ta Γ ds) (hd : ∀ F H, RpAll K F H dvs dds) (hp : pre (ds ++ dds)) : Ev1 m K (tMake C (spI K C pre ns f) dvs E ta) Γ (.obj C ns (f (ds ++ dds))) := fun σ H e Q q =>
  h σ H e _ fun vs ds' H1 s r1 rs => by
    subst s
    intro x dx hx hdx hne
    have i1 := m.inv r1 e.i
    have s1 : Same H1 (upd (upd H1 dx (.own x)) x (.ins C dx [])) := same_chg (same_new hdx) hx
    refine ⟨fun a => m.F a ∨ a = x, x, dx, vs ++ dvs, ds' ++ dds, rfl, upd_same, .inr rfl, fun a f => ?_, ?_, hp, fun fvs H' k hx' hl ra => ⟨rfl, ?_⟩⟩
    · rcases f with f | f
      · cases q1 : H1 a with
        | none => exact absurd q1 (m.fa i1 f)
        | some o => rw [s1 a o q1]; exact fun z => nomatch z
      · rw [f, upd_same]; exact fun z => nomatch z
    · exact Rp.goAll (fun a o n q1 => ⟨fun z => z.elim n fun z => (by rw [z, hx] at q1; cases q1), s1 a o q1⟩) (rs.append (hd _ _))
    · have sm : Same H1 H' := fun a o q1 => k a o (fun z => by rw [z, hx] at q1; cases q1) (s1 a o q1)
      exact q _ _ H' rfl (m.trans r1 (m.grow i1 sm)) (.obj (fun f => m.fa i1 f hx) hx' hl (ra.weak fun a f => .inl f))
/-! ### a def by its body -/
def startG (N : List Str) (ds : List D) : G := ds.map some ++ List.replicate (N.length - ds.length) none
theorem er_start {H : Hp} {vs : List V} (i : m.I H) (ra : RpAll K m.F H vs ds) (N : List Str) : ER m K (startG N ds) (L2.start N vs) H := by
  refine ⟨i, ?_, fun j d h => ?_⟩
  · unfold startG L2.start
    rw [List.length_append, List.length_append, List.length_map, List.length_map, List.length_replicate, List.length_replicate, ra.len]
  · unfold startG at h
    unfold L2.start
    by_cases hj : j < ds.length
    · rw [List.getElem?_append_left (by rw [List.length_map]; exact hj), List.getElem?_map] at h
      cases e : ds[j]? with
      | none => rw [e] at h; cases h
      | some d' =>
        rw [e] at h
        cases h
        obtain ⟨v, h1, h2⟩ := ra.get e
        exact ⟨v, by rw [List.getElem?_append_left (by rw [List.length_map, ra.len]; exact hj), List.getElem?_map, h1]; rfl, h2⟩
    · rw [List.getElem?_append_right (by rw [List.length_map]; omega)] at h
      rw [List.getElem?_replicate] at h
      split at h <;> simp at h
section
variable {P : Program} {w : World} {mg : Str → Option Value} {base : Heap}
theorem fn_pure {x qual : Str} {st : Stmt} {f : Addr} {fd : FuncData} {N ps : List Str} {k : Nat} {pre : List D → Prop} {Sf : List D → D → Prop} (Fu : Fun K x qual st f fd) (Sc : FnScope N ps (defScope st)) (hl : ∀ ds, pre ds → ds.length = ps.length)
    (body : ∀ (cdv : Value) (A : Around) (outer : List Env) (s : Shared) (H : Hp) (E : XK), Room k (A.deeper (PyProof.Rows.envOfC qual (defScope st) s.heap.objs.size f cdv)) →
      ∃ t, PSs (cxOf CX0 P w K mg base N qual (defScope st) f cdv A outer s H E).nox (defBody st) t ∧ ∀ (F : Addr → Prop) (ds : List D), pre ds → SG (pureMo F) K t (startG N ds) { nx := fun _ => Sf ds .non, rt := Sf ds }) :
    FnOk P w K mg base CX0 (k + 1) f fd ps (spS K pre Sf) := by
  refine Fu.ok Sc (fun vs H Q E h => ?_) (fun cdv A outer s H vs Q E hr h => ?_)
  · obtain ⟨F, ds, _, ra, hp, _⟩ := h
    rw [ra.len]
    exact hl ds hp
  · obtain ⟨F, ds, hF, ra, hp, q⟩ := h
    obtain ⟨t, ht, hs⟩ := body cdv A outer s H E hr
    refine ⟨t, ht, hs F ds hp _ H (er_start (m := pureMo F) hF ra N) _ ⟨fun Γ' σ' H' o r _ => q _ _ H' o r .non, fun d v H' o r rv => q v d H' o r rv, fun _ _ _ o => o.elim, fun _ _ _ o => o.elim⟩⟩
end
/-! ### the pouch: a list of three ints that draws -/
def PI (H : Hp) (p : Addr) : Prop := ∃ a b c : Int, H p = some (.lst [.int a, .int b, .int c])
def RP (p : Addr) (H H' : Hp) : Prop := (∀ a o, a ≠ p → H a = some o → H' a = some o) ∧ (PI H p → PI H' p)
theorem PI.ne {H : Hp} {p : Addr} (h : PI H p) : H p ≠ none := by obtain ⟨a, b, c, e⟩ := h; rw [e]; exact fun z => nomatch z
def pouchMo (p : Addr) (F : Addr → Prop) : Mo where
  F := fun a => F a ∨ a = p
  R := RP p
  I := fun H => (∀ a, F a → H a ≠ none) ∧ PI H p
  refl := fun H => ⟨fun _ _ _ e => e, fun z => z⟩
  trans := fun a b => ⟨fun x o n e => b.1 x o n (a.1 x o n e), fun z => b.2 (a.2 z)⟩
  keep := fun r _ a o n e => r.1 a o (fun z => n (.inr z)) e
  grow := fun _ s => ⟨fun a o _ e => s a o e, fun ⟨a, b, c, e⟩ => ⟨a, b, c, s _ _ e⟩⟩
  inv := fun {H H'} r i => ⟨fun a f => by
    by_cases e : a = p
    · rw [e]; exact (r.2 i.2).ne
    · cases q : H a with
      | none => exact absurd q (i.1 a f)
      | some o => (rw [r.1 a o e q]; exact fun z => nomatch z), r.2 i.2⟩
  fa := fun i f => f.elim (fun f => i.1 _ f) fun e => e ▸ i.2.ne
  chg := fun {H H1 q o} i r hq => by
    have hpq : p ≠ q := fun z => i.2.ne (z ▸ hq)
    refine ⟨fun a u n e => by rw [upd_ne (ne_of_none e hq)]; exact r.1 a u n e, fun z => ?_⟩
    obtain ⟨x, y, w, e⟩ := r.2 z
    exact ⟨x, y, w, by rw [upd_ne hpq]; exact e⟩
  had := fun {H H' a} i r n => by
    by_cases e : a = p
    · rw [e]; exact (r.2 i.2).ne
    · cases q : H a with
      | none => exact absurd q n
      | some o => rw [r.1 a o e q]; exact fun z => nomatch z
structure HasP (m : Mo) (p : Addr) : Prop where
  r : ∀ H H', RP p H H' → m.R H H'
  i : ∀ H, m.I H → PI H p
  f : m.F p
theorem HasP.self (p : Addr) (F : Addr → Prop) : HasP (pouchMo p F) p := ⟨fun _ _ r => r, fun _ i => i.2, .inr rfl⟩
theorem HasP.le {m m' : Mo} {p : Addr} (h : HasP m p) (l : m.Le m') : HasP m' p := ⟨fun H H' r => by rw [l.R]; exact h.r H H' r, fun H i => h.i H (l.I H i), l.F p h.f⟩
def spP (K : PySem.W.Frag) (pre : List D → Prop) (S : List D → D → Prop) : Sp := fun vs H Q _ => ∃ (p : Addr) (F : Addr → Prop) (ws : List V) (ds : List D), vs = .ref p :: ws ∧ (∀ a, F a → H a ≠ none) ∧ PI H p ∧ RpAll K (fun a => F a ∨ a = p) H ws ds ∧ pre ds ∧ ∀ v d H', S ds d → RP p H H' → Rp K (fun a => F a ∨ a = p) H' v d → Q v H'
theorem en_pcall {p : Addr} {pre : List D → Prop} {Sf : List D → D → Prop} {E : XK} {ta : TA} {T : List D → Prop} (hp : HasP m p) (h : EvA m K ta Γ T) (hh : ∀ ds, T ds → ∃ es, ds = .adr p :: es ∧ pre es ∧ ∀ d, Sf es d → S d) : EvN m K (tCall (spP K pre Sf) [] E ta) Γ S := fun σ H e Q q =>
  h σ H e _ fun vs ds H1 s r1 rs => by
    obtain ⟨es, rfl, hpre, hs⟩ := hh ds s
    have i1 := m.inv r1 e.i
    cases rs with
    | cons rv rs =>
      obtain rfl := rv.adrE
      refine ⟨p, m.F, _, es, by rw [List.append_nil], fun a f => m.fa i1 f, hp.i H1 i1, Rp.goAll (fun a o n e => ⟨fun z => n (z.elim (fun z => z) fun z => z ▸ hp.f), e⟩) rs, hpre, fun v d H' sd r rv => q v d H' (hs d sd) (m.trans r1 (hp.r _ _ r)) (rv.weak fun a f => .inl f)⟩
theorem en_pcall1 {p : Addr} {pre : List D → Prop} {Sf : List D → D → Prop} {E : XK} {ta : TA} (hp : HasP m p) (h : EvA1 m K ta Γ (.adr p :: ds)) (h1 : pre ds) (h2 : ∀ d, Sf ds d → S d) : EvN m K (tCall (spP K pre Sf) [] E ta) Γ S := en_pcall hp h fun x e => ⟨ds, e, h1, h2⟩
section
variable {P : Program} {w : World} {mg : Str → Option Value} {base : Heap}
theorem fn_pouch {x qual : Str} {st : Stmt} {f : Addr} {fd : FuncData} {N ps : List Str} {k : Nat} {pre : List D → Prop} {Sf : List D → D → Prop} (Fu : Fun K x qual st f fd) (Sc : FnScope N ps (defScope st)) (hl : ∀ ds, pre ds → ds.length + 1 = ps.length)
    (body : ∀ (cdv : Value) (A : Around) (outer : List Env) (s : Shared) (H : Hp) (E : XK), Room k (A.deeper (PyProof.Rows.envOfC qual (defScope st) s.heap.objs.size f cdv)) →
      ∃ t, PSs (cxOf CX0 P w K mg base N qual (defScope st) f cdv A outer s H E).nox (defBody st) t ∧ ∀ (p : Addr) (F : Addr → Prop) (ds : List D), pre ds → SG (pouchMo p F) K t (startG N (.adr p :: ds)) { nx := fun _ => Sf ds .non, rt := Sf ds }) :
    FnOk P w K mg base CX0 (k + 1) f fd ps (spP K pre Sf) := by
  refine Fu.ok Sc (fun vs H Q E h => ?_) (fun cdv A outer s H vs Q E hr h => ?_)
  · obtain ⟨p, F, ws, ds, rfl, _, _, ra, hp, _⟩ := h
    rw [List.length_cons, ra.len]
    exact hl ds hp
  · obtain ⟨p, F, ws, ds, rfl, hF, hpi, ra, hp, q⟩ := h
    obtain ⟨t, ht, hs⟩ := body cdv A outer s H E hr
    exact ⟨t, ht, hs p F ds hp _ H (er_start (m := pouchMo p F) ⟨hF, hpi⟩ (.cons (.adr p) ra) N) _ ⟨fun Γ' σ' H' o r _ => q _ _ H' o r .non, fun d v H' o r rv => q v d H' o r rv, fun _ _ _ o => o.elim, fun _ _ _ o => o.elim⟩⟩
end
/-- a new pouch -/
def EvNew (m : Mo) (K : PySem.W.Frag) (te : TE) (Γ : G) : Prop := ∀ σ H, ER m K Γ σ H → ∀ Q : VK, (∀ p H', H p = none → Same H H' → PI H' p → Q (.ref p) H') → te σ H Q
theorem sq_pouch {i : Nat} {F : Addr → Prop} (h : EvNew (pureMo F) K te Γ) (k : ∀ p, SG (pouchMo p F) K tv (Γ.set i (some (.adr p))) O) : SG (pureMo F) K (tSeq (tAsg te (gName i)) tv) Γ O := fun σ H e E M =>
  h σ H e _ fun p H' hp sm hpi => by
    have iP : (pouchMo p F).I H' := ⟨fun a f => (pureMo F).had e.i sm (e.i a f), hpi⟩
    have eP : ER (pouchMo p F) K Γ σ H' := ⟨iP, e.len, fun i d h => let ⟨v, h1, h2⟩ := e.at_ i d h; ⟨v, h1, h2.go fun a o n x => ⟨fun z => z.elim n fun z => (by rw [z, hp] at x; cases x), sm a o x⟩⟩⟩
    have up : ∀ {H2 : Hp}, RP p H' H2 → Same H H2 := fun r a o x => r.1 a o (fun z => by rw [z, hp] at x; cases x) (sm a o x)
    have down : ∀ {Γ' : G} {σ' : L2.St} {H2 : Hp}, ER (pouchMo p F) K Γ' σ' H2 → ER (pureMo F) K Γ' σ' H2 := fun e2 => ⟨e2.i.1, e2.len, fun i d h => let ⟨v, h1, h2⟩ := e2.at_ i d h; ⟨v, h1, h2.weak fun a f => .inl f⟩⟩
    exact k p _ H' (eP.set i (.adr p)) E ⟨fun Γ' σ' H2 o r e2 => M.nx Γ' σ' H2 o (up r) (down e2), fun d v H2 o r rv => M.rt d v H2 o (up r) (rv.weak fun a f => .inl f), fun Γ' σ' H2 o r e2 => M.bk Γ' σ' H2 o (up r) (down e2), fun Γ' σ' H2 o r e2 => M.ct Γ' σ' H2 o (up r) (down e2)⟩
end
end Tx

set_option Elab.async false
set_option linter.all false
set_option maxRecDepth 100000
set_option maxHeartbeats 1000000
set_option autoImplicit false
/-! Tx: operators for every kind of operand, texts, isinstance -/
namespace Tx
open PySem L2
section
variable {X : Cx}
def rAddU (K : PySem.W.Frag) : R2 := fun x y H Q => (rI0 fun i j => .int (i + j)) x y H Q ∨ rCatA K x y H Q ∨ rCat x y H Q ∨ (∃ i j, x = .str i ∧ y = .str j ∧ i.length + j.length ≤ sizeLine ∧ Q (.str (i ++ j)) H)
theorem op_addU : OpR X (binaryOp .Add) (rAddU X.K) := op_add.or (op_catA.or (op_cat.or op_add_str))
def rMulU (K : PySem.W.Frag) : R2 := fun x y H Q => (rI CMul fun i j => .int (i * j)) x y H Q ∨ (rI CMulW fun i j => .int (i * j)) x y H Q ∨ rRepS K x y H Q
theorem op_mulU : OpR X (binaryOp .Mult) (rMulU X.K) := op_mul.or (op_mulW.or op_repS)
/-- == and != of data | of an own instance -/
def rEqU (K : PySem.W.Frag) (C : Addr) (sp : Sp) : R2 := fun x y H Q => rEqD K x y H Q ∨ rEqO K C sp x y H Q
theorem op_eqU {C f : Addr} {n : Nat} {sp : Sp} (O : Own X C "__eq__" n f sp) (hr : Room n X.A) (hu : X.A.units + 64 < cLine) : OpR X (compareOp .Eq) (rEqU X.K C sp) := (op_eqD hu).or (op_eqO O hr)
def rInU (K : PySem.W.Frag) (C : Addr) (sp : Sp) : R2 := fun x y H Q => rInS K false x y H Q ∨ rInO C sp x y H Q
theorem op_inU {C f : Addr} {n : Nat} {sp : Sp} (O : Own X C "__contains__" n f sp) (hr : Room n X.A) (hu : X.A.units + 65 < cLine) : OpR X (compareOp .In) (rInU X.K C sp) := (op_inS hu).or (op_inO O hr)
theorem callR_or {f : Value} {r r' : List V → Hp → VK → Prop} (h : CallR X f r) (h' : CallR X f r') : CallR X f (fun vs H Q => r vs H Q ∨ r' vs H Q) := by
  intro pins s σ H vs us Q I rr q
  rcases q with q | q
  · exact h pins s σ H vs us Q I rr q
  · exact h' pins s σ H vs us Q I rr q
def rLenS (K : PySem.W.Frag) : List V → Hp → VK → Prop := fun xs H Q => ∃ x n, xs = [x] ∧ LenV K x H n ∧ Q (.int (n : Nat)) H
theorem cr_len : CallR X (.builtin "len") (rLenS X.K) := call_len
def rLenU (K : PySem.W.Frag) (C : Addr) (sp : Sp) : List V → Hp → VK → Prop := fun vs H Q => rLenS K vs H Q ∨ rLenO C sp vs H Q
theorem cr_lenU {C f : Addr} {n : Nat} {sp : Sp} (O : Own X C "__len__" n f sp) (hr : Room (n + 1) X.A) : CallR X (.builtin "len") (rLenU X.K C sp) := callR_or cr_len (cr_lenO O hr)
def rStrI : List V → Hp → VK → Prop := fun xs H Q => ∃ i, xs = [.int i] ∧ i.natAbs.log2 < 1920 ∧ Q (.str (toString i)) H
theorem cr_strI : CallR X (.type "str") rStrI := call_str_int
def rStrU (C : Addr) (sp : Sp) : List V → Hp → VK → Prop := fun vs H Q => rStrI vs H Q ∨ rStrO C sp vs H Q
theorem cr_strU {C f : Addr} {n : Nat} {sp : Sp} (O : Own X C "__str__" n f sp) (hr : Room (n + 2) X.A) : CallR X (.type "str") (rStrU C sp) := callR_or cr_strI (cr_strO O hr)
def rTup (K : PySem.W.Frag) : List V → Hp → VK → Prop := fun xs H Q => ∃ p ys, xs = [V.ref p] ∧ ((SqL K H p ys ∧ ∀ (l : Addr), H l = none → Q (.ref l) (upd H l (.tup ys))) ∨ SqT K H p ys ∧ Q (.ref p) H)
theorem cr_tup : CallR X (.type "tuple") (rTup X.K) := call_tuple_of
def rLst (K : PySem.W.Frag) : List V → Hp → VK → Prop := fun xs H Q => ∃ p ys, xs = [V.ref p] ∧ (SqL K H p ys ∨ SqT K H p ys) ∧ ∀ (l : Addr), H l = none → Q (.ref l) (upd H l (.lst ys))
theorem cr_lst : CallR X (.type "list") (rLst X.K) := call_list_of
def rInt : List V → Hp → VK → Prop := fun xs H Q => (∃ i, xs = [.int i] ∧ Q (.int i) H) ∨ ∃ k, xs = [.bl k] ∧ Q (.int (if k then 1 else 0)) H
theorem cr_int : CallR X (.type "int") rInt := call_int1
def rAbs : List V → Hp → VK → Prop := fun xs H Q => ∃ i, xs = [.int i] ∧ Q (.int (if i < 0 then -i else i)) H
theorem cr_abs : CallR X (.builtin "abs") rAbs := call_abs
def rMaxU (K : PySem.W.Frag) : List V → Hp → VK → Prop := fun vs H Q => (∃ i j, vs = [.int i, .int j] ∧ Q (.int (if j > i then j else i)) H) ∨ rMaxS K vs H Q
theorem cr_maxU (hc : X.calm = true) (hu : X.A.units + 64 < cLine) : CallR X (.builtin "max") (rMaxU X.K) := callR_or (call_max2 hc) (cr_maxS hc hu)
def rMin2 : List V → Hp → VK → Prop := fun vs H Q => ∃ i j, vs = [.int i, .int j] ∧ Q (.int (if j < i then j else i)) H
theorem cr_min2 (hc : X.calm = true) : CallR X (.builtin "min") rMin2 := call_min2 hc
end
section
variable {K : PySem.W.Frag} {m : Mo} {Γ : G} {ta tb te : TE} {d : D} {ds : List D} {S : D → Prop}
theorem o_addI {i j : Int} : Op1 m K (rAddU K) (.int i) (.int j) (.int (i + j)) := fun x y H I rx ry Q q => .inl (o_int (g := fun i j => i + j) x y H I rx ry Q q)
theorem o_addT {as bs : List D} (hl : as.length + bs.length ≤ 100000) : Op1 m K (rAddU K) (.tup as) (.tup bs) (.tup (as ++ bs)) := fun x y H I rx ry Q q => .inr (.inl (o_catT hl x y H I rx ry Q q))
theorem o_addL {as bs : List D} (hl : as.length + bs.length ≤ 100000) : Op1 m K (rAddU K) (.lst as) (.lst bs) (.lst (as ++ bs)) := fun x y H I rx ry Q q => .inr (.inr (.inl (o_catL hl x y H I rx ry Q q)))
theorem o_addS {a b : Str} (hl : a.length + b.length ≤ 100000) : Op1 m K (rAddU K) (.str a) (.str b) (.str (a ++ b)) := fun x y H I rx ry Q q => .inr (.inr (.inr ⟨a, b, rx.strE, ry.strE, Nat.le_trans hl (by decide), q _ _ H rfl (m.refl H) (.str _)⟩))
theorem o_mulI {i j : Int} (hc : CMul i j) : Op1 m K (rMulU K) (.int i) (.int j) (.int (i * j)) := fun x y H I rx ry Q q => .inl (o_intC (g := fun i j => i * j) hc x y H I rx ry Q q)
theorem o_mulW {i j : Int} (hc : CMulW i j) : Op1 m K (rMulU K) (.int i) (.int j) (.int (i * j)) := fun x y H I rx ry Q q => .inr (.inl (o_intC (g := fun i j => i * j) hc x y H I rx ry Q q))
theorem o_mulT {k : Int} (hn : ds ≠ []) (hk : 1 ≤ k ∧ k ≤ 1000) (hl : ds.length ≤ 1000) : Op1 m K (rMulU K) (.tup ds) (.int k) (.tup (List.replicate k.toNat ds).flatten) := fun x y H I rx ry Q q => .inr (.inr (o_repT hn hk hl x y H I rx ry Q q))
theorem o_eqUD {C : Addr} {sp : Sp} {a b : D} (ha : a.plain = true) (hb : b.plain = true) (sa : SeqAt.shaped a.py = true) (sb : SeqAt.shaped b.py = true) : Op1 m K (rEqU K C sp) a b (.bl (PyData.eqv a.py b.py)) := fun x y H I rx ry Q q => .inl (o_eqD ha hb sa sb x y H I rx ry Q q)
theorem o_eqUO {C : Addr} {pre : List D → Prop} {f : List D → D} {ns : List Str} {xs : List D} {x : D} {b : Bool} (hx : (∃ ns' xs', x = .obj C ns' xs') ∨ ((∃ ts, x = .tup ts) ∧ PySem.W.notFirst K C (.type "tuple") = true)) (hp : pre [.obj C ns xs, x]) (hn : f [.obj C ns xs, x] = .bl b) : Op1 m K (rEqU K C (spF K pre f)) (.obj C ns xs) x (.bl b) := fun vx vy H I rx ry Q q => .inr (o_eqO hx hp hn vx vy H I rx ry Q q)
theorem o_inUO {C : Addr} {pre : List D → Prop} {f : List D → D} {ns : List Str} {xs : List D} {x : D} {b : Bool} (hp : pre [.obj C ns xs, x]) (hn : f [.obj C ns xs, x] = .bl b) : Op1 m K (rInU K C (spF K pre f)) x (.obj C ns xs) (.bl b) := fun vx vy H I rx ry Q q => .inr (o_inO hp hn vx vy H I rx ry Q q)
theorem o_inUS {C : Addr} {sp : Sp} {a b : D} (hd : isSeq b ds) (ha : a.plain = true) (hb : D.plains ds = true) (sa : SeqAt.shaped a.py = true) (sb : SeqAt.shaped (.list (D.pys ds)) = true) : Op1 m K (rInU K C sp) a b (.bl ((D.pys ds).any fun z => PyData.eqv z a.py)) := fun x y H I rx ry Q q => .inl (o_inS (neg := false) hd ha hb sa sb x y H I rx ry Q q)
theorem c_lenU {C : Addr} {sp : Sp} {b : D} (hd : isSeq b ds) : Ca1 m K (rLenU K C sp) [b] (.int ds.length) := fun vs H I rs Q q => .inl (c_len hd vs H I rs Q q)
theorem c_lenUO {C : Addr} {pre : List D → Prop} {f : List D → D} {ns : List Str} {xs : List D} {n : Int} (hp : pre [.obj C ns xs]) (hn : f [.obj C ns xs] = .int n) (hb : 0 ≤ n ∧ n < 2 ^ 63) : Ca1 m K (rLenU K C (spF K pre f)) [.obj C ns xs] (.int n) := fun vs H I rs Q q => .inr (c_lenO hp hn hb vs H I rs Q q)
theorem c_strI {i : Int} (h : i.natAbs.log2 < 1920) : Ca1 m K rStrI [.int i] (.str (toString i)) := fun vs H I rs Q q => by
  cases rs with
  | cons rv rs => cases rs; exact ⟨i, by rw [rv.intE], h, q _ _ H rfl (m.refl H) (.str _)⟩
theorem c_strU {C : Addr} {sp : Sp} {i : Int} (h : i.natAbs.log2 < 1920) : Ca1 m K (rStrU C sp) [.int i] (.str (toString i)) := fun vs H I rs Q q => .inl (c_strI (K := K) h vs H I rs Q q)
theorem c_strUO {C : Addr} {pre : List D → Prop} {f : List D → D} {ns : List Str} {xs : List D} {n : Str} (hp : pre [.obj C ns xs]) (hn : f [.obj C ns xs] = .str n) : Ca1 m K (rStrU C (spF K pre f)) [.obj C ns xs] (.str n) := fun vs H I rs Q q => .inr (c_strO hp hn vs H I rs Q q)
theorem c_intI {i : Int} : Ca1 m K rInt [.int i] (.int i) := fun vs H I rs Q q => by
  cases rs with
  | cons rv rs => cases rs; exact .inl ⟨i, by rw [rv.intE], q _ _ H rfl (m.refl H) (.int _)⟩
theorem c_intB {i : Bool} : Ca1 m K rInt [.bl i] (.int (if i then 1 else 0)) := fun vs H I rs Q q => by
  cases rs with
  | cons rv rs => cases rs; exact .inr ⟨i, by rw [rv.blE], q _ _ H rfl (m.refl H) (.int _)⟩
theorem c_abs {i : Int} : Ca1 m K rAbs [.int i] (.int (if i < 0 then -i else i)) := fun vs H I rs Q q => by
  cases rs with
  | cons rv rs => cases rs; exact ⟨i, by rw [rv.intE], q _ _ H rfl (m.refl H) (.int _)⟩
theorem c_max2 {i j : Int} : Ca1 m K (rMaxU K) [.int i, .int j] (.int (if j > i then j else i)) := fun vs H I rs Q q => by
  cases rs with
  | cons rv rs => cases rs with
    | cons rw' rs => cases rs; exact .inl ⟨i, j, by rw [rv.intE, rw'.intE], q _ _ H rfl (m.refl H) (.int _)⟩
theorem c_maxU {b : D} {n : Int} {ns : List Int} (hd : isSeq b ((n :: ns).map D.int)) : Ca1 m K (rMaxU K) [b] (.int (ns.foldl max n)) := fun vs H I rs Q q => .inr (c_max hd vs H I rs Q q)
theorem c_min2 {i j : Int} : Ca1 m K rMin2 [.int i, .int j] (.int (if j < i then j else i)) := fun vs H I rs Q q => by
  cases rs with
  | cons rv rs => cases rs with
    | cons rw' rs => cases rs; exact ⟨i, j, by rw [rv.intE, rw'.intE], q _ _ H rfl (m.refl H) (.int _)⟩
/-! ### is None -/
def isNonD : D → Bool
  | .non => true | _ => false
theorem en_isN (h : Ev1 m K te Γ d) : Ev1 m K (tIsN te) Γ (.bl (isNonD d)) := fun σ H e Q q =>
  h σ H e _ fun v d' H1 s r1 rv => by
    subst s
    have : decide (v = V.non) = isNonD d' := by cases rv <;> simp [isNonD]
    rw [this]
    exact q _ _ H1 rfl r1 (.bl _)
/-! ### isinstance -/
def tyD : D → Option String
  | .non => some "NoneType" | .bl _ => some "bool" | .int _ => some "int" | .str _ => some "str" | .lst _ => some "list" | .tup _ => some "tuple" | .dic => some "dict"
  | _ => none
theorem tyx_of {F : Addr → Prop} {H : Hp} {v : V} {t : String} (r : Rp K F H v d) (h : tyD d = some t) : TyX K H v (.type t) := by
  cases r with
  | non => cases h; exact .base .non
  | bl b => cases h; exact .base (.bl b)
  | int i => cases h; exact .base (.int i)
  | str s => cases h; exact .base (.str s)
  | lst n e t => cases h; exact .base (.lst e)
  | tup n e t =>
    cases h
    rcases e with e | ⟨o, e⟩
    · exact .base (.tup e)
    · exact .fTuple e
  | ktup e t => cases h; obtain ⟨o, its, n, h1, h2, _⟩ := e; exact .kTuple h1 h2
  | obj n e l t => cases h
  | adr a => cases h
  | dic n e => cases h; exact .base (.dK e)
  | dct n e h1 h2 h3 => cases h
  | frl n e t => cases h
  | kfrl e t => cases h
  | ftp n e c e2 t => cases h
theorem en_isi {n t : String} {b : Bool} (h : Ev1 m K te Γ d) (ht : tyD d = some t) (hk : kitB t n = some b) : Ev1 m K (tCB (rIsi K) (tCons te (tCons (tC (.ty n)) tNil))) Γ (.bl b) := fun σ H e Q q =>
  h σ H e _ fun v d' H1 s r1 rv => by
    subst s
    exact ⟨v, .ty n, .type t, .type n, b, rfl, .ty n, tyx_of rv ht, kit_ty hk, q _ _ H1 rfl r1 (.bl _)⟩
/-- an own class -/
theorem en_isiC {C : Addr} {ns : List Str} {xs : List D} (h : Ev1 m K te Γ (.obj C ns xs)) (ic : C8.InsC K C) : Ev1 m K (tCB (rIsi K) (tCons te (tCons (tC (.ref C)) tNil))) Γ (.bl true) := fun σ H e Q q =>
  h σ H e _ fun v d' H1 s r1 rv => by
    subst s
    obtain ⟨a, dx, fs, rfl, ha, _⟩ := rv.ins
    exact ⟨.ref a, .ref C, .ref C, .ref C, true, rfl, .own C, .base (.ins ha ic.cl ic.ha ic.hn ic.htk ic.hm), by unfold PySem.W.kitOne; rw [if_pos (by simp)], q _ _ H1 rfl r1 (.bl _)⟩
theorem en_isiN {C : Addr} {t : String} (h : Ev1 m K te Γ d) (ht : tyD d = some t) (hk : PySem.W.kitOne K (.type t) (.ref C) = some false) : Ev1 m K (tCB (rIsi K) (tCons te (tCons (tC (.ref C)) tNil))) Γ (.bl false) := fun σ H e Q q =>
  h σ H e _ fun v d' H1 s r1 rv => by
    subst s
    exact ⟨v, .ref C, .type t, .ref C, false, rfl, .own C, tyx_of rv ht, hk, q _ _ H1 rfl r1 (.bl _)⟩
/-! ### texts -/
theorem en_fmtI {i : Int} (h : Ev1 m K te Γ (.int i)) (hz : i.natAbs.log2 < 1920) : Ev1 m K (tFmt te) Γ (.str (toString i)) := fun σ H e Q q =>
  h σ H e _ fun v d' H1 s r1 rv => by subst s; exact .inr ⟨i, rv.intE, hz, q _ _ H1 rfl r1 (.str _)⟩
theorem en_fmtS {i : Str} (h : Ev1 m K te Γ (.str i)) (hz : i.length ≤ 100000) : Ev1 m K (tFmt te) Γ (.str i) := fun σ H e Q q =>
  h σ H e _ fun v d' H1 s r1 rv => by subst s; exact .inl ⟨i, rv.strE, Nat.le_trans hz (by decide), q _ _ H1 rfl r1 (.str _)⟩
inductive Js (m : Mo) (K : PySem.W.Frag) (Γ : G) : List TE → Str → Str → Prop
  | nil {acc : Str} : Js m K Γ [] acc acc
  | cons {t : TE} {ts : List TE} {acc y out : Str} : Ev1 m K t Γ (.str y) → (acc ++ y).length ≤ 100000 → Js m K Γ ts (acc ++ y) out → Js m K Γ (t :: ts) acc out
theorem js_run {ts : List TE} {acc out : Str} (j : Js m K Γ ts acc out) : ∀ (σ : L2.St) (H : Hp), ER m K Γ σ H → ∀ Q : Str → Hp → Prop, (∀ H', m.R H H' → Q out H') → tJs ts acc σ H Q := by
  induction j with
  | nil => intro σ H e Q q; exact q H (m.refl H)
  | cons h hl _ ih =>
    intro σ H e Q q
    exact h σ H e _ fun v d' H1 s r1 rv => by subst s; exact ⟨_, rv.strE, Nat.le_trans hl (by decide), ih σ H1 (e.mv r1) Q fun H' r2 => q H' (m.trans r1 r2)⟩
theorem en_js {ts : List TE} {out : Str} (j : Js m K Γ ts Str.empty out) : Ev1 m K (fun σ H Q => tJs ts Str.empty σ H fun out H1 => Q (.str out) H1) Γ (.str out) := fun σ H e Q q => js_run j σ H e _ fun H' r => q _ _ H' rfl r (.str _)
theorem en_join {b : D} {sep : Str} {ys : List Str} (hs : Ev1 m K ta Γ (.str sep)) (h : Ev1 m K te Γ b) (hb : isSeq b (ys.map D.str)) (hl : (ys.map (·.length)).sum + ys.length * sep.length ≤ 16777216) :
    Ev1 m K (tM1 (fun x xs H Q => ∃ a p, ∃ ys : List Str, x = .str a ∧ xs = [.ref p] ∧ (SqL K H p (ys.map V.str) ∨ SqT K H p (ys.map V.str)) ∧ (ys.map (·.length)).sum + ys.length * a.length ≤ 16777216 ∧ Q (.str (Txt.join a ys)) H) ta te) Γ (.str (Txt.join sep ys)) := fun σ H e Q q =>
  hs σ H e _ fun v d' H1 s r1 rv => by
    subst s
    refine ⟨⟨_, rv.strE⟩, h σ H1 (e.mv r1) _ fun w d'' H2 s2 r2 rw' => ?_⟩
    subst s2
    have i2 := m.inv r2 (m.inv r1 e.i)
    obtain ⟨a, vs, rfl, ra, hq⟩ := seq_stands i2 rw' hb
    have ev := ra.strs
    subst ev
    refine ⟨sep, a, ys, rv.strE, rfl, ?_, hl, q _ _ H2 rfl (m.trans r1 r2) (.str _)⟩
    rcases hq with hq | hq
    · exact .inl (hq H2 (m.refl H2))
    · exact .inr (hq H2 (m.refl H2))
/-! ### truth of a sequence as a test -/
theorem et_truth (h : Ev1 m K te Γ d) (hd : isSeq d ds) : EvT1 m K (fun σ H Q => te σ H fun x H' => ∃ k, TruV K x H' k ∧ Q k H') Γ (!ds.isEmpty) := fun σ H e Q q =>
  h σ H e _ fun v d' H1 s r1 rv => by
    subst s
    have i1 := m.inv r1 e.i
    obtain ⟨a, vs, rfl, ra, hq⟩ := seq_stands i1 rv hd
    have em : vs.isEmpty = ds.isEmpty := by cases ra <;> rfl
    refine ⟨!ds.isEmpty, ?_, q _ H1 rfl r1⟩
    rcases hq with hq | hq
    · exact .inl ⟨vs, hq H1 (m.refl H1), by rw [em]⟩
    · exact .inr (.inl ⟨vs, hq H1 (m.refl H1), by rw [em]⟩)
end
end Tx

set_option Elab.async false
set_option linter.all false
set_option maxRecDepth 100000
set_option maxHeartbeats 1000000
set_option autoImplicit false
/-! Tx: isinstance of the built-in classes by data -/
namespace Tx
open PySem L2
theorem hu65 {k : Nat} {A : Around} (hr : Room k A) : A.units + 65 < cLine := by have := hr.un; omega
def okD (d : D) : Bool := (tyD d).isSome
def isIntD : D → Bool | .int _ => true | .bl _ => true | _ => false
def isBoolD : D → Bool | .bl _ => true | _ => false
def isTupD : D → Bool | .tup _ => true | _ => false
def isStrD : D → Bool | .str _ => true | _ => false
section
variable {K : PySem.W.Frag} {m : Mo} {Γ : G} {te : TE} {d : D}
theorem en_isInt (h : Ev1 m K te Γ d) (hd : okD d = true) : Ev1 m K (tCB (rIsi K) (tCons te (tCons (tC (.ty "int")) tNil))) Γ (.bl (isIntD d)) := by
  cases d <;> first
    | exact en_isi (t := "NoneType") (b := false) h rfl (by decide +kernel)
    | exact en_isi (t := "bool") (b := true) h rfl (by decide +kernel)
    | exact en_isi (t := "dict") (b := false) h rfl (by decide +kernel)
    | exact en_isi (t := "int") (b := true) h rfl (by decide +kernel)
    | exact en_isi (t := "list") (b := false) h rfl (by decide +kernel)
    | exact en_isi (t := "str") (b := false) h rfl (by decide +kernel)
    | exact en_isi (t := "tuple") (b := false) h rfl (by decide +kernel)
    | (exact absurd hd (by simp [okD, tyD]))
theorem en_isBool (h : Ev1 m K te Γ d) (hd : okD d = true) : Ev1 m K (tCB (rIsi K) (tCons te (tCons (tC (.ty "bool")) tNil))) Γ (.bl (isBoolD d)) := by
  cases d <;> first
    | exact en_isi (t := "NoneType") (b := false) h rfl (by decide +kernel)
    | exact en_isi (t := "bool") (b := true) h rfl (by decide +kernel)
    | exact en_isi (t := "dict") (b := false) h rfl (by decide +kernel)
    | exact en_isi (t := "int") (b := false) h rfl (by decide +kernel)
    | exact en_isi (t := "list") (b := false) h rfl (by decide +kernel)
    | exact en_isi (t := "str") (b := false) h rfl (by decide +kernel)
    | exact en_isi (t := "tuple") (b := false) h rfl (by decide +kernel)
    | (exact absurd hd (by simp [okD, tyD]))
theorem en_isTup (h : Ev1 m K te Γ d) (hd : okD d = true) : Ev1 m K (tCB (rIsi K) (tCons te (tCons (tC (.ty "tuple")) tNil))) Γ (.bl (isTupD d)) := by
  cases d <;> first
    | exact en_isi (t := "NoneType") (b := false) h rfl (by decide +kernel)
    | exact en_isi (t := "bool") (b := false) h rfl (by decide +kernel)
    | exact en_isi (t := "dict") (b := false) h rfl (by decide +kernel)
    | exact en_isi (t := "int") (b := false) h rfl (by decide +kernel)
    | exact en_isi (t := "list") (b := false) h rfl (by decide +kernel)
    | exact en_isi (t := "str") (b := false) h rfl (by decide +kernel)
    | exact en_isi (t := "tuple") (b := true) h rfl (by decide +kernel)
    | (exact absurd hd (by simp [okD, tyD]))
theorem en_isStr (h : Ev1 m K te Γ d) (hd : okD d = true) : Ev1 m K (tCB (rIsi K) (tCons te (tCons (tC (.ty "str")) tNil))) Γ (.bl (isStrD d)) := by
  cases d <;> first
    | exact en_isi (t := "NoneType") (b := false) h rfl (by decide +kernel)
    | exact en_isi (t := "bool") (b := false) h rfl (by decide +kernel)
    | exact en_isi (t := "dict") (b := false) h rfl (by decide +kernel)
    | exact en_isi (t := "int") (b := false) h rfl (by decide +kernel)
    | exact en_isi (t := "list") (b := false) h rfl (by decide +kernel)
    | exact en_isi (t := "str") (b := true) h rfl (by decide +kernel)
    | exact en_isi (t := "tuple") (b := false) h rfl (by decide +kernel)
    | (exact absurd hd (by simp [okD, tyD]))
end
end Tx

set_option Elab.async false
set_option linter.all false
set_option maxRecDepth 100000
set_option maxHeartbeats 1000000
set_option autoImplicit false
/-! Tx: lists of natural numbers as data -/
namespace Tx
open PySem L2
abbrev dN (k : Nat) : D := .int (k : Int)
abbrev tupN (l : List Nat) : D := .tup (l.map dN)
abbrev lstN (l : List Nat) : D := .lst (l.map dN)
theorem dN_ints (l : List Nat) : l.map dN = (l.map fun k : Nat => (k : Int)).map D.int := by rw [List.map_map]; rfl
theorem plains_dN : ∀ l : List Nat, D.plains (l.map dN) = true
  | [] => rfl
  | k :: l => by simp [D.plains, D.plain, plains_dN l]
theorem pys_dN : ∀ l : List Nat, D.pys (l.map dN) = l.map fun k : Nat => PyData.int (k : Int)
  | [] => rfl
  | k :: l => by simp [D.pys, D.py, pys_dN l]
theorem lay_ints : ∀ l : List Nat, PyData.canLayAll0 (l.map fun k : Nat => PyData.int (k : Int)) = true
  | [] => by simp [PyData.canLayAll0]
  | k :: l => by simp [PyData.canLayAll0, PyData.canLay0, lay_ints l]
theorem dep_ints : ∀ l : List Nat, PyData.depthAll (l.map fun k : Nat => PyData.int (k : Int)) = 0
  | [] => by simp [PyData.depthAll]
  | k :: l => by simp [PyData.depthAll, PyData.depth, dep_ints l]
theorem sh_int (i : Int) : SeqAt.shaped (PyData.int i) = true := by simp [SeqAt.shaped, PyData.canLay0, PyData.depth]
theorem sh_str (i : Str) (h : PyData.strOk i = true) : SeqAt.shaped (PyData.str i) = true := by simp [SeqAt.shaped, PyData.canLay0, PyData.depth, h]
theorem sh_ints (l : List Nat) : SeqAt.shaped (.list (D.pys (l.map dN))) = true := by
  rw [pys_dN]
  simp [SeqAt.shaped, PyData.canLay0, lay_ints, PyData.depth, dep_ints]
theorem any_ints (l : List Nat) (k : Nat) : ((D.pys (l.map dN)).any fun z => PyData.eqv z (dN k).py) = decide (k ∈ l) := by
  rw [pys_dN]
  induction l with
  | nil => simp
  | cons a l ih =>
    rw [List.map_cons, List.any_cons, ih]
    simp only [D.py, PyData.eqv, List.mem_cons]
    by_cases h : a = k
    · subst h; simp
    · have h2 : ¬ k = a := fun z => h z.symm
      have h3 : ((a : Int) == (k : Int)) = false := by simp; omega
      simp [h2, h3]
theorem eqv_int (i j : Int) : PyData.eqv (PyData.int i) (.int j) = (i == j) := by simp [PyData.eqv]
theorem beq_dec (i j : Int) : (i == j) = decide (i = j) := by by_cases h : i = j <;> simp [h]
section
variable {K : PySem.W.Frag} {m : Mo} {Γ : G} {te : TE} {d : D}
theorem o_inN {k : Nat} {l : List Nat} {b : D} (hb : isSeq b (l.map dN)) : Op1 m K (rInS K false) (dN k) b (.bl (decide (k ∈ l))) := by
  have h := o_inS (m := m) (K := K) (neg := false) (a := dN k) hb rfl (plains_dN l) (sh_int _) (sh_ints l)
  rw [any_ints] at h
  exact h
theorem o_niN {k : Nat} {l : List Nat} {b : D} (hb : isSeq b (l.map dN)) : Op1 m K (rInS K true) (dN k) b (.bl (!decide (k ∈ l))) := by
  have h := o_inS (m := m) (K := K) (neg := true) (a := dN k) hb rfl (plains_dN l) (sh_int _) (sh_ints l)
  rw [any_ints] at h
  exact h
theorem o_eqI {i j : Int} : Op1 m K (rEqD K) (.int i) (.int j) (.bl (decide (i = j))) := by
  have h := o_eqD (m := m) (K := K) (a := .int i) (b := .int j) rfl rfl (sh_int _) (sh_int _)
  have e : PyData.eqv (D.int i).py (D.int j).py = decide (i = j) := by simp only [D.py, PyData.eqv]; exact beq_dec i j
  rw [e] at h
  exact h
theorem o_neI {i j : Int} : Op1 m K (rNeD K) (.int i) (.int j) (.bl (!decide (i = j))) := by
  have h := o_neD (m := m) (K := K) (a := .int i) (b := .int j) rfl rfl (sh_int _) (sh_int _)
  have e : PyData.eqv (D.int i).py (D.int j).py = decide (i = j) := by simp only [D.py, PyData.eqv]; exact beq_dec i j
  rw [e] at h
  exact h
theorem rngD_N (n : Nat) : rngD 0 n = (List.range n).map dN := by
  unfold rngD
  exact List.map_congr_left fun i _ => by rw [Int.zero_add]
theorem it_rng {ta : TA} {n : Nat} (h : EvA1 m K ta Γ [dN n]) (hn : n ≤ 100000) : ItD1 m K (iRng1 ta) Γ ((List.range n).map dN) := by
  have := it_rng1 h ⟨by omega, by omega⟩
  rw [rngD_N, Int.toNat_natCast] at this
  exact this
theorem enumD_map {α : Type} [Inhabited α] (g : α → D) (l : List α) : enumD (l.map g) = (List.range l.length).map fun i => .tup [dN i, g (l.getD i default)] := by
  apply List.ext_getElem
  · rw [enumD_len, List.length_map, List.length_map, List.length_range]
  · intro i h1 h2
    rw [enumD_len, List.length_map] at h1
    have e1 : (enumD (l.map g))[i]? = some (.tup [.int (i : Int), g (l.getD i default)]) := enumD_at (by rw [List.getElem?_map, List.getElem?_eq_getElem h1, List.getD_eq_getElem?_getD, List.getElem?_eq_getElem h1]; rfl)
    have e2 : ((List.range l.length).map fun i => D.tup [dN i, g (l.getD i default)])[i]? = some (.tup [.int (i : Int), g (l.getD i default)]) := by rw [List.getElem?_map, List.getElem?_range h1]; rfl
    rw [List.getElem?_eq_getElem (by rw [enumD_len, List.length_map]; exact h1)] at e1
    rw [List.getElem?_eq_getElem (by rw [List.length_map, List.length_range]; exact h1)] at e2
    exact (Option.some.inj e1).trans (Option.some.inj e2).symm
/-! ### a comprehension over a mapped list -/
theorem LcR.fnM {α : Type} {enc : α → D} {t : α → Bool} {f : α → D} {T : D → Bool → Prop} {V : D → D → Prop} : ∀ {xs : List α} {ys : List D}, LcR T V (xs.map enc) ys → (∀ x ∈ xs, ∀ b, T (enc x) b → b = t x) → (∀ x ∈ xs, ∀ y, t x = true → V (enc x) y → y = f x) → ys = (xs.filter t).map f
  | [], ys, a, _, _ => by cases a; rfl
  | x :: xs, ys, a, ht, hf => by
    rw [List.map_cons] at a
    cases a with
    | no h a =>
      have e := ht x List.mem_cons_self _ h
      rw [LcR.fnM a (fun x hx => ht x (List.mem_cons_of_mem _ hx)) fun x hx => hf x (List.mem_cons_of_mem _ hx), List.filter_cons, ← e]
      rfl
    | yes h v a =>
      have e := ht x List.mem_cons_self _ h
      rw [LcR.fnM a (fun x hx => ht x (List.mem_cons_of_mem _ hx)) fun x hx => hf x (List.mem_cons_of_mem _ hx), List.filter_cons, ← e, if_pos rfl, List.map_cons, hf x List.mem_cons_self _ e.symm v]
theorem en_lcM {α : Type} {wi : TI} {g : TG} {tt : TT} {vs : List Nat} {xs : List α} {js : List Nat} (enc : α → D) (t : α → Bool) (f : α → D) (hc : ∀ x ∈ xs, ∀ y ∈ xs, enc x = enc y → x = y) (hj : ∀ j ∈ js, j ∈ vs) (hi : ItD1 m K wi Γ (xs.map enc)) (hu : xs.length ≤ 100000)
    (hs : ∀ m', Mo.Le m m' → ∀ x, x ∈ xs → ∃ Γ2, TgD m' K g (wipeG Γ vs) (enc x) js Γ2 ∧ EvT1 m' K tt Γ2 (t x) ∧ (t x = true → Ev1 m' K te Γ2 (f x))) : Ev1 m K (tLc wi g tt te vs) Γ (.lst ((xs.filter t).map f)) :=
  (en_lc (U := fun x => x = xs.map enc) (T := fun d b => ∃ x ∈ xs, d = enc x ∧ b = t x) (V' := fun d y => ∃ x ∈ xs, d = enc x ∧ y = f x) hj hi (fun x e => by rw [e, List.length_map]; exact hu) fun m' l ds d e hd => by
    subst e
    obtain ⟨x, hx, rfl⟩ := List.mem_map.mp hd
    obtain ⟨Γ2, h1, h2, h3⟩ := hs m' l x hx
    exact ⟨Γ2, h1, h2.mono fun b e => ⟨x, hx, rfl, e⟩, fun ⟨y, hy, e1, e2⟩ => (h3 (by rw [hc x hx y hy e1]; exact e2.symm)).mono fun d e => ⟨x, hx, rfl, e⟩⟩).mono fun r ⟨ds, ys, e1, e2, e3⟩ => by
      subst e1
      rw [e3, e2.fnM (t := t) (f := f) (fun x hx b ⟨y, hy, e1, e2⟩ => by rw [hc x hx y hy e1]; exact e2) fun x hx d _ ⟨y, hy, e1, e2⟩ => by rw [hc x hx y hy e1]; exact e2]
theorem en_lcMA {α : Type} {wi : TI} {g : TG} {vs : List Nat} {xs : List α} {js : List Nat} (enc : α → D) (f : α → D) (hc : ∀ x ∈ xs, ∀ y ∈ xs, enc x = enc y → x = y) (hj : ∀ j ∈ js, j ∈ vs) (hi : ItD1 m K wi Γ (xs.map enc)) (hu : xs.length ≤ 100000)
    (hs : ∀ m', Mo.Le m m' → ∀ x, x ∈ xs → ∃ Γ2, TgD m' K g (wipeG Γ vs) (enc x) js Γ2 ∧ Ev1 m' K te Γ2 (f x)) : Ev1 m K (tLc wi g tYes te vs) Γ (.lst (xs.map f)) :=
  (en_lcM enc (fun _ => true) f hc hj hi hu fun m' l d hd => by
    obtain ⟨Γ2, h1, h2⟩ := hs m' l d hd
    exact ⟨Γ2, h1, et_yes, fun _ => h2⟩).is (by rw [List.filter_eq_self.mpr (fun _ _ => rfl)])
theorem dN_inj {a b : Nat} (h : dN a = dN b) : a = b := by injection h with h; omega
theorem mapN_inj : ∀ {a b : List Nat}, a.map dN = b.map dN → a = b
  | [], [], _ => rfl
  | [], _ :: _, h => by simp at h
  | _ :: _, [], h => by simp at h
  | x :: a, y :: b, h => by
    rw [List.map_cons, List.map_cons] at h
    injection h with h1 h2
    rw [dN_inj h1, mapN_inj h2]
theorem tupN_inj {a b : List Nat} (h : tupN a = tupN b) : a = b := by injection h with h; exact mapN_inj h
end
end Tx

set_option Elab.async false
set_option linter.all false
set_option maxRecDepth 100000
set_option maxHeartbeats 1000000
set_option autoImplicit false
/-! Tx: all and any over comprehensions -/
namespace Tx
open PySem L2
section
variable {K : PySem.W.Frag} {m : Mo} {Γ : G} {te : TE} {d : D}
theorem en_allM {α : Type} {wi : TI} {g : TG} {vs : List Nat} {xs : List α} {js : List Nat} (enc : α → D) (p : α → Bool) (hc : ∀ x ∈ xs, ∀ y ∈ xs, enc x = enc y → x = y) (hj : ∀ j ∈ js, j ∈ vs) (hi : ItD1 m K wi Γ (xs.map enc)) (hu : xs.length ≤ 100000)
    (hs : ∀ m', Mo.Le m m' → ∀ x, x ∈ xs → ∃ Γ2, TgD m' K g (wipeG Γ vs) (enc x) js Γ2 ∧ Ev1 m' K te Γ2 (.bl (p x))) : Ev1 m K (tCB (rAll K) (tCons (tLc wi g tYes te vs) tNil)) Γ (.bl (xs.all p)) := by
  have h := en_lcMA (m := m) (K := K) (Γ := Γ) (te := te) enc (fun x => D.bl (p x)) hc hj hi hu hs
  have e : (xs.map fun x => D.bl (p x)) = (xs.map p).map D.bl := by rw [List.map_map]; rfl
  rw [e] at h
  exact Ev1.is (en_cb1 (ea_cons h ea_nil) c_all) (by rw [List.all_map]; rfl)
theorem en_anyM {α : Type} {wi : TI} {g : TG} {vs : List Nat} {xs : List α} {js : List Nat} (enc : α → D) (p : α → Bool) (hc : ∀ x ∈ xs, ∀ y ∈ xs, enc x = enc y → x = y) (hj : ∀ j ∈ js, j ∈ vs) (hi : ItD1 m K wi Γ (xs.map enc)) (hu : xs.length ≤ 100000)
    (hs : ∀ m', Mo.Le m m' → ∀ x, x ∈ xs → ∃ Γ2, TgD m' K g (wipeG Γ vs) (enc x) js Γ2 ∧ Ev1 m' K te Γ2 (.bl (p x))) : Ev1 m K (tCB (rAnyS K) (tCons (tLc wi g tYes te vs) tNil)) Γ (.bl (xs.any p)) := by
  have h := en_lcMA (m := m) (K := K) (Γ := Γ) (te := te) enc (fun x => D.bl (p x)) hc hj hi hu hs
  have e : (xs.map fun x => D.bl (p x)) = (xs.map p).map D.bl := by rw [List.map_map]; rfl
  rw [e] at h
  exact Ev1.is (en_cb1 (ea_cons h ea_nil) c_any) (by rw [List.any_map]; rfl)
theorem et_truthB {b : Bool} (h : Ev1 m K te Γ (.bl b)) : EvT1 m K (fun σ H Q => te σ H fun x H' => ∃ k, TruV K x H' k ∧ Q k H') Γ b := fun σ H e Q q =>
  h σ H e _ fun v d' H1 s r1 rv => by
    subst s
    exact ⟨b, by rw [rv.blE]; rfl, q _ H1 rfl r1⟩
theorem pairN_inj {g : Nat → D} {a b : Nat} (h : D.tup [dN a, g a] = D.tup [dN b, g b]) : a = b := by
  injection h with h
  injection h with h _
  exact dN_inj h
end
abbrev tTruK (K : PySem.W.Frag) (te : TE) : TT := fun σ H Q => te σ H fun x H' => ∃ k, TruV K x H' k ∧ Q k H'
end Tx

set_option Elab.async false
set_option linter.all false
set_option maxRecDepth 100000
set_option maxHeartbeats 1000000
set_option autoImplicit false
/-! Tx: lengths of texts -/
namespace Tx
open PySem L2
theorem join_len (sep : Str) : ∀ l : List Str, (Str.join sep l).length ≤ (l.map (·.length)).sum + l.length * sep.length
  | [] => by show Str.empty.length ≤ _; exact Nat.zero_le _
  | [x] => by show x.length ≤ _; simp
  | x :: y :: r => by
    show (x ++ sep ++ Str.join sep (y :: r)).length ≤ _
    have h := join_len sep (y :: r)
    rw [Str.length_append, Str.length_append]
    simp only [List.map_cons, List.sum_cons, List.length_cons, Nat.add_mul, Nat.one_mul] at h ⊢
    omega
theorem sum_le {l : List Str} {c : Nat} (h : ∀ x ∈ l, x.length ≤ c) : (l.map (·.length)).sum ≤ l.length * c := by
  induction l with
  | nil => simp
  | cons x l ih =>
    have h1 := h x List.mem_cons_self
    have h2 := ih fun y hy => h y (List.mem_cons_of_mem _ hy)
    simp only [List.map_cons, List.sum_cons, List.length_cons, Nat.add_mul, Nat.one_mul]
    omega
theorem join_le {sep : Str} {l : List Str} {c : Nat} (h : ∀ x ∈ l, x.length ≤ c) : (Txt.join sep l).length ≤ l.length * (c + sep.length) := by
  have e : Txt.join sep l = Str.join sep l := StrLaws.glued_eq_join sep l
  rw [e, Nat.mul_add]
  have := join_len sep l
  have := sum_le h
  omega
/-- the text of a number -/
def tx (n : Nat) : Str := Str.ofString (toString (n : Int))
theorem tx_le {n k : Nat} (hk : 0 < k) (h : n < 10 ^ k) : (tx n).length ≤ k := PyProof.Rows.toString_length_le (by omega) hk (by exact_mod_cast h)
theorem log_le {n : Nat} (h : n < 10 ^ 6) : ((n : Int)).natAbs.log2 < 1920 := by
  have : n.log2 ≤ n := Nat.log2_le_self n
  show (n : Int).natAbs.log2 < 1920
  rw [Int.natAbs_natCast]
  by_cases hz : n = 0
  · subst hz; decide
  · have : n.log2 < 20 := (Nat.log2_lt hz).mpr (Nat.lt_of_lt_of_le h (by decide))
    omega
section
variable {K : PySem.W.Frag} {m : Mo} {Γ : G} {te : TE}
theorem en_fmtN {n : Nat} (h : Ev1 m K te Γ (dN n)) (hz : n < 10 ^ 6) : Ev1 m K (tFmt te) Γ (.str (tx n)) := en_fmtI h (log_le hz)
theorem c_strN {n : Nat} (hz : n < 10 ^ 6) : Ca1 m K rStrI [dN n] (.str (tx n)) := c_strI (log_le hz)
end
end Tx

set_option Elab.async false
set_option linter.all false
set_option maxRecDepth 100000
set_option maxHeartbeats 1000000
set_option autoImplicit false
/-! Tx: comprehensions of two clauses -/
namespace Tx
open PySem L2
section
variable {K : PySem.W.Frag} {m : Mo} {Γ : G} {te : TE} {tt tt1 : TT} {d : D} {ds : List D}
def StK (m : Mo) (H1 H : Hp) : Prop := ∀ a o, ¬ m.F a → H1 a = some o → H a = some o
def ItX (m : Mo) (K : PySem.W.Frag) (wi : TI) (Γ : G) (xs : List D) : Prop := ∀ σ H, ER m K Γ σ H → ∀ Q : It → Hp → Prop, (∀ (J : It) H1, m.R H H1 → (∀ H2, StK m H1 H2 →
  (∀ i, i < xs.length → J.go i H2) ∧ J.stop xs.length H2 ∧ ∀ i x H', i < xs.length → J.yld i H2 x H' → H' = H2 ∧ ∃ d, xs[i]? = some d ∧ Rp K m.F H2 x d) → Q J H1) → wi σ H Q
theorem seq_standsX {H1 : Hp} {v : V} (rv : Rp K m.F H1 v d) (hd : isSeq d ds) : ∃ a vs, v = .ref a ∧ RpAll K m.F H1 vs ds ∧ ((∀ H, StK m H1 H → SqL K H a vs) ∨ (∀ H, StK m H1 H → SqT K H a vs)) := by
  rcases hd with e | e | e
  · subst e
    cases rv with
    | tup n h t => exact ⟨_, _, rfl, t, .inr fun H r => .inl (rd_up h fun o q => r _ o n q)⟩
    | ktup h t => exact ⟨_, _, rfl, t, .inr fun H r => .inr h⟩
  · subst e
    cases rv with
    | lst n h t => exact ⟨_, _, rfl, t, .inl fun H r => SqL.of (r _ _ n h)⟩
  · subst e
    cases rv with
    | frl n h t => exact ⟨_, _, rfl, t, .inl fun H r => .inl (.inr ⟨_, r _ _ n h⟩)⟩
    | kfrl h t => exact ⟨_, _, rfl, t, .inl fun H r => .inr h⟩
theorem itx_seq (h : Ev1 m K te Γ d) (hd : isSeq d ds) : ItX m K (iSeq K te) Γ ds := fun σ H e Q q =>
  h σ H e _ fun v d' H1 s r1 rv => by
    subst s
    obtain ⟨a, vs, rfl, ra, hs⟩ := seq_standsX rv hd
    have hl := ra.len
    have i1 := m.inv r1 e.i
    refine ⟨a, rfl, ?_⟩
    rcases hs with hs | hs
    · refine .inl ⟨⟨vs, hs H1 fun _ _ _ e => e⟩, q _ H1 r1 fun H2 st => ⟨fun i hi => ⟨vs, vs[i], hs H2 st, by simp [hl, hi]⟩, ⟨vs, hs H2 st, by omega⟩, fun i x H' hi y => ?_⟩⟩
      obtain ⟨e, y⟩ := y
      subst e
      obtain ⟨d, hd, rd⟩ := ra.at (y vs (hs H' st))
      exact ⟨rfl, d, hd, rd.go fun a o n e => ⟨n, st a o n e⟩⟩
    · refine .inr ⟨⟨vs, hs H1 fun _ _ _ e => e⟩, q _ H1 r1 fun H2 st => ⟨fun i hi => ⟨vs, vs[i], hs H2 st, by simp [hl, hi]⟩, ⟨vs, hs H2 st, by omega⟩, fun i x H' hi y => ?_⟩⟩
      obtain ⟨e, y⟩ := y
      subst e
      obtain ⟨d, hd, rd⟩ := ra.at (y vs (hs H' st))
      exact ⟨rfl, d, hd, rd.go fun a o n e => ⟨n, st a o n e⟩⟩
theorem take_one {α : Type} {xs : List α} {i : Nat} {d : α} (h : xs[i]? = some d) : xs.take (i + 1) = xs.take i ++ [d] := by rw [List.take_add_one, h]; rfl
/-- [e for g in xs if t for g1 in sub if t1] -/
theorem en_lc2 {wi wi1 : TI} {g g1 : TG} {vs vs1 : List Nat} {xs : List D} {js js1 : List Nat} (t : D → Bool) (sub : D → List D) (t1 : D → D → Bool) (f : D → D → D) (hj : ∀ j ∈ js, j ∈ vs) (hj1 : ∀ j ∈ js1, j ∈ vs1) (hv : ∀ j ∈ vs1, j ∈ vs) (hi : ItD1 m K wi Γ xs) (c : Nat) (hc : ∀ d ∈ xs, (sub d).length ≤ c) (hu : xs.length * c ≤ 100000)
    (hs : ∀ m', Mo.Le m m' → ∀ d, d ∈ xs → ∃ Γ2, TgD m' K g (wipeG Γ vs) d js Γ2 ∧ EvT1 m' K tt Γ2 (t d) ∧ (t d = true → ItX m' K wi1 Γ2 (sub d) ∧ ∀ d1, d1 ∈ sub d → ∃ Γ3, TgD m' K g1 (wipeG Γ2 vs1) d1 js1 Γ3 ∧ EvT1 m' K tt1 Γ3 (t1 d d1) ∧ (t1 d d1 = true → Ev1 m' K te Γ3 (f d d1)))) :
    Ev1 m K (tLc2 wi g tt wi1 g1 tt1 te vs vs1) Γ (.lst ((xs.filter t).flatMap fun d => ((sub d).filter (t1 d)).map (f d))) := fun σ H e Q q => by
  have outL : ∀ zs : List D, (∀ d ∈ zs, d ∈ xs) → ((zs.filter t).flatMap fun d => ((sub d).filter (t1 d)).map (f d)).length ≤ zs.length * c := fun zs => by
    induction zs with
    | nil => intro _; simp
    | cons z zs ih =>
      intro hz
      have h1 := ih fun d hd => hz d (List.mem_cons_of_mem _ hd)
      have h2 := hc z (hz z List.mem_cons_self)
      have h3 := List.length_filter_le (t1 z) (sub z)
      rw [List.filter_cons]
      split
      · rw [List.flatMap_cons, List.length_append, List.length_map, List.length_cons, Nat.add_mul]; omega
      · rw [List.length_cons, Nat.add_mul]; omega
  refine hi σ H e _ fun J zs H1 ht r1 wk => fun Dl hD => ?_
  subst ht
  have e1 := e.mv r1
  have rN : m.R H1 (upd H1 Dl (.lst [])) := m.grow e1.i (same_new hD)
  have nF : ¬ m.F Dl := fun f => m.fa e1.i f hD
  have wkA : ∀ H', m.R H1 H' → (m.ext Dl).I H' → WkD (m.ext Dl) K J H' zs := fun H' r i => wk (m.ext Dl) (m.le_ext Dl) H' i r fun a f n => f.elim (fun f => absurd f n) fun z => z ▸ hD
  refine ⟨fun i k H' => k = zs.length - i ∧ i ≤ zs.length ∧ m.R H1 H' ∧ ∃ acc, H' Dl = some (.lst acc) ∧ RpAll K (m.ext Dl).F H' acc (((zs.take i).filter t).flatMap fun d => ((sub d).filter (t1 d)).map (f d)), ⟨_, rfl, Nat.zero_le _, rN, [], upd_same, .nil⟩, ?_⟩
  rintro i k H' ⟨rfl, hle, r, acc, hacc, ra⟩
  have eX : ER (m.ext Dl) K Γ σ H' := e1.ext hD r (by rw [hacc]; exact fun z => nomatch z)
  have iX := eX.i
  have wkX := wkA H' r iX
  by_cases hlt : i < zs.length
  · refine .inr ⟨wkX.go i H' (m.refl _) hlt, fun H3 => m.R H1 H3 ∧ ∃ acc, H3 Dl = some (.lst acc) ∧ RpAll K (m.ext Dl).F H3 acc (((zs.take (i + 1)).filter t).flatMap fun d => ((sub d).filter (t1 d)).map (f d)), fun H3 q => ⟨zs.length - (i + 1), by omega, rfl, hlt, q⟩, fun x H2 y => ?_⟩
    obtain ⟨r2, d, hd', rx⟩ := wkX.yld i H' x H2 (m.refl _) hlt y
    have hdm := List.mem_of_getElem? hd'
    obtain ⟨Γ2, tg, tst, el⟩ := hs (m.ext Dl) (m.le_ext Dl) d hdm
    have tk := take_one hd'
    have kD : ∀ {Ha Hb : Hp} {ac : List V}, (m.ext Dl).I Ha → m.R Ha Hb → Ha Dl = some (.lst ac) → Hb Dl = some (.lst ac) := fun ia r h => m.keep r ia.1 Dl _ nF h
    refine tg x (wipe σ vs) H2 ((eX.mv r2).wipe vs) rx _ fun σ3 H3 e3 r3 w3 => ⟨by rw [w3 vs hj, wipe_wipe], ?_⟩
    have i2 := (m.ext Dl).inv r2 iX
    refine tst σ3 H3 e3 _ fun b H4 tb' r4 => ?_
    subst tb'
    have i3 := e3.i
    have i4 := (m.ext Dl).inv r4 i3
    have rr := m.trans r2 (m.trans r3 r4)
    cases hb : t d with
    | false =>
      refine ⟨m.trans r rr, acc, kD iX rr hacc, ?_⟩
      rw [tk, List.filter_append, List.filter_cons, hb]
      simpa using ra.mv ((m.ext Dl).keep rr iX)
    | true =>
      obtain ⟨hi1, hin⟩ := el hb
      refine hi1 σ3 H4 (e3.mv r4) _ fun J1 H5 r5 wk1 => ?_
      have i5 := (m.ext Dl).inv r5 i4
      have rr5 := m.trans rr r5
      have e5 := (e3.mv r4).mv r5
      refine ⟨fun j k H' => k = (sub d).length - j ∧ j ≤ (sub d).length ∧ m.R H1 H' ∧ StK (m.ext Dl) H5 H' ∧ ∃ acc, H' Dl = some (.lst acc) ∧ RpAll K (m.ext Dl).F H' acc ((((zs.take i).filter t).flatMap fun d => ((sub d).filter (t1 d)).map (f d)) ++ (((sub d).take j).filter (t1 d)).map (f d)),
        ⟨_, rfl, Nat.zero_le _, m.trans r rr5, fun _ _ _ e => e, acc, kD iX rr5 hacc, by simpa using ra.mv ((m.ext Dl).keep rr5 iX)⟩, ?_⟩
      rintro j k H6 ⟨rfl, hle1, r6, st6, acc6, hacc6, ra6⟩
      obtain ⟨go1, stop1, yld1⟩ := wk1 H6 st6
      have i6 : (m.ext Dl).I H6 := ⟨m.inv r6 e1.i, by rw [hacc6]; exact fun z => nomatch z⟩
      have e6 : ER (m.ext Dl) K Γ2 σ3 H6 := ⟨i6, e5.len, fun i d h => let ⟨v, h1, h2⟩ := e5.at_ i d h; ⟨v, h1, h2.go fun a o n e => ⟨n, st6 a o n e⟩⟩⟩
      by_cases hlt1 : j < (sub d).length
      · refine .inr ⟨go1 j hlt1, fun H7 => m.R H1 H7 ∧ StK (m.ext Dl) H5 H7 ∧ ∃ acc, H7 Dl = some (.lst acc) ∧ RpAll K (m.ext Dl).F H7 acc ((((zs.take i).filter t).flatMap fun d => ((sub d).filter (t1 d)).map (f d)) ++ (((sub d).take (j + 1)).filter (t1 d)).map (f d)), fun H7 q => ⟨(sub d).length - (j + 1), by omega, rfl, hlt1, q⟩, fun x H7 y => ?_⟩
        obtain ⟨e7, d1, hd1, rx1⟩ := yld1 j x H7 hlt1 y
        subst e7
        obtain ⟨Γ3, tg1, tst1, el1⟩ := hin d1 (List.mem_of_getElem? hd1)
        have tk1 := take_one hd1
        refine tg1 x (wipe σ3 vs1) H7 (e6.wipe vs1) rx1 _ fun σ4 H8 e8 r8 w8 => ⟨by rw [w8 vs1 hj1, wipe_wipe], ?_⟩
        refine tst1 σ4 H8 e8 _ fun b H9 tb' r9 => ?_
        subst tb'
        have i8 := e8.i
        have i9 := (m.ext Dl).inv r9 i8
        have r89 := m.trans r8 r9
        have st9 : StK (m.ext Dl) H5 H9 := fun a o n e => (m.ext Dl).keep r89 i6 a o n (st6 a o n e)
        cases hb1 : t1 d d1 with
        | false =>
          refine ⟨m.trans r6 r89, st9, acc6, kD i6 r89 hacc6, ?_⟩
          rw [tk1, List.filter_append, List.filter_cons, hb1]
          simpa using ra6.mv ((m.ext Dl).keep r89 i6)
        | true =>
          refine el1 hb1 σ4 H9 (e8.mv r9) _ fun w dw H10 sv r10 rw' => ?_
          subst sv
          have r10' := m.trans r89 r10
          have hlen : acc6.length < sizeLine := by
            have h1 := ra6.len
            have h2 := outL (zs.take i) fun d hd => List.mem_of_mem_take hd
            have h3 := List.length_filter_le (t1 d) ((sub d).take j)
            rw [List.length_append, List.length_map] at h1
            rw [List.length_take] at h2 h3
            have h4 := hc d hdm
            have h5 : min i zs.length * c + c ≤ zs.length * c := by
              have : (min i zs.length + 1) * c ≤ zs.length * c := Nat.mul_le_mul_right c (by omega)
              rw [Nat.add_mul, Nat.one_mul] at this
              exact this
            exact Nat.lt_of_lt_of_le (show acc6.length < 100001 by omega) (by decide)
          refine ⟨acc6, kD i6 r10' hacc6, hlen, m.chg e1.i (m.trans r6 r10') hD, fun a o n e => ?_, acc6 ++ [w], upd_same, ?_⟩
          · rw [upd_ne (fun z => n (.inr z))]
            exact (m.ext Dl).keep r10' i6 a o n (st6 a o n e)
          · have k5 : ∀ a o, ¬ (m.ext Dl).F a → H10 a = some o → (upd H10 Dl (.lst (acc6 ++ [w]))) a = some o := fun a o n x => by rw [upd_ne (fun z => n (.inr z))]; exact x
            have := (((ra6.mv ((m.ext Dl).keep r10' i6)).append (.cons rw' .nil)).mv k5)
            rw [tk1, List.filter_append, List.filter_cons, hb1, if_pos rfl, List.map_append, ← List.append_assoc]
            exact this
      · have e0 : j = (sub d).length := by omega
        subst e0
        refine .inl ⟨stop1, r6, acc6, hacc6, ?_⟩
        rw [tk, List.filter_append, List.filter_cons, hb, if_pos rfl, List.flatMap_append]
        rw [List.take_length] at ra6
        simpa using ra6
  · have e0 : i = zs.length := by omega
    subst e0
    rw [List.take_length] at ra
    exact .inl ⟨wkX.stop H' (m.refl _), q _ _ H' rfl (m.trans r1 r) (.lst nF hacc (ra.weak fun a f => .inl f))⟩
end
end Tx

set_option Elab.async false
set_option linter.all false
set_option maxRecDepth 100000
set_option maxHeartbeats 1000000
set_option autoImplicit false
/-! Tx: __init__ that fills the fields one by one -/
namespace Tx
open PySem L2
section
variable {K : PySem.W.Frag} {m : Mo} {Γ : G} {te tv : TE} {tt : TT} {ts tw : TS} {d : D} {ds : List D} {F : Addr → Prop} {C x dx : Addr} {ns : List Str} {fvs : List V}
/-- nothing known changes, and the instance at x holds these fields -/
def instMo (F : Addr → Prop) (K : PySem.W.Frag) (x C dx : Addr) (ns : List Str) (fvs : List V) (ds : List D) : Mo where
  F := F
  R := Same
  I := fun H => (∀ a, F a → H a ≠ none) ∧ H x = some (.ins C dx (ns.zip fvs)) ∧ RpAll K F H fvs ds
  refl := Same.refl
  trans := fun a b => a.trans b
  keep := fun r _ a o _ e => r a o e
  grow := fun _ r => r
  inv := fun {H H'} r i => ⟨(pureMo F).inv r i.1, r _ _ i.2.1, i.2.2.mv fun a o _ e => r a o e⟩
  fa := fun i f => i.1 _ f
  chg := fun _ r h => same_chg r h
  had := fun {H H' a} i r n => (pureMo F).had i.1 r n
def SI (F : Addr → Prop) (K : PySem.W.Frag) (x C : Addr) (ts : TS) (Γ : G) (ns : List Str) (ds : List D) (Fin : List Str → List D → Prop) : Prop :=
  ∀ (dx : Addr) (σ : L2.St) (H : Hp) (fvs : List V), ER (pureMo F) K Γ σ H → H x = some (.ins C dx (ns.zip fvs)) → ns.length = fvs.length → RpAll K F H fvs ds →
    ∀ E : Ends, (∀ σ' H' ns' fvs' ds', Fin ns' ds' → (∀ a o, a ≠ x → H a = some o → H' a = some o) → H' x = some (.ins C dx (ns'.zip fvs')) → ns'.length = fvs'.length → RpAll K F H' fvs' ds' → E.nx σ' H') → ts E σ H
theorem putF_new {n : Str} {v : V} : ∀ {ns : List Str} {fvs : List V}, n ∉ ns → ns.length = fvs.length → putF n v (ns.zip fvs) = (ns ++ [n]).zip (fvs ++ [v])
  | [], [], _, _ => rfl
  | [], _ :: _, _, h => by cases h
  | _ :: _, [], _, h => by cases h
  | a :: ns, b :: fvs, hn, hl => by
    show (if a = n then (a, v) :: ns.zip fvs else (a, b) :: putF n v (ns.zip fvs)) = _
    rw [if_neg (fun e : a = n => hn (by rw [e]; exact List.mem_cons_self)), putF_new (fun z => hn (List.mem_cons_of_mem _ z)) (by simpa using hl)]
    rfl
theorem si_fldN {n : Str} {S : D → Prop} {Fin : List Str → List D → Prop} (hF : F x) (h : ∀ dx fvs, EvN (instMo F K x C dx ns fvs ds) K tv Γ S) (h0 : Γ[0]? = some (some (.adr x))) (cl : Cls K C) (na : NoAttr K C n) (hn : n ∉ ns) (hl : ns.length < 500)
    (k : ∀ d, S d → SI F K x C tw Γ (ns ++ [n]) (ds ++ [d]) Fin) : SI F K x C (tSeq (sFld K (tVar 0) tv n) tw) Γ ns ds Fin := fun dx σ H fvs e hx hlen ra E q => by
  have eI : ER (instMo F K x C dx ns fvs ds) K Γ σ H := ⟨⟨e.i, hx, ra⟩, e.len, e.at_⟩
  refine h dx fvs σ H eI _ fun v d H1 sd r1 rv => ?_
  have e1 := eI.mv r1
  obtain ⟨w, h1, h2⟩ := e1.at_ 0 _ h0
  obtain rfl := h2.adrE
  refine ⟨_, h1, ?_⟩
  have hx1 := e1.i.2.1
  refine ⟨x, C, dx, _, rfl, hx1, cl, na, by rw [List.length_zip]; omega, ?_⟩
  rw [putF_new hn hlen]
  have mvx : ∀ a o, ¬ F a → H1 a = some o → (upd H1 x (.ins C dx ((ns ++ [n]).zip (fvs ++ [v])))) a = some o := fun a o n e => by rw [upd_ne (fun z : a = x => n (by rw [z]; exact hF))]; exact e
  refine k d sd dx σ _ (fvs ++ [v]) ⟨fun a f => ?_, e1.len, fun i d h => let ⟨v, h1, h2⟩ := e1.at_ i d h; ⟨v, h1, h2.go fun a o n e => ⟨n, mvx a o n e⟩⟩⟩ upd_same (by rw [List.length_append, List.length_append, hlen]; rfl) (((e1.i.2.2).append (.cons rv .nil)).mv mvx) E fun σ' H' ns' fvs' ds' hf hk => q σ' H' ns' fvs' ds' hf fun a o n e => hk a o n (by rw [upd_ne n]; exact r1 a o e)
  by_cases z : a = x
  · rw [z, upd_same]; exact fun z => nomatch z
  · rw [upd_ne z]; exact e1.i.1 a f
theorem si_fld {n : Str} {Fin : List Str → List D → Prop} (hF : F x) (h : ∀ dx fvs, Ev1 (instMo F K x C dx ns fvs ds) K tv Γ d) (h0 : Γ[0]? = some (some (.adr x))) (cl : Cls K C) (na : NoAttr K C n) (hn : n ∉ ns) (hl : ns.length < 500)
    (k : SI F K x C tw Γ (ns ++ [n]) (ds ++ [d]) Fin) : SI F K x C (tSeq (sFld K (tVar 0) tv n) tw) Γ ns ds Fin := si_fldN hF h h0 cl na hn hl fun _ e => e ▸ k
theorem si_end {Fin : List Str → List D → Prop} (h : Fin ns ds) : SI F K x C tNext Γ ns ds Fin := fun dx σ H fvs e hx hlen ra E q => q σ H ns fvs ds h (fun _ _ _ e => e) hx hlen ra
theorem si_seqNext {Fin : List Str → List D → Prop} (h : SI F K x C (tSeq ts tNext) Γ ns ds Fin) : SI F K x C ts Γ ns ds Fin := fun dx σ H fvs e hx hlen ra E q => h dx σ H fvs e hx hlen ra E q
theorem si_if {Fin : List Str → List D → Prop} (h : EvT1 (pureMo F) K tt Γ false) (k : SI F K x C tw Γ ns ds Fin) : SI F K x C (tSeq (tIfS tt ts tNext) tw) Γ ns ds Fin := fun dx σ H fvs e hx hlen ra E q =>
  h σ H e _ fun b H1 s r1 => by
    subst s
    exact k dx σ H1 fvs (e.mv r1) (r1 _ _ hx) hlen (ra.mv fun a o _ e => r1 a o e) E fun σ' H' ns' fvs' ds' hf hk => q σ' H' ns' fvs' ds' hf fun a o n e => hk a o n (r1 a o e)
/-- the promise of such an __init__ -/
def spIS (K : PySem.W.Frag) (C : Addr) (pre : List D → Prop) (ns : List Str) (S : List D → List D → Prop) : Sp := fun vs H Q _ => ∃ (F : Addr → Prop) (x dx : Addr) (ws : List V) (ds : List D), vs = .ref x :: ws ∧ H x = some (.ins C dx []) ∧ F x ∧ (∀ a, F a → H a ≠ none) ∧ RpAll K F H ws ds ∧ pre ds ∧
  ∀ fvs xs H', S ds xs → (∀ a o, a ≠ x → H a = some o → H' a = some o) → H' x = some (.ins C dx (ns.zip fvs)) → ns.length = fvs.length → RpAll K F H' fvs xs → Q .non H'
theorem en_makeN {C : Addr} {pre : List D → Prop} {ns : List Str} {S : List D → List D → Prop} {dvs : List V} {dds : List D} {E : XK} {ta : TA} (h : EvA1 m K ta Γ ds) (hd : ∀ F H, RpAll K F H dvs dds) (hp : pre (ds ++ dds)) : EvN m K (tMake C (spIS K C pre ns S) dvs E ta) Γ (fun d => ∃ xs, d = .obj C ns xs ∧ S (ds ++ dds) xs) := fun σ H e Q q =>
  h σ H e _ fun vs ds' H1 s r1 rs => by
    subst s
    intro x dx hx hdx hne
    have i1 := m.inv r1 e.i
    have s1 : Same H1 (upd (upd H1 dx (.own x)) x (.ins C dx [])) := same_chg (same_new hdx) hx
    refine ⟨fun a => m.F a ∨ a = x, x, dx, vs ++ dvs, ds' ++ dds, rfl, upd_same, .inr rfl, fun a f => ?_, ?_, hp, fun fvs xs H' hS k hx' hl ra => ⟨rfl, ?_⟩⟩
    · rcases f with f | f
      · cases q1 : H1 a with
        | none => exact absurd q1 (m.fa i1 f)
        | some o => rw [s1 a o q1]; exact fun z => nomatch z
      · rw [f, upd_same]; exact fun z => nomatch z
    · exact Rp.goAll (fun a o n q1 => ⟨fun z => z.elim n fun z => (by rw [z, hx] at q1; cases q1), s1 a o q1⟩) (rs.append (hd _ _))
    · have sm : Same H1 H' := fun a o q1 => k a o (fun z => by rw [z, hx] at q1; cases q1) (s1 a o q1)
      exact q _ _ H' ⟨xs, rfl, hS⟩ (m.trans r1 (m.grow i1 sm)) (.obj (fun f => m.fa i1 f hx) hx' hl (ra.weak fun a f => .inl f))
variable {P : Program} {w : World} {mg : Str → Option Value} {base : Heap}
theorem fn_init {qual : Str} {st : Stmt} {f : Addr} {fd : FuncData} {N ps : List Str} {k : Nat} {nm : Str} {pre : List D → Prop} {S : List D → List D → Prop} {dvs : List V} {kws : List (Str × V)} (Fu : FunD K nm qual (defArgs st) (defBody st) (defScope st) dvs kws f fd) (Sc : FnScope N ps (defScope st)) (hl : ∀ ds, pre ds → ds.length + 1 = ps.length)
    (body : ∀ (cdv : Value) (A : Around) (outer : List Env) (s : Shared) (H : Hp) (E : XK), Room k (A.deeper (PyProof.Rows.envOfC qual (defScope st) s.heap.objs.size f cdv)) →
      ∃ t, PSs (cxOf CX0 P w K mg base N qual (defScope st) f cdv A outer s H E).nox (defBody st) t ∧ ∀ (F : Addr → Prop) (x : Addr) (ds : List D), pre ds → F x → SI F K x C t (startG N (.adr x :: ds)) [] [] fun ns' ds' => ns' = ns ∧ S ds ds') :
    FnOk P w K mg base CX0 (k + 1) f fd ps (spIS K C pre ns S) := by
  refine Fu.ok Sc (fun vs H Q E h => ?_) (fun cdv A outer s H vs Q E hr h => ?_)
  · obtain ⟨F, x, dx, ws, ds, rfl, _, _, _, ra, hp, _⟩ := h
    rw [List.length_cons, ra.len]
    exact hl ds hp
  · obtain ⟨F, x, dx, ws, ds, rfl, hx, hF, hFa, ra, hp, q⟩ := h
    obtain ⟨t, ht, hs⟩ := body cdv A outer s H E hr
    refine ⟨t, ht.nox, ?_⟩
    refine hs F x ds hp hF dx _ H [] (er_start (m := pureMo F) hFa (.cons (.adr x) ra) N) hx rfl .nil _ fun σ' H' ns' fvs' ds' hf hk hx' hl' ra' => ?_
    obtain ⟨rfl, hS⟩ := hf
    exact q fvs' ds' H' hS hk hx' hl' ra'
/-- self.f[i], where self is being made and f holds numbers -/
theorem en_ixSelf {f : Str} {ti : TE} {ms : List Nat} {i : Nat} {m' : Mo} (le : (instMo F K x C dx ns fvs ds).Le m') (hf : (ns.zip ds).lookup f = some (tupN ms)) (hlen : ns.length = ds.length) (h0 : Ev1 m' K te Γ (.adr x)) (cl : Cls K C) (na : NoAttr K C f) (hi : Ev1 m' K ti Γ (dN i)) (hlt : i < ms.length) : Ev1 m' K (tOp (rIx K) (tFld K te f) ti) Γ (dN (ms.getD i 0)) := fun σ H e Q q =>
  h0 σ H e _ fun v d' H1 s r1 rv => by
    subst s
    obtain rfl := rv.adrE
    have i1 := m'.inv r1 e.i
    obtain ⟨_, hx, ra⟩ := le.I H1 i1
    obtain ⟨v, hv, rv⟩ := lookup_zip ra hf
    refine ⟨x, C, dx, _, v, rfl, hx, cl, na, hv, ?_⟩
    refine hi σ H1 (e.mv r1) _ fun w dw H2 s2 r2 rw' => ?_
    subst s2
    have sm : Same H1 H2 := by have := r2; rw [le.R] at this; exact this
    have hq : ∃ a vs, v = .ref a ∧ RpAll K F H1 vs (ms.map dN) ∧ SqT K H2 a vs := by
      cases rv with
      | tup n h t => exact ⟨_, _, rfl, t, .inl (rd_up h fun o q => sm _ o q)⟩
      | ktup h t => exact ⟨_, _, rfl, t, .inr h⟩
    obtain ⟨a, vs, rfl, ra', hq⟩ := hq
    have hl := ra'.len
    have he : vs[i]? = some (.int ((ms.getD i 0 : Nat) : Int)) := by
      obtain ⟨v, h1, h2⟩ := ra'.get (i := i) (d := dN (ms.getD i 0)) (by rw [List.getElem?_map, List.getD_eq_getElem?_getD, List.getElem?_eq_getElem hlt]; rfl)
      rw [h1, h2.intE]
    obtain rfl := rw'.intE
    refine .inr (.inl ⟨a, vs, i, _, rfl, rfl, hq, by unfold atI; rw [Evl.ixN_nat (List.getElem?_eq_some_iff.mp he).1]; exact he, q _ _ H2 rfl (m'.trans r1 r2) (.int _)⟩)
end
end Tx

set_option Elab.async false
set_option linter.all false
set_option maxRecDepth 100000
set_option maxHeartbeats 1000000
set_option autoImplicit false
/-! Tx: plain data of a small depth; properties -/
namespace Tx
open PySem L2
def pur : Nat → D → Bool
  | _, .non => true
  | _, .bl _ => true
  | _, .int _ => true
  | _, .str s => PyData.strOk s
  | n + 1, .tup xs => xs.all (pur n)
  | n + 1, .lst xs => xs.all (pur n)
  | _, _ => false
theorem plains_of : ∀ {xs : List D}, (∀ x ∈ xs, x.plain = true) → D.plains xs = true
  | [], _ => rfl
  | x :: xs, h => by rw [D.plains, h x List.mem_cons_self, plains_of fun y hy => h y (List.mem_cons_of_mem _ hy)]; rfl
theorem pys_map : ∀ xs : List D, D.pys xs = xs.map D.py
  | [] => rfl
  | x :: xs => by rw [D.pys, pys_map xs]; rfl
theorem lays_of : ∀ {xs : List D}, (∀ x ∈ xs, x.py.canLay0 = true) → PyData.canLayAll0 (D.pys xs) = true
  | [], _ => rfl
  | x :: xs, h => by rw [D.pys, PyData.canLayAll0, h x List.mem_cons_self, lays_of fun y hy => h y (List.mem_cons_of_mem _ hy)]; rfl
theorem deps_of {n : Nat} : ∀ {xs : List D}, (∀ x ∈ xs, x.py.depth ≤ n) → PyData.depthAll (D.pys xs) ≤ n
  | [], _ => by simp [D.pys, PyData.depthAll]
  | x :: xs, h => by
    have h1 := h x List.mem_cons_self
    have h2 := deps_of fun y hy => h y (List.mem_cons_of_mem _ hy)
    simp only [D.pys, PyData.depthAll]
    omega
theorem pur_all : ∀ (n : Nat) (d : D), pur n d = true → d.plain = true ∧ d.py.canLay0 = true ∧ d.py.depth ≤ n
  | n, .non, _ => ⟨rfl, rfl, by simp [D.py, PyData.depth]⟩
  | n, .bl _, _ => ⟨rfl, rfl, by simp [D.py, PyData.depth]⟩
  | n, .int _, _ => ⟨rfl, rfl, by simp [D.py, PyData.depth]⟩
  | n, .str s, h => ⟨rfl, by cases n <;> exact h, by simp [D.py, PyData.depth]⟩
  | 0, .tup _, h => by cases h
  | 0, .lst _, h => by cases h
  | n + 1, .tup xs, h => by
    have h := List.all_eq_true.mp (show xs.all (pur n) = true from h)
    refine ⟨plains_of fun x hx => (pur_all n x (h x hx)).1, ?_, ?_⟩
    · simp only [D.py, PyData.canLay0]
      exact lays_of fun x hx => (pur_all n x (h x hx)).2.1
    · simp only [D.py, PyData.depth]
      have := deps_of fun x hx => (pur_all n x (h x hx)).2.2
      omega
  | n + 1, .lst xs, h => by
    have h := List.all_eq_true.mp (show xs.all (pur n) = true from h)
    refine ⟨plains_of fun x hx => (pur_all n x (h x hx)).1, ?_, ?_⟩
    · simp only [D.py, PyData.canLay0]
      exact lays_of fun x hx => (pur_all n x (h x hx)).2.1
    · simp only [D.py, PyData.depth]
      have := deps_of fun x hx => (pur_all n x (h x hx)).2.2
      omega
  | 0, .obj _ _ _, h => by cases h
  | 0, .adr _, h => by cases h
  | 0, .dic, h => by cases h
  | 0, .frl _, h => by cases h
  | 0, .ftp _, h => by cases h
  | 0, .dct _ _ _, h => by cases h
  | _ + 1, .dct _ _ _, h => by cases h
  | _ + 1, .obj _ _ _, h => by cases h
  | _ + 1, .adr _, h => by cases h
  | _ + 1, .dic, h => by cases h
  | _ + 1, .frl _, h => by cases h
  | _ + 1, .ftp _, h => by cases h
theorem pur_shaped {n : Nat} {d : D} (hn : n ≤ 64) (h : pur n d = true) : SeqAt.shaped d.py = true := by
  obtain ⟨_, h1, h2⟩ := pur_all n d h
  unfold SeqAt.shaped
  rw [Bool.and_eq_true]
  exact ⟨h1, decide_eq_true (by omega)⟩
theorem pur_up : ∀ {n k : Nat} {d : D}, n ≤ k → pur n d = true → pur k d = true
  | n, k, .non, _, _ => by cases k <;> rfl
  | n, k, .bl _, _, _ => by cases k <;> rfl
  | n, k, .int _, _, _ => by cases k <;> rfl
  | n, k, .str s, _, h => by cases n <;> cases k <;> exact h
  | 0, _, .tup _, _, h => by cases h
  | 0, _, .lst _, _, h => by cases h
  | n + 1, 0, .tup xs, hk, _ => absurd hk (by omega)
  | n + 1, 0, .lst xs, hk, _ => absurd hk (by omega)
  | n + 1, k + 1, .tup xs, hk, h => List.all_eq_true.mpr fun x hx => pur_up (by omega) (List.all_eq_true.mp (show xs.all (pur n) = true from h) x hx)
  | n + 1, k + 1, .lst xs, hk, h => List.all_eq_true.mpr fun x hx => pur_up (by omega) (List.all_eq_true.mp (show xs.all (pur n) = true from h) x hx)
  | 0, _, .obj _ _ _, _, h => by cases h
  | 0, _, .adr _, _, h => by cases h
  | 0, _, .dic, _, h => by cases h
  | 0, _, .frl _, _, h => by cases h
  | 0, _, .ftp _, _, h => by cases h
  | 0, _, .dct _ _ _, _, h => by cases h
  | _ + 1, _, .dct _ _ _, _, h => by cases h
  | _ + 1, _, .obj _ _ _, _, h => by cases h
  | _ + 1, _, .adr _, _, h => by cases h
  | _ + 1, _, .dic, _, h => by cases h
  | _ + 1, _, .frl _, _, h => by cases h
  | _ + 1, _, .ftp _, _, h => by cases h
theorem pur_N (l : List Nat) : pur 1 (tupN l) = true := List.all_eq_true.mpr fun x hx => by obtain ⟨k, _, rfl⟩ := List.mem_map.mp hx; rfl
theorem pur_lN (l : List Nat) : pur 1 (lstN l) = true := List.all_eq_true.mpr fun x hx => by obtain ⟨k, _, rfl⟩ := List.mem_map.mp hx; rfl
theorem pur_tup {n : Nat} {xs : List D} (h : ∀ x ∈ xs, pur n x = true) : pur (n + 1) (.tup xs) = true := List.all_eq_true.mpr h
theorem pur_lst {n : Nat} {xs : List D} (h : ∀ x ∈ xs, pur n x = true) : pur (n + 1) (.lst xs) = true := List.all_eq_true.mpr h
section
variable {K : PySem.W.Frag} {m : Mo} {Γ : G} {te : TE} {d : D}
theorem o_eqP {n : Nat} {a b : D} (hn : n ≤ 60) (ha : pur n a = true) (hb : pur n b = true) : Op1 m K (rEqD K) a b (.bl (PyData.eqv a.py b.py)) := o_eqD (pur_all n a ha).1 (pur_all n b hb).1 (pur_shaped (by omega) ha) (pur_shaped (by omega) hb)
theorem o_neP {n : Nat} {a b : D} (hn : n ≤ 60) (ha : pur n a = true) (hb : pur n b = true) : Op1 m K (rNeD K) a b (.bl (!PyData.eqv a.py b.py)) := o_neD (pur_all n a ha).1 (pur_all n b hb).1 (pur_shaped (by omega) ha) (pur_shaped (by omega) hb)
theorem eqv_self {n : Nat} {a : D} (ha : pur n a = true) : PyData.eqv a.py a.py = true := SeqAt.eqv_refl _ (pur_all n a ha).2.1
theorem o_eqS {n : Nat} {a : D} (hn : n ≤ 60) (ha : pur n a = true) : Op1 m K (rEqD K) a a (.bl true) := by
  have h := o_eqP (m := m) (K := K) hn ha ha
  rw [eqv_self ha] at h
  exact h
theorem o_neS {n : Nat} {a : D} (hn : n ≤ 60) (ha : pur n a = true) : Op1 m K (rNeD K) a a (.bl false) := by
  have h := o_neP (m := m) (K := K) hn ha ha
  rw [eqv_self ha] at h
  exact h
theorem o_inP {neg : Bool} {n : Nat} {a b : D} {ds : List D} (hn : n ≤ 60) (hb : isSeq b ds) (ha : pur n a = true) (hd : ∀ x ∈ ds, pur n x = true) : Op1 m K (rInS K neg) a b (.bl (if neg then !((D.pys ds).any fun z => PyData.eqv z a.py) else (D.pys ds).any fun z => PyData.eqv z a.py)) :=
  o_inS hb (pur_all n a ha).1 (plains_of fun x hx => (pur_all n x (hd x hx)).1) (pur_shaped (by omega) ha) (by
    have h : pur (n + 1) (.lst ds) = true := pur_lst hd
    exact pur_shaped (n := n + 1) (by omega) h)
end
end Tx
namespace C8
open PySem PySem.Spec PyProof.Rows L2 SX
/-- a property of the class at C -/
structure PrM (P : Program) (w : World) (K : PySem.W.Frag) (mg : Str → Option Value) (base : Heap) (k : Nat) (C : Addr) (f : Str) (sp : Sp) : Prop where
  ex : ∃ (p g : Addr) (fd : FuncData) (ps : List Str), Cls K C ∧ PropOf K C f p g ∧ FnOk P w K mg base CX0 k g fd ps sp ∧ Binds K fd ps []
theorem pe_prM {X : Cx} {k j : Nat} {C : Addr} {f : Str} {sp : Sp} {pos : Pos} {e : Expr} {ta : TE} (c : PrM X.prog X.w X.K X.mg X.base k C f sp) (hr : Room j X.A) (hk : k + 1 ≤ j) (he : PE X e ta) (hab : attributeBase e f X.env (eval e X.env) = eval e X.env := by rfl) : PE X (.Attribute e f pos) (tProp C sp [] E0 ta) := by
  obtain ⟨p, g, fd, ps, c, hp, F, b⟩ := c.ex
  exact pe_prop he c hp F (hr.mono hk) b .nil pass0 hab
end C8

set_option Elab.async false
set_option linter.all false
set_option maxRecDepth 100000
set_option maxHeartbeats 1000000
set_option autoImplicit false
/-! Tx: the pouch that the laws draw from -/
namespace Tx
open PySem L2
def isI (d : D) : Prop := ∃ a : Int, d = .int a
def inI (lo hi : Int) (d : D) : Prop := ∃ a : Int, d = .int a ∧ lo ≤ a ∧ a < hi
theorem inI.isI {lo hi : Int} {d : D} (h : inI lo hi d) : isI d := let ⟨a, e, _⟩ := h; ⟨a, e⟩
section
variable {K : PySem.W.Frag} {m : Mo} {Γ : G} {ta tb te tv : TE} {ts tw : TS} {d : D} {ds : List D} {p : Addr} {O : Out} {S : D → Prop}
theorem OpN.mono {r : R2} {a b : D} {S S' : D → Prop} (h : OpN m K r a b S) (k : ∀ d, S d → S' d) : OpN m K r a b S' := fun x y H I rx ry Q q => h x y H I rx ry Q fun v d H' s => q v d H' (k d s)
theorem CaN.mono {r : List V → Hp → VK → Prop} {S S' : D → Prop} (h : CaN m K r ds S) (k : ∀ d, S d → S' d) : CaN m K r ds S' := fun vs H I rs Q q => h vs H I rs Q fun v d H' s => q v d H' (k d s)
theorem Ev1.n (h : Ev1 m K te Γ d) (s : S d) : EvN m K te Γ S := h.mono fun _ e => e ▸ s
theorem en_modN {n : Int} (ha : EvN m K ta Γ isI) (hb : Ev1 m K tb Γ (.int n)) (hn : 0 < n) : EvN m K (tOp (rI (fun _ j => 0 < j) fun i j => .int (i % j)) ta tb) Γ (inI 0 n) :=
  en_op ha hb fun a b sa sb => by
    obtain ⟨a, rfl⟩ := sa
    subst sb
    exact OpN.mono (o_intC (g := fun i j => i % j) hn) fun d e => ⟨_, e, Int.emod_nonneg _ (by omega), Int.emod_lt_of_pos _ hn⟩
theorem en_fdivN {n : Int} (ha : EvN m K ta Γ isI) (hb : Ev1 m K tb Γ (.int n)) (hn : CDiv 0 n) : EvN m K (tOp (rI CDiv fun i j => .int (i / j)) ta tb) Γ isI :=
  en_op ha hb fun a b sa sb => by
    obtain ⟨a, rfl⟩ := sa
    subst sb
    exact OpN.mono (o_intC (g := fun i j => i / j) hn) fun d e => ⟨_, e⟩
theorem en_addN (ha : EvN m K ta Γ isI) (hb : EvN m K tb Γ isI) : EvN m K (tOp (rAddU K) ta tb) Γ isI :=
  en_op ha hb fun a b sa sb => by
    obtain ⟨a, rfl⟩ := sa
    obtain ⟨b, rfl⟩ := sb
    exact OpN.mono o_addI fun d e => ⟨_, e⟩
theorem en_mulN {A B : D → Prop} (ha : EvN m K ta Γ A) (hb : EvN m K tb Γ B) (h : ∀ a b, A a → B b → ∃ i j, a = .int i ∧ b = .int j ∧ CMul i j) : EvN m K (tOp (rMulU K) ta tb) Γ isI :=
  en_op ha hb fun a b sa sb => by
    obtain ⟨i, j, rfl, rfl, hc⟩ := h a b sa sb
    exact OpN.mono (o_mulI hc) fun d e => ⟨_, e⟩
theorem en_intN (h : EvN m K te Γ S) (k : ∀ d, S d → isI d) : EvN m K (tCB rInt (tCons te tNil)) Γ S :=
  en_cb (T := fun ds => ∃ d, ds = [d] ∧ S d) (ea_consN h (T := fun x => x = []) ea_nil fun d ds s e => ⟨d, by rw [e], s⟩) fun ds ⟨d, e, s⟩ => by
    obtain ⟨i, e2⟩ := k d s
    subst e; subst e2
    exact CaN.mono c_intI fun d e => e ▸ s
/-- pouch[i] -/
theorem en_pIx {i : Int} (hp : HasP m p) (h : Ev1 m K te Γ (.adr p)) (hi : 0 ≤ i ∧ i ≤ 2) : EvN m K (tOp (rIx K) te (tC (.int i))) Γ isI := fun σ H e Q q =>
  h σ H e _ fun v d' H1 s r1 rv => by
    subst s
    obtain rfl := rv.adrE
    obtain ⟨a, b, c, hx⟩ := hp.i H1 (m.inv r1 e.i)
    have : i = 0 ∨ i = 1 ∨ i = 2 := by omega
    rcases this with rfl | rfl | rfl
    · exact .inl ⟨p, _, 0, .int a, rfl, rfl, SqL.of hx, rfl, q _ _ H1 ⟨a, rfl⟩ r1 (.int _)⟩
    · exact .inl ⟨p, _, 1, .int b, rfl, rfl, SqL.of hx, rfl, q _ _ H1 ⟨b, rfl⟩ r1 (.int _)⟩
    · exact .inl ⟨p, _, 2, .int c, rfl, rfl, SqL.of hx, rfl, q _ _ H1 ⟨c, rfl⟩ r1 (.int _)⟩
/-- pouch[i] = e; rest -/
theorem sq_pSet {i : Int} (hp : HasP m p) (hv : EvN m K tv Γ isI) (h : Ev1 m K te Γ (.adr p)) (hi : 0 ≤ i ∧ i ≤ 2) (k : SG m K tw Γ O) : SG m K (tSeq (tAsg tv (gSub te (tC (.int i)) rSetL)) tw) Γ O := fun σ H e E M =>
  hv σ H e _ fun v d H1 s r1 rv => h σ H1 (e.mv r1) _ fun w d' H2 s2 r2 rw' => by
    subst s2
    obtain rfl := rw'.adrE
    obtain ⟨x, rfl⟩ := s
    obtain rfl := rv.intE
    have e2 := (e.mv r1).mv r2
    obtain ⟨a, b, c, hx⟩ := hp.i H2 e2.i
    have go : ∀ a' b' c' : Int, k = k → tw E σ (upd H2 p (.lst [.int a', .int b', .int c'])) := fun a' b' c' _ => by
      have r3 : m.R H2 (upd H2 p (.lst [.int a', .int b', .int c'])) := hp.r _ _ ⟨fun a o n e => by rw [upd_ne n]; exact e, fun _ => ⟨a', b', c', upd_same⟩⟩
      exact k σ _ (e2.mv r3) E (M.mv (m.trans r1 (m.trans r2 r3)))
    have : i = 0 ∨ i = 1 ∨ i = 2 := by omega
    rcases this with rfl | rfl | rfl
    · exact ⟨p, _, 0, 0, rfl, rfl, hx, rfl, go x b c rfl⟩
    · exact ⟨p, _, 1, 1, rfl, rfl, hx, rfl, go a x c rfl⟩
    · exact ⟨p, _, 2, 2, rfl, rfl, hx, rfl, go a b x rfl⟩
/-! a new pouch -/
def spNew (K : PySem.W.Frag) (pre : List Int → Int → Prop) : Sp := fun vs H Q _ => ∃ (F : Addr → Prop) (xs : List Int) (i : Int), RpAll K F H vs [.frl (xs.map D.int), .int i] ∧ pre xs i ∧ ∀ p H', H p = none → Same H H' → PI H' p → Q (.ref p) H'
theorem ints_any {F F' : Addr → Prop} {H : Hp} : ∀ {xs : List Int} {vs : List V}, RpAll K F H vs (xs.map D.int) → RpAll K F' H vs (xs.map D.int)
  | [], _, h => by cases h; exact .nil
  | x :: xs, _, h => by
    cases h with
    | cons r t =>
      obtain rfl := r.intE
      exact .cons (.int _) (ints_any t)
theorem en_newcall {F : Addr → Prop} {pre : List Int → Int → Prop} {E : XK} {ta : TA} {xs : List Int} {i : Int} (h : EvA1 (pureMo F) K ta Γ [.frl (xs.map D.int), .int i]) (hp : pre xs i) : EvNew (pureMo F) K (tCall (spNew K pre) [] E ta) Γ := fun σ H e Q q =>
  h σ H e _ fun vs ds H1 s r1 rs => by
    subst s
    exact ⟨F, xs, i, by rw [List.append_nil]; exact rs, hp, fun p H' hn sm hpi => q p H' (by
      cases z : H p with
      | none => rfl
      | some o => rw [r1 p o z] at hn; cases hn) (r1.trans sm) hpi⟩
variable {P : Program} {w : World} {mg : Str → Option Value} {base : Heap}
theorem fn_new {x qual : Str} {st : Stmt} {f : Addr} {fd : FuncData} {N ps : List Str} {k : Nat} {pre : List Int → Int → Prop} (Fu : Fun K x qual st f fd) (Sc : FnScope N ps (defScope st)) (hl : ps.length = 2)
    (body : ∀ (cdv : Value) (A : Around) (outer : List Env) (s : Shared) (H : Hp) (E : XK), Room k (A.deeper (PyProof.Rows.envOfC qual (defScope st) s.heap.objs.size f cdv)) →
      ∃ t, PSs (cxOf CX0 P w K mg base N qual (defScope st) f cdv A outer s H E).nox (defBody st) t ∧ ∀ (F : Addr → Prop) (xs : List Int) (i : Int), pre xs i → SG (pureMo F) K t (startG N [.frl (xs.map D.int), .int i]) { nx := fun _ => False, rt := fun d => ∃ a b c : Int, d = .lst [.int a, .int b, .int c] }) :
    FnOk P w K mg base CX0 (k + 1) f fd ps (spNew K pre) := by
  refine Fu.ok Sc (fun vs H Q E h => ?_) (fun cdv A outer s H vs Q E hr h => ?_)
  · obtain ⟨F, xs, i, ra, _⟩ := h
    rw [ra.len, hl]
    rfl
  · obtain ⟨F, xs, i, ra, hp, q⟩ := h
    obtain ⟨t, ht, hs⟩ := body cdv A outer s H E hr
    refine ⟨t, ht, ?_⟩
    have ra' : RpAll K (fun a => H a ≠ none ∧ ∀ o vs, H a ≠ some (.frz o (.lst vs))) H vs [.frl (xs.map D.int), .int i] := by
      cases ra with
      | cons r t =>
        refine .cons ?_ ?_
        · cases r with
          | frl n h tt => exact .frl (fun z => z.2 _ _ h) h (ints_any tt)
          | kfrl h tt => exact .kfrl h (ints_any tt)
        · cases t with
          | cons r2 t2 =>
            cases t2
            obtain rfl := r2.intE
            exact .cons (.int _) .nil
    refine hs _ xs i hp _ H (er_start (m := pureMo _) (fun a f => f.1) ra' N) _ ⟨fun _ _ _ o _ _ => o.elim, fun d v H' o r rv => ?_, fun _ _ _ o => o.elim, fun _ _ _ o => o.elim⟩
    obtain ⟨a, b, c, rfl⟩ := o
    cases rv with
    | lst n h t =>
      rename_i p vs'
      have hn : H p = none := by
        cases z : H p with
        | none => rfl
        | some o =>
          have z2 := r p o z
          rw [h] at z2
          refine absurd (⟨fun y => (by rw [z] at y; cases y), fun o' ws y => ?_⟩ : H p ≠ none ∧ ∀ o vs, H p ≠ some (.frz o (.lst vs))) n
          rw [z] at y
          rw [Option.some.inj y] at z2
          cases z2
      refine q p H' hn r ⟨a, b, c, ?_⟩
      cases t with
      | cons r1 t =>
        cases t with
        | cons r2 t =>
          cases t with
          | cons r3 t =>
            cases t
            obtain rfl := r1.intE
            obtain rfl := r2.intE
            obtain rfl := r3.intE
            exact h
end
end Tx

set_option Elab.async false
set_option linter.all false
set_option maxRecDepth 100000
set_option maxHeartbeats 1000000
set_option autoImplicit false
/-! Tx: a list of one's own that grows -/
namespace Tx
open PySem L2
section
variable {K : PySem.W.Frag} {m : Mo} {Γ : G} {ta tb te tv : TE} {tt : TT} {ts tw : TS} {d : D} {ds : List D} {l : Addr} {H0 : Hp}
theorem itx_rng {ta : TA} {n : Nat} (h : EvA1 m K ta Γ [dN n]) (hn : n ≤ 100000) : ItX m K (iRng1 ta) Γ ((List.range n).map dN) := fun σ H e Q q =>
  h σ H e _ fun vs ds H1 s r1 rs => by
    subst s
    cases rs with
    | cons r rs =>
      cases rs
      refine ⟨n, by rw [r.intE], by omega, by omega, q _ H1 r1 fun H2 st => ⟨fun i hi => ?_, ?_, fun i x H' hi y => ?_⟩⟩
      · rw [List.length_map, List.length_range] at hi
        show i < (n : Int).toNat
        omega
      · rw [List.length_map, List.length_range]
        show (n : Int).toNat ≤ n
        omega
      · rw [List.length_map, List.length_range] at hi
        obtain ⟨e, ex⟩ := y
        subst e; subst ex
        exact ⟨rfl, dN i, by rw [List.getElem?_map, List.getElem?_range hi]; rfl, by rw [Int.zero_add]; exact .int _⟩
structure OutO where
  nx : G → List D → Prop
  rt : D → Prop
variable {O O' : OutO}
structure MeetsO (m : Mo) (K : PySem.W.Frag) (l : Addr) (H0 H : Hp) (O : OutO) (E : Ends) : Prop where
  nx : ∀ Γ' ds' σ' H' vs', O.nx Γ' ds' → m.R H0 H' → StK (m.ext l) H H' → ER (m.ext l) K Γ' σ' H' → H' l = some (.lst vs') → RpAll K (m.ext l).F H' vs' ds' → E.nx σ' H'
  rt : ∀ d v H', O.rt d → m.R H0 H' → Rp K m.F H' v d → E.rt v H'
theorem StK.trans {H H1 H2 : Hp} (a : StK m H H1) (b : StK m H1 H2) : StK m H H2 := fun x o n e => b x o n (a x o n e)
theorem MeetsO.mv {H H1 : Hp} {E : Ends} (M : MeetsO m K l H0 H O E) (s : StK (m.ext l) H H1) : MeetsO m K l H0 H1 O E := ⟨fun Γ' ds' σ' H' vs' o r st => M.nx Γ' ds' σ' H' vs' o r (s.trans st), M.rt⟩
/-- a statement, while the list at l is one's own; H0: the heap ahead of it -/
def SGo (m : Mo) (K : PySem.W.Frag) (l : Addr) (H0 : Hp) (ts : TS) (Γ : G) (ds : List D) (O : OutO) : Prop :=
  H0 l = none → m.I H0 → ∀ σ H vs, m.R H0 H → ER (m.ext l) K Γ σ H → H l = some (.lst vs) → RpAll K (m.ext l).F H vs ds → ∀ E : Ends, MeetsO m K l H0 H O E → ts E σ H
theorem nFl (h0 : H0 l = none) (i0 : m.I H0) : ¬ m.F l := fun f => m.fa i0 f h0
/-- what is read sees the list as data -/
theorem er_dis {i : Nat} {σ : L2.St} {H : Hp} {vs : List V} (h0 : H0 l = none) (i0 : m.I H0) (e : ER (m.ext l) K Γ σ H) (hi : Γ[i]? = some (some (.adr l))) (hl : H l = some (.lst vs)) (ra : RpAll K (m.ext l).F H vs ds) : ER m K (Γ.set i (some (.lst ds))) σ H := by
  refine ⟨e.i.1, by rw [List.length_set, e.len], fun j d h => ?_⟩
  by_cases z : i = j
  · subst z
    have hlt : i < Γ.length := (List.getElem?_eq_some_iff.mp hi).1
    rw [List.getElem?_set_self hlt] at h
    injection h with h
    injection h with h
    subst h
    obtain ⟨v, h1, h2⟩ := e.at_ i _ hi
    obtain rfl := h2.adrE
    exact ⟨_, h1, .lst (nFl h0 i0) hl (ra.weak fun a f => .inl f)⟩
  · rw [List.getElem?_set_ne z] at h
    obtain ⟨v, h1, h2⟩ := e.at_ j d h
    exact ⟨v, h1, h2.weak fun a f => .inl f⟩
theorem so_dis {i : Nat} {O : Out} (hi : Γ[i]? = some (some (.adr l))) (k : SG m K ts (Γ.set i (some (.lst ds))) { nx := fun _ => False, rt := O.rt }) : SGo m K l H0 ts Γ ds { nx := fun _ _ => False, rt := O.rt } := fun h0 i0 σ H vs r e hl ra E M =>
  k σ H (er_dis h0 i0 e hi hl ra) E ⟨fun _ _ _ o => o.elim, fun d v H' o r' rv => M.rt d v H' o (m.trans r r') rv, fun _ _ _ o => o.elim, fun _ _ _ o => o.elim⟩
theorem so_next (h : O.nx Γ ds) : SGo m K l H0 tNext Γ ds O := fun h0 i0 σ H vs r e hl ra E M => M.nx _ _ _ _ _ h r (fun _ _ _ e => e) e hl ra
theorem so_seq (N : G → List D → Prop) (h1 : SGo m K l H0 ts Γ ds { O with nx := N }) (h2 : ∀ Γ' ds', N Γ' ds' → SGo m K l H0 tw Γ' ds' O) : SGo m K l H0 (tSeq ts tw) Γ ds O := fun h0 i0 σ H vs r e hl ra E M =>
  h1 h0 i0 σ H vs r e hl ra _ ⟨fun Γ' ds' σ' H' vs' o r' st e' hl' ra' => h2 Γ' ds' o h0 i0 σ' H' vs' r' e' hl' ra' E (M.mv st), M.rt⟩
theorem so_if {i : Nat} {b : Bool} (hi : Γ[i]? = some (some (.adr l))) (h : EvT1 m K tt (Γ.set i (some (.lst ds))) b) (h1 : b = true → SGo m K l H0 ts Γ ds O) (h2 : b = false → SGo m K l H0 tw Γ ds O) : SGo m K l H0 (tIfS tt ts tw) Γ ds O := fun h0 i0 σ H vs r e hl ra E M =>
  h σ H (er_dis h0 i0 e hi hl ra) _ fun b' H1 s r1 => by
    subst s
    have e1 : ER (m.ext l) K Γ σ H1 := e.mv (m := m.ext l) r1
    have hl1 : H1 l = some (.lst vs) := m.keep r1 e.i.1 l _ (nFl h0 i0) hl
    have ra1 : RpAll K (m.ext l).F H1 vs ds := ra.mv ((m.ext l).keep r1 e.i)
    have st1 : StK (m.ext l) H H1 := fun a o n q => (m.ext l).keep r1 e.i a o n q
    cases b' with
    | true => exact h1 rfl h0 i0 σ H1 vs (m.trans r r1) e1 hl1 ra1 E (M.mv st1)
    | false => exact h2 rfl h0 i0 σ H1 vs (m.trans r r1) e1 hl1 ra1 E (M.mv st1)
theorem so_appN {i : Nat} {S : D → Prop} (hi : Γ[i]? = some (some (.adr l))) (h : EvN (m.ext l) K te Γ S) (hz : ds.length ≤ 100000) (k : ∀ d, S d → O.nx Γ (ds ++ [d])) : SGo m K l H0 (tDrop (tBM K "list" rAppend (tVar i) (tCons te tNil))) Γ ds O := fun h0 i0 σ H vs r e hl ra E M => by
  obtain ⟨w, h1, h2⟩ := e.at_ i _ hi
  obtain rfl := h2.adrE
  refine ⟨_, h1, .inl ⟨rfl, vs, SqL.of hl⟩, ?_⟩
  refine h σ H e _ fun v d' H1 s r1 rv => ?_
  have hl1 : H1 l = some (.lst vs) := m.keep r1 e.i.1 l _ (nFl h0 i0) hl
  have ra1 : RpAll K (m.ext l).F H1 vs ds := ra.mv ((m.ext l).keep r1 e.i)
  have e1 := e.mv r1
  refine ⟨l, vs, v, rfl, rfl, hl1, Nat.lt_of_lt_of_le (show vs.length < 100001 by have := ra.len; omega) (by decide), ?_⟩
  have mv : ∀ a o, ¬ (m.ext l).F a → H1 a = some o → (upd H1 l (.lst (vs ++ [v]))) a = some o := fun a o n q => by rw [upd_ne (fun z => n (.inr z))]; exact q
  have rr : m.R H0 (upd H1 l (.lst (vs ++ [v]))) := m.chg i0 (m.trans r r1) h0
  refine M.nx Γ _ σ _ (vs ++ [v]) (k d' s) rr (fun a o n q => mv a o n ((m.ext l).keep r1 e.i a o n q)) ⟨⟨m.inv rr i0, by rw [upd_same]; exact fun z => nomatch z⟩, e1.len, fun j d h => let ⟨v, h1, h2⟩ := e1.at_ j d h; ⟨v, h1, h2.go fun a o n q => ⟨n, mv a o n q⟩⟩⟩ upd_same ((ra1.append (.cons rv .nil)).mv mv)
theorem so_app {i : Nat} (hi : Γ[i]? = some (some (.adr l))) (h : Ev1 (m.ext l) K te Γ d) (hz : ds.length ≤ 100000) (k : O.nx Γ (ds ++ [d])) : SGo m K l H0 (tDrop (tBM K "list" rAppend (tVar i) (tCons te tNil))) Γ ds O := so_appN hi h hz fun _ e => e ▸ k
theorem so_for {wi : TI} {g : TG} {xs : List D} (hi : ItX (m.ext l) K wi Γ xs) (W : Nat → G → List D → Prop) (hw : W 0 Γ ds)
    (hs : ∀ i d Γ' ds', xs[i]? = some d → W i Γ' ds' → ∃ Γ2 js, TgD (m.ext l) K g Γ' d js Γ2 ∧ SGo m K l H0 ts Γ2 ds' { nx := W (i + 1), rt := O.rt }) (hd : ∀ Γ' ds', W xs.length Γ' ds' → O.nx Γ' ds') : SGo m K l H0 (tFor wi g ts) Γ ds O := fun h0 i0 σ H vs r e hl ra E M => by
  refine hi σ H e _ fun J H1 r1 wk => ?_
  have e1 := e.mv r1
  have r01 : m.R H0 H1 := m.trans r r1
  have hl1 : H1 l = some (.lst vs) := m.keep r1 e.i.1 l _ (nFl h0 i0) hl
  have ra1 : RpAll K (m.ext l).F H1 vs ds := ra.mv ((m.ext l).keep r1 e.i)
  refine ⟨fun i k σ' H' => k = xs.length - i ∧ i ≤ xs.length ∧ m.R H0 H' ∧ StK (m.ext l) H1 H' ∧ ∃ Γ' ds' vs', W i Γ' ds' ∧ ER (m.ext l) K Γ' σ' H' ∧ H' l = some (.lst vs') ∧ RpAll K (m.ext l).F H' vs' ds', ⟨_, rfl, Nat.zero_le _, r01, fun _ _ _ e => e, Γ, ds, vs, hw, e1, hl1, ra1⟩, ?_⟩
  rintro i k σ' H' ⟨rfl, hle, r', st, Γ', ds', vs', w, e', hl', ra'⟩
  obtain ⟨go, stop, yld⟩ := wk H' st
  by_cases hlt : i < xs.length
  · refine .inr ⟨go i hlt, fun σ3 H3 => m.R H0 H3 ∧ StK (m.ext l) H1 H3 ∧ ∃ Γ3 ds3 vs3, W (i + 1) Γ3 ds3 ∧ ER (m.ext l) K Γ3 σ3 H3 ∧ H3 l = some (.lst vs3) ∧ RpAll K (m.ext l).F H3 vs3 ds3, fun σ3 H3 q => ⟨xs.length - (i + 1), by omega, rfl, hlt, q⟩, fun x H2 y => ?_⟩
    obtain ⟨e2, d, hd', rx⟩ := yld i x H2 hlt y
    subst e2
    obtain ⟨Γ2, js, tg, body⟩ := hs i d Γ' ds' hd' w
    refine tg x σ' H2 e' rx _ fun σ3 H3 e3 r3 _ => ?_
    have hl3 : H3 l = some (.lst vs') := m.keep r3 e'.i.1 l _ (nFl h0 i0) hl'
    have ra3 : RpAll K (m.ext l).F H3 vs' ds' := ra'.mv ((m.ext l).keep r3 e'.i)
    have st3 : StK (m.ext l) H1 H3 := fun a o n q => (m.ext l).keep r3 e'.i a o n (st a o n q)
    -- the body keeps what stood in H1: by its own promise about every address that is not forbidden
    refine body h0 i0 σ3 H3 vs' (m.trans r' r3) e3 hl3 ra3 _ ⟨fun Γ4 ds4 σ4 H4 vs4 o r4 st4 e4 hl4 ra4 => ⟨r4, st3.trans st4, Γ4, ds4, vs4, o, e4, hl4, ra4⟩, fun d v H4 o r4 rv => M.rt d v H4 o r4 rv⟩
  · have e0 : i = xs.length := by omega
    subst e0
    exact .inl ⟨stop, M.nx Γ' ds' σ' H' vs' (hd Γ' ds' w) r' (fun a o n q => st a o n ((m.ext l).keep r1 e.i a o n q)) e' hl' ra'⟩
/-- x = [e, ..]; rest -/
theorem sq_newL {i : Nat} {ta : TA} {O : Out} (h : EvA1 m K ta Γ ds) (hz : ds.length ≤ 100000) (hb : i < Γ.length) (k : ∀ l H0, SGo m K l H0 tw (Γ.set i (some (.adr l))) ds { nx := fun _ _ => False, rt := O.rt }) : SG m K (tSeq (tAsg (tLst ta) (gName i)) tw) Γ O := fun σ H e E M =>
  h σ H e _ fun vs ds' H1 s r1 rs => ⟨Nat.le_trans (show vs.length ≤ 100000 by have e : ds' = ds := s; have := rs.len; rw [e] at this; omega) (by decide), fun l hl => by
    subst s
    have e1 := e.mv r1
    have rN : m.R H1 (upd H1 l (.lst vs)) := m.grow e1.i (same_new hl)
    have eX : ER (m.ext l) K Γ σ (upd H1 l (.lst vs)) := e1.ext hl rN (by rw [upd_same]; exact fun z => nomatch z)
    have rs' : RpAll K (m.ext l).F (upd H1 l (.lst vs)) vs ds' := Rp.goAll (fun a o n q => ⟨fun z => z.elim n fun z => (by rw [z, hl] at q; cases q), same_new hl a o q⟩) rs
    exact k l H1 hl e1.i _ _ vs rN (eX.set i (.adr l)) upd_same rs' E ⟨fun _ _ _ _ _ o => o.elim, fun d v H' o r rv => M.rt d v H' o (m.trans r1 r) rv⟩⟩
/-- x, y = [], e; rest -/
theorem sq_newL2 {i j : Nat} {te : TE} {S : D → Prop} {O : Out} (h : ∀ l, EvN (m.ext l) K te Γ S) (k : ∀ l H0 d, S d → SGo m K l H0 tw ((Γ.set i (some (.adr l))).set j (some d)) [] { nx := fun _ _ => False, rt := O.rt }) : SG m K (tSeq (tAsg (tTup (tCons (tLst tNil) (tCons te tNil))) (gTup K 2 (gCons (gName i) (gCons (gName j) gNil)))) tw) Γ O := fun σ H e E M =>
  ⟨by decide, fun l hl => by
    have rN : m.R H (upd H l (.lst [])) := m.grow e.i (same_new hl)
    have eX : ER (m.ext l) K Γ σ (upd H l (.lst [])) := e.ext hl rN (by rw [upd_same]; exact fun z => nomatch z)
    refine h l σ _ eX _ fun v d H1 s r1 rv => ?_
    have nF : ¬ m.F l := fun f => m.fa e.i f hl
    have e1 := eX.mv r1
    have hl1 : H1 l = some (.lst []) := m.keep r1 eX.i.1 l _ nF upd_same
    refine ⟨Nat.le_trans (show _ ≤ 2 from Nat.le_refl 2) (by decide), fun t ht => ?_⟩
    have hlt : l ≠ t := fun z => by rw [z, ht] at hl1; cases hl1
    have r2 : m.R H1 (upd H1 t (.tup [.ref l, v])) := m.grow e1.i.1 (same_new ht)
    have e2 := e1.mv (m := m.ext l) r2
    have rr := m.trans rN (m.trans r1 r2)
    refine ⟨t, [.ref l, v], rfl, .inl (.inl upd_same), rfl, _, _, rfl, _, _, rfl, rfl, ?_⟩
    exact k l H d s hl e.i _ _ [] rr ((e2.set i (.adr l)).set j (rv.mv fun a o _ q => same_new ht a o q)) (by rw [upd_ne hlt]; exact hl1) .nil E ⟨fun _ _ _ _ _ o => o.elim, fun d v H' o r rv => M.rt d v H' o r rv⟩⟩
theorem LcR.sub {T : D → Bool → Prop} {P : Nat → Prop} : ∀ {xs : List Nat} {ys : List D}, LcR T (fun x y => y = x) (xs.map dN) ys → (∀ x ∈ xs, T (dN x) true → P x) → ∃ zs : List Nat, zs.Sublist xs ∧ ys = zs.map dN ∧ ∀ z ∈ zs, P z
  | [], _, h, _ => by cases h; exact ⟨[], .slnil, rfl, fun z hz => nomatch hz⟩
  | x :: xs, _, h, k => by
    rw [List.map_cons] at h
    cases h with
    | no t h =>
      obtain ⟨zs, h1, h2, h3⟩ := LcR.sub h fun y hy => k y (List.mem_cons_of_mem _ hy)
      exact ⟨zs, h1.cons _, h2, h3⟩
    | yes t v h =>
      obtain ⟨zs, h1, h2, h3⟩ := LcR.sub h fun y hy => k y (List.mem_cons_of_mem _ hy)
      refine ⟨x :: zs, h1.cons_cons _, by rw [h2, v]; rfl, fun z hz => ?_⟩
      rcases List.mem_cons.mp hz with e | hz
      · rw [e]; exact k x List.mem_cons_self t
      · exact h3 z hz
theorem LcR.nats {V' : D → D → Prop} {P : Nat → Prop} : ∀ {xs ys : List D}, LcR (fun _ b => b = true) V' xs ys → (∀ x ∈ xs, ∀ y, V' x y → ∃ k, y = dN k ∧ P k) → ∃ zs : List Nat, ys = zs.map dN ∧ zs.length = xs.length ∧ ∀ z ∈ zs, P z
  | [], _, h, _ => by cases h; exact ⟨[], rfl, rfl, fun z hz => nomatch hz⟩
  | x :: xs, _, h, k => by
    cases h with
    | no t h => cases t
    | yes t v h =>
      obtain ⟨zs, h1, h2, h3⟩ := LcR.nats h fun y hy => k y (List.mem_cons_of_mem _ hy)
      obtain ⟨n, e, p⟩ := k x List.mem_cons_self _ v
      refine ⟨n :: zs, by rw [h1, e]; rfl, by rw [List.length_cons, h2, List.length_cons], fun z hz => ?_⟩
      rcases List.mem_cons.mp hz with e | hz
      · rw [e]; exact p
      · exact h3 z hz
theorem sq_asgT {g : TG} {S : D → Prop} {O : Out} {tw : TS} (h : EvN m K te Γ S) (k : ∀ d, S d → ∃ js Γ2, TgD m K g Γ d js Γ2 ∧ SG m K tw Γ2 O) : SG m K (tSeq (tAsg te g) tw) Γ O := fun σ H e E M =>
  h σ H e _ fun v d H1 s r1 rv => by
    obtain ⟨js, Γ2, tg, hk⟩ := k d s
    exact tg v σ H1 (e.mv r1) rv _ fun σ2 H2 e2 r2 _ => hk σ2 H2 e2 E (M.mv (m.trans r1 r2))
end
end Tx

set_option Elab.async false
set_option linter.all false
set_option maxRecDepth 100000
set_option maxHeartbeats 1000000
set_option autoImplicit false
/-! Tx: own methods behind len, str, in, ==, by a relation -/
namespace Tx
open PySem PySem.Spec PyProof.Rows L2
structure OwnK (P : Program) (w : World) (K : PySem.W.Frag) (mg : Str → Option Value) (base : Heap) (C : Addr) (nm : Str) (n : Nat) (sp : Sp) : Prop where
  ex : ∃ f, PySem.W.findIn K (.ref C) nm = some (some (.ref f)) ∧ PySem.W.isFn K (.ref f) = true ∧ ∃ fd ps, FnOk P w K mg base CX0 n f fd ps sp ∧ Binds K fd ps []
section
variable {X : Cx} {C : Addr} {n k : Nat} {sp : Sp}
theorem cr_lenK (O : OwnK X.prog X.w X.K X.mg X.base C "__len__" n sp) (hr : Room k X.A) (hk : n + 1 ≤ k) : CallR X (.builtin "len") (rLenU X.K C sp) := by
  obtain ⟨f, h1, h2, h3⟩ := O.ex
  exact cr_lenU (f := f) ⟨h1, h2, h3⟩ (hr.mono hk)
theorem cr_strK (O : OwnK X.prog X.w X.K X.mg X.base C "__str__" n sp) (hr : Room k X.A) (hk : n + 2 ≤ k) : CallR X (.type "str") (rStrU C sp) := by
  obtain ⟨f, h1, h2, h3⟩ := O.ex
  exact cr_strU (f := f) ⟨h1, h2, h3⟩ (hr.mono hk)
theorem op_inK (O : OwnK X.prog X.w X.K X.mg X.base C "__contains__" n sp) (hr : Room k X.A) (hk : n ≤ k) (hu : X.A.units + 65 < cLine) : OpR X (compareOp .In) (rInU X.K C sp) := by
  obtain ⟨f, h1, h2, h3⟩ := O.ex
  exact op_inU (f := f) ⟨h1, h2, h3⟩ (hr.mono hk) hu
theorem op_eqK (O : OwnK X.prog X.w X.K X.mg X.base C "__eq__" n sp) (hr : Room k X.A) (hk : n ≤ k) (hu : X.A.units + 64 < cLine) : OpR X (compareOp .Eq) (rEqU X.K C sp) := by
  obtain ⟨f, h1, h2, h3⟩ := O.ex
  exact op_eqU (f := f) ⟨h1, h2, h3⟩ (hr.mono hk) hu
end
section
variable {K : PySem.W.Frag} {m : Mo} {Γ : G} {C : Addr} {ns : List Str} {xs : List D} {x : D} {pre : List D → Prop} {Sf : List D → D → Prop}
theorem c_lenOS {n : Int} (hp : pre [.obj C ns xs]) (hn : ∀ d, Sf [.obj C ns xs] d → d = .int n) (hb : 0 ≤ n ∧ n < 2 ^ 63) : Ca1 m K (rLenU K C (spS K pre Sf)) [.obj C ns xs] (.int n) := fun vs H I rs Q q => by
  cases rs with
  | cons rv rs =>
    cases rs
    obtain ⟨a, dx, fs, rfl, ha, _⟩ := rv.ins
    exact .inr ⟨a, dx, fs, rfl, ha, m.F, [.obj C ns xs], fun a f => m.fa I f, .cons rv .nil, hp, fun v d H' sd sm rv => ⟨n, (by rw [hn d sd] at rv; exact rv.intE), hb.1, hb.2, q _ _ H' rfl (m.grow I sm) (.int n)⟩⟩
theorem c_strOS {n : Str} (hp : pre [.obj C ns xs]) (hn : ∀ d, Sf [.obj C ns xs] d → d = .str n) : Ca1 m K (rStrU C (spS K pre Sf)) [.obj C ns xs] (.str n) := fun vs H I rs Q q => by
  cases rs with
  | cons rv rs =>
    cases rs
    obtain ⟨a, dx, fs, rfl, ha, _⟩ := rv.ins
    exact .inr ⟨a, dx, fs, rfl, ha, m.F, [.obj C ns xs], fun a f => m.fa I f, .cons rv .nil, hp, fun v d H' sd sm rv => ⟨n, (by rw [hn d sd] at rv; exact rv.strE), q _ _ H' rfl (m.grow I sm) (.str n)⟩⟩
theorem o_inOS {b : Bool} (hp : pre [.obj C ns xs, x]) (hn : ∀ d, Sf [.obj C ns xs, x] d → d = .bl b) : Op1 m K (rInU K C (spS K pre Sf)) x (.obj C ns xs) (.bl b) := fun vx vo H I rx rv Q q => by
  obtain ⟨a, dx, fs, rfl, ha, _⟩ := rv.ins
  exact .inr ⟨a, dx, fs, rfl, ha, m.F, [.obj C ns xs, x], fun a f => m.fa I f, .cons rv (.cons rx .nil), hp, fun v d H' sd sm rv => ⟨b, (by rw [hn d sd] at rv; exact rv.blE), q _ _ H' rfl (m.grow I sm) (.bl b)⟩⟩
theorem o_eqOS {b : Bool} (hx : (∃ ns' xs', x = .obj C ns' xs') ∨ ((∃ ts, x = .tup ts) ∧ PySem.W.notFirst K C (.type "tuple") = true)) (hp : pre [.obj C ns xs, x]) (hn : ∀ d, Sf [.obj C ns xs, x] d → d = .bl b) : Op1 m K (rEqU K C (spS K pre Sf)) (.obj C ns xs) x (.bl b) := fun vo vx H I rv rx Q q => by
  obtain ⟨a, dx, fs, rfl, ha, _⟩ := rv.ins
  refine .inr ⟨a, dx, fs, rfl, ha, ?_, m.F, [.obj C ns xs, x], fun a f => m.fa I f, .cons rv (.cons rx .nil), hp, fun v d H' sd sm rv => ⟨b, (by rw [hn d sd] at rv; exact rv.blE), q _ _ H' rfl (m.grow I sm) (.bl b)⟩⟩
  rcases hx with ⟨ns', xs', e⟩ | ⟨⟨ts, e⟩, hnf⟩
  · subst e
    obtain ⟨a', dx', fs', rfl, ha', _⟩ := rx.ins
    exact .ins ha'
  · subst e
    obtain ⟨a', vs', rfl, hs, _⟩ := rx.tupE
    exact .tup hs hnf
end
end Tx
namespace Tx
open PySem L2
section
variable {K : PySem.W.Frag} {m : Mo} {Γ : G} {te : TE} {d : D}
theorem en_neg {i : Int} (h : Ev1 m K te Γ (.int i)) : Ev1 m K (tUn (rU fun i => .int (-i)) te) Γ (.int (-i)) := fun σ H e Q q =>
  h σ H e _ fun v d' H1 s r1 rv => by
    subst s
    exact ⟨i, rv.intE, q _ _ H1 rfl r1 (.int _)⟩
theorem en_dic : Ev1 m K tDNewK Γ .dic := fun σ H e Q q => fun p hp => q _ _ _ rfl (m.grow e.i (same_new hp)) (.dic (fun f => m.fa e.i f hp) upd_same)
end
theorem maxI_pos : ∀ (ns : List Int) (n : Int), (ns.foldl max n > 0) ↔ (n > 0 ∨ ∃ x ∈ ns, x > 0)
  | [], n => by simp
  | a :: ns, n => by
    rw [List.foldl_cons, maxI_pos ns (max n a)]
    simp only [List.mem_cons, exists_eq_or_imp]
    constructor
    · rintro (h | h)
      · by_cases q : n > 0
        · exact .inl q
        · exact .inr (.inl (by omega))
      · exact .inr (.inr h)
    · rintro (h | h | h)
      · exact .inl (by omega)
      · exact .inl (by omega)
      · exact .inr h
theorem maxN_any {ms : List Nat} (h : ms ≠ []) : ∃ (n : Int) (ns : List Int), ms.map (fun k : Nat => (k : Int)) = n :: ns ∧ decide (ns.foldl max n > 0) = ms.any (· != 0) := by
  cases ms with
  | nil => exact absurd rfl h
  | cons a ms =>
    refine ⟨a, ms.map fun k : Nat => (k : Int), rfl, ?_⟩
    by_cases q : (ms.map fun k : Nat => (k : Int)).foldl max (a : Int) > 0
    · rw [decide_eq_true q]
      rcases (maxI_pos _ _).mp q with h | ⟨x, hx, h⟩
      · have : (a != 0) = true := bne_iff_ne.mpr (by omega)
        rw [List.any_cons, this, Bool.true_or]
      · obtain ⟨k, hk, rfl⟩ := List.mem_map.mp hx
        have : ms.any (· != 0) = true := List.any_eq_true.mpr ⟨k, hk, bne_iff_ne.mpr (by omega)⟩
        rw [List.any_cons, this, Bool.or_true]
    · rw [decide_eq_false q]
      symm
      rw [List.any_eq_false]
      intro x hx z
      have z := bne_iff_ne.mp z
      refine q ((maxI_pos _ _).mpr ?_)
      rcases List.mem_cons.mp hx with e | hx
      · exact .inl (by omega)
      · exact .inr ⟨x, List.mem_map.mpr ⟨x, hx, rfl⟩, by omega⟩
end Tx
namespace Tx
open PySem L2
theorem ok_ofString (s : String) : PyData.strOk (Str.ofString s) = true := by
  unfold PyData.strOk
  rw [Str.ofString_eq_toList]
  rw [Array.all_eq_true']
  intro c hc
  simp only [List.mem_toArray, List.mem_map] at hc
  obtain ⟨ch, _, rfl⟩ := hc
  have := ch.valid
  refine decide_eq_true ?_
  show ch.val.toNat < 0x110000
  rcases this with h | ⟨_, h⟩
  · exact Nat.lt_trans h (by decide)
  · exact h
theorem ok_app {a b : Str} (ha : PyData.strOk a = true) (hb : PyData.strOk b = true) : PyData.strOk (a ++ b) = true := by
  unfold PyData.strOk at *
  rw [Str.cps_append, Array.all_append, ha, hb]
  rfl
theorem ok_empty : PyData.strOk Str.empty = true := by decide +kernel
theorem ok_tx (n : Nat) : PyData.strOk (tx n) = true := ok_ofString _
theorem ok_join {sep : Str} (hs : PyData.strOk sep = true) : ∀ {l : List Str}, (∀ x ∈ l, PyData.strOk x = true) → PyData.strOk (Str.join sep l) = true
  | [], _ => ok_empty
  | [x], h => h x List.mem_cons_self
  | x :: y :: r, h => ok_app (ok_app (h x List.mem_cons_self) hs) (ok_join hs fun z hz => h z (List.mem_cons_of_mem _ hz))
theorem ok_joinT {sep : Str} (hs : PyData.strOk sep = true) {l : List Str} (h : ∀ x ∈ l, PyData.strOk x = true) : PyData.strOk (Txt.join sep l) = true := by
  have e : Txt.join sep l = Str.join sep l := StrLaws.glued_eq_join sep l
  rw [e]
  exact ok_join hs h
end Tx

set_option Elab.async false
set_option linter.all false
set_option maxRecDepth 100000
set_option maxHeartbeats 1000000
set_option autoImplicit false
/-! == of tuples whose items have an own ==, with both answers -/
namespace TxSQ
open PySem PySem.SeqAt
open AutoSeq1 (wpAny_loadPart')
open MeetsSeq MeetsSeq2 MeetsSeq3 SeqRoads2 GQ
section
variable {prog : Program} {w : World} {A : Around} {R : Result → Shared → Prop}
def ans (e : Nat → Bool) (n m : Nat) : Bool := (List.range (min n m)).all e && (n == m)
theorem ans_no {e : Nat → Bool} {n m i : Nat} (h1 : i < n) (h2 : i < m) (h : e i = false) : ans e n m = false := by
  unfold ans
  have : (List.range (min n m)).all e = false := by
    rw [← Bool.not_eq_true, List.all_eq_true]
    intro z
    have := z i (List.mem_range.mpr (by omega))
    rw [h] at this
    cases this
  rw [this, Bool.false_and]
theorem ans_all {e : Nat → Bool} {n m : Nat} (h : ∀ j, j < min n m → e j = true) : ans e n m = (n == m) := by
  unfold ans
  rw [List.all_eq_true.mpr fun j hj => h j (List.mem_range.mp hj), Bool.true_and]
/-- pair by pair: T says how the pairs that are left stand -/
theorem tuple_eqB {l b : Addr} {its its2 : Array Value} {n n2 : Nat} {dd dd2 : Option Addr} {sl sl2 : Array (Option Value)} {s : Shared} (T : List (Value × Value) → Shared → Prop)
    (step : ∀ y x rest s, T ((y, x) :: rest) s → wpAny (model prog w) A.in1 (eqBool y x) (fun r s' => (r = true → T rest s') ∧ (r = false → R (.ok (.ret (.bool false))) s')) (fun e s' => R (.error e) s') s)
    (last : ∀ s, T [] s → R (.ok (.ret (.bool (its.size == its2.size)))) s) (g1 : s.heap.get? l = some { cls := .type "tuple", dict := dd, data := .seq its n, slots := sl }) (g2 : s.heap.get? b = some { cls := .type "tuple", dict := dd2, data := .seq its2 n2, slots := sl2 })
    (t0 : T (its.toList.zip its2.toList) s) : wpAny (model prog w) A.in1 (Builtin.«tuple.__eq__» ⟨[.ref l, .ref b], []⟩) (FinOf prog w A R) (fun e s' => R (.error e) s') s := by
  have sub := AutoSeq1.sub_tuple_tuple
  rcases s with ⟨hp, gl, dp, tk, os⟩
  wp_walk using wpAny_loadPart' g1, wpAny_loadPart' g2, wpAny_forIn_list _ (fun rest b s' => b.1 = none ∧ T rest s') _
  case turn =>
    rintro ⟨y, x⟩ rest b s2 ⟨hn, ht⟩
    refine wpAny_bind (wpAny_mono (step y x rest s2 ht) (fun r s3 q => ?_) fun _ _ z => z)
    cases r with
    | true => wp_walk; exact ⟨rfl, q.1 rfl⟩
    | false => have q2 := q.2 rfl; wp_walk; simpa using q2
  case fin =>
    rintro ⟨b1, b2⟩ s2 ⟨hn, ht⟩
    have q := last s2 ht
    simp only at hn
    subst hn
    wp_walk
    simpa [Builtin.Tuple.tupleCompareSizes] using q
  case h => exact ⟨rfl, t0⟩
end
section
variable {prog : Program} {w : World} {A : Around} {E : Value → Shared → Prop}
theorem rc_tupB {s : Shared} {l b : Addr} {its its2 : Array Value} {Q : Value → Shared → Prop} (room : A.units < cLine) (T : List (Value × Value) → Shared → Prop) (tl : s.heap.IsTuple l its) (tb : s.heap.IsTuple b its2)
    (step : ∀ y x rest s, T ((y, x) :: rest) s → wpAny (model prog w) A.in1 (eqBool y x) (fun r s' => (r = true → T rest s') ∧ (r = false → Q (.bool false) s')) E s)
    (last : ∀ s, T [] s → Q (.bool (its.size == its2.size)) s) (t0 : T (its.toList.zip its2.toList) s) : wpAny (model prog w) A (richCompare .Eq (.ref l) (.ref b)) Q E s := by
  obtain ⟨o, g1, c1, n1, d1⟩ := id tl
  obtain ⟨o2, g2, c2, n2, d2⟩ := id tb
  cases o; cases o2
  simp only at c1 d1 c2 d2
  subst c1; subst d1; subst c2; subst d2
  refine wpAny_richCompare_same_room (op := .Eq) ⟨_, g1, rfl⟩ ⟨_, g2, rfl⟩ F.slot_tuple_eq (GQ.call_here F.slot_tuple_eq ⟨_, g1, rfl⟩ F.entry_tuple_eq (F.args_tuple_eq_2 _ _) ?_) room
  refine tuple_eqB (R := wants (fun v s' => v ≠ .notImplemented ∧ Q v s') E) T (fun y x rest s2 t => ?_) (fun s2 t => ⟨(fun z => nomatch z), last s2 t⟩) g1 g2 t0
  exact wpAny_mono (step y x rest s2 t) (fun r s3 q => ⟨q.1, fun z => ⟨(fun z => nomatch z), q.2 z⟩⟩) fun _ _ z => z
end
theorem zip_drop {α β : Type} {l : List α} {m : List β} {i : Nat} {y : α} {x : β} {rest : List (α × β)} (e : (l.zip m).drop i = (y, x) :: rest) : l[i]? = some y ∧ m[i]? = some x ∧ rest = (l.zip m).drop (i + 1) := by
  have h0 : (l.zip m)[i]? = some (y, x) := by
    have := congrArg (fun z => z[0]?) e
    simpa [List.getElem?_drop] using this
  have h1 := List.getElem?_zip_eq_some.mp h0
  refine ⟨h1.1, h1.2, ?_⟩
  have := congrArg List.tail e
  rw [List.tail_drop] at this
  exact this.symm
end TxSQ
namespace Tx
open PySem PySem.Spec PyProof.Rows L2 TxSQ
/-! ### what numbers and tuples of them say is said once -/
def TreeZ : Nat → D → Bool
  | _, .int _ => true
  | n + 1, .tup xs => xs.all (TreeZ n)
  | _, _ => false
theorem dets_of {K : PySem.W.Frag} {F : Addr → Prop} {H : Hp} {n : Nat} (ih : ∀ {d d' : D} {v : V}, TreeZ n d = true → TreeZ n d' = true → Rp K F H v d → Rp K F H v d' → d = d') : ∀ {vs : List V} {ds ds' : List D}, (∀ d ∈ ds, TreeZ n d = true) → (∀ d ∈ ds', TreeZ n d = true) → RpAll K F H vs ds → RpAll K F H vs ds' → ds = ds'
  | [], _, _, _, _, r, r' => by cases r; cases r'; rfl
  | v :: vs, _, _, h, h', r, r' => by
    cases r with
    | cons r1 r2 => cases r' with
      | cons r3 r4 => rw [ih (h _ List.mem_cons_self) (h' _ List.mem_cons_self) r1 r3, dets_of ih (fun d hd => h d (List.mem_cons_of_mem _ hd)) (fun d hd => h' d (List.mem_cons_of_mem _ hd)) r2 r4]
theorem int_det {K : PySem.W.Frag} {F : Addr → Prop} {H : Hp} {n : Nat} {d' : D} {v : V} {i : Int} (h' : TreeZ n d' = true) (r : Rp K F H v (.int i)) (r' : Rp K F H v d') : D.int i = d' := by
  have e := r.intE
  subst e
  cases r'
  rfl
theorem tt_det {K : PySem.W.Frag} {F : Addr → Prop} {H : Hp} (inj : ∀ a xs ys, SqT K H a xs → SqT K H a ys → xs = ys) (n : Nat) : ∀ {d d' : D} {v : V}, TreeZ n d = true → TreeZ n d' = true → Rp K F H v d → Rp K F H v d' → d = d' := by
  induction n with
  | zero =>
    intro d d' v h h' r r'
    cases d <;> first | (simp [TreeZ] at h; done) | exact int_det h' r r'
  | succ n ih =>
    intro d d' v h h' r r'
    cases d <;> first | (simp [TreeZ] at h; done) | exact int_det h' r r' | skip
    rename_i xs
    obtain ⟨a, vs, rfl, hs, ra⟩ := r.tupE
    cases d' <;> first | (simp [TreeZ] at h'; done) | (cases r'; done) | skip
    rename_i ys
    obtain ⟨b, us, e, hs', ra'⟩ := r'.tupE
    injection e with e
    subst e
    obtain rfl := inj _ _ _ hs hs'
    exact congrArg D.tup (dets_of ih (by simpa [TreeZ] using h) (by simpa [TreeZ] using h') ra ra')
theorem tt_dets {K : PySem.W.Frag} {F : Addr → Prop} {H : Hp} (inj : ∀ a xs ys, SqT K H a xs → SqT K H a ys → xs = ys) (n : Nat) {vs : List V} {ds ds' : List D} (h : ∀ d ∈ ds, TreeZ n d = true) (h' : ∀ d ∈ ds', TreeZ n d = true) (r : RpAll K F H vs ds) (r' : RpAll K F H vs ds') : ds = ds' := dets_of (tt_det inj n) h h' r r'
/-! ### two objects of a class, seen by its own == -/
abbrev EqvB := V → V → Bool → Hp → Prop
/-- == inside a built-in says what D says, and only makes objects -/
def EqB (X : Cx) (n : Nat) (D : EqvB) : Prop :=
  ∀ (A : Around) (pins : List (Addr × Obj)) (s : Shared) (σ : L2.St) (H : Hp) (x y : V) (u v : Value) (k : Bool), Sub X n A → Inv X pins σ H s → RelV x u → RelV y v → D x y k H →
    wpAny (model X.prog X.w) A (eqBool u v) (fun r s' => r = k ∧ ∃ H', Inv X pins σ H' s' ∧ Ext H H') X.xe s
def DW (K : PySem.W.Frag) (F : Addr → Prop) (C : Addr) (ns : List Str) (pre : List D → Prop) (Sf : List D → D → Prop) : EqvB := fun x y k H => ∃ xs ys, (∀ c, F c → H c ≠ none) ∧ Rp K F H x (.obj C ns xs) ∧ Rp K F H y (.obj C ns ys) ∧ (∀ d ∈ xs, TreeZ 9 d = true) ∧ (∀ d ∈ ys, TreeZ 9 d = true) ∧ (xs = ys → k = true) ∧ pre [.obj C ns xs, .obj C ns ys] ∧ ∀ d, Sf [.obj C ns xs, .obj C ns ys] d → d = .bl k
theorem Rp.ext {K : PySem.W.Frag} {F : Addr → Prop} {H H' : Hp} {v : V} {d : D} (r : Rp K F H v d) (e : Ext H H') : Rp K F H' v d := r.go fun a o n q => ⟨n, e a o q⟩
theorem mon_DW {K : PySem.W.Frag} {F : Addr → Prop} {C : Addr} {ns : List Str} {pre : List D → Prop} {Sf : List D → D → Prop} {x y : V} {k : Bool} {H H' : Hp} (e : Ext H H') (d : DW K F C ns pre Sf x y k H) : DW K F C ns pre Sf x y k H' := by
  obtain ⟨xs, ys, h1, h2, h3, h4⟩ := d
  refine ⟨xs, ys, fun c f => ?_, h2.ext e, h3.ext e, h4⟩
  cases q : H c with
  | none => exact absurd q (h1 c f)
  | some o => rw [e c o q]; exact fun z => nomatch z
theorem zip_inj {ns : List Str} : ∀ {vs us : List V}, ns.length = vs.length → ns.length = us.length → ns.zip vs = ns.zip us → vs = us := by
  induction ns with
  | nil => intro vs us h1 h2 _; rw [List.length_eq_zero_iff.mp h1.symm, List.length_eq_zero_iff.mp h2.symm]
  | cons n ns ih =>
    intro vs us h1 h2 e
    cases vs with
    | nil => cases h1
    | cons v vs => cases us with
      | nil => cases h2
      | cons u us =>
        rw [List.zip_cons_cons, List.zip_cons_cons] at e
        injection e with e1 e2
        injection e1 with _ e1
        rw [e1, ih (by simpa using h1) (by simpa using h2) e2]
theorem eqB_own {X : Cx} {n : Nat} {F : Addr → Prop} {C : Addr} {ns : List Str} {pre : List D → Prop} {Sf : List D → D → Prop} (O : OwnK X.prog X.w X.K X.mg X.base C "__eq__" n (spS X.K pre Sf)) : EqB X n (DW X.K F C ns pre Sf) := by
  intro A pins s σ H x y u v k sb I rx ry d
  obtain ⟨xs, ys, hF, r1, r2, t1, t2, hk, hp, hS⟩ := d
  obtain ⟨f, at_, fn, fd, ps, Fo, hb⟩ := O.ex
  cases r1 with
  | obj n1 hA l1 a1 =>
    cases r2 with
    | obj n2 hB l2 a2 =>
      rename_i a dx vs b dy us
      cases rx
      cases ry
      by_cases hab : a = b
      · subst hab
        have e := hA.symm.trans hB
        injection e with e
        injection e with _ _ e
        have ev := zip_inj l1 l2 e
        subst ev
        have ex : xs = ys := tt_dets (fun a xs ys h1 h2 => I.tuple_inj h1 h2) 9 t1 t2 a1 a2
        refine SeqAt.EqAt.same (A := A) (s := s) (.ref a) X.prog X.w X.xe _ ⟨(hk ex).symm, H, I, Ext.rfl'⟩
      · obtain ⟨mA, J, _⟩ := ins_get I.hok hA
        obtain ⟨od, J, _⟩ := J.look
        obtain ⟨mB, J', _⟩ := ins_get I.hok hB
        obtain ⟨od', J', _⟩ := J'.look
        obtain ⟨m, hfr⟩ := I.fr
        have hsp : spS X.K pre Sf [.ref a, .ref b] H (fun v H' => v = .bl k ∧ Ext H H') E0 := ⟨F, [.obj C ns xs, .obj C ns ys], hF, .cons (.obj n1 hA l1 a1) (.cons (.obj n2 hB l2 a2) .nil), hp, fun v d H' sd sm rv => ⟨by rw [hS d sd] at rv; exact rv.blE, sm⟩⟩
        refine GQ.eqBool_refG hab (PySem.W.cmp_K (op := .Eq) (tb := .ref C) sb.room.units0 hfr I.ok.mod.kin J J'.type (by simp [PySem.W.notFirst]) at_ fn (wpAny_mono (run_own Fo hb sb.room sb.fr I (show Vals [V.ref a, V.ref b] [Value.ref a, Value.ref b] from .cons rfl (.cons rfl .nil)) hsp) (fun w s' hv => ?_) fun _ _ z => z))
        obtain ⟨w', H', I', rw', e, ex⟩ := hv
        subst e
        cases rw'
        exact ⟨k, rfl, rfl, H', I', ex⟩
/-! ### tuples of them -/
def rEqTB (K : PySem.W.Frag) (D : EqvB) : R2 := fun x y H Q => ∃ (a b : Addr) (xs ys : List V) (e : Nat → Bool), x = .ref a ∧ y = .ref b ∧ SqT K H a xs ∧ SqT K H b ys ∧ (∀ (i : Nat) u v, xs[i]? = some u → ys[i]? = some v → D u v (e i) H) ∧ ∀ H', Ext H H' → Q (.bl (ans e xs.length ys.length)) H'
theorem vals_at {xs : List V} {its : List Value} (r : Vals xs its) {i : Nat} {u : Value} (e : its[i]? = some u) : ∃ x, xs[i]? = some x ∧ RelV x u := by
  have hi : i < xs.length := by rw [r.length]; exact (List.getElem?_eq_some_iff.mp e).1
  obtain ⟨v, hv, rv⟩ := r.get (List.getElem?_eq_getElem hi)
  rw [e] at hv
  injection hv with hv
  exact ⟨_, List.getElem?_eq_getElem hi, by rw [hv]; exact rv⟩
theorem op_eqTB {X : Cx} {n : Nat} {D : EqvB} (hD : ∀ x y k H H', Ext H H' → D x y k H → D x y k H') (h : EqB X n D) (hr : Room (n + 1) X.A) : OpR X (compareOp .Eq) (rEqTB X.K D) := by
  intro pins s σ H vx vy v u Q I rx ry hq
  obtain ⟨a, b, xs, ys, e, rfl, rfl, ha, hb, hd, q⟩ := hq
  cases rx
  cases ry
  obtain ⟨its, r, p1, _⟩ := I.tuple ha
  obtain ⟨its2, r2, p2, _⟩ := I.tuple hb
  have l1 := r.length
  have l2 := r2.length
  have sb : Sub X (n + 1) X.A := ⟨hr, rfl⟩
  have say : ∀ k s', k = ans e xs.length ys.length → LoopI X pins σ H s' → EP X pins σ Q (.bool k) s' := fun k s' ek ⟨H', I', e'⟩ => ⟨.bl (ans e xs.length ys.length), H', I', by rw [ek]; rfl, q H' e'⟩
  show wpAny (model X.prog X.w) X.A (richCompare .Eq (.ref a) (.ref b)) (EP X pins σ Q) X.xe s
  refine TxSQ.rc_tupB sb.room.units0 (fun rest s' => ∃ i, rest = (its.zip its2).drop i ∧ (∀ j, j < i → e j = true) ∧ LoopI X pins σ H s') p1 p2 (fun y x rest s' t => ?_) (fun s' t => ?_) ⟨0, rfl, fun j hj => absurd hj (Nat.not_lt_zero j), H, I, Ext.rfl'⟩
  · obtain ⟨i, ei, hj, H1, I1, e1⟩ := t
    obtain ⟨z1, z2, z3⟩ := zip_drop ei.symm
    obtain ⟨ux, hx, rx⟩ := vals_at r z1
    obtain ⟨uy, hy, ry⟩ := vals_at r2 z2
    have k1 := (List.getElem?_eq_some_iff.mp hx).1
    have k2 := (List.getElem?_eq_some_iff.mp hy).1
    refine wpAny_mono (h X.A.in1 pins s' σ H1 ux uy y x (e i) sb.in1 I1 rx ry (hD _ _ _ _ _ e1 (hd i _ _ hx hy))) (fun k s2 t2 => ?_) fun _ _ z => z
    obtain ⟨hk, H2, I2, e2⟩ := t2
    refine ⟨fun kt => ⟨i + 1, z3, fun j hj' => ?_, H2, I2, e1.trans e2⟩, fun kf => say _ _ (ans_no k1 k2 (hk.symm.trans kf)).symm ⟨H2, I2, e1.trans e2⟩⟩
    by_cases ej : j = i
    · rw [ej, ← hk, kt]
    · exact hj j (by omega)
  · obtain ⟨i, ei, hj, L⟩ := t
    have hi : min its.length its2.length ≤ i := by
      have := congrArg List.length ei
      rw [List.length_drop, List.length_zip] at this
      simp at this
      omega
    refine say _ _ ?_ L
    rw [ans_all fun j hj' => hj j (by omega), l1, l2, List.size_toArray, List.size_toArray]
end Tx

set_option Elab.async false
set_option linter.all false
set_option maxRecDepth 100000
set_option maxHeartbeats 1000000
set_option autoImplicit false
/-! Tx: == of tuples of objects with an own ==, by data -/
namespace Tx
open PySem PySem.Spec PyProof.Rows L2 TxSQ
/-- the same, whatever is forbidden -/
def DWE (K : PySem.W.Frag) (C : Addr) (ns : List Str) (pre : List D → Prop) (Sf : List D → D → Prop) : EqvB := fun x y k H => ∃ F, DW K F C ns pre Sf x y k H
theorem op_eqTK {X : Cx} {n k : Nat} {C : Addr} {ns : List Str} {pre : List D → Prop} {Sf : List D → D → Prop} (O : OwnK X.prog X.w X.K X.mg X.base C "__eq__" n (spS X.K pre Sf)) (hr : Room k X.A) (hk : n + 1 ≤ k) : OpR X (compareOp .Eq) (rEqTB X.K (DWE X.K C ns pre Sf)) :=
  op_eqTB (fun x y k H H' e ⟨F, d⟩ => ⟨F, mon_DW e d⟩) (fun A pins s σ H x y u v k sb I rx ry ⟨F, d⟩ => eqB_own O A pins s σ H x y u v k sb I rx ry d) (hr.mono hk)
section
variable {K : PySem.W.Frag} {m : Mo} {C : Addr} {ns : List Str} {pre : List D → Prop} {Sf : List D → D → Prop}
theorem obj_at {as : List (List D)} {i : Nat} {d : D} (e : (as.map (D.obj C ns))[i]? = some d) : ∃ xs, as[i]? = some xs ∧ d = .obj C ns xs := by
  rw [List.getElem?_map] at e
  cases q : as[i]? with
  | none => rw [q] at e; cases e
  | some xs => rw [q] at e; injection e with e; exact ⟨xs, rfl, e.symm⟩
theorem o_eqTW {as bs : List (List D)} (e : Nat → Bool) (t1 : ∀ xs ∈ as, ∀ d ∈ xs, TreeZ 9 d = true) (t2 : ∀ xs ∈ bs, ∀ d ∈ xs, TreeZ 9 d = true)
    (h : ∀ (i : Nat) xs ys, as[i]? = some xs → bs[i]? = some ys → pre [.obj C ns xs, .obj C ns ys] ∧ (∀ d, Sf [.obj C ns xs, .obj C ns ys] d → d = .bl (e i)) ∧ (xs = ys → e i = true)) : Op1 m K (rEqTB K (DWE K C ns pre Sf)) (.tup (as.map (D.obj C ns))) (.tup (bs.map (D.obj C ns))) (.bl (ans e as.length bs.length)) := fun vx vy H I rx ry Q q => by
  obtain ⟨a, vs, rfl, hs, ra⟩ := rx.tupE
  obtain ⟨b, us, rfl, hs', rb⟩ := ry.tupE
  have l1 := ra.len
  have l2 := rb.len
  rw [List.length_map] at l1 l2
  refine ⟨a, b, vs, us, e, rfl, rfl, hs, hs', fun i u v h1 h2 => ?_, fun H' e' => ?_⟩
  · obtain ⟨d1, g1, r1⟩ := ra.at h1
    obtain ⟨d2, g2, r2⟩ := rb.at h2
    obtain ⟨xs, q1, rfl⟩ := obj_at g1
    obtain ⟨ys, q2, rfl⟩ := obj_at g2
    obtain ⟨p1, p2, p3⟩ := h i xs ys q1 q2
    exact ⟨m.F, xs, ys, fun c f => m.fa I f, r1, r2, t1 xs (List.mem_of_getElem? q1), t2 ys (List.mem_of_getElem? q2), p3, p1, p2⟩
  · rw [l1, l2]
    exact q _ _ H' rfl (m.grow I e') (.bl _)
end
end Tx

set_option Elab.async false
set_option linter.all false
set_option maxRecDepth 100000
set_option maxHeartbeats 1000000
set_option autoImplicit false
/-! != of lists of objects with an own ==, where all come out equal -/
namespace TxST
open PySem PySem.SeqAt
open AutoSeq1 (wpAny_loadPart')
open MeetsSeq MeetsSeq2 MeetsSeq3 SeqRoads2 GQ
section
variable {prog : Program} {w : World} {A : Around} {R : Result → Shared → Prop} {l b : Addr} {N : Nat} {S : Nat → Shared → Prop}
theorem ne_loop (rd : ListI prog w A (fun e s' => R (.error e) s') l b N S) (last : ∀ s, S N s → R (.ok (.ret (.bool false))) s) : ∀ (k i : Nat), i + k = N → ∀ s, S i s →
    wpAny (model prog w) A.in1 (Builtin.«list.__eq__.loop» ⟨[.ref l, .ref b, rawInt i, rawInt 3], []⟩) (FinOf prog w A R) (fun e s' => R (.error e) s') s
  | 0, i, hk, s, st => by
    obtain ⟨xs, ys, n, n2, g1, g2, z1, z2, _⟩ := rd i s st
    have over : i = N := hk
    have q := last s (over ▸ st)
    have o1 : xs[((i : Nat) : Int).toNat]? = none := by rw [Int.toNat_natCast]; exact Array.getElem?_eq_none (by omega)
    have o2 : ys[((i : Nat) : Int).toNat]? = none := by rw [Int.toNat_natCast]; exact Array.getElem?_eq_none (by omega)
    rcases s with ⟨hp, gl, dp, tk, os⟩
    wp_walk using wpAny_loadPart' g1, wpAny_loadPart' g2
    rw [o1, o2]
    wp_walk using wpAny_loadPart' g1, wpAny_loadPart' g2
    show R (.ok (.ret (.bool (xs.size != ys.size)))) _
    rw [z1, z2]
    simpa using q
  | k + 1, i, hk, s, st => by
    obtain ⟨xs, ys, n, n2, g1, g2, z1, z2, turn⟩ := rd i s st
    have in1 : i < xs.size := by omega
    have in2 : i < ys.size := by omega
    have t := turn in1 in2
    have o1 : xs[((i : Nat) : Int).toNat]? = some xs[i] := by rw [Int.toNat_natCast]; exact Array.getElem?_eq_getElem in1
    have o2 : ys[((i : Nat) : Int).toNat]? = some ys[i] := by rw [Int.toNat_natCast]; exact Array.getElem?_eq_getElem in2
    have up : ((i : Int) + 1) = ((i + 1 : Nat) : Int) := by omega
    rcases s with ⟨hp, gl, dp, tk, os⟩
    wp_walk using wpAny_loadPart' g1, wpAny_loadPart' g2
    rw [o1, o2]
    refine wpAny_bind (wpAny_mono t (fun r s2 q => ?_) fun _ _ z => z)
    obtain ⟨rfl, q⟩ := q
    have more := ne_loop rd last k (i + 1) (by omega) s2 q
    rcases s2 with ⟨hp2, gl2, dp2, tk2, os2⟩
    wp_walk
    rw [up]
    exact ⟨plainId_quiet plain_eq_loop _, codeAny_builtin entry_eq_loop (Around.under_plainId plain_eq_loop _ ▸ more)⟩
theorem list_ne (rd : ListI prog w A (fun e s' => R (.error e) s') l b N S) (last : ∀ s, S N s → R (.ok (.ret (.bool false))) s) {s : Shared} (st : S 0 s) :
    wpAny (model prog w) A.in1 (Builtin.«list.__ne__» ⟨[.ref l, .ref b], []⟩) (FinOf prog w A R) (fun e s' => R (.error e) s') s := by
  obtain ⟨xs, ys, n, n2, g1, g2, z1, z2, _⟩ := rd 0 s st
  have loop := ne_loop rd last N 0 (Nat.zero_add N) s st
  have sub := AutoSeq1.sub_list_list
  have same : ¬ (xs.size != ys.size) = true := by simp [z1, z2]
  rcases s with ⟨hp, gl, dp, tk, os⟩
  wp_walk using wpAny_loadPart' g1, wpAny_loadPart' g2
  exact ⟨plainId_quiet plain_eq_loop _, codeAny_builtin entry_eq_loop (Around.under_plainId plain_eq_loop _ ▸ loop)⟩
end
section
variable {prog : Program} {w : World} {A : Around} {E : Value → Shared → Prop} {s : Shared} {l b : Addr} {N : Nat} {S : Nat → Shared → Prop}
theorem rc_ne {Q : Value → Shared → Prop} (room : A.units < cLine) (rd : ListI prog w A E l b N S) (last : ∀ s, S N s → Q (.bool false) s) (st : S 0 s) : wpAny (model prog w) A (richCompare .NotEq (.ref l) (.ref b)) Q E s := by
  obtain ⟨xs, ys, n, n2, g1, g2, _⟩ := rd 0 s st
  refine wpAny_richCompare_same_room (op := .NotEq) ⟨_, g1, rfl⟩ ⟨_, g2, rfl⟩ F.slot_list_ne (GQ.call_here F.slot_list_ne ⟨_, g1, rfl⟩ F.entry_list_ne (F.args_list_ne_2 _ _) ?_) room
  exact list_ne (R := wants (fun v s' => v ≠ .notImplemented ∧ Q v s') E) rd (fun s2 t => ⟨(fun z => nomatch z), last s2 t⟩) st
end
end TxST

set_option Elab.async false
set_option linter.all false
set_option maxRecDepth 100000
set_option maxHeartbeats 1000000
set_option autoImplicit false
/-! Tx: != of lists of objects with an own ==, by data, where all come out equal -/
namespace Tx
open PySem PySem.Spec PyProof.Rows L2 TxSQ
def rNeLB (D : EqvB) : R2 := fun x y H Q => ∃ (a b : Addr) (xs ys : List V), x = .ref a ∧ y = .ref b ∧ H a = some (.lst xs) ∧ H b = some (.lst ys) ∧ xs.length = ys.length ∧ (∀ (i : Nat) u v, xs[i]? = some u → ys[i]? = some v → D u v true H) ∧ ∀ H', Ext H H' → Q (.bl false) H'
theorem op_neLB {X : Cx} {n : Nat} {D : EqvB} (hD : ∀ x y k H H', Ext H H' → D x y k H → D x y k H') (h : EqB X n D) (hr : Room (n + 1) X.A) : OpR X (compareOp .NotEq) (rNeLB D) := by
  intro pins s σ H vx vy v u Q I rx ry hq
  obtain ⟨a, b, xs, ys, rfl, rfl, ha, hb, hl, hd, q⟩ := hq
  cases rx
  cases ry
  have sb : Sub X (n + 1) X.A := ⟨hr, rfl⟩
  show wpAny (model X.prog X.w) X.A (richCompare .NotEq (.ref a) (.ref b)) (EP X pins σ Q) X.xe s
  refine TxST.rc_ne (N := xs.length) (S := fun _ s' => LoopI X pins σ H s') sb.room.units0 (fun i s' L => ?_) (fun s' L => ?_) ⟨H, I, Ext.rfl'⟩
  · obtain ⟨H1, I1, e1⟩ := L
    obtain ⟨_, its, k, r, g⟩ := I1.hok a _ (e1 _ _ ha)
    obtain ⟨_, its2, k2, r2, g2⟩ := I1.hok b _ (e1 _ _ hb)
    have l1 := r.length
    have l2 := r2.length
    refine ⟨its.toArray, its2.toArray, k, k2, g, g2, by rw [List.size_toArray]; omega, by rw [List.size_toArray]; omega, fun h1 h2 => ?_⟩
    obtain ⟨ux, hx, rx⟩ := vals_at r (i := i) (u := its.toArray[i]) (by simp at h1; simp [h1])
    obtain ⟨uy, hy, ry⟩ := vals_at r2 (i := i) (u := its2.toArray[i]) (by simp at h2; simp [h2])
    refine wpAny_mono (h X.A.in1 pins s' σ H1 ux uy _ _ true sb.in1 I1 rx ry (hD _ _ _ _ _ e1 (hd i _ _ hx hy))) (fun k s2 t => ?_) fun _ _ z => z
    obtain ⟨hk, H2, I2, e2⟩ := t
    exact ⟨hk, H2, I2, e1.trans e2⟩
  · obtain ⟨H', I', e'⟩ := L
    exact ⟨.bl false, H', I', rfl, q H' e'⟩
theorem op_neLK {X : Cx} {n k : Nat} {C : Addr} {ns : List Str} {pre : List D → Prop} {Sf : List D → D → Prop} (O : OwnK X.prog X.w X.K X.mg X.base C "__eq__" n (spS X.K pre Sf)) (hr : Room k X.A) (hk : n + 1 ≤ k) : OpR X (compareOp .NotEq) (rNeLB (DWE X.K C ns pre Sf)) :=
  op_neLB (fun x y k H H' e ⟨F, d⟩ => ⟨F, mon_DW e d⟩) (fun A pins s σ H x y u v k sb I rx ry ⟨F, d⟩ => eqB_own O A pins s σ H x y u v k sb I rx ry d) (hr.mono hk)
section
variable {K : PySem.W.Frag} {m : Mo} {C : Addr} {ns : List Str} {pre : List D → Prop} {Sf : List D → D → Prop}
theorem o_neLW {as bs : List (List D)} (hl : as.length = bs.length) (t1 : ∀ xs ∈ as, ∀ d ∈ xs, TreeZ 9 d = true) (t2 : ∀ xs ∈ bs, ∀ d ∈ xs, TreeZ 9 d = true)
    (h : ∀ (i : Nat) xs ys, as[i]? = some xs → bs[i]? = some ys → pre [.obj C ns xs, .obj C ns ys] ∧ ∀ d, Sf [.obj C ns xs, .obj C ns ys] d → d = .bl true) : Op1 m K (rNeLB (DWE K C ns pre Sf)) (.lst (as.map (D.obj C ns))) (.lst (bs.map (D.obj C ns))) (.bl false) := fun vx vy H I rx ry Q q => by
  obtain ⟨a, vs, rfl, hs, ra⟩ := rx.lstE
  obtain ⟨b, us, rfl, hs', rb⟩ := ry.lstE
  have l1 := ra.len
  have l2 := rb.len
  rw [List.length_map] at l1 l2
  refine ⟨a, b, vs, us, rfl, rfl, hs, hs', by omega, fun i u v h1 h2 => ?_, fun H' e' => q _ _ H' rfl (m.grow I e') (.bl _)⟩
  obtain ⟨d1, g1, r1⟩ := ra.at h1
  obtain ⟨d2, g2, r2⟩ := rb.at h2
  obtain ⟨xs, q1, rfl⟩ := obj_at g1
  obtain ⟨ys, q2, rfl⟩ := obj_at g2
  obtain ⟨p1, p2⟩ := h i xs ys q1 q2
  exact ⟨m.F, xs, ys, fun c f => m.fa I f, r1, r2, t1 xs (List.mem_of_getElem? q1), t2 ys (List.mem_of_getElem? q2), fun _ => rfl, p1, p2⟩
end
end Tx

set_option Elab.async false
set_option linter.all false
set_option maxRecDepth 100000
set_option maxHeartbeats 1000000
set_option autoImplicit false
/-! TxCN: x in xs, x not in xs, xs a list of objects with an own ==; != of tuples of such objects -/
namespace TxCN
open PySem PySem.SeqAt
open AutoSeq1 (wpAny_loadPart')
open MeetsSeq MeetsSeq2 MeetsSeq3 SeqRoads2 GQ
section
variable {prog : Program} {w : World} {A : Around} {R : Result → Shared → Prop} {l : Addr} {N : Nat} {S : Nat → Shared → Prop} {x : Value}
/-- turn by turn -/
def InI (prog : Program) (w : World) (A : Around) (R : Result → Shared → Prop) (l : Addr) (x : Value) (N : Nat) (S : Nat → Shared → Prop) : Prop :=
  ∀ i s, S i s → ∃ (xs : Array Value) (n : Nat) (dd : Option Addr) (sl : Array (Option Value)), s.heap.get? l = some { cls := .type "list", dict := dd, data := .seq xs n, slots := sl } ∧ xs.size = N ∧
    ∀ h : i < xs.size, wpAny (model prog w) A.in1 (eqBool xs[i] x) (fun r s' => (r = true → R (.ok (.ret (.bool true))) s') ∧ (r = false → S (i + 1) s')) (fun e s' => R (.error e) s') s
theorem in_loop (rd : InI prog w A R l x N S) (last : ∀ s, S N s → R (.ok (.ret (.bool false))) s) : ∀ (k i : Nat), i + k = N → ∀ s, S i s →
    wpAny (model prog w) A.in1 (Builtin.«list.__contains__.loop» ⟨[.ref l, x, rawInt i], []⟩) (FinOf prog w A R) (fun e s' => R (.error e) s') s
  | 0, i, hk, s, st => by
    obtain ⟨xs, n, dd, sl, g1, z1, _⟩ := rd i s st
    have over : i = N := hk
    have q := last s (over ▸ st)
    have o1 : xs[((i : Nat) : Int).toNat]? = none := by rw [Int.toNat_natCast]; exact Array.getElem?_eq_none (by omega)
    rcases s with ⟨hp, gl, dp, tk, os⟩
    wp_walk using wpAny_loadPart' g1
    rw [o1]
    wp_walk
    exact q
  | k + 1, i, hk, s, st => by
    obtain ⟨xs, n, dd, sl, g1, z1, turn⟩ := rd i s st
    have in1 : i < xs.size := by omega
    have t := turn in1
    have o1 : xs[((i : Nat) : Int).toNat]? = some xs[i] := by rw [Int.toNat_natCast]; exact Array.getElem?_eq_getElem in1
    have up : ((i : Int) + 1) = ((i + 1 : Nat) : Int) := by omega
    rcases s with ⟨hp, gl, dp, tk, os⟩
    wp_walk using wpAny_loadPart' g1
    rw [o1]
    refine wpAny_bind (wpAny_mono t (fun r s2 q => ?_) fun _ _ z => z)
    cases r with
    | true =>
      have q2 := q.1 rfl
      rcases s2 with ⟨hp2, gl2, dp2, tk2, os2⟩
      wp_walk
      exact q2
    | false =>
      have more := in_loop rd last k (i + 1) (by omega) s2 (q.2 rfl)
      rcases s2 with ⟨hp2, gl2, dp2, tk2, os2⟩
      wp_walk
      rw [up]
      exact ⟨plainId_quiet plain_contains_loop _, codeAny_builtin entry_contains_loop (Around.under_plainId plain_contains_loop _ ▸ more)⟩
theorem list_in (rd : InI prog w A R l x N S) (last : ∀ s, S N s → R (.ok (.ret (.bool false))) s) {s : Shared} (st : S 0 s) :
    wpAny (model prog w) A.in1 (Builtin.«list.__contains__» ⟨[.ref l, x], []⟩) (FinOf prog w A R) (fun e s' => R (.error e) s') s := by
  obtain ⟨xs, n, dd, sl, g1, z1, _⟩ := rd 0 s st
  have loop := in_loop rd last N 0 (Nat.zero_add N) s st
  rcases s with ⟨hp, gl, dp, tk, os⟩
  wp_walk using wpAny_loadPart' g1
  exact ⟨plainId_quiet plain_contains_loop _, codeAny_builtin entry_contains_loop (Around.under_plainId plain_contains_loop _ ▸ loop)⟩
end
section
variable {prog : Program} {w : World} {A : Around} {E : Value → Shared → Prop} {s : Shared} {l : Addr} {N : Nat} {S : Nat → Shared → Prop} {x : Value}
theorem not_in {Q : Value → Shared → Prop} (rd : InI prog w A (wants (fun v s' => ∃ b, v = .bool b ∧ Q (.bool (!b)) s') E) l x N S) (last : ∀ s, S N s → Q (.bool true) s) (st : S 0 s) : wpAny (model prog w) A (compareOp .NotIn x (.ref l)) Q E s := by
  obtain ⟨xs, n, dd, sl, g1, z1, _⟩ := rd 0 s st
  show wpAny _ A (do return .bool (!(← contains (.ref l) x))) Q E s
  refine wpAny_bind (wpAny_contains_slot ⟨_, g1, rfl⟩ F.slot_list_contains (wpAny_mono (GQ.call_here F.slot_list_contains ⟨_, g1, rfl⟩ F.entry_list_contains (F.args_list_contains_2 _ _) (list_in rd (fun s2 t => ⟨false, rfl, last s2 t⟩) st)) (fun v s' hv => ?_) fun _ _ e => e))
  obtain ⟨b, rfl, hq⟩ := hv
  exact wpAny_truthy_bool (wpAny_pure hq)
end
section
variable {prog : Program} {w : World} {A : Around} {R : Result → Shared → Prop}
theorem tuple_neB {l b : Addr} {its its2 : Array Value} {n n2 : Nat} {dd dd2 : Option Addr} {sl sl2 : Array (Option Value)} {s : Shared} (T : List (Value × Value) → Shared → Prop)
    (step : ∀ y x rest s, T ((y, x) :: rest) s → wpAny (model prog w) A.in1 (eqBool y x) (fun r s' => (r = true → T rest s') ∧ (r = false → R (.ok (.ret (.bool true))) s')) (fun e s' => R (.error e) s') s)
    (last : ∀ s, T [] s → R (.ok (.ret (.bool (its.size != its2.size)))) s) (g1 : s.heap.get? l = some { cls := .type "tuple", dict := dd, data := .seq its n, slots := sl }) (g2 : s.heap.get? b = some { cls := .type "tuple", dict := dd2, data := .seq its2 n2, slots := sl2 })
    (t0 : T (its.toList.zip its2.toList) s) : wpAny (model prog w) A.in1 (Builtin.«tuple.__ne__» ⟨[.ref l, .ref b], []⟩) (FinOf prog w A R) (fun e s' => R (.error e) s') s := by
  have sub := AutoSeq1.sub_tuple_tuple
  rcases s with ⟨hp, gl, dp, tk, os⟩
  wp_walk using wpAny_loadPart' g1, wpAny_loadPart' g2, wpAny_forIn_list _ (fun rest b s' => b.1 = none ∧ T rest s') _
  case turn =>
    rintro ⟨y, x⟩ rest b s2 ⟨hn, ht⟩
    refine wpAny_bind (wpAny_mono (step y x rest s2 ht) (fun r s3 q => ?_) fun _ _ z => z)
    cases r with
    | true => wp_walk; exact ⟨rfl, q.1 rfl⟩
    | false => have q2 := q.2 rfl; wp_walk; simpa using q2
  case fin =>
    rintro ⟨b1, b2⟩ s2 ⟨hn, ht⟩
    have q := last s2 ht
    simp only at hn
    subst hn
    wp_walk
    simpa [Builtin.Tuple.tupleCompareSizes] using q
  case h => exact ⟨rfl, t0⟩
end
section
variable {prog : Program} {w : World} {A : Around} {E : Value → Shared → Prop}
theorem rc_tupN {s : Shared} {l b : Addr} {its its2 : Array Value} {Q : Value → Shared → Prop} (room : A.units < cLine) (T : List (Value × Value) → Shared → Prop) (tl : s.heap.IsTuple l its) (tb : s.heap.IsTuple b its2)
    (step : ∀ y x rest s, T ((y, x) :: rest) s → wpAny (model prog w) A.in1 (eqBool y x) (fun r s' => (r = true → T rest s') ∧ (r = false → Q (.bool true) s')) E s)
    (last : ∀ s, T [] s → Q (.bool (its.size != its2.size)) s) (t0 : T (its.toList.zip its2.toList) s) : wpAny (model prog w) A (richCompare .NotEq (.ref l) (.ref b)) Q E s := by
  obtain ⟨o, g1, c1, n1, d1⟩ := id tl
  obtain ⟨o2, g2, c2, n2, d2⟩ := id tb
  cases o; cases o2
  simp only at c1 d1 c2 d2
  subst c1; subst d1; subst c2; subst d2
  refine wpAny_richCompare_same_room (op := .NotEq) ⟨_, g1, rfl⟩ ⟨_, g2, rfl⟩ F.slot_tuple_ne (GQ.call_here F.slot_tuple_ne ⟨_, g1, rfl⟩ F.entry_tuple_ne (F.args_tuple_ne_2 _ _) ?_) room
  refine tuple_neB (R := wants (fun v s' => v ≠ .notImplemented ∧ Q v s') E) T (fun y x rest s2 t => ?_) (fun s2 t => ⟨(fun z => nomatch z), last s2 t⟩) g1 g2 t0
  exact wpAny_mono (step y x rest s2 t) (fun r s3 q => ⟨q.1, fun z => ⟨(fun z => nomatch z), q.2 z⟩⟩) fun _ _ z => z
end
end TxCN
namespace Tx
open PySem PySem.Spec PyProof.Rows L2 TxSQ
/-- x not in xs: e says which items are equal to x -/
def rNinLB (K : PySem.W.Frag) (D : EqvB) : R2 := fun x y H Q => ∃ (b : Addr) (xs : List V) (e : Nat → Bool), y = .ref b ∧ SqL K H b xs ∧ (∀ (i : Nat) u, xs[i]? = some u → D u x (e i) H) ∧ ∀ H', Ext H H' → Q (.bl (!(List.range xs.length).any e)) H'
theorem op_ninLB {X : Cx} {n : Nat} {D : EqvB} (hD : ∀ x y k H H', Ext H H' → D x y k H → D x y k H') (h : EqB X n D) (hr : Room (n + 1) X.A) : OpR X (compareOp .NotIn) (rNinLB X.K D) := by
  intro pins s σ H vx vy v u Q I rx ry hq
  obtain ⟨b, xs, e, rfl, hb, hd, q⟩ := hq
  cases ry
  have sb : Sub X (n + 1) X.A := ⟨hr, rfl⟩
  have stay : ∀ {H' : Hp}, Ext H H' → SqL X.K H' b xs := fun {H'} e' => by
    rcases hb with (h | ⟨o, h⟩) | h
    · exact .inl (.inl (e' _ _ h))
    · exact .inl (.inr ⟨o, e' _ _ h⟩)
    · exact .inr h
  refine TxCN.not_in (N := xs.length) (S := fun i s' => (∀ j, j < i → e j = false) ∧ LoopI X pins σ H s') (fun i s' L => ?_) (fun s' L => ?_) ⟨fun j hj => absurd hj (Nat.not_lt_zero j), H, I, Ext.rfl'⟩
  · obtain ⟨hj, H1, I1, e1⟩ := L
    obtain ⟨its, r, ⟨⟨oc, odd, odt, osl⟩, cn, g, hc, hdn, hdt⟩, _⟩ := I1.list (stay e1)
    have l1 := r.length
    simp only at hc hdt
    subst hc hdt
    refine ⟨its.toArray, cn, odd, osl, g, by rw [List.size_toArray, l1], fun hi => ?_⟩
    have hi' : i < its.length := by simpa using hi
    obtain ⟨ux, hx, rux⟩ := vals_at r (i := i) (u := its.toArray[i]) (by simp [hi'])
    refine wpAny_mono (h X.A.in1 pins s' σ H1 ux vx _ _ (e i) sb.in1 I1 rux rx (hD _ _ _ _ _ e1 (hd i _ hx))) (fun k s2 t => ?_) fun _ _ z => z
    obtain ⟨hk, H2, I2, e2⟩ := t
    refine ⟨fun kt => ⟨true, rfl, ⟨.bl (!(List.range xs.length).any e), H2, I2, ?_, q H2 (e1.trans e2)⟩⟩, fun kf => ⟨fun j hj' => ?_, H2, I2, e1.trans e2⟩⟩
    · have : (List.range xs.length).any e = true := List.any_eq_true.mpr ⟨i, List.mem_range.mpr (by omega), by rw [← hk, kt]⟩
      rw [this]
      rfl
    · by_cases ej : j = i
      · rw [ej, ← hk, kf]
      · exact hj j (by omega)
  · obtain ⟨hj, H1, I1, e1⟩ := L
    refine ⟨.bl (!(List.range xs.length).any e), H1, I1, ?_, q H1 e1⟩
    have : (List.range xs.length).any e = false := by
      rw [List.any_eq_false]
      intro j hj'
      rw [hj j (by rw [List.mem_range] at hj'; omega)]
      decide
    rw [this]
    rfl
/-- != of tuples -/
def rNeTB (K : PySem.W.Frag) (D : EqvB) : R2 := fun x y H Q => ∃ (a b : Addr) (xs ys : List V) (e : Nat → Bool), x = .ref a ∧ y = .ref b ∧ SqT K H a xs ∧ SqT K H b ys ∧ (∀ (i : Nat) u v, xs[i]? = some u → ys[i]? = some v → D u v (e i) H) ∧ ∀ H', Ext H H' → Q (.bl (!ans e xs.length ys.length)) H'
theorem op_neTB {X : Cx} {n : Nat} {D : EqvB} (hD : ∀ x y k H H', Ext H H' → D x y k H → D x y k H') (h : EqB X n D) (hr : Room (n + 1) X.A) : OpR X (compareOp .NotEq) (rNeTB X.K D) := by
  intro pins s σ H vx vy v u Q I rx ry hq
  obtain ⟨a, b, xs, ys, e, rfl, rfl, ha, hb, hd, q⟩ := hq
  cases rx
  cases ry
  obtain ⟨its, r, p1, _⟩ := I.tuple ha
  obtain ⟨its2, r2, p2, _⟩ := I.tuple hb
  have l1 := r.length
  have l2 := r2.length
  have sb : Sub X (n + 1) X.A := ⟨hr, rfl⟩
  have say : ∀ k s', k = (!ans e xs.length ys.length) → LoopI X pins σ H s' → EP X pins σ Q (.bool k) s' := fun k s' ek ⟨H', I', e'⟩ => ⟨.bl (!ans e xs.length ys.length), H', I', by rw [ek]; rfl, q H' e'⟩
  show wpAny (model X.prog X.w) X.A (richCompare .NotEq (.ref a) (.ref b)) (EP X pins σ Q) X.xe s
  refine TxCN.rc_tupN sb.room.units0 (fun rest s' => ∃ i, rest = (its.zip its2).drop i ∧ (∀ j, j < i → e j = true) ∧ LoopI X pins σ H s') p1 p2 (fun y x rest s' t => ?_) (fun s' t => ?_) ⟨0, rfl, fun j hj => absurd hj (Nat.not_lt_zero j), H, I, Ext.rfl'⟩
  · obtain ⟨i, ei, hj, H1, I1, e1⟩ := t
    obtain ⟨z1, z2, z3⟩ := zip_drop ei.symm
    obtain ⟨ux, hx, rx⟩ := vals_at r z1
    obtain ⟨uy, hy, ry⟩ := vals_at r2 z2
    have k1 := (List.getElem?_eq_some_iff.mp hx).1
    have k2 := (List.getElem?_eq_some_iff.mp hy).1
    refine wpAny_mono (h X.A.in1 pins s' σ H1 ux uy y x (e i) sb.in1 I1 rx ry (hD _ _ _ _ _ e1 (hd i _ _ hx hy))) (fun k s2 t2 => ?_) fun _ _ z => z
    obtain ⟨hk, H2, I2, e2⟩ := t2
    refine ⟨fun kt => ⟨i + 1, z3, fun j hj' => ?_, H2, I2, e1.trans e2⟩, fun kf => say _ _ (by rw [ans_no k1 k2 (hk.symm.trans kf)]; rfl) ⟨H2, I2, e1.trans e2⟩⟩
    by_cases ej : j = i
    · rw [ej, ← hk, kt]
    · exact hj j (by omega)
  · obtain ⟨i, ei, hj, L⟩ := t
    have hi : min its.length its2.length ≤ i := by
      have := congrArg List.length ei
      rw [List.length_drop, List.length_zip] at this
      simp at this
      omega
    refine say _ _ ?_ L
    rw [ans_all fun j hj' => hj j (by omega), l1, l2, List.size_toArray, List.size_toArray]
    rfl
section
variable {X : Cx} {n k : Nat} {C : Addr} {ns : List Str} {pre : List D → Prop} {Sf : List D → D → Prop}
theorem op_neTK (O : OwnK X.prog X.w X.K X.mg X.base C "__eq__" n (spS X.K pre Sf)) (hr : Room k X.A) (hk : n + 1 ≤ k) : OpR X (compareOp .NotEq) (rNeTB X.K (DWE X.K C ns pre Sf)) :=
  op_neTB (fun x y k H H' e ⟨F, d⟩ => ⟨F, mon_DW e d⟩) (fun A pins s σ H x y u v k sb I rx ry ⟨F, d⟩ => eqB_own O A pins s σ H x y u v k sb I rx ry d) (hr.mono hk)
theorem op_ninLK (O : OwnK X.prog X.w X.K X.mg X.base C "__eq__" n (spS X.K pre Sf)) (hr : Room k X.A) (hk : n + 1 ≤ k) : OpR X (compareOp .NotIn) (rNinLB X.K (DWE X.K C ns pre Sf)) :=
  op_ninLB (fun x y k H H' e ⟨F, d⟩ => ⟨F, mon_DW e d⟩) (fun A pins s σ H x y u v k sb I rx ry ⟨F, d⟩ => eqB_own O A pins s σ H x y u v k sb I rx ry d) (hr.mono hk)
end
section
variable {K : PySem.W.Frag} {m : Mo} {C : Addr} {ns : List Str} {pre : List D → Prop} {Sf : List D → D → Prop}
/-- x not in xs, by data -/
theorem o_ninLW {xs : List D} {bs : List (List D)} (e : Nat → Bool) (t1 : ∀ d ∈ xs, TreeZ 9 d = true) (t2 : ∀ ys ∈ bs, ∀ d ∈ ys, TreeZ 9 d = true)
    (h : ∀ (i : Nat) ys, bs[i]? = some ys → pre [.obj C ns ys, .obj C ns xs] ∧ (∀ d, Sf [.obj C ns ys, .obj C ns xs] d → d = .bl (e i)) ∧ (ys = xs → e i = true)) : Op1 m K (rNinLB K (DWE K C ns pre Sf)) (.obj C ns xs) (.lst (bs.map (D.obj C ns))) (.bl (!(List.range bs.length).any e)) := fun vx vy H I rx ry Q q => by
  obtain ⟨b, us, rfl, hs', rb⟩ := ry.lstE
  have l2 := rb.len
  rw [List.length_map] at l2
  refine ⟨b, us, e, rfl, SqL.of hs', fun i u h2 => ?_, fun H' e' => by rw [l2]; exact q _ _ H' rfl (m.grow I e') (.bl _)⟩
  obtain ⟨d2, g2, r2⟩ := rb.at h2
  obtain ⟨ys, q2, rfl⟩ := obj_at g2
  obtain ⟨p1, p2, p3⟩ := h i ys q2
  exact ⟨m.F, ys, xs, fun c f => m.fa I f, r2, rx, t2 ys (List.mem_of_getElem? q2), t1, p3, p1, p2⟩
/-- != of tuples of them, by data -/
theorem o_neTW {as bs : List (List D)} (e : Nat → Bool) (t1 : ∀ xs ∈ as, ∀ d ∈ xs, TreeZ 9 d = true) (t2 : ∀ xs ∈ bs, ∀ d ∈ xs, TreeZ 9 d = true)
    (h : ∀ (i : Nat) xs ys, as[i]? = some xs → bs[i]? = some ys → pre [.obj C ns xs, .obj C ns ys] ∧ (∀ d, Sf [.obj C ns xs, .obj C ns ys] d → d = .bl (e i)) ∧ (xs = ys → e i = true)) : Op1 m K (rNeTB K (DWE K C ns pre Sf)) (.tup (as.map (D.obj C ns))) (.tup (bs.map (D.obj C ns))) (.bl (!ans e as.length bs.length)) := fun vx vy H I rx ry Q q => by
  obtain ⟨a, vs, rfl, hs, ra⟩ := rx.tupE
  obtain ⟨b, us, rfl, hs', rb⟩ := ry.tupE
  have l1 := ra.len
  have l2 := rb.len
  rw [List.length_map] at l1 l2
  refine ⟨a, b, vs, us, e, rfl, rfl, hs, hs', fun i u v h1 h2 => ?_, fun H' e' => by rw [l1, l2]; exact q _ _ H' rfl (m.grow I e') (.bl _)⟩
  obtain ⟨d1, g1, r1⟩ := ra.at h1
  obtain ⟨d2, g2, r2⟩ := rb.at h2
  obtain ⟨xs, q1, rfl⟩ := obj_at g1
  obtain ⟨ys, q2, rfl⟩ := obj_at g2
  obtain ⟨p1, p2, p3⟩ := h i xs ys q1 q2
  exact ⟨m.F, xs, ys, fun c f => m.fa I f, r1, r2, t1 xs (List.mem_of_getElem? q1), t2 ys (List.mem_of_getElem? q2), p3, p1, p2⟩
end
end Tx

set_option Elab.async false
set_option linter.all false
set_option maxRecDepth 100000
set_option maxHeartbeats 1000000
set_option autoImplicit false
/-! TxEX: defs that may raise an own exception; try: return f(..) / except X: return e -/
namespace Tx
open PySem PySem.Spec PyProof.Rows L2
/-- a mode, and that all is later than H0 -/
def sinceMo (m : Mo) (H0 : Hp) : Mo where
  F := m.F
  R := m.R
  I := fun H => m.I H ∧ m.R H0 H
  refl := m.refl
  trans := m.trans
  keep := fun r i a o n e => m.keep r i.1 a o n e
  grow := fun i s => m.grow i.1 s
  inv := fun r i => ⟨m.inv r i.1, m.trans i.2 r⟩
  fa := fun i f => m.fa i.1 f
  chg := fun i r h => m.chg i.1 r h
  had := fun i r n => m.had i.1 r n
theorem sinceMo_le {m : Mo} {H0 : Hp} : Mo.Le m (sinceMo m H0) := ⟨rfl, fun _ h => h, fun _ h => h.1⟩
/-- a def that gives, or raises an exception of a class that R tells of -/
def spX (K : PySem.W.Frag) (pre : List D → Prop) (S : List D → D → Prop) (R : List D → Value → Prop) : Sp := fun vs H Q E => ∃ (F : Addr → Prop) (ds : List D), (∀ a, F a → H a ≠ none) ∧ RpAll K F H vs ds ∧ pre ds ∧ (∀ v d H', S ds d → Same H H' → Rp K F H' v d → Q v H') ∧ ∀ cls H', R ds cls → Same H H' → E cls none H'
section
variable {P : Program} {w : World} {K : PySem.W.Frag} {mg : Str → Option Value} {base : Heap}
theorem fn_pureX {x qual : Str} {st : Stmt} {f : Addr} {fd : FuncData} {N ps : List Str} {k : Nat} {pre : List D → Prop} {Sf : List D → D → Prop} {R : List D → Value → Prop} (Fu : Fun K x qual st f fd) (Sc : FnScope N ps (defScope st)) (hl : ∀ ds, pre ds → ds.length = ps.length)
    (body : ∀ (cdv : Value) (A : Around) (outer : List Env) (s : Shared) (H : Hp) (E : XK), Room k (A.deeper (PyProof.Rows.envOfC qual (defScope st) s.heap.objs.size f cdv)) →
      ∃ t, PSs (cxOf (L2.CX P w) P w K mg base N qual (defScope st) f cdv A outer s H E) (defBody st) t ∧ ∀ (F : Addr → Prop) (ds : List D), pre ds → (∀ cls H', R ds cls → Same H H' → E cls none H') → SG (sinceMo (pureMo F) H) K t (startG N ds) { nx := fun _ => Sf ds .non, rt := Sf ds }) :
    FnOk P w K mg base (L2.CX P w) (k + 1) f fd ps (spX K pre Sf R) := by
  refine Fu.okX Sc (fun vs H Q E h => ?_) (fun cdv A outer s H vs Q E hr h => ?_)
  · obtain ⟨F, ds, _, ra, hp, _⟩ := h
    rw [ra.len]
    exact hl ds hp
  · obtain ⟨F, ds, hF, ra, hp, q, qx⟩ := h
    obtain ⟨t, ht, hs⟩ := body cdv A outer s H E hr
    have e0 := er_start (m := pureMo F) hF ra N
    exact ⟨t, ht, hs F ds hp qx _ H ⟨⟨e0.i, fun a o e => e⟩, e0.len, e0.at_⟩ _ ⟨fun Γ' σ' H' o r _ => q _ _ H' o r .non, fun d v H' o r rv => q v d H' o r rv, fun _ _ _ o => o.elim, fun _ _ _ o => o.elim⟩⟩
end
/-- raise X('..'), in a def: what is wished of it -/
abbrev tRaiseD (E : XK) (C : Addr) : TS := fun _ σ H => E (.ref C) none H
theorem sg_raise {m : Mo} {K : PySem.W.Frag} {Γ : G} {O : Out} {E : XK} {C : Addr} {H0 : Hp} (h : ∀ H', m.R H0 H' → E (.ref C) none H') : SG (sinceMo m H0) K (tRaiseD E C) Γ O := fun σ H e D M => h H e.i.2
section
variable {X : Cx}
/-- what a raised class must be -/
structure ExcK (K : PySem.W.Frag) (mg : Str → Option Value) (x : Str) (C : Addr) : Prop where
  g : mg x = some (.ref C)
  kp : PySem.W.keepIn K (.ref C) = true
  ex : ∃ (B newId initId : String) (bmB : List Value), ExcBaseFacts B newId initId bmB ∧ PySem.W.excIn K C bmB newId = true
  sb : PySem.W.subIn K (.ref C) (.type "BaseException") = some true
  ty : PySem.W.typeIn K (.ref C) = some (.type "type")
theorem ps_raiseD {P : Program} {w : World} {K : PySem.W.Frag} {mg : Str → Option Value} {base : Heap} {N : List Str} {qual : Str} {scope : Scope} {f : Addr} {cdv : Value} {A : Around} {outer : List Env} {s : Shared} {H : Hp} {E : XK} {x msg : Str} {C : Addr} {j : Nat} {p p2 pos pos2 : Pos}
    (ek : ExcK K mg x C) (hg : Gl (cxOf (L2.CX P w) P w K mg base N qual scope f cdv A outer s H E) x) (hdb : (x == ("__debug__" : Str)) = false := by decide) :
    PS (cxOf (L2.CX P w) P w K mg base N qual scope f cdv A outer s H E) (.Raise (some (.Call (.Name x p) [.Constant (.str msg) j p2] [] pos)) none pos2) (tRaiseD E C) := by
  obtain ⟨B, newId, initId, bmB, F, q⟩ := ek.ex
  exact ps_raise (W := fun cls d _ H => E cls d H) rfl (takes_of rfl rfl rfl rfl) (pmk_own F q ek.g ek.kp (raises_own ek.sb ek.ty) hg hdb)
end
/-- a def that may raise, by its name -/
structure CalX (P : Program) (w : World) (K : PySem.W.Frag) (mg : Str → Option Value) (base : Heap) (k : Nat) (x : Str) (sp : Sp) : Prop where
  ex : ∃ (f : Addr) (fd : FuncData) (ps : List Str), FnOk P w K mg base (L2.CX P w) k f fd ps sp ∧ mg x = some (.ref f) ∧ PySem.W.keepIn K (.ref f) = true ∧ Binds K fd ps []
section
variable {X : Cx} {k j : Nat} {x : Str} {sp : Sp} {p pos : Pos} {e : Expr} {es : List Expr} {t : TA}
/-- .. where it does not -/
theorem pe_cX (c : CalX X.prog X.w X.K X.mg X.base k x sp) (hr : Room j X.A) (hk : k ≤ j) (hg : Gl X x) (ha : PA X (e :: es) t) (hdb : (x == ("__debug__" : Str)) = false := by decide) (he : starEach (e :: es) X.env = (false, eval e X.env) :: starEach es X.env := by rfl) (hpl : (backTo pos (starEach es X.env)).any (·.1) = false := by rfl) :
    PE X (.Call (.Name x p) (e :: es) [] pos) (tCall sp [] E0 t) := by
  obtain ⟨f, fd, ps, F, hm, hkp, hb⟩ := c.ex
  exact pe_call F (hr.mono hk) hg hm hkp hb .nil passL ha hdb he hpl
/-- .. what it raises goes to W -/
theorem pe_cXt {W : WX} (c : CalX X.prog X.w X.K X.mg X.base k x sp) (hr : Room j X.A) (hk : k ≤ j) (tk : Takes X W) (hg : Gl X x) (ha : PA X (e :: es) t) (hdb : (x == ("__debug__" : Str)) = false := by decide) (he : starEach (e :: es) X.env = (false, eval e X.env) :: starEach es X.env := by rfl) (hpl : (backTo pos (starEach es X.env)).any (·.1) = false := by rfl) :
    PE X (.Call (.Name x p) (e :: es) [] pos) (tCallS sp (WE W) t) := by
  obtain ⟨f, fd, ps, F, hm, hkp, hb⟩ := c.ex
  exact pe_callS F (hr.mono hk) hg hm hkp hb (passAt tk) ha hdb he hpl
end
/-- try: return f(..) / except X: return v -/
abbrev tTryRet (K : PySem.W.Frag) (c : Value) (sp : Sp) (t : TA) (te : TE) : TS := fun D σ H => tRet (tCallS sp (WE (wOnly K c (fun _ _ _ => tRet te) (fun _ _ _ _ => False) D)) t) D σ H
section
variable {X : Cx} {x : Str} {c : Value} {call e0 : Expr} {np p3 p5 pos pos' : Pos} {sp : Sp} {t : TA} {te : TE}
theorem ps_tryRet (hs : X.stack = X.env :: X.outer) (hf : X.env.frame = some X.env.locals) (hc : Names X x c) (hb : ∀ (W : WX) (pn : List (Addr × Obj)) (xe : Value → Shared → Prop), Takes (X.tr pn xe) W → PE (X.tr pn xe) call (tCallS sp (WE W) t))
    (he : ∀ (a : Addr) (pn : List (Addr × Obj)), PE (X.suite a pn) e0 te) :
    PS X (.Try [.Return (some call) p3] [.ExceptHandler (some (.Name x np)) none [.Return (some e0) p5] pos'] [] [] pos) (tTryRet X.K c sp t te) :=
  ps_try_only (tb := fun W => tRet (tCallS sp (WE W) t)) hs hf hc L2.takes0 (fun W pn xe tk _ => pss_one (ps_ret (hb W pn xe tk))) fun a oe cls d pn _ _ => pss_one (ps_ret (he a _))
end
section
variable {K : PySem.W.Frag} {m : Mo} {Γ : G} {pre : List D → Prop} {Sf : List D → D → Prop} {R : List D → Value → Prop} {ds : List D} {S : D → Prop} {ta : TA}
theorem en_callX {E : XK} (h : EvA1 m K ta Γ ds) (hp : pre ds) (hs : ∀ d, Sf ds d → S d) (hn : ∀ cls, ¬ R ds cls) : EvN m K (tCall (spX K pre Sf R) [] E ta) Γ S := fun σ H e Q q =>
  h σ H e _ fun vs ds' H1 s r1 rs => by
    subst s
    refine ⟨m.F, ds', fun a f => m.fa (m.inv r1 e.i) f, by simpa using rs, hp, fun v d H' sd sm rv => q v d H' (hs d sd) (m.trans r1 (m.grow (m.inv r1 e.i) sm)) rv, fun cls H' r _ => absurd r (hn cls)⟩
theorem sg_tryRet {c : Value} {v : V} {d0 : D} {O : Out} (h : EvA1 m K ta Γ ds) (hp : pre ds) (hS : ∀ d, Sf ds d → O.rt d) (hR : ∀ cls, R ds cls → PySem.W.exmOne K cls c = some true) (hN : (∃ cls, R ds cls) → O.rt d0) (hv : ∀ F H, Rp K F H v d0) :
    SG m K (tTryRet K c (spX K pre Sf R) ta (tC v)) Γ O := fun σ H e E M =>
  h σ H e _ fun vs ds' H1 s r1 rs => by
    subst s
    have i1 := m.inv r1 e.i
    exact ⟨m.F, ds', fun a f => m.fa i1 f, rs, hp, fun v d H' sd sm rv => M.rt d v H' (hS d sd) (m.trans r1 (m.grow i1 sm)) rv, fun cls H' hr sm => ⟨true, hR cls hr, fun _ a _ => M.rt d0 v H' (hN ⟨cls, hr⟩) (m.trans r1 (m.grow i1 sm)) (hv _ _), fun z => nomatch z⟩⟩
end
end Tx

set_option Elab.async false
set_option linter.all false
set_option maxRecDepth 100000
set_option maxHeartbeats 4000000
set_option autoImplicit false
/-! TxXI: own exceptions with an own __init__ over any built-in error: made, one field stored, raised -/
namespace Tx
open PySem PySem.Spec PyProof.Rows L2
theorem stores_of {B : String} {bm : List Value} (mro : mroOf (.type B) = pure bm) (slot : Slot B "__setattr__" "object.__setattr__") (own : bm.contains (.type "object") = true) (pass : ∀ self : Value, refuseLoop self "__setattr__" bm = pure ()) : StoreFacts B bm "object.__setattr__" "object" :=
  { mro := mro, slot := slot, entry := PySem.F.store_Exception.entry, kind := PySem.F.store_Exception.kind, split := PySem.F.store_Exception.split, hasOwner := own, args := PySem.F.store_Exception.args, passes := pass }
abbrev bmOver : List Value := [.type "OverflowError", .type "ArithmeticError", .type "Exception", .type "BaseException", .type "object"]
abbrev bmIndex : List Value := [.type "IndexError", .type "LookupError", .type "Exception", .type "BaseException", .type "object"]
theorem stores_Over : StoreFacts "OverflowError" bmOver "object.__setattr__" "object" :=
  stores_of PySem.F.excBase_OverflowError.mroIs (.of (owner := "object") (n := "__setattr__") (by rw [typeLookup_type, builtinLookup_eq_fast]; kernel_rfl) (by decide +kernel) (by decide +kernel) (by decide +kernel)
    (by first | exact .inl (by decide +kernel) | exact .inr (by decide +kernel)) (by rw [isSubtype_type]; kernel_rfl)) (by decide +kernel) fun self => by kernel_rfl
theorem stores_Index : StoreFacts "IndexError" bmIndex "object.__setattr__" "object" :=
  stores_of PySem.F.excBase_IndexError.mroIs (.of (owner := "object") (n := "__setattr__") (by rw [typeLookup_type, builtinLookup_eq_fast]; kernel_rfl) (by decide +kernel) (by decide +kernel) (by decide +kernel)
    (by first | exact .inl (by decide +kernel) | exact .inr (by decide +kernel)) (by rw [isSubtype_type]; kernel_rfl)) (by decide +kernel) fun self => by kernel_rfl
/-- what is asked of such a class -/
structure XiC (K : PySem.W.Frag) (C : Addr) (B newId initId : String) (bmB : List Value) : Prop where
  fb : ExcBaseFacts B newId initId bmB
  sf : StoreFacts B bmB "object.__setattr__" "object"
  inC : PySem.W.excInitIn K C bmB newId = true
  ov : PySem.W.excOver K C bmB = true
  hd : PySem.W.hasDictIn K C = true
  sa : PySem.W.findIn K (.ref C) "__setattr__" = some (some (.builtin "object.__setattr__"))
  exC : PySem.W.subIn K (.ref C) (.type "BaseException") = some true
  tyC : PySem.W.typeIn K (.ref C) = some (.type "type")
  kC : PySem.W.keepIn K (.ref C) = true
section
open Builtin Builtin.ObjectAttr
variable {prog : Program} {w : World} {A : Around} {R : Result → Shared → Prop} {hp : Heap} {g : Array GenState} {d : Drawn} {t : Nat} {os : OsState}
theorem xi_osa {K : PySem.W.Frag} {C x t1 : Addr} {c2 v : Value} {B newId initId : String} {bmB : List Value} {name : Str} {tk : Tok} (T : XiC K C B newId initId bmB) (X : K.In hp) (hx : hp.get? x = some (PySem.W.excObj C t1 none c2)) (ht : PySem.W.takerIn K C name = some none)
    (hq : ∀ h' tk' dx, (∀ b o, b ≠ x → hp.get? b = some o → h'.get? b = some o) → hp.objs.size ≤ dx → dx ≠ x → h'.get? x = some (PySem.W.excObj C t1 (some dx) c2) → h'.Ns1 dx (fun y => if y = name then some v else none) → R (.ok (.ret .none)) ⟨h', g, d, tk', os⟩) :
    codeAny (model prog w) A (.call (.builtin "object.__setattr__") ⟨[.ref x, .str name tk, v], []⟩) R ⟨hp, g, d, t, os⟩ := by
  refine PySem.W.osa_openX (od := none) T.sf X ⟨hx, rfl, rfl, trivial⟩ T.ov ht fun b => ?_
  obtain ⟨cd, hc, hd'⟩ := PySem.W.any_some T.hd
  have lt : x < hp.objs.size := Heap.lt_size hx
  have nx : hp.objs.size ≠ x := Nat.ne_of_gt lt
  have hx1 : (hp.push (PySem.W.dictOf [] 0)).get? x = some (PySem.W.excObj C t1 none c2) := Heap.get?_push_of_some _ hx
  refine wpAny_bind (wpAny_pure (wpAny_bind (PySem.W.instanceDict_exc hx (PySem.W.looks_clsIn X hc) hd' ?_)))
  show wpAny _ _ (storeInDict hp.objs.size (.str name tk) name v) _ _ _
  refine PySem.HandSPX.store_in_new ⟨_, #[], _, (Heap.get?_update_ne _ _ _ _ nx).trans (Heap.get?_push_at rfl rfl), rfl, fun e he => absurd he (by simp), fun _ => rfl⟩ fun h' tk' hn' hs => ?_
  refine hq h' tk' hp.objs.size (fun b o hb ho => ?_) (Nat.le_refl _) nx ?_ hn'
  · exact (hs.2 b (Nat.ne_of_lt (Heap.lt_size ho))).trans ((Heap.get?_update_ne _ _ _ _ hb).trans (Heap.get?_push_of_some _ ho))
  · exact (hs.2 x (Ne.symm nx)).trans (Heap.get?_update_self _ hx1 rfl)
end
/-! ### over what is known of the heap -/
section
variable {X : Cx} {pins : List (Addr × Obj)} {σ : L2.St} {H : Hp} {s : Shared} {a C : Addr} {f : Str} {y : V} {u : Value} {A : Around} {B newId initId : String} {bmB : List Value}
theorem XiC.cls (T : XiC X.K C B newId initId bmB) (I : Inv X pins σ H s) : ∃ nm N qn bs bm hdct sn sub ab col dd k0 k1 k2 k3 k5, s.heap.get? C = some (excClassObj nm qn C N bs bm hdct sn sub ab col dd k0 k1 k2 k3 k5 newId) ∧ ∀ Y : String, bm.contains (.type Y) = bmB.contains (.type Y) :=
  PySem.W.excInit_of I.kIn T.inC
/-- how the heap has moved, when the dict of an exception was made -/
theorem un_dict {h h' : Heap} {dx : Addr} {fs ex} (hok : HOk X.prog X.w H h) (e : H a = some (exo a C none)) (k : ∀ b o, b ≠ a → h.get? b = some o → h'.get? b = some o) (dn : h.objs.size ≤ dx) (hx : ∃ o, h'.get? a = some o) {φ : HO} : Un fs ex H (upd (upd H dx φ) a (exo a C (some dx))) h h' := by
  have hnd : H dx = none := hok.fresh dn
  have nd : ∀ {b : Addr} {o : Obj}, h.get? b = some o → b ≠ dx := fun {b o} q => Nat.ne_of_lt (Nat.lt_of_lt_of_le (Heap.lt_size q) dn)
  have na : ∀ {b : Addr}, H b = none → b ≠ a := fun {b} n z => by rw [z, e] at n; cases n
  refine ⟨fun b o q n _ _ => k b o (na n) q, fun b o q n _ _ => ⟨o.slots, k b o (na n) q⟩, fun b o q n _ => ?_, fun b o q _ => ?_, fun b xs q => ?_, fun b o v q => ?_, fun b ps q => ⟨#[], ?_⟩⟩
  · rw [upd_ne (na n), upd_ne (nd q)]; exact n
  · by_cases z : b = a
    · rw [z]; exact hx
    · exact ⟨o, k b o z q⟩
  · rw [upd_ne (at_ne e q exo_tup), upd_ne (ne_of_none q hnd)]; exact q
  · rw [upd_ne (at_ne e q exo_frz), upd_ne (ne_of_none q hnd)]; exact q
  · rw [upd_ne (at_ne e q exo_tbl), upd_ne (ne_of_none q hnd), q]; simp
theorem xi_ost {Q : Unit → Shared → Prop} {E : Value → Shared → Prop} (T : XiC X.K C B newId initId bmB) (I : Inv X pins σ H s) (e : H a = some (exo a C none)) (ht : PySem.W.takerIn X.K C f = some none) (ry : RelV y u)
    (h : ∀ dx s', H dx = none → dx ≠ a → Inv X pins σ (upd (upd H dx (exd dx [(f, y)])) a (exo a C (some dx))) s' → Q () s') : wpAny (model X.prog X.w) A (setAttr (.ref a) f u) Q E s := by
  obtain ⟨t1, ho⟩ := exo_at I.hok e
  obtain ⟨hp, g, d, t, os⟩ := s
  refine PySem.W.set_plain I.kIn (ox := PySem.W.excObj C t1 none .none) (od := none) ⟨ho, rfl, rfl, trivial⟩ T.sa (xi_osa T I.kIn ho ht fun h' tk' dx k dn dne hx hn => ?_)
  have hnd : H dx = none := I.hok.fresh dn
  refine h dx _ hnd dne (I.un (t' := tk') (un_dict I.hok e k dn ⟨_, hx⟩) fun b o q => ?_)
  by_cases hb : b = a
  · subst hb
    rw [upd_same] at q
    cases q
    exact exo_ok hx
  rw [upd_ne hb] at q
  by_cases hd : b = dx
  · subst hd
    rw [upd_same] at q
    cases q
    exact exd_ok hn (relO_put (fs := []) ry fun g => True.intro)
  rw [upd_ne hd] at q
  have far : ∀ {c : Addr}, (c = b ∨ H c = some (.own b)) → c ≠ a := fun {c} hc => hc.elim (fun z => z ▸ hb) fun z => at_ne e z exo_own
  refine (I.hok b o q).stay (fun c v hc z => k c v (far hc) z) (fun c hc => ?_) fun c xs hc => ?_
  · rw [upd_ne (at_ne e hc exo_own), upd_ne (ne_of_none hc hnd)]; exact hc
  · rw [upd_ne (at_ne e hc exo_tup), upd_ne (ne_of_none hc hnd)]; exact hc
/-- B.__init__(self, ..): nothing of it is told -/
theorem xi_init {us : List Value} {Q : Value → Shared → Prop} {E : Value → Shared → Prop} (T : XiC X.K C B newId initId bmB) (I : Inv X pins σ H s) (e : H a = some (exo a C none)) (hl : us.length ≤ sizeLine) (h : ∀ s', Inv X pins σ H s' → Q .none s') : wpAny (model X.prog X.w) A (call (.builtin initId) (.ref a :: us)) Q E s := by
  obtain ⟨nm, N, qn, bs, bm, hdct, sn, sub, ab, col, dd, k0, k1, k2, k3, k5, hC, hT⟩ := T.cls I
  obtain ⟨t1, ho⟩ := exo_at I.hok e
  obtain ⟨hp, g, d, t, os⟩ := s
  refine wpAny_call (PySem.HandSPX.init_base T.fb hT hC ho hl fun h' t2 k hx => ?_)
  have J := I.write (t' := t) (x := a) (e := a) (o := exo a C none) (by rw [e]; exact True.intro) (.inl rfl) k ⟨_, hx⟩ (exo_ok hx)
  have eu : upd H a (exo a C none) = H := funext fun b => by
    by_cases z : b = a
    · rw [z, upd_same, e]
    · rw [upd_ne z]
  rw [eu] at J
  exact h _ J
end
/-! ### readings and rules -/
/-- B.__init__(self, ..) -/
def tXInit (K : PySem.W.Frag) (B newId initId : String) (bmB : List Value) (ta : TA) : TE := fun σ H Q => ta σ H fun vs H1 => ∃ (a C : Addr) (ws : List V), vs = .ref a :: ws ∧ ws.length ≤ 1000 ∧ XiC K C B newId initId bmB ∧ H1 a = some (exo a C none) ∧ Q .non H1
/-- self.f = e, the first -/
def tXst (K : PySem.W.Frag) (f : Str) (to te : TE) : TS := fun D σ H => te σ H fun y H1 => to σ H1 fun x H2 => ∃ (a C : Addr) (B newId initId : String) (bmB : List Value), x = .ref a ∧ XiC K C B newId initId bmB ∧ PySem.W.takerIn K C f = some none ∧ H2 a = some (exo a C none) ∧ ∀ dx, H2 dx = none → dx ≠ a → D.nx σ (upd (upd H2 dx (exd dx [(f, y)])) a (exo a C (some dx)))
section
variable {X : Cx} {o e : Expr} {es : List Expr} {to te : TE} {ta : TA} {f x : Str} {p p' p1 p2 pos : Pos} {B newId initId : String} {bmB : List Value}
theorem pe_xinit {pl : Sem Bool} (hg : Gl X x) (hm : X.mg x = none) (hb : bootBuiltins x = some (.type B)) (hty : typeOf (.type B) = pure (.type "type")) (hst : Manifest.isStub B = false) (hh : PySem.W.handedIn (.builtin initId) = true) (vV : PySem.W.findCls X.K (.type B) (.type "type") "__init__" = some (.val (.builtin initId))) (ha : PA X (e :: es) ta)
    (hn : x ≠ "__name__" := by decide) (hdb : (x == ("__debug__" : Str)) = false := by decide)
    (hc : eval (.Call (.Attribute (.Name x p1) "__init__" p2) (e :: es) [] pos) X.env = (do
      let ov ← eval (.Name x p1) X.env
      standAt p2.atName
      let (f, first) ← holding [ov] (getMethod ov "__init__" pl)
      callWith pos f first (backTo pos (starEach (e :: es) X.env)) (backToKw pos (keywordEach [] X.env))) := by rfl)
    (he : starEach (e :: es) X.env = (false, eval e X.env) :: starEach es X.env := by rfl) (hpl : (backTo pos (starEach es X.env)).any (·.1) = false := by rfl) :
    PE X (.Call (.Attribute (.Name x p1) "__init__" p2) (e :: es) [] pos) (tXInit X.K B newId initId bmB ta) := by
  refine ⟨fun pins s σ H Q I h => PySem.W.methodCall_KW (ld_blt I hg hm hb ?_ hn hdb) hc⟩
  obtain ⟨m, fr⟩ := I.fr
  refine PySem.W.method_type fr I.ok.mod.kin hty hst vV hh ?_
  show wpAny _ _ (callWith pos (Value.builtin initId) [] (backTo pos (starEach (e :: es) X.env)) []) _ _ _
  refine PyProof.Rows.callWith_method1 (thn (ha.run pos pins _ σ H _ (I.tok _) h) fun us s1 ⟨vs, H1, I1, r1, a, C, ws, ev, hl, T, ea, q⟩ => ?_) he hpl
  subst ev
  cases r1 with
  | @cons _ u0 _ ur ra rw' =>
    obtain rfl : u0 = Value.ref a := ra
    exact xi_init T I1 ea (by rw [← Paired.length rw', sizeLine_eq]; omega) fun s' J => ⟨.non, H1, J, rfl, q⟩
theorem ps_xst (ho : PE X o to) (he : PE X e te) (hs : swapsWith e (some (.Attribute o f p')) pos.line X.env = pure false := by rfl) : PS X (.Assign [.Attribute o f p'] e pos) (tXst X.K f to te) := by
  refine ⟨fun pins s σ H D I h => ?_⟩
  refine plainObj_wpAny_Assign_Attribute (thn (he.run pins s σ H _ I h) fun v s1 ⟨y, H1, I1, r1, q1⟩ => thn (ho.run pins s1 σ H1 _ I1 q1) fun u s2 ⟨x, H2, I2, r2, a, C, B, newId, initId, bmB, ex, T, hno, ea, q⟩ => ?_) hs
  subst ex
  obtain rfl : u = Value.ref a := r2
  exact xi_ost T I2 ea hno r1 fun dx s' n ne J => ⟨σ, _, J, q dx n ne⟩
/-- what such an __init__ does -/
def spXi (C : Addr) (f : Str) : Sp := fun vs H Q _ => ∃ (a : Addr) (y : V), vs = [.ref a, y] ∧ H a = some (exo a C none) ∧ ∀ dx, H dx = none → dx ≠ a → Q .non (upd (upd H dx (exd dx [(f, y)])) a (exo a C (some dx)))
/-- C(e), raised: what is told of it -/
def tMkX (C : Addr) (f : Str) (te : TE) : L2.St → Hp → XK → Prop := fun σ H Q => (tCons te tNil) σ H fun vs H1 => ∃ y, vs = [y] ∧ ∀ d, H1 d = none → Q (.ref C) (some d) (upd H1 d (.xd [(f, y)]))
theorem pmk_xi {CX : CXT} {C fI : Addr} {k : Nat} {fd : FuncData} {ps : List Str} (T : XiC X.K C B newId initId bmB) (iC : PySem.W.findIn X.K (.ref C) "__init__" = some (some (.ref fI))) (tI : PySem.W.typeIn X.K (.ref fI) = some (.type "function"))
    (F1 : FnOk X.prog X.w X.K X.mg X.base CX k fI fd ps (spXi C f)) (hr : Room (k + 1) X.A) (hb : Binds X.K fd ps []) (hx : Passes CX X (fun _ _ _ => False)) (hg : Gl X x) (hm : X.mg x = some (.ref C)) (he0 : PE X e te)
    (hdb : (x == ("__debug__" : Str)) = false := by decide) (he : starEach [e] X.env = (false, eval e X.env) :: starEach [] X.env := by rfl) (hpl : (backTo pos (starEach [] X.env)).any (·.1) = false := by rfl) :
    PMk X (.Call (.Name x p) [e] [] pos) (tMkX C f te) := by
  intro pins s σ H Q I h
  obtain ⟨hp0, g0, dr0, tk0, os0⟩ := s
  refine wpAny_Call_Name_kw (ld_glob I hg hm ?_ hdb)
  have ha : PA X [e] (tCons te tNil) := pa_cons he0 pa_nil he
  refine PySem.W.callWith_K (h₀ := X.base) I.ok.mod.kin T.kC (thn (ha.run pos pins _ σ H (fun vs H1 => ∃ y, vs = [y] ∧ ∀ d, H1 d = none → Q (.ref C) (some d) (upd H1 d (.xd [(f, y)]))) I h) fun us s1 ⟨vs, H1, I1, r1, y, ev, q1⟩ => ⟨I1.kIn, ?_⟩) he hpl
  subst ev
  show wpAny _ _ (call (.ref C) us) _ _ _
  obtain ⟨nm, N, qn, bs, bm, hdct, sn, sub, ab, col, dd, k0, k1, k2, k3, k5, hC, hT⟩ := T.cls I1
  obtain ⟨hp, g, dr, tk, os⟩ := s1
  let a : Addr := hp.objs.size + 1
  have hsz : hp.objs.size ≤ a := Nat.le_succ _
  have hn : H1 a = none := I1.hok.fresh hsz
  have kk : ∀ b o, hp.get? b = some o → ((hp.push (PySem.W.kdv_tup us)).push (PySem.HandSPX.excO C hp.objs.size)).get? b = some o := fun b o e => Heap.get?_push_of_some _ (Heap.get?_push_of_some _ e)
  have hget : ((hp.push (PySem.W.kdv_tup us)).push (PySem.HandSPX.excO C hp.objs.size)).get? (hp.objs.size + 1) = some (PySem.HandSPX.excO C hp.objs.size) := by heap_get
  have I2 : Inv X pins σ (upd H1 a (exo a C none)) ⟨(hp.push (PySem.W.kdv_tup us)).push (PySem.HandSPX.excO C hp.objs.size), g, dr, tk, os⟩ := I1.laid (t' := tk) (a := a) (o := exo a C none) kk hsz (exo_ok hget)
  have r2 : Vals (V.ref a :: ([y] ++ [])) (Value.ref a :: (us ++ [])) := .cons rfl (r1.append .nil)
  have hus : us.length ≤ sizeLine := by rw [← Paired.length r1, sizeLine_eq]; show 1 ≤ _; omega
  have hq : spXi C f (.ref a :: ([y] ++ [])) (upd H1 a (exo a C none)) (fun v H2 => v = .non ∧ ∃ (d : Addr), H2 a = some (exo a C (some d)) ∧ H2 d = some (exd d [(f, y)]) ∧ H1 d = none ∧ Q (.ref C) (some d) (upd (del H2 a) d (.xd [(f, y)]))) (fun _ _ _ => False) := by
    refine ⟨a, y, rfl, upd_same, fun dx hdx ne => ⟨rfl, dx, upd_same, by rw [upd_ne ne, upd_same], ?_, ?_⟩⟩
    · rw [upd_ne ne] at hdx; exact hdx
    · have hd1 : H1 dx = none := by rw [upd_ne ne] at hdx; exact hdx
      have e1 : upd (del (upd (upd (upd H1 a (exo a C none)) dx (exd dx [(f, y)])) a (exo a C (some dx))) a) dx (.xd [(f, y)]) = upd H1 dx (.xd [(f, y)]) := funext fun b => by
        by_cases z : b = dx
        · rw [z, upd_same, upd_same]
        · rw [upd_ne z, upd_ne z]
          by_cases z2 : b = a
          · rw [z2, del_same, hn]
          · rw [del_ne z2, upd_ne z2, upd_ne z, upd_ne z2]
      rw [e1]
      exact q1 dx hd1
  have hl : (Value.ref a :: us ++ []).length = ps.length := by
    have e := r2.length
    rw [F1.len _ _ _ _ hq] at e
    exact e.symm
  have hb2 := hb _ (Value.ref a :: us) I2.kIn hl
  rw [List.cons_append] at hb2
  refine wpAny_call (PySem.HandSPX.call_own T.fb hT hC (PySem.W.looks_findIn I1.kIn iC) (fun self => PySem.W.bind_fn I1.kIn self tI) hus
    (codeAny_mono (F1.run _ X.stack _ _ ⟨Value.ref a :: us, []⟩ (Value.ref a :: (us ++ [])) _ _ (fun _ _ _ => False) (hr.make C us []) (I2.env0.make C us []) hb2 r2 hq) fun r s' hq' => ?_))
  rcases r with er | fl
  · exact hx pins σ _ _ er s' I2 hq'
  · cases fl with
    | ret u =>
      obtain ⟨v, H2, os2, bare2, un2, hok2, rv, ev, d, ea, ed, hd1, q2⟩ := hq'
      subst ev
      obtain ⟨h2, g2, d2, t2, os'⟩ := s'
      exact ⟨rv, mk_end (raises_own T.exC T.tyC) I1 hsz kk un2 hok2 os2 bare2 ea ed hd1 q2⟩
    | next => exact hq'.elim
    | brk => exact hq'.elim
    | cont => exact hq'.elim
end
end Tx

set_option Elab.async false
set_option linter.all false
set_option maxRecDepth 100000
set_option maxHeartbeats 4000000
set_option autoImplicit false
/-! TxKE: own exceptions over KeyError, whose __new__ is that of LookupError -/
namespace Tx
open PySem PySem.Spec PyProof.Rows L2
abbrev bmKey : List Value := [.type "KeyError", .type "LookupError", .type "Exception", .type "BaseException", .type "object"]
theorem stores_Key : StoreFacts "KeyError" bmKey "object.__setattr__" "object" :=
  stores_of (by rw [mroOf_type]; kernel_rfl) (.of (owner := "object") (n := "__setattr__") (by rw [typeLookup_type, builtinLookup_eq_fast]; kernel_rfl) (by decide +kernel) (by decide +kernel) (by decide +kernel)
    (by first | exact .inl (by decide +kernel) | exact .inr (by decide +kernel)) (by rw [isSubtype_type]; kernel_rfl)) (by decide +kernel) fun self => by kernel_rfl
namespace Key
abbrev NEW : String := "LookupError.__new__"
abbrev INI : String := "KeyError.__init__"
/-- what the line of such a class holds -/
structure Line (bm : List Value) : Prop where
  l : bm.contains (.type "LookupError") = true
  k : bm.contains (.type "KeyError") = true
  a : bm.contains (.type "AttributeError") = false
  n : bm.contains (.type "NameError") = false
theorem Line.of {bm : List Value} (h : ∀ X : String, bm.contains (.type X) = bmKey.contains (.type X)) : Line bm := ⟨by rw [h]; decide +kernel, by rw [h]; decide +kernel, by rw [h]; decide +kernel, by rw [h]; decide +kernel⟩
theorem skip {bm : List Value} {C : Addr} {X : String} {b : Bool} (h : bm.contains (.type X) = b) : (Value.ref C :: bm).contains (.type X) = b := by
  rw [List.contains_cons, h]
  cases b <;> rfl
section
variable {M : Model} {A : Around} {E : Value → Shared → Prop} {h : Heap} {g : Array GenState} {d : Drawn} {t : Nat} {os : OsState}
variable {nm q : Str} {C N : Addr} {bs bm : List Value} {hdct : Bool} {sn : List Str} {sub : List Value} {ab : Bool} {col : Option Bool} {dd : Option Addr} {k0 k1 k2 k3 k5 : Option Value}
theorem okNew (L : Line bm) {us : List Value} {Q : Unit → Shared → Prop} (hC : h.get? C = some (excClassObj nm q C N bs bm hdct sn sub ab col dd k0 k1 k2 k3 k5 NEW)) (hq : Q () ⟨h, g, d, t, os⟩) : wpAny M A (checkBuiltinCall NEW ⟨.ref C :: us, []⟩) Q E ⟨h, g, d, t, os⟩ := by
  have F := PySem.F.excBase_LookupError
  have on := skip (C := C) L.l
  have star := F.noStar
  simp only [checkBuiltinCall, F.newKind, F.newSplit, F.newRow]
  repeat (first | (refine wpAny_isSubtype_exc hC ?_; rw [on]) | refine wpAny_madeBy_exc hC ?_ | refine wpAny_staticBase_exc hC ?_ | refine wpAny_loadPart_at hC ?_ | simp only [Bool.false_eq_true, if_false, bne_self_eq_false] | wp_step)
  exact hq
theorem okIni (L : Line bm) {e : Addr} {oe : Obj} {us : List Value} {Q : Unit → Shared → Prop} (hC : h.get? C = some (excClassObj nm q C N bs bm hdct sn sub ab col dd k0 k1 k2 k3 k5 NEW)) (he : h.get? e = some oe) (hc : oe.cls = .ref C) (hq : Q () ⟨h, g, d, t, os⟩) : wpAny M A (checkBuiltinCall INI ⟨.ref e :: us, []⟩) Q E ⟨h, g, d, t, os⟩ := by
  have F := PyProof.Rows.excClass_KeyError
  have on := skip (C := C) L.k
  have star := F.notStar
  simp only [checkBuiltinCall, F.initKind, F.initSplit, F.initSig]
  repeat (first | (with_reducible refine wpAny_isSubtype_exc hC ?_; rw [on]) | (with_reducible refine wpAny_loadPart_at he ?_; rw [hc]) | with_reducible refine wpAny_loadPart_at hC ?_ | wp_step)
  have any : ∀ (x y : String) (n : Nat), Bind.check ⟨.positional, "*", "KeyError", .self, [⟨"args", .varPos, false⟩]⟩ x y n (List.map (fun z => z.fst) ({ pos := Value.ref e :: us } : Args).kw) = pure () := fun x y n => PySem.check_star_args _ _ _ _ _ _
  refine wpAny_onRaise ?_
  rw [any]
  exact wpAny_pure hq
end
section
variable {prog : Program} {w : World} {A : Around} {E : Value → Shared → Prop} {R : Result → Shared → Prop} {h : Heap} {g : Array GenState} {d : Drawn} {t : Nat} {os : OsState}
variable {nm q : Str} {C N : Addr} {bs bm : List Value} {hdct : Bool} {sn : List Str} {sub : List Value} {ab : Bool} {col : Option Bool} {dd : Option Addr} {k0 k1 k2 k3 k5 : Option Value}
abbrev laid (h : Heap) (C : Addr) (us : List Value) : Heap := (h.push (PySem.W.kdv_tup us)).push (PySem.HandSPX.excO C h.objs.size)
theorem new (L : Line bm) {us : List Value} (hC : h.get? C = some (excClassObj nm q C N bs bm hdct sn sub ab col dd k0 k1 k2 k3 k5 NEW)) (hu : us.length ≤ sizeLine) (hq : R (.ok (.ret (.ref (h.objs.size + 1)))) ⟨laid h C us, g, d, t, os⟩) : codeAny (model prog w) A (.builtin NEW ⟨.ref C :: us, []⟩) R ⟨h, g, d, t, os⟩ := by
  have F := PySem.F.excBase_LookupError
  have ends := F.ends
  have c1 := skip (C := C) L.l
  have c2 := skip (C := C) L.a
  have c3 := skip (C := C) L.n
  refine codeAny_builtinAt F.entry ?_
  unfold Builtin.«BaseException.__new__»
  refine PySem.wpAt_bind ?_
  show PySem.wpAt _ _ _ (stack >>= _) _ _ _
  refine PySem.wpAt_bind (PySem.wpAt_stack fun p below => PySem.wpAt_of_wpAny ?_)
  wp_walk
  refine PySem.wpAt_of_wpAny ?_
  rw [F.owner]
  repeat (first | (with_reducible refine wpAny_isSubtype_exc hC ?_; first | rw [c1] | rw [c2] | rw [c3]) | with_reducible refine wpAny_madeHere_exc F.canon hC ?_ | with_reducible refine wpAny_loadPart_at hC ?_ | wp_step)
  show R _ _
  rw [Heap.size_push]
  exact hq
theorem typeCall (L : Line bm) {us : List Value} {fI : Addr} {Q : Fin → Shared → Prop} (hC : h.get? C = some (excClassObj nm q C N bs bm hdct sn sub ab col dd k0 k1 k2 k3 k5 NEW)) (hi : PySem.W.Looks (model prog w) h (typeLookup (.ref C) "__init__") (some (.ref fI)))
    (hb : ∀ self, PySem.W.Looks (model prog w) h (bindSpecial (.ref fI) self) (.ref fI, [self])) (hu : us.length ≤ sizeLine)
    (hq : codeAny (model prog w) A (.call (.ref fI) ⟨.ref (h.objs.size + 1) :: us, []⟩) (fun r s' => match r with | .ok (.ret v) => v = .none ∧ Q (.done (.ret (.ref (h.objs.size + 1)))) s' | .ok _ => False | .error e => E e s') ⟨laid h C us, g, d, t, os⟩) :
    wpAny (model prog w) A (Builtin.«type.__call__» ⟨.ref C :: us, []⟩) Q E ⟨h, g, d, t, os⟩ := by
  have keep : ∀ b o, h.get? b = some o → (laid h C us).get? b = some o := fun b o e => Heap.get?_push_of_some _ (Heap.get?_push_of_some _ e)
  have self : (laid h C us).get? (h.objs.size + 1) = some (PySem.HandSPX.excO C h.objs.size) := by heap_get
  have me : (Value.ref C :: bm).contains (.ref C) = true := by simp
  repeat (first | with_reducible refine wpAny_madeBy_exc hC ?_ | with_reducible refine wpAny_loadPart_at hC ?_ | wp_step)
  refine codeAny_call_builtin_code (Code.quiet_builtin _ PySem.F.excBase_LookupError.quiet) (okNew L hC (new L hC hu ?_))
  show wpAny _ _ _ _ _ _
  unfold isInstance
  repeat (first | (with_reducible refine wpAny_isSubtype_exc (keep _ _ hC) ?_; rw [me]) | with_reducible refine wpAny_loadPart_at self ?_ | wp_step)
  show wpAny _ _ (typeLookup (.ref C) _) _ _ _
  refine (hi.keeps keep).at (wpAny_holding (wpAny_bind (((hb (.ref (h.objs.size + 1))).keeps keep).at (wpAny_bind (wpAny_call (codeAny_mono hq fun r s' z => ?_))))))
  rcases r with e | (v | _ | _ | _) <;> first | exact z | exact z.elim | skip
  have z2 := z.2
  obtain rfl := z.1
  first
    | exact wpAny_pure (wpAny_pure z2)
    | (wp_walk; exact z2)
theorem call (L : Line bm) {us : List Value} {fI : Addr} (hC : h.get? C = some (excClassObj nm q C N bs bm hdct sn sub ab col dd k0 k1 k2 k3 k5 NEW)) (hi : PySem.W.Looks (model prog w) h (typeLookup (.ref C) "__init__") (some (.ref fI)))
    (hb : ∀ self, PySem.W.Looks (model prog w) h (bindSpecial (.ref fI) self) (.ref fI, [self])) (hu : us.length ≤ sizeLine)
    (hq : codeAny (model prog w) (A.under (.builtin "type.__call__" ⟨.ref C :: us, []⟩)) (.call (.ref fI) ⟨.ref (h.objs.size + 1) :: us, []⟩) (PySem.W.InitBack (h.objs.size + 1) R) ⟨laid h C us, g, d, t, os⟩) :
    codeAny (model prog w) A (.call (.ref C) ⟨us, []⟩) R ⟨h, g, d, t, os⟩ := by
  have isT : (⟨h, g, d, t, os⟩ : Shared).TypeIs (.ref C) "type" := ⟨_, hC, rfl⟩
  have look := tc_lookup
  have bind := tc_bind (.ref C)
  refine codeAny_of_tree (show wpAny _ _ (callAny (.ref C) _) _ _ _ from ?_)
  repeat (any_goals (first | with_reducible refine wpAny_loadPart_at hC ?_ | assumption | wp_step))
  refine ⟨rfl, codeAny_call_builtin_at (Code.quiet_builtin _ (by decide +kernel)) entry_typeCall (wpAny_check_type_call_sub hC (typeCall L hC hi hb hu (codeAny_mono hq fun r s' z => ?_)))⟩
  rcases r with e | (v | _ | _ | _)
  all_goals exact z
theorem ini (L : Line bm) {e t0 : Addr} {us : List Value} (hC : h.get? C = some (excClassObj nm q C N bs bm hdct sn sub ab col dd k0 k1 k2 k3 k5 NEW)) (he : h.get? e = some (PySem.HandSPX.excO C t0)) (hu : us.length ≤ sizeLine)
    (hq : ∀ h' t1, (∀ b o, b ≠ e → h.get? b = some o → h'.get? b = some o) → h'.get? e = some (PySem.HandSPX.excO C t1) → R (.ok (.ret .none)) ⟨h', g, d, t, os⟩) : codeAny (model prog w) A (.call (.builtin INI) ⟨.ref e :: us, []⟩) R ⟨h, g, d, t, os⟩ := by
  have F := PyProof.Rows.excClass_KeyError
  refine codeAny_call_builtin F.init.plain F.initEntry (okIni L hC he rfl ?_)
  wp_walk
  refine hq _ h.objs.size (fun b o ne ho => ?_) ?_
  · rw [Heap.get?_update_other _ _ (fun z => ne z.symm)]
    exact Heap.get?_push_of_some _ ho
  · rw [Heap.get?_update_self _ (Heap.get?_push_of_some _ he) rfl]
    rfl
end
end Key
end Tx

set_option Elab.async false
set_option linter.all false
set_option maxRecDepth 100000
set_option maxHeartbeats 4000000
set_option autoImplicit false
/-! TxXM: def many(call): try: call() / except X as e: return e.f / return n -/
namespace Tx
open PySem PySem.Spec PyProof.Rows L2 LamX
def tCaught (a : Addr) (cls : Value) (d : Option Addr) (CS : Addr) (f : Str) : TS := fun D σ H => σ.length = 2 → tRet (tXf a cls d CS f (tVar 1)) D σ H
def TTmany (K : PySem.W.Frag) (CS : Addr) (f : Str) (n0 : Int) : (XK → Hp → VK → Prop) → Hp → VK → Prop := fun tl H Q =>
  tl (fun cls d H' => cls = .ref CS ∧ ∃ (dd : Addr) (y : V), d = some dd ∧ H' dd = some (.xd [(f, y)]) ∧ Q y H') H fun _ H' => Q (.int n0) H'
theorem many_gives {X : Cx} {x a0 e nm q f : Str} {sg : Scope} {g CS : Addr} {cdg : Value} {j : Nat} {n0 : Int} {p1 p2 p3 p4 p5 p6 p7 p8 p9 p10 p11 : Pos} {tl0 : TE} (hge : sg.names.lookup e = some .globalImplicit) (hme : X.mg e = some (.ref CS)) (hde : (e == ("__debug__" : Str)) = false)
    (hnd : ([a0, nm] : List Str).Nodup) (hln : sg.names.lookup nm = some .local) (hv : Vis sg nm) (hdn : (nm == ("__debug__" : Str)) = false) (hcn : (nm == ("__classdict__" : Str)) = false) (T : XfC X.K CS) (hno : PySem.W.findIn X.K (.ref CS) f = some none) (hex : PySem.W.exmOne X.K (.ref CS) (.ref CS) = some true)
    (hret : ∀ (s : Shared) (H : Hp), PE (cxOf C8.CX0 X.prog X.w X.K X.mg X.base [a0, nm] x sg g cdg X.A X.stack s H C8.E0).nox (.Constant (.int n0) j p10) (tC (.int n0))) :
    GivesTo X [a0, nm] x sg g cdg [.Try [.Expr (.Call (.Name a0 p1) [] [] p2) p3] [.ExceptHandler (some (.Name e p4)) (some nm) [.Return (some (.Attribute (.Name nm p5) f p6)) p7] p8] [] [] p9, .Return (some (.Constant (.int n0) j p10)) p11] a0 q (TTmany X.K CS f n0) := by
  intro fl c' s H Q tl act hc h
  have hgl : Gl (cxOf C8.CX0 X.prog X.w X.K X.mg X.base [a0, nm] x sg g cdg X.A X.stack s H C8.E0).nox e := hge
  refine ⟨_, pss_cons (ps_try_as (X := (cxOf C8.CX0 X.prog X.w X.K X.mg X.base [a0, nm] x sg g cdg X.A X.stack s H C8.E0).nox) (c := .ref CS) (i := 1) (Wout := fun _ _ _ _ => False) (ts := fun a cls d => tCaught a cls d CS f)
      (tb := fun W D σ H => ∃ Ech : XK, (∀ cls d σ' H', Ech cls d H' → W cls d σ' H') ∧ σ[0]? = some (some (.ref fl)) ∧ H c' = some (CodeO c' q) ∧ tl Ech H fun _ H' => D.nx σ H')
      rfl rfl hnd rfl hln ⟨hgl, hde, .inl hme⟩ L2.takes0 (fun W pn xe tk _ => ?_) (fun a oe cls d pn z hf => ?_)) (pss_one (ps_ret (hret s H))), ?_⟩
  · refine ⟨fun pins s' σ H' D I h' => ?_⟩
    obtain ⟨Ech, hW, h1, h2, h3⟩ := h'
    exact (pss_one (ps_expr (act W pn xe Ech p1 p2 tk hW))).run pins s' σ H' D I ⟨h1, h2, h3⟩
  · refine ⟨fun pins s' σ H' D I h' => ?_⟩
    exact (pss_one (ps_ret (pe_xf (X := (cxOf C8.CX0 X.prog X.w X.K X.mg X.base [a0, nm] x sg g cdg X.A X.stack s H C8.E0).nox) (pn := pn) T hno z hf (pe_var (X := (cxOf C8.CX0 X.prog X.w X.K X.mg X.base [a0, nm] x sg g cdg X.A X.stack s H C8.E0).nox.suite a ((a, oe) :: pn)) (i := 1) rfl hv hdn hcn)))).run pins s' σ H' D I (h' I.len)
  · refine ⟨fun cls d H' => cls = .ref CS ∧ ∃ (dd : Addr) (y : V), d = some dd ∧ H' dd = some (.xd [(f, y)]) ∧ Q y H', fun cls d σ' H' ⟨ec, dd, y, ed, hx, q⟩ => ⟨true, by rw [ec]; exact hex, fun _ a' ha' hl => ?_, fun z => nomatch z⟩, rfl, hc, h⟩
    subst ec ed
    have l2 : σ'.length = 2 := by rw [List.length_set] at hl; exact hl
    exact ⟨.ref a', by rw [List.getElem?_set_self (by omega)], rfl, rfl, dd, _, y, rfl, hx, by simp [List.lookup], q⟩
end Tx

set_option Elab.async false
set_option linter.all false
set_option maxRecDepth 100000
set_option maxHeartbeats 4000000
set_option autoImplicit false
/-! TxXF: defs that may raise an own exception that keeps one field; calls of them: given on, caught -/
namespace Tx
open PySem PySem.Spec PyProof.Rows L2
/-- a def that gives, or raises an exception whose class, field and value R tells of -/
def spXf (K : PySem.W.Frag) (pre : List D → Prop) (S : List D → D → Prop) (R : List D → Value → Str → V → Prop) : Sp := fun vs H Q E => ∃ (F : Addr → Prop) (ds : List D), (∀ a, F a → H a ≠ none) ∧ RpAll K F H vs ds ∧ pre ds ∧ (∀ v d H', S ds d → Same H H' → Rp K F H' v d → Q v H') ∧ ∀ cls f y dx H', R ds cls f y → Same H H' → H' dx = some (.xd [(f, y)]) → E cls (some dx) H'
section
variable {P : Program} {w : World} {K : PySem.W.Frag} {mg : Str → Option Value} {base : Heap}
theorem fn_pureXf {x qual : Str} {st : Stmt} {f : Addr} {fd : FuncData} {N ps : List Str} {k : Nat} {pre : List D → Prop} {Sf : List D → D → Prop} {R : List D → Value → Str → V → Prop} (Fu : Fun K x qual st f fd) (Sc : FnScope N ps (defScope st)) (hl : ∀ ds, pre ds → ds.length = ps.length)
    (body : ∀ (cdv : Value) (A : Around) (outer : List Env) (s : Shared) (H : Hp) (E : XK), Room k (A.deeper (PyProof.Rows.envOfC qual (defScope st) s.heap.objs.size f cdv)) →
      ∃ t, PSs (cxOf (L2.CX P w) P w K mg base N qual (defScope st) f cdv A outer s H E) (defBody st) t ∧ ∀ (F : Addr → Prop) (ds : List D), pre ds → (∀ cls f y dx H', R ds cls f y → Same H H' → H' dx = some (.xd [(f, y)]) → E cls (some dx) H') → SG (sinceMo (pureMo F) H) K t (startG N ds) { nx := fun _ => Sf ds .non, rt := Sf ds }) :
    FnOk P w K mg base (L2.CX P w) (k + 1) f fd ps (spXf K pre Sf R) := by
  refine Fu.okX Sc (fun vs H Q E h => ?_) (fun cdv A outer s H vs Q E hr h => ?_)
  · obtain ⟨F, ds, _, ra, hp, _⟩ := h
    rw [ra.len]
    exact hl ds hp
  · obtain ⟨F, ds, hF, ra, hp, q, qx⟩ := h
    obtain ⟨t, ht, hs⟩ := body cdv A outer s H E hr
    have e0 := er_start (m := pureMo F) hF ra N
    exact ⟨t, ht, hs F ds hp qx _ H ⟨⟨e0.i, fun a o e => e⟩, e0.len, e0.at_⟩ _ ⟨fun Γ' σ' H' o r _ => q _ _ H' o r .non, fun d v H' o r rv => q v d H' o r rv, fun _ _ _ o => o.elim, fun _ _ _ o => o.elim⟩⟩
end
/-- what is known of such a class, ready to be raised -/
structure RaiseX (P : Program) (w : World) (K : PySem.W.Frag) (mg : Str → Option Value) (base : Heap) (x : Str) (C : Addr) (f : Str) : Prop where
  ex : ∃ (B newId initId : String) (bmB : List Value) (fI : Addr) (fd : FuncData) (ps : List Str), XiC K C B newId initId bmB ∧ PySem.W.findIn K (.ref C) "__init__" = some (some (.ref fI)) ∧ PySem.W.typeIn K (.ref fI) = some (.type "function") ∧ FnOk P w K mg base C8.CX0 1 fI fd ps (spXi C f) ∧ L2.Binds K fd ps []
  g : mg x = some (.ref C)
/-- raise C(e) -/
abbrev tRaiseX (E : XK) (C : Addr) (f : Str) (te : TE) : TS := fun _ σ H => tMkX C f te σ H E
theorem ps_raiseXi {P : Program} {w : World} {K : PySem.W.Frag} {mg : Str → Option Value} {base : Heap} {N : List Str} {qual : Str} {scope : Scope} {fa : Addr} {cdv : Value} {A : Around} {outer : List Env} {s : Shared} {H : Hp} {E : XK} {x f : Str} {C : Addr} {e : Expr} {te : TE} {p pos pos2 : Pos}
    (rx : RaiseX P w K mg base x C f) (hr : Room 2 (cxOf (L2.CX P w) P w K mg base N qual scope fa cdv A outer s H E).A) (hg : Gl (cxOf (L2.CX P w) P w K mg base N qual scope fa cdv A outer s H E) x) (he0 : PE (cxOf (L2.CX P w) P w K mg base N qual scope fa cdv A outer s H E) e te) (hdb : (x == ("__debug__" : Str)) = false := by decide)
    (he : starEach [e] (cxOf (L2.CX P w) P w K mg base N qual scope fa cdv A outer s H E).env = (false, eval e (cxOf (L2.CX P w) P w K mg base N qual scope fa cdv A outer s H E).env) :: starEach [] (cxOf (L2.CX P w) P w K mg base N qual scope fa cdv A outer s H E).env := by rfl) (hpl : (backTo pos (starEach [] (cxOf (L2.CX P w) P w K mg base N qual scope fa cdv A outer s H E).env)).any (·.1) = false := by rfl) :
    PS (cxOf (L2.CX P w) P w K mg base N qual scope fa cdv A outer s H E) (.Raise (some (.Call (.Name x p) [e] [] pos)) none pos2) (tRaiseX E C f te) := by
  obtain ⟨B, newId, initId, bmB, fI, fd, ps, T, iC, tI, F1, hb⟩ := rx.ex
  exact ps_raise (W := fun cls d _ H => E cls d H) rfl (takes_of rfl rfl rfl rfl) (pmk_xi (X := cxOf (L2.CX P w) P w K mg base N qual scope fa cdv A outer s H E) T iC tI F1 hr hb C8.pass0 hg rx.g he0 hdb he hpl)
section
variable {m : Mo} {K : PySem.W.Frag} {Γ : G} {O : Out} {E : XK} {C : Addr} {H0 : Hp} {f : Str} {te : TE} {n : Int}
theorem sg_raiseX (h : Ev1 (sinceMo m H0) K te Γ (.int n)) (k : ∀ dx H', m.R H0 H' → H' dx = some (.xd [(f, .int n)]) → E (.ref C) (some dx) H') : SG (sinceMo m H0) K (tRaiseX E C f te) Γ O := fun σ H e D M =>
  h σ H e _ fun v d H1 s r1 rv => by
    subst s
    obtain rfl := rv.intE
    have e1 := e.mv (m := sinceMo m H0) r1
    exact ⟨.int n, rfl, fun dx hdx => k dx _ (m.trans e1.i.2 (m.grow e1.i.1 (same_new hdx))) upd_same⟩
variable {pre : List D → Prop} {Sf : List D → D → Prop} {R : List D → Value → Str → V → Prop} {ds : List D} {S : D → Prop} {ta : TA}
/-- a call of such a def where it does not raise -/
theorem en_callXf {E : XK} (h : EvA1 m K ta Γ ds) (hp : pre ds) (hs : ∀ d, Sf ds d → S d) (hn : ∀ cls f y, ¬ R ds cls f y) : EvN m K (tCall (spXf K pre Sf R) [] E ta) Γ S := fun σ H e Q q =>
  h σ H e _ fun vs ds' H1 s r1 rs => by
    subst s
    exact ⟨m.F, ds', fun a f => m.fa (m.inv r1 e.i) f, by simpa using rs, hp, fun v d H' sd sm rv => q v d H' (hs d sd) (m.trans r1 (m.grow (m.inv r1 e.i) sm)) rv, fun cls f y dx H' r _ _ => absurd r (hn cls f y)⟩
/-- .. what it raises is given on -/
theorem en_callXg (h : EvA1 (sinceMo m H0) K ta Γ ds) (hp : pre ds) (hs : ∀ d, Sf ds d → S d) (hx : ∀ cls f y dx H', R ds cls f y → m.R H0 H' → H' dx = some (.xd [(f, y)]) → E cls (some dx) H') : EvN (sinceMo m H0) K (tCallS (spXf K pre Sf R) (WE fun cls d _ H => E cls d H) ta) Γ S := fun σ H e Q q =>
  h σ H e _ fun vs ds' H1 s r1 rs => by
    subst s
    have e1 := e.mv (m := sinceMo m H0) r1
    exact ⟨m.F, ds', fun a f => m.fa e1.i.1 f, rs, hp, fun v d H' sd sm rv => q v d H' (hs d sd) ((sinceMo m H0).trans r1 (m.grow e1.i.1 sm)) rv, fun cls f y dx H' r sm hdx => hx cls f y dx H' r (m.trans e1.i.2 (m.grow e1.i.1 sm)) hdx⟩
end
end Tx

set_option Elab.async false
set_option linter.all false
set_option maxRecDepth 100000
set_option maxHeartbeats 4000000
set_option autoImplicit false
/-! TxTN: try: .. / except X1 as e: .. / except X2 as e: ..: several clauses that name what they catch -/
namespace Tx
open PySem PySem.Spec PyProof.Rows L2
/-- an exception that lies before the clauses of the frame that looks at it; sI: the state without it -/
structure Air (X : Cx) (pins : List (Addr × Obj)) (σ : L2.St) (H : Hp) (a : Addr) (cls : Value) (d : Option Addr) (B : Heap) (sI s : Shared) : Prop where
  I : Inv X pins σ H sI
  nb : ∀ b o, sI.heap.get? b = some o → b ∉ frs X.stack → B.get? b = some o
  up : sI.heap.UpToSlots s.heap
  fl : HandSPX.FlyingZ B (X.env :: X.outer) a (Zc cls d) s.heap
  na : H a = none
  os : s.os = sI.os
  ag : AllBare s.gens
section
variable {X : Cx} {pins : List (Addr × Obj)} {σ : L2.St} {H : Hp} {a : Addr} {cls : Value} {d : Option Addr} {B : Heap} {sI s : Shared}
theorem Air.inv (x : Air X pins σ H a cls d B sI s) : Inv X pins σ H s := x.I.landed x.nb x.fl.1 x.up x.os x.ag
theorem Air.later (x : Air X pins σ H a cls d B sI s) {h' : Heap} (fl : HandSPX.FlyingZ B (X.env :: X.outer) a (Zc cls d) h') (up : s.heap.UpToSlots h') : Air X pins σ H a cls d B sI { s with heap := h' } :=
  ⟨x.I, x.nb, x.up.trans up, fl, x.na, x.os, x.ag⟩
/-- it is no frame, and stands fast while a suite runs -/
theorem Air.pinned (x : Air X pins σ H a cls d B sI s) (hs : X.stack = X.env :: X.outer) (hf : X.env.frame = some X.env.locals) : ∃ (oe : Obj) (vs : Array Value), s.heap.get? a = some oe ∧ Zc cls d oe ∧ oe.data = .fields vs ∧ Inv (X.suite a ((a, oe) :: (X.pn ++ pins))) [] σ H s := by
  obtain ⟨oe, vs, ha, hz, hd⟩ := x.fl.there
  have noFrame : ∀ l : List Addr, (∀ b ∈ l, b ∈ frs (X.env :: X.outer)) → a ∉ l := fun l hl m => by
    obtain ⟨_, o, e, nf⟩ := x.fl.2.2.1.mem (hl a m)
    cases ha.symm.trans e
    exact nf _ hd
  have inLoc : X.env.locals ∈ frs (X.env :: X.outer) := List.mem_filterMap.mpr ⟨X.env, .head _, hf⟩
  refine ⟨oe, vs, ha, hz, hd, x.inv.suite ha hd x.na (fun e => noFrame [X.env.locals] (fun b hb => by rw [List.mem_singleton.mp hb]; exact inLoc) (by rw [e]; exact .head _)) (noFrame X.fs fun b hb => ?_)⟩
  obtain ⟨e, he, q⟩ := List.mem_filterMap.mp hb
  exact List.mem_filterMap.mpr ⟨e, .tail _ he, q⟩
/-- no clause is left: it goes on -/
theorem Air.out {Wout : WX} {Q : Flow → Shared → Prop} (x : Air X pins σ H a cls d B sI s) (hs : X.stack = X.env :: X.outer) (hf : X.env.frame = some X.env.locals) (tk : Takes X Wout) (w : Wout cls d σ H) : wpAny (model X.prog X.w) X.A (handleBy (.ref a) X.env []) Q X.xe s := by
  have on : wpAny (model X.prog X.w) X.A (setFlight (.ref a) X.env.frame) (fun _ s4 => wpAny (model X.prog X.w) X.A (throw (.ref a) : Sem Flow) Q X.xe s4) X.xe s := by
    rw [hf]
    refine HandSPX.setFlight_upZ x.fl fun h4 held up4 => wpAny_throw (tk _ _ ⟨a, B, sI, pins, σ, H, cls, d, rfl, x.I, x.nb, x.up.trans up4, .inr (.inr ?_), x.na, x.os, x.ag, w⟩)
    rw [hs]
    exact held
  refine wpAny_handleBy_nil ?_
  obtain ⟨_, _, _, _, _, T, _, _, e1, _, e2, e3, _⟩ := id x.fl
  unfold PySem.passOn
  refine wpAny_bind (wpAny_field e1 e2 e3 ?_)
  have ne : ¬ ((Value.ref T == Value.none) = true) := by simp
  rw [if_neg ne]
  first
    | exact wpAny_bind on
    | exact wpAny_bind (wpAny_pure (wpAny_bind on))
end
/-- what such clauses wish of an exception: the first that takes it -/
def wNm (K : PySem.W.Frag) (Wout : WX) (i : Nat) (D : Ends) : List (Value × (Addr → Value → Option Addr → TS)) → WX
  | [] => Wout
  | (c, ts) :: r => fun cls d σ H => ∃ b, PySem.W.exmOne K cls c = some b ∧ (b = true → ∀ a, H a = none → ts a cls d { nx := fun σ' => D.nx (σ'.set i none), rt := D.rt, bk := fun σ' => D.bk (σ'.set i none), ct := fun σ' => D.ct (σ'.set i none) } (σ.set i (some (.ref a))) H) ∧ (b = false → wNm K Wout i D r cls d σ H)
inductive HdsN (X : Cx) (n : Str) : List ExceptHandler → List (Value × (Addr → Value → Option Addr → TS)) → Prop
  | nil : HdsN X n [] []
  | cons {x : Str} {c : Value} {ts : Addr → Value → Option Addr → TS} {b : Stmt} {bs : List Stmt} {np p : Pos} {hds : List ExceptHandler} {l : List (Value × (Addr → Value → Option Addr → TS))} (hc : Names X x c)
      (hsu : ∀ (a : Addr) (oe : Obj) (cls : Value) (d : Option Addr) (pn : List (Addr × Obj)), Zc cls d oe → (∃ vs, oe.data = .fields vs) → PSs (X.suite a ((a, oe) :: pn)) (b :: bs) (ts a cls d)) (r : HdsN X n hds l) :
      HdsN X n (.ExceptHandler (some (.Name x np)) (some n) (b :: bs) p :: hds) ((c, ts) :: l)
section
variable {X : Cx} {n : Str} {i : Nat} {Wout : WX}
theorem hand_names (hs : X.stack = X.env :: X.outer) (hf : X.env.frame = some X.env.locals) (hN : X.N.Nodup) (hi : X.N[i]? = some n) (hln : X.env.kindOf n = some .local) (tk : Takes X Wout) {pins : List (Addr × Obj)} {σ : L2.St} {H : Hp} {a : Addr} {cls : Value} {d : Option Addr} {B : Heap} {sI : Shared} {D : Ends} {hds : List ExceptHandler} {l : List (Value × (Addr → Value → Option Addr → TS))} (hh : HdsN X n hds l) :
    ∀ {s : Shared}, Air X pins σ H a cls d B sI s → wNm X.K Wout i D l cls d σ H → wpAny (model X.prog X.w) X.A (handleBy (.ref a) X.env hds) (SP X pins D) X.xe s := by
  induction hh with
  | nil => exact fun x w => x.out hs hf tk w
  | @cons x c ts b bs np p hds l hc hsu r ih =>
    intro s air ⟨yes, hx, h1, h2⟩
    obtain ⟨oe, vs, ha, hz, hd, IS⟩ := air.pinned hs hf
    have ty : PySem.W.Looks (model X.prog X.w) s.heap (typeOf (.ref a)) cls := fun A Q E s1 k q => wpAny_typeOf_ref (k _ _ ha) (by rw [hz.1]; exact q)
    refine wpAny_handleBy_cons (codeAny_handlers_test ?_) (fun z => nomatch z)
    have name : ∀ {Q E : Value → Shared → Prop}, Q c s → wpAny (model X.prog X.w) (X.A.mark (some (.ref a))) (eval (.Name x np) X.env) Q E s := fun {Q E} q => by
      obtain ⟨hg, hdb, hm | ⟨hm, hv, hn⟩⟩ := hc
      · exact ld_glob (X := X.suite a ((a, oe) :: (X.pn ++ pins))) IS hg hm q hdb
      · exact ld_blt (X := X.suite a ((a, oe) :: (X.pn ++ pins))) IS hg hm hv q hn hdb
    refine name ((PySem.W.exm_one (M := model X.prog X.w) air.inv.kIn ty hx).here ?_)
    cases yes with
    | false => exact ih air (h2 rfl)
    | true =>
      refine codeAny_handlers_suite_as (HandSPX.lands_againZ air.fl fun h' fl' up' => ?_)
      have air' := air.later fl' up'
      obtain ⟨oe', vs', ha', hz', hd', IS'⟩ := air'.pinned hs hf
      refine store_ok (X := X.suite a ((a, oe') :: (X.pn ++ pins))) (v := .ref a) IS' hN hi (.inl hln) rfl (fun s5 I5 => ?_) (.inr hln)
      refine wpAny_mono ((hsu a oe' cls d (X.pn ++ pins) hz' ⟨_, hd'⟩).run [] s5 _ H _ I5 (h1 rfl a air.na)) (fun f s6 sp => ?_) (fun _ _ z => z.elim)
      have gone : ∀ {σ6 : L2.St} {H6 : Hp} {Q : Shared → Prop}, Inv (X.suite a ((a, oe') :: (X.pn ++ pins))) [] σ6 H6 s6 → (∀ s7, Inv X pins (σ6.set i none) H6 s7 → Q s7) → wpAny (model X.prog X.w) X.A (do bindName X.env n .none; unbindBehindTheSuite X.env n p) (fun _ s7 => Q s7) X.xe s6 :=
        fun I6 q => gone_ok (I6.unsuite air.I.ok) hN hi hln q
      cases f with
      | ret u => obtain ⟨v6, σ6, H6, I6, r6, q6⟩ := sp; exact gone I6 fun s7 I7 => ⟨v6, _, _, I7, r6, q6⟩
      | next => obtain ⟨σ6, H6, I6, q6⟩ := sp; exact gone I6 fun s7 I7 => ⟨_, _, I7, q6⟩
      | brk => obtain ⟨σ6, H6, I6, q6⟩ := sp; exact gone I6 fun s7 I7 => ⟨_, _, I7, q6⟩
      | cont => obtain ⟨σ6, H6, I6, q6⟩ := sp; exact gone I6 fun s7 I7 => ⟨_, _, I7, q6⟩
variable {body : List Stmt} {hd : ExceptHandler} {hds : List ExceptHandler} {l : List (Value × (Addr → Value → Option Addr → TS))} {pos : Pos} {tb : WX → TS}
theorem ps_try_names (hs : X.stack = X.env :: X.outer) (hf : X.env.frame = some X.env.locals) (hN : X.N.Nodup) (hi : X.N[i]? = some n) (hln : X.env.kindOf n = some .local) (tk : Takes X Wout)
    (hb : ∀ (W : WX) (pn : List (Addr × Obj)) (xe : Value → Shared → Prop), Takes (X.tr pn xe) W → PassesOwn (model X.prog X.w) X.A X.env xe → PSs (X.tr pn xe) body (tb W))
    (hh : HdsN X n (hd :: hds) l) : PS X (.Try body (hd :: hds) [] [] pos) (fun D σ H => tb (wNm X.K Wout i D l) D σ H) := by
  refine ⟨fun pins s σ H D I h => wpAny_Try_except ?_⟩
  have ok := I.ok
  have fr : X.A.frames = some (X.env :: X.outer) := by rw [ok.frames, hs]
  refine wpAny_mono ((hb _ (X.pn ++ pins) (fun e s1 => wpAny (model X.prog X.w) X.A (noteFrame e X.env) (fun _ s2 => wpAny (model X.prog X.w) X.A (setFlight e none) (fun _ s3 => wpAny (model X.prog X.w) X.A (handleBy e X.env (hd :: hds)) (SP X pins D) X.xe s3) X.xe s2) X.xe s1) (fun u s' air => ?_) PassesOwn.looking).run [] s σ H D (I.toTry _) h) (fun f s1 sp => ?_) (fun e s1 z => z)
  · obtain ⟨a, B, sI, pins', σ', H', cls, d, rfl, I', nb, up, sky, na, os, ag, w⟩ := air
    have sky' : Sky B (X.env :: X.outer) a (Zc cls d) X.env.locals s'.heap := by rw [← hs]; exact sky
    exact Sky.land Zc.steady fr hf sky' fun h3 fl3 up3 => hand_names hs hf hN hi hln tk hh ⟨I'.ofTry ok, nb, up.trans up3, fl3, na, os, ag⟩ w
  · cases f with
    | ret u => obtain ⟨v, σ', H', I', r, q⟩ := sp; exact ⟨v, σ', H', I'.ofTry ok, r, q⟩
    | next => obtain ⟨σ', H', I', q⟩ := sp; exact wpAny_execs_nil ⟨σ', H', I'.ofTry ok, q⟩
    | brk => obtain ⟨σ', H', I', q⟩ := sp; exact ⟨σ', H', I'.ofTry ok, q⟩
    | cont => obtain ⟨σ', H', I', q⟩ := sp; exact ⟨σ', H', I'.ofTry ok, q⟩
end
end Tx

set_option Elab.async false
set_option linter.all false
set_option maxRecDepth 100000
set_option maxHeartbeats 4000000
set_option autoImplicit false
/-! TxXJ: own exceptions with an own __init__ over any built-in error, KeyError too; what they keep is any data -/
namespace Tx
open PySem PySem.Spec PyProof.Rows L2
/-- what is asked of such a class; initId: the built-in __init__ that its own one calls -/
structure XjC (K : PySem.W.Frag) (C : Addr) (initId : String) : Prop where
  call : ∀ {prog : Program} {w : World} {A : Around} {R : Result → Shared → Prop} {h : Heap} {g : Array GenState} {d : Drawn} {t : Nat} {os : OsState} {us : List Value} {fI : Addr}, K.In h → PySem.W.findIn K (.ref C) "__init__" = some (some (.ref fI)) → PySem.W.typeIn K (.ref fI) = some (.type "function") → us.length ≤ sizeLine →
    codeAny (model prog w) (A.under (.builtin "type.__call__" ⟨.ref C :: us, []⟩)) (.call (.ref fI) ⟨.ref (h.objs.size + 1) :: us, []⟩) (PySem.W.InitBack (h.objs.size + 1) R) ⟨(h.push (PySem.W.kdv_tup us)).push (PySem.HandSPX.excO C h.objs.size), g, d, t, os⟩ → codeAny (model prog w) A (.call (.ref C) ⟨us, []⟩) R ⟨h, g, d, t, os⟩
  init : ∀ {prog : Program} {w : World} {A : Around} {R : Result → Shared → Prop} {h : Heap} {g : Array GenState} {d : Drawn} {t : Nat} {os : OsState} {us : List Value} {e t0 : Addr}, K.In h → h.get? e = some (PySem.HandSPX.excO C t0) → us.length ≤ sizeLine →
    (∀ h' t1, (∀ b o, b ≠ e → h.get? b = some o → h'.get? b = some o) → h'.get? e = some (PySem.HandSPX.excO C t1) → R (.ok (.ret .none)) ⟨h', g, d, t, os⟩) → codeAny (model prog w) A (.call (.builtin initId) ⟨.ref e :: us, []⟩) R ⟨h, g, d, t, os⟩
  osa : ∀ {prog : Program} {w : World} {A : Around} {R : Result → Shared → Prop} {h : Heap} {g : Array GenState} {d : Drawn} {t : Nat} {os : OsState} {x t1 : Addr} {c2 v : Value} {name : Str} {tk : Tok}, K.In h → h.get? x = some (PySem.W.excObj C t1 none c2) → PySem.W.takerIn K C name = some none →
    (∀ h' tk' dx, (∀ b o, b ≠ x → h.get? b = some o → h'.get? b = some o) → h.objs.size ≤ dx → dx ≠ x → h'.get? x = some (PySem.W.excObj C t1 (some dx) c2) → h'.Ns1 dx (fun y => if y = name then some v else none) → R (.ok (.ret .none)) ⟨h', g, d, tk', os⟩) →
    codeAny (model prog w) A (.call (.builtin "object.__setattr__") ⟨[.ref x, .str name tk, v], []⟩) R ⟨h, g, d, t, os⟩
  sa : PySem.W.findIn K (.ref C) "__setattr__" = some (some (.builtin "object.__setattr__"))
  exC : PySem.W.subIn K (.ref C) (.type "BaseException") = some true
  tyC : PySem.W.typeIn K (.ref C) = some (.type "type")
  kC : PySem.W.keepIn K (.ref C) = true
theorem XjC.of {K : PySem.W.Frag} {C : Addr} {B newId initId : String} {bmB : List Value} (T : XiC K C B newId initId bmB) : XjC K C initId where
  call := fun X iC tI hl h => let ⟨_, _, _, _, _, _, _, _, _, _, _, _, _, _, _, _, hC, hT⟩ := PySem.W.excInit_of X T.inC
    PySem.HandSPX.call_own T.fb hT hC (PySem.W.looks_findIn X iC) (fun self => PySem.W.bind_fn X self tI) hl h
  init := fun X he hl h => let ⟨_, _, _, _, _, _, _, _, _, _, _, _, _, _, _, _, hC, hT⟩ := PySem.W.excInit_of X T.inC
    PySem.HandSPX.init_base T.fb hT hC he hl h
  osa := fun X hx ht h => xi_osa T X hx ht h
  sa := T.sa
  exC := T.exC
  tyC := T.tyC
  kC := T.kC
open Builtin Builtin.ObjectAttr in
/-- .. over KeyError -/
theorem XjC.key {K : PySem.W.Frag} {C : Addr} (inC : PySem.W.excInitIn K C bmKey Key.NEW = true) (ov : PySem.W.excOver K C bmKey = true) (hd : PySem.W.hasDictIn K C = true) (sa : PySem.W.findIn K (.ref C) "__setattr__" = some (some (.builtin "object.__setattr__")))
    (exC : PySem.W.subIn K (.ref C) (.type "BaseException") = some true) (tyC : PySem.W.typeIn K (.ref C) = some (.type "type")) (kC : PySem.W.keepIn K (.ref C) = true) : XjC K C Key.INI where
  call := fun X iC tI hl h => let ⟨_, _, _, _, _, _, _, _, _, _, _, _, _, _, _, _, hC, hT⟩ := PySem.W.excInit_of X inC
    Key.call (.of hT) hC (PySem.W.looks_findIn X iC) (fun self => PySem.W.bind_fn X self tI) hl h
  init := fun X he hl h => let ⟨_, _, _, _, _, _, _, _, _, _, _, _, _, _, _, _, hC, hT⟩ := PySem.W.excInit_of X inC
    Key.ini (.of hT) hC he hl h
  osa := fun {prog w A R hp g d t os x t1 c2 v name tk} X hx ht hq => by
    refine PySem.W.osa_openX (od := none) stores_Key X ⟨hx, rfl, rfl, trivial⟩ ov ht fun b => ?_
    obtain ⟨cd, hc, hd'⟩ := PySem.W.any_some hd
    have nx : hp.objs.size ≠ x := Nat.ne_of_gt (Heap.lt_size hx)
    have hx1 : (hp.push (PySem.W.dictOf [] 0)).get? x = some (PySem.W.excObj C t1 none c2) := Heap.get?_push_of_some _ hx
    refine wpAny_bind (wpAny_pure (wpAny_bind (PySem.W.instanceDict_exc hx (PySem.W.looks_clsIn X hc) hd' ?_)))
    show wpAny _ _ (storeInDict hp.objs.size (.str name tk) name v) _ _ _
    refine PySem.HandSPX.store_in_new ⟨_, #[], _, (Heap.get?_update_ne _ _ _ _ nx).trans (Heap.get?_push_at rfl rfl), rfl, fun e he => absurd he (by simp), fun _ => rfl⟩ fun h' tk' hn' hs => ?_
    refine hq h' tk' hp.objs.size (fun b o hb ho => ?_) (Nat.le_refl _) nx ?_ hn'
    · exact (hs.2 b (Nat.ne_of_lt (Heap.lt_size ho))).trans ((Heap.get?_update_ne _ _ _ _ hb).trans (Heap.get?_push_of_some _ ho))
    · exact (hs.2 x (Ne.symm nx)).trans (Heap.get?_update_self _ hx1 rfl)
  sa := sa
  exC := exC
  tyC := tyC
  kC := kC
section
variable {X : Cx} {pins : List (Addr × Obj)} {σ : L2.St} {H : Hp} {s : Shared} {a C : Addr} {f : Str} {y : V} {u : Value} {A : Around} {initId : String}
theorem xj_ost {Q : Unit → Shared → Prop} {E : Value → Shared → Prop} (T : XjC X.K C initId) (I : Inv X pins σ H s) (e : H a = some (exo a C none)) (ht : PySem.W.takerIn X.K C f = some none) (ry : RelV y u)
    (h : ∀ dx s', H dx = none → dx ≠ a → Inv X pins σ (upd (upd H dx (exd dx [(f, y)])) a (exo a C (some dx))) s' → Q () s') : wpAny (model X.prog X.w) A (setAttr (.ref a) f u) Q E s := by
  obtain ⟨t1, ho⟩ := exo_at I.hok e
  obtain ⟨hp, g, d, t, os⟩ := s
  refine PySem.W.set_plain I.kIn (ox := PySem.W.excObj C t1 none .none) (od := none) ⟨ho, rfl, rfl, trivial⟩ T.sa (T.osa I.kIn ho ht fun h' tk' dx k dn dne hx hn => ?_)
  have hnd : H dx = none := I.hok.fresh dn
  refine h dx _ hnd dne (I.un (t' := tk') (un_dict I.hok e k dn ⟨_, hx⟩) fun b o q => ?_)
  by_cases hb : b = a
  · subst hb
    rw [upd_same] at q
    cases q
    exact exo_ok hx
  rw [upd_ne hb] at q
  by_cases hd : b = dx
  · subst hd
    rw [upd_same] at q
    cases q
    exact exd_ok hn (relO_put (fs := []) ry fun g => True.intro)
  rw [upd_ne hd] at q
  have far : ∀ {c : Addr}, (c = b ∨ H c = some (.own b)) → c ≠ a := fun {c} hc => hc.elim (fun z => z ▸ hb) fun z => at_ne e z exo_own
  refine (I.hok b o q).stay (fun c v hc z => k c v (far hc) z) (fun c hc => ?_) fun c xs hc => ?_
  · rw [upd_ne (at_ne e hc exo_own), upd_ne (ne_of_none hc hnd)]; exact hc
  · rw [upd_ne (at_ne e hc exo_tup), upd_ne (ne_of_none hc hnd)]; exact hc
theorem xj_init {us : List Value} {Q : Value → Shared → Prop} {E : Value → Shared → Prop} (T : XjC X.K C initId) (I : Inv X pins σ H s) (e : H a = some (exo a C none)) (hl : us.length ≤ sizeLine) (h : ∀ s', Inv X pins σ H s' → Q .none s') : wpAny (model X.prog X.w) A (call (.builtin initId) (.ref a :: us)) Q E s := by
  obtain ⟨t1, ho⟩ := exo_at I.hok e
  obtain ⟨hp, g, d, t, os⟩ := s
  refine wpAny_call (T.init I.kIn ho hl fun h' t2 k hx => ?_)
  have J := I.write (t' := t) (x := a) (e := a) (o := exo a C none) (by rw [e]; exact True.intro) (.inl rfl) k ⟨_, hx⟩ (exo_ok hx)
  have eu : upd H a (exo a C none) = H := funext fun b => by
    by_cases z : b = a
    · rw [z, upd_same, e]
    · rw [upd_ne z]
  rw [eu] at J
  exact h _ J
end
/-- B.__init__(self, ..) -/
def tXjInit (K : PySem.W.Frag) (initId : String) (ta : TA) : TE := fun σ H Q => ta σ H fun vs H1 => ∃ (a C : Addr) (ws : List V), vs = .ref a :: ws ∧ ws.length ≤ 1000 ∧ XjC K C initId ∧ H1 a = some (exo a C none) ∧ Q .non H1
/-- self.f = e, the first -/
def tXjst (K : PySem.W.Frag) (f : Str) (to te : TE) : TS := fun D σ H => te σ H fun y H1 => to σ H1 fun x H2 => ∃ (a C : Addr) (initId : String), x = .ref a ∧ XjC K C initId ∧ PySem.W.takerIn K C f = some none ∧ H2 a = some (exo a C none) ∧ ∀ dx, H2 dx = none → dx ≠ a → D.nx σ (upd (upd H2 dx (exd dx [(f, y)])) a (exo a C (some dx)))
section
variable {X : Cx} {o e : Expr} {es : List Expr} {to te : TE} {ta : TA} {f x : Str} {p p' p1 p2 pos : Pos} {B initId : String}
theorem xj_last {pins : List (Addr × Obj)} {σ : L2.St} {H : Hp} {s : Shared} {Q : VK} {A : Around} {Q' : Value → Shared → Prop} {E : Value → Shared → Prop} {us : List Value} {vs : List V} (I1 : Inv X pins σ H s) (r1 : Vals vs us) (q : ∃ (a C : Addr) (ws : List V), vs = .ref a :: ws ∧ ws.length ≤ 1000 ∧ XjC X.K C initId ∧ H a = some (exo a C none) ∧ Q .non H)
    (h : ∀ s', Inv X pins σ H s' → Q .non H → Q' .none s') : wpAny (model X.prog X.w) A (call (.builtin initId) us) Q' E s := by
  obtain ⟨a, C, ws, rfl, hl, T, ea, q⟩ := q
  cases r1 with
  | @cons _ u0 _ ur ra rw' =>
    obtain rfl : u0 = Value.ref a := ra
    exact xj_init T I1 ea (by rw [← Paired.length rw', sizeLine_eq]; omega) fun s' J => h s' J q
/-- .. B a built-in class -/
theorem pe_xjinit {pl : Sem Bool} (hg : Gl X x) (hm : X.mg x = none) (hb : bootBuiltins x = some (.type B)) (hty : typeOf (.type B) = pure (.type "type")) (hst : Manifest.isStub B = false) (hh : PySem.W.handedIn (.builtin initId) = true) (vV : PySem.W.findCls X.K (.type B) (.type "type") "__init__" = some (.val (.builtin initId))) (ha : PA X (e :: es) ta)
    (hn : x ≠ "__name__" := by decide) (hdb : (x == ("__debug__" : Str)) = false := by decide)
    (hc : eval (.Call (.Attribute (.Name x p1) "__init__" p2) (e :: es) [] pos) X.env = (do
      let ov ← eval (.Name x p1) X.env
      standAt p2.atName
      let (f, first) ← holding [ov] (getMethod ov "__init__" pl)
      callWith pos f first (backTo pos (starEach (e :: es) X.env)) (backToKw pos (keywordEach [] X.env))) := by rfl)
    (he : starEach (e :: es) X.env = (false, eval e X.env) :: starEach es X.env := by rfl) (hpl : (backTo pos (starEach es X.env)).any (·.1) = false := by rfl) :
    PE X (.Call (.Attribute (.Name x p1) "__init__" p2) (e :: es) [] pos) (tXjInit X.K initId ta) := by
  refine ⟨fun pins s σ H Q I h => PySem.W.methodCall_KW (ld_blt I hg hm hb ?_ hn hdb) hc⟩
  obtain ⟨m, fr⟩ := I.fr
  refine PySem.W.method_type fr I.ok.mod.kin hty hst vV hh ?_
  show wpAny _ _ (callWith pos (Value.builtin initId) [] (backTo pos (starEach (e :: es) X.env)) []) _ _ _
  exact PyProof.Rows.callWith_method1 (thn (ha.run pos pins _ σ H _ (I.tok _) h) fun us s1 ⟨vs, H1, I1, r1, q⟩ => xj_last I1 r1 q fun s' J q' => ⟨.non, H1, J, rfl, q'⟩) he hpl
/-- .. B an own class without an own __init__ -/
theorem pe_xjinitC {pl : Sem Bool} {Cb : Addr} (hg : Gl X x) (hm : X.mg x = some (.ref Cb)) (ga : PySem.W.specialIn X.K (.ref Cb) "__getattribute__" = some (some (.builtin "type.__getattribute__"))) (rd : PySem.W.readsIn X.K Cb (.type "type") = true) (hh : PySem.W.handedIn (.builtin initId) = true) (vV : PySem.W.findCls X.K (.ref Cb) (.type "type") "__init__" = some (.val (.builtin initId))) (ha : PA X (e :: es) ta)
    (hdb : (x == ("__debug__" : Str)) = false := by decide)
    (hc : eval (.Call (.Attribute (.Name x p1) "__init__" p2) (e :: es) [] pos) X.env = (do
      let ov ← eval (.Name x p1) X.env
      standAt p2.atName
      let (f, first) ← holding [ov] (getMethod ov "__init__" pl)
      callWith pos f first (backTo pos (starEach (e :: es) X.env)) (backToKw pos (keywordEach [] X.env))) := by rfl)
    (he : starEach (e :: es) X.env = (false, eval e X.env) :: starEach es X.env := by rfl) (hpl : (backTo pos (starEach es X.env)).any (·.1) = false := by rfl) :
    PE X (.Call (.Attribute (.Name x p1) "__init__" p2) (e :: es) [] pos) (tXjInit X.K initId ta) := by
  refine ⟨fun pins s σ H Q I h => PySem.W.methodCall_KW (ld_glob I hg hm ?_ hdb) hc⟩
  refine PySem.W.method_cls I.kIn ga (PySem.W.cls_value I.kIn rd vV hh ?_)
  show wpAny _ _ (callWith pos (Value.builtin initId) [] (backTo pos (starEach (e :: es) X.env)) []) _ _ _
  exact PyProof.Rows.callWith_method1 (thn (ha.run pos pins _ σ H _ (I.tok _) h) fun us s1 ⟨vs, H1, I1, r1, q⟩ => xj_last I1 r1 q fun s' J q' => ⟨.non, H1, J, rfl, q'⟩) he hpl
theorem ps_xjst (ho : PE X o to) (he : PE X e te) (hs : swapsWith e (some (.Attribute o f p')) pos.line X.env = pure false := by rfl) : PS X (.Assign [.Attribute o f p'] e pos) (tXjst X.K f to te) := by
  refine ⟨fun pins s σ H D I h => ?_⟩
  refine plainObj_wpAny_Assign_Attribute (thn (he.run pins s σ H _ I h) fun v s1 ⟨y, H1, I1, r1, q1⟩ => thn (ho.run pins s1 σ H1 _ I1 q1) fun u s2 ⟨x, H2, I2, r2, a, C, initId, ex, T, hno, ea, q⟩ => ?_) hs
  subst ex
  obtain rfl : u = Value.ref a := r2
  exact xj_ost T I2 ea hno r1 fun dx s' n ne J => ⟨σ, _, J, q dx n ne⟩
theorem pmk_xj {CX : CXT} {C fI : Addr} {k : Nat} {fd : FuncData} {ps : List Str} (T : XjC X.K C initId) (iC : PySem.W.findIn X.K (.ref C) "__init__" = some (some (.ref fI))) (tI : PySem.W.typeIn X.K (.ref fI) = some (.type "function"))
    (F1 : FnOk X.prog X.w X.K X.mg X.base CX k fI fd ps (spXi C f)) (hr : Room (k + 1) X.A) (hb : Binds X.K fd ps []) (hx : Passes CX X (fun _ _ _ => False)) (hg : Gl X x) (hm : X.mg x = some (.ref C)) (he0 : PE X e te)
    (hdb : (x == ("__debug__" : Str)) = false := by decide) (he : starEach [e] X.env = (false, eval e X.env) :: starEach [] X.env := by rfl) (hpl : (backTo pos (starEach [] X.env)).any (·.1) = false := by rfl) :
    PMk X (.Call (.Name x p) [e] [] pos) (tMkX C f te) := by
  intro pins s σ H Q I h
  obtain ⟨hp0, g0, dr0, tk0, os0⟩ := s
  refine wpAny_Call_Name_kw (ld_glob I hg hm ?_ hdb)
  have ha : PA X [e] (tCons te tNil) := pa_cons he0 pa_nil he
  refine PySem.W.callWith_K (h₀ := X.base) I.ok.mod.kin T.kC (thn (ha.run pos pins _ σ H (fun vs H1 => ∃ y, vs = [y] ∧ ∀ d, H1 d = none → Q (.ref C) (some d) (upd H1 d (.xd [(f, y)]))) I h) fun us s1 ⟨vs, H1, I1, r1, y, ev, q1⟩ => ⟨I1.kIn, ?_⟩) he hpl
  subst ev
  show wpAny _ _ (call (.ref C) us) _ _ _
  obtain ⟨hp, g, dr, tk, os⟩ := s1
  let a : Addr := hp.objs.size + 1
  have hsz : hp.objs.size ≤ a := Nat.le_succ _
  have hn : H1 a = none := I1.hok.fresh hsz
  have kk : ∀ b o, hp.get? b = some o → ((hp.push (PySem.W.kdv_tup us)).push (PySem.HandSPX.excO C hp.objs.size)).get? b = some o := fun b o e => Heap.get?_push_of_some _ (Heap.get?_push_of_some _ e)
  have hget : ((hp.push (PySem.W.kdv_tup us)).push (PySem.HandSPX.excO C hp.objs.size)).get? (hp.objs.size + 1) = some (PySem.HandSPX.excO C hp.objs.size) := by heap_get
  have I2 : Inv X pins σ (upd H1 a (exo a C none)) ⟨(hp.push (PySem.W.kdv_tup us)).push (PySem.HandSPX.excO C hp.objs.size), g, dr, tk, os⟩ := I1.laid (t' := tk) (a := a) (o := exo a C none) kk hsz (exo_ok hget)
  have r2 : Vals (V.ref a :: ([y] ++ [])) (Value.ref a :: (us ++ [])) := .cons rfl (r1.append .nil)
  have hus : us.length ≤ sizeLine := by rw [← Paired.length r1, sizeLine_eq]; show 1 ≤ _; omega
  have hq : spXi C f (.ref a :: ([y] ++ [])) (upd H1 a (exo a C none)) (fun v H2 => v = .non ∧ ∃ (d : Addr), H2 a = some (exo a C (some d)) ∧ H2 d = some (exd d [(f, y)]) ∧ H1 d = none ∧ Q (.ref C) (some d) (upd (del H2 a) d (.xd [(f, y)]))) (fun _ _ _ => False) := by
    refine ⟨a, y, rfl, upd_same, fun dx hdx ne => ⟨rfl, dx, upd_same, by rw [upd_ne ne, upd_same], ?_, ?_⟩⟩
    · rw [upd_ne ne] at hdx; exact hdx
    · have hd1 : H1 dx = none := by rw [upd_ne ne] at hdx; exact hdx
      have e1 : upd (del (upd (upd (upd H1 a (exo a C none)) dx (exd dx [(f, y)])) a (exo a C (some dx))) a) dx (.xd [(f, y)]) = upd H1 dx (.xd [(f, y)]) := funext fun b => by
        by_cases z : b = dx
        · rw [z, upd_same, upd_same]
        · rw [upd_ne z, upd_ne z]
          by_cases z2 : b = a
          · rw [z2, del_same, hn]
          · rw [del_ne z2, upd_ne z2, upd_ne z, upd_ne z2]
      rw [e1]
      exact q1 dx hd1
  have hl : (Value.ref a :: us ++ []).length = ps.length := by
    have e := r2.length
    rw [F1.len _ _ _ _ hq] at e
    exact e.symm
  have hb2 := hb _ (Value.ref a :: us) I2.kIn hl
  rw [List.cons_append] at hb2
  refine wpAny_call (T.call I1.kIn iC tI hus
    (codeAny_mono (F1.run _ X.stack _ _ ⟨Value.ref a :: us, []⟩ (Value.ref a :: (us ++ [])) _ _ (fun _ _ _ => False) (hr.make C us []) (I2.env0.make C us []) hb2 r2 hq) fun r s' hq' => ?_))
  rcases r with er | fl
  · exact hx pins σ _ _ er s' I2 hq'
  · cases fl with
    | ret u =>
      obtain ⟨v, H2, os2, bare2, un2, hok2, rv, ev, d, ea, ed, hd1, q2⟩ := hq'
      subst ev
      obtain ⟨h2, g2, d2, t2, os'⟩ := s'
      exact ⟨rv, mk_end (raises_own T.exC T.tyC) I1 hsz kk un2 hok2 os2 bare2 ea ed hd1 q2⟩
    | next => exact hq'.elim
    | brk => exact hq'.elim
    | cont => exact hq'.elim
end
/-! ### defs that may raise such exceptions; what they keep is data -/
def spXd (K : PySem.W.Frag) (pre : List D → Prop) (S : List D → D → Prop) (R : List D → Value → Str → D → Prop) : Sp := fun vs H Q E => ∃ (F : Addr → Prop) (ds : List D), (∀ a, F a → H a ≠ none) ∧ RpAll K F H vs ds ∧ pre ds ∧ (∀ v d H', S ds d → Same H H' → Rp K F H' v d → Q v H') ∧ ∀ cls f y dx d H', R ds cls f d → Same H H' → H' dx = some (.xd [(f, y)]) → Rp K F H' y d → E cls (some dx) H'
section
variable {P : Program} {w : World} {K : PySem.W.Frag} {mg : Str → Option Value} {base : Heap}
theorem fn_pureXd {x qual : Str} {st : Stmt} {f : Addr} {fd : FuncData} {N ps : List Str} {k : Nat} {pre : List D → Prop} {Sf : List D → D → Prop} {R : List D → Value → Str → D → Prop} (Fu : Fun K x qual st f fd) (Sc : FnScope N ps (defScope st)) (hl : ∀ ds, pre ds → ds.length = ps.length)
    (body : ∀ (cdv : Value) (A : Around) (outer : List Env) (s : Shared) (H : Hp) (E : XK), Room k (A.deeper (PyProof.Rows.envOfC qual (defScope st) s.heap.objs.size f cdv)) →
      ∃ t, PSs (cxOf (L2.CX P w) P w K mg base N qual (defScope st) f cdv A outer s H E) (defBody st) t ∧ ∀ (F : Addr → Prop) (ds : List D), pre ds → (∀ cls f y dx d H', R ds cls f d → Same H H' → H' dx = some (.xd [(f, y)]) → Rp K F H' y d → E cls (some dx) H') → SG (sinceMo (pureMo F) H) K t (startG N ds) { nx := fun _ => Sf ds .non, rt := Sf ds }) :
    FnOk P w K mg base (L2.CX P w) (k + 1) f fd ps (spXd K pre Sf R) := by
  refine Fu.okX Sc (fun vs H Q E h => ?_) (fun cdv A outer s H vs Q E hr h => ?_)
  · obtain ⟨F, ds, _, ra, hp, _⟩ := h
    rw [ra.len]
    exact hl ds hp
  · obtain ⟨F, ds, hF, ra, hp, q, qx⟩ := h
    obtain ⟨t, ht, hs⟩ := body cdv A outer s H E hr
    have e0 := er_start (m := pureMo F) hF ra N
    exact ⟨t, ht, hs F ds hp qx _ H ⟨⟨e0.i, fun a o e => e⟩, e0.len, e0.at_⟩ _ ⟨fun Γ' σ' H' o r _ => q _ _ H' o r .non, fun d v H' o r rv => q v d H' o r rv, fun _ _ _ o => o.elim, fun _ _ _ o => o.elim⟩⟩
end
structure RaiseJ (P : Program) (w : World) (K : PySem.W.Frag) (mg : Str → Option Value) (base : Heap) (x : Str) (C : Addr) (f : Str) : Prop where
  ex : ∃ (initId : String) (fI : Addr) (fd : FuncData) (ps : List Str), XjC K C initId ∧ PySem.W.findIn K (.ref C) "__init__" = some (some (.ref fI)) ∧ PySem.W.typeIn K (.ref fI) = some (.type "function") ∧ FnOk P w K mg base C8.CX0 1 fI fd ps (spXi C f) ∧ L2.Binds K fd ps []
  g : mg x = some (.ref C)
theorem ps_raiseXj {P : Program} {w : World} {K : PySem.W.Frag} {mg : Str → Option Value} {base : Heap} {N : List Str} {qual : Str} {scope : Scope} {fa : Addr} {cdv : Value} {A : Around} {outer : List Env} {s : Shared} {H : Hp} {E : XK} {x f : Str} {C : Addr} {e : Expr} {te : TE} {p pos pos2 : Pos}
    (rx : RaiseJ P w K mg base x C f) (hr : Room 2 (cxOf (L2.CX P w) P w K mg base N qual scope fa cdv A outer s H E).A) (hg : Gl (cxOf (L2.CX P w) P w K mg base N qual scope fa cdv A outer s H E) x) (he0 : PE (cxOf (L2.CX P w) P w K mg base N qual scope fa cdv A outer s H E) e te) (hdb : (x == ("__debug__" : Str)) = false := by decide)
    (he : starEach [e] (cxOf (L2.CX P w) P w K mg base N qual scope fa cdv A outer s H E).env = (false, eval e (cxOf (L2.CX P w) P w K mg base N qual scope fa cdv A outer s H E).env) :: starEach [] (cxOf (L2.CX P w) P w K mg base N qual scope fa cdv A outer s H E).env := by rfl) (hpl : (backTo pos (starEach [] (cxOf (L2.CX P w) P w K mg base N qual scope fa cdv A outer s H E).env)).any (·.1) = false := by rfl) :
    PS (cxOf (L2.CX P w) P w K mg base N qual scope fa cdv A outer s H E) (.Raise (some (.Call (.Name x p) [e] [] pos)) none pos2) (tRaiseX E C f te) := by
  obtain ⟨initId, fI, fd, ps, T, iC, tI, F1, hb⟩ := rx.ex
  exact ps_raise (W := fun cls d _ H => E cls d H) rfl (takes_of rfl rfl rfl rfl) (pmk_xj (X := cxOf (L2.CX P w) P w K mg base N qual scope fa cdv A outer s H E) T iC tI F1 hr hb C8.pass0 hg rx.g he0 hdb he hpl)
section
variable {m : Mo} {K : PySem.W.Frag} {Γ : G} {O : Out} {E : XK} {C : Addr} {H0 : Hp} {f : Str} {te : TE} {d : D}
theorem sg_raiseJ (h : Ev1 (sinceMo m H0) K te Γ d) (k : ∀ dx y H', m.R H0 H' → H' dx = some (.xd [(f, y)]) → Rp K m.F H' y d → E (.ref C) (some dx) H') : SG (sinceMo m H0) K (tRaiseX E C f te) Γ O := fun σ H e D M =>
  h σ H e _ fun v d' H1 s r1 rv => by
    subst s
    have e1 := e.mv (m := sinceMo m H0) r1
    refine ⟨v, rfl, fun dx hdx => k dx v _ (m.trans e1.i.2 (m.grow e1.i.1 (same_new hdx))) upd_same (rv.mv fun a o n z => ?_)⟩
    rw [upd_ne (ne_of_none z hdx)]
    exact z
end
end Tx

set_option Elab.async false
set_option linter.all false
set_option maxRecDepth 100000
set_option maxHeartbeats 4000000
set_option autoImplicit false
/-! TxLM: laws that hand lambdas to a def: x = [many(lambda: f(..))]; x.append(many(lambda: f(..))) -/
namespace Tx
open PySem PySem.Spec PyProof.Rows L2 LamX
section
variable {K : PySem.W.Frag} {F F' : Addr → Prop} {H H' : Hp}
mutual
/-- data leans on no table of code objects -/
theorem Rp.goN (k : ∀ a o, (∀ ps, o ≠ .tbl ps) → ¬ F a → H a = some o → ¬ F' a ∧ H' a = some o) : ∀ {d : D} {v : V}, Rp K F H v d → Rp K F' H' v d
  | .non, _, .non => .non
  | .bl _, _, .bl b => .bl b
  | .int _, _, .int i => .int i
  | .str _, _, .str s => .str s
  | .lst _, _, .lst n h t => .lst (k _ _ (fun _ z => by cases z) n h).1 (k _ _ (fun _ z => by cases z) n h).2 (Rp.goNs k t)
  | .tup _, _, .tup n h t => .tup (h.elim (fun h => (k _ _ (fun _ z => by cases z) n h).1) fun ⟨_, h⟩ => (k _ _ (fun _ z => by cases z) n h).1) (h.elim (fun h => .inl (k _ _ (fun _ z => by cases z) n h).2) fun ⟨o, h⟩ => .inr ⟨o, (k _ _ (fun _ z => by cases z) n h).2⟩) (Rp.goNs k t)
  | .tup _, _, .ktup h t => .ktup h (Rp.goNs k t)
  | .obj _ _ _, _, .obj n h l t => .obj (k _ _ (fun _ z => by cases z) n h).1 (k _ _ (fun _ z => by cases z) n h).2 l (Rp.goNs k t)
  | .adr _, _, .adr a => .adr a
  | .dic, _, .dic n h => .dic (k _ _ (fun _ z => by cases z) n h).1 (k _ _ (fun _ z => by cases z) n h).2
  | .dct _ _ _, _, .dct n h e a b => .dct (k _ _ (fun _ z => by cases z) n h).1 (k _ _ (fun _ z => by cases z) n h).2 e (Rp.goNs k a) (Rp.goNs k b)
  | .frl _, _, .frl n h t => .frl (k _ _ (fun _ z => by cases z) n h).1 (k _ _ (fun _ z => by cases z) n h).2 (Rp.goNs k t)
  | .frl _, _, .kfrl h t => .kfrl h (Rp.goNs k t)
  | .ftp _, _, .ftp n h c e t => .ftp (k _ _ (fun _ z => by cases z) n h).1 (k _ _ (fun _ z => by cases z) n h).2 c e (Rp.goNs k t)
theorem Rp.goNs (k : ∀ a o, (∀ ps, o ≠ .tbl ps) → ¬ F a → H a = some o → ¬ F' a ∧ H' a = some o) : ∀ {ds : List D} {vs : List V}, RpAll K F H vs ds → RpAll K F' H' vs ds
  | [], _, .nil => .nil
  | _ :: _, _, .cons r t => .cons (Rp.goN k r) (Rp.goNs k t)
end
end
abbrev lamT (P : Addr) : List (Addr × Str) := [(P, ("law" : Str) ++ ".<locals>." ++ "<lambda>")]
/-- nothing known changes; the tables are there -/
def tbMo (T : List (Addr × Str)) (F : Addr → Prop) : Mo where
  F := F
  R := Same
  I := fun H => (∀ a, F a → ∃ o, H a = some o ∧ ∀ ps, o ≠ .tbl ps) ∧ Tabs T H
  refl := Same.refl
  trans := fun a b => a.trans b
  keep := fun r _ a o _ e => r a o e
  grow := fun _ r => r
  inv := fun {H H'} r i => ⟨fun a f => let ⟨o, e, n⟩ := i.1 a f; ⟨o, r a o e, n⟩, i.2.ext r⟩
  fa := fun i f => by
    obtain ⟨o, e, _⟩ := i.1 _ f
    rw [e]
    exact fun z => nomatch z
  chg := fun _ r h => same_chg r h
  had := fun {H H' a} _ r n => by
    cases e : H a with
    | none => exact absurd e n
    | some o => rw [r a o e]; exact fun z => nomatch z
section
variable {K : PySem.W.Frag} {F : Addr → Prop} {T : List (Addr × Str)} {Γ : G} {σ : L2.St} {H H' : Hp}
theorem ER.tb (e : ER (tbMo T F) K Γ σ H) : ER (pureMo F) K Γ σ H := ⟨fun a f => (tbMo T F).fa e.i f, e.len, e.at_⟩
theorem er_lam (e : ER (tbMo T F) K Γ σ H) (n : ExtN H H') (t : Tabs T H') : ER (tbMo T F) K Γ σ H' :=
  ⟨⟨fun a f => let ⟨o, h, z⟩ := e.i.1 a f; ⟨o, n a o h z, z⟩, t⟩, e.len, fun i d h => let ⟨v, h1, h2⟩ := e.at_ i d h; ⟨v, h1, h2.goN fun a o z nf x => ⟨nf, n a o x z⟩⟩⟩
theorem lam_ev {CS : Addr} {f : Str} {n0 z : Int} {t : XK → TE} (e : ER (tbMo T F) K Γ σ H)
    (h : ∀ H1 (E : XK), (∀ dx H', Same H1 H' → H' dx = some (.xd [(f, .int z)]) → E (.ref CS) (some dx) H') → EvN (sinceMo (tbMo T F) H1) K (t E) Γ fun _ => z = n0)
    {Q : VK} (q : ∀ H', ER (tbMo T F) K Γ σ H' → ExtN H H' → Q (.int z) H') : tLam T (TTmany K CS f n0) t σ H Q := by
  refine ⟨e.i.2, fun H1 eN T1 => ?_⟩
  have e1 := er_lam e eN T1
  refine h H1 _ (fun dx H' sm hx => ⟨rfl, dx, .int z, rfl, hx, q H' (e1.mv sm) (eN.trans (ExtN.of sm))⟩) σ H1 ⟨⟨e1.i, Same.refl _⟩, e1.len, e1.at_⟩ _ fun v d H' hz sm _ => ?_
  subst hz
  exact q H' (e1.mv sm) (eN.trans (ExtN.of sm))
theorem TabS.chg {P : Addr} {q : Str} (t : TabS H P q) (e : ∀ b o, H b = some o → (∀ xs, o ≠ .lst xs) → H' b = some o) : TabS H' P q := by
  obtain ⟨ps, h1, h2, h3⟩ := t
  refine ⟨ps, e _ _ h1 (fun _ z => by cases z), h2, fun pos cv hc => ?_⟩
  obtain ⟨c, e1, e2⟩ := h3 pos cv hc
  exact ⟨c, e1, e _ _ e2 fun _ z => by unfold CodeO at z; cases z⟩
/-! ### the end of a law: what is left gives True -/
def ST (m : Mo) (K : PySem.W.Frag) (ts : TS) (Γ : G) : Prop := ∀ σ H, ER m K Γ σ H → ∀ E : Ends, (∀ H', E.rt (.bl true) H') → ts E σ H
/-- .. while the list of numbers at l is one's own -/
def STl (T : List (Addr × Str)) (K : PySem.W.Frag) (F : Addr → Prop) (l : Addr) (zs : List Int) (ts : TS) (Γ : G) : Prop := ∀ σ H, ER (tbMo T fun a => F a ∨ a = l) K Γ σ H → H l = some (.lst (zs.map V.int)) → ¬ F l → ∀ E : Ends, (∀ H', E.rt (.bl true) H') → ts E σ H
variable {ts tw : TS}
theorem st_of (h : SG (pureMo F) K ts Γ { nx := fun _ => False, rt := fun d => d = .bl true }) : ST (tbMo T F) K ts Γ := fun σ H e E k =>
  h σ H e.tb E ⟨fun _ _ _ o => o.elim, fun d v H' o _ rv => by subst o; rw [rv.blE]; exact k H', fun _ _ _ o => o.elim, fun _ _ _ o => o.elim⟩
theorem st_seq (N : G → Prop) (h1 : SG (pureMo F) K ts Γ { nx := N, rt := fun d => d = .bl true }) (h2 : ∀ Γ', N Γ' → ST (tbMo T F) K tw Γ') : ST (tbMo T F) K (tSeq ts tw) Γ := fun σ H e E k =>
  h1 σ H e.tb _ ⟨fun Γ' σ' H' o r e' => h2 Γ' o σ' H' ⟨((tbMo T F).inv r e.i), e'.len, e'.at_⟩ E k, fun d v H' o _ rv => by subst o; rw [rv.blE]; exact k H', fun _ _ _ o => o.elim, fun _ _ _ o => o.elim⟩
variable {CS : Addr} {f : Str} {n0 z : Int} {t : XK → TE} {i : Nat} {l : Addr} {zs : List Int}
/-- x = [many(lambda: ..)]; rest -/
theorem st_lamL (h : ∀ H1 (E : XK), (∀ dx H', Same H1 H' → H' dx = some (.xd [(f, .int z)]) → E (.ref CS) (some dx) H') → EvN (sinceMo (tbMo T F) H1) K (t E) Γ fun _ => z = n0)
    (k : ∀ l, STl T K F l [z] tw (Γ.set i (some (.adr l)))) : ST (tbMo T F) K (tSeq (tAsg (tLst (tCons (tLam T (TTmany K CS f n0) t) tNil)) (gName i)) tw) Γ := fun σ H e E kk => by
  refine lam_ev e h fun H' e' eN => ⟨show 1 ≤ sizeLine from by decide, fun p hp => ?_⟩
  have nF : ¬ F p := fun f => by
    obtain ⟨o, q, _⟩ := e'.i.1 p f
    rw [hp] at q
    cases q
  have sm : Same H' (upd H' p (.lst [.int z])) := same_new hp
  have er : ER (tbMo T fun a => F a ∨ a = p) K Γ σ (upd H' p (.lst [.int z])) := ⟨⟨fun a fa => fa.elim (fun fa => let ⟨o, q, n⟩ := e'.i.1 a fa; ⟨o, sm a o q, n⟩) fun ea => ⟨.lst [.int z], by rw [ea, upd_same], fun _ z => by cases z⟩, e'.i.2.ext sm⟩, e'.len, fun i d h => let ⟨v, h1, h2⟩ := e'.at_ i d h; ⟨v, h1, h2.go fun a o n x => ⟨fun y => y.elim n fun ea => (by rw [ea, hp] at x; cases x), sm a o x⟩⟩⟩
  exact k p _ _ (er.set i (.adr p)) upd_same nF E kk
/-- x.append(many(lambda: ..)); rest -/
theorem sl_lamA (hi : Γ[i]? = some (some (.adr l))) (h : ∀ H1 (E : XK), (∀ dx H', Same H1 H' → H' dx = some (.xd [(f, .int z)]) → E (.ref CS) (some dx) H') → EvN (sinceMo (tbMo T fun a => F a ∨ a = l) H1) K (t E) Γ fun _ => z = n0) (hz : zs.length ≤ 1000)
    (k : STl T K F l (zs ++ [z]) tw Γ) : STl T K F l zs (tSeq (tDrop (tBM K "list" rAppend (tVar i) (tCons (tLam T (TTmany K CS f n0) t) tNil))) tw) Γ := fun σ H e hl nF E kk => by
  obtain ⟨w, h1, h2⟩ := e.at_ i _ hi
  obtain rfl := h2.adrE
  refine ⟨_, h1, .inl ⟨rfl, _, SqL.of hl⟩, ?_⟩
  refine lam_ev e h fun H' e' eN => ?_
  have hl' : H' l = some (.lst (zs.map V.int)) := eN l _ hl fun _ z => by cases z
  refine ⟨l, zs.map V.int, .int z, rfl, rfl, hl', Nat.lt_of_lt_of_le (show (zs.map V.int).length < 100001 by rw [List.length_map]; omega) (by decide), ?_⟩
  refine k σ _ ⟨⟨fun a fa => ?_, fun p hp => TabS.chg (e'.i.2 p hp) fun b o q n => ?_⟩, e'.len, fun j d h => let ⟨v, h1, h2⟩ := e'.at_ j d h; ⟨v, h1, h2.go fun a o n q => ⟨n, by rw [upd_ne (fun y => n (.inr y))]; exact q⟩⟩⟩ (by rw [upd_same, List.map_append]; rfl) nF E kk
  · by_cases ea : a = l
    · exact ⟨.lst (zs.map V.int ++ [.int z]), by rw [ea, upd_same], fun _ z => by cases z⟩
    · obtain ⟨o, q, n⟩ := e'.i.1 a fa
      exact ⟨o, by rw [upd_ne ea]; exact q, n⟩
  · rw [upd_ne (fun y => by rw [y, hl'] at q; exact n _ (Option.some.inj q).symm)]
    exact q
/-- the list is data from now on -/
theorem sl_dis (hi : Γ[i]? = some (some (.adr l))) (k : ST (tbMo T F) K ts (Γ.set i (some (.lst (zs.map D.int))))) : STl T K F l zs ts Γ := fun σ H e hl nF E kk => by
  refine k σ H ⟨⟨fun a fa => e.i.1 a (.inl fa), e.i.2⟩, by rw [List.length_set, e.len], fun j d h => ?_⟩ E kk
  by_cases z : i = j
  · subst z
    have hlt : i < Γ.length := (List.getElem?_eq_some_iff.mp hi).1
    rw [List.getElem?_set_self hlt] at h
    injection h with h
    injection h with h
    subst h
    obtain ⟨v, h1, h2⟩ := e.at_ i _ hi
    obtain rfl := h2.adrE
    refine ⟨_, h1, .lst nF hl ?_⟩
    exact RpAll.map (fun x => .int x) zs
  · rw [List.getElem?_set_ne z] at h
    obtain ⟨v, h1, h2⟩ := e.at_ j d h
    exact ⟨v, h1, h2.weak fun a f => .inl f⟩
end
/-! ### such a law's promise -/
def spT (K : PySem.W.Frag) (T : List (Addr × Str)) (pre : List D → Prop) : Sp := fun vs H Q _ => ∃ (F : Addr → Prop) (ds : List D), (∀ a, F a → ∃ o, H a = some o ∧ ∀ ps, o ≠ .tbl ps) ∧ Tabs T H ∧ RpAll K F H vs ds ∧ pre ds ∧ ∀ H', Q (.bl true) H'
section
variable {P : Program} {w : World} {K : PySem.W.Frag} {mg : Str → Option Value} {base : Heap}
theorem fn_T {x qual : Str} {st : Stmt} {f c : Addr} {fd : FuncData} {N ps : List Str} {k : Nat} {pre : List D → Prop} {T : List (Addr × Str)} (Fu : Fun K x qual st f fd) (Sc : FnScope N ps (defScope st)) (hl : ∀ ds, pre ds → ds.length = ps.length) (hc : fd.code = .ref c)
    (body : ∀ (A : Around) (outer : List Env) (s : Shared) (H : Hp) (E : XK), Room k (A.deeper (PyProof.Rows.envOfC qual (defScope st) s.heap.objs.size f (.ref c))) →
      ∃ t, PSs (cxOf CX0 P w K mg base N qual (defScope st) f (.ref c) A outer s H E).nox (defBody st) t ∧ ∀ (F : Addr → Prop) (ds : List D), pre ds → ST (tbMo T F) K t (startG N ds)) :
    FnOk P w K mg base CX0 (k + 1) f fd ps (spT K T pre) := by
  obtain ⟨oc, od, kV, doc, pm, an, cdv, ct, osl, rfl, lk, hcd⟩ := Fu.ex
  obtain rfl : cdv = .ref c := hc
  refine fn_of lk hcd Sc (fun vs H Q E h => ?_) fun A outer s H vs Q E hr h => ?_
  · obtain ⟨F, ds, _, _, ra, hp, _⟩ := h
    rw [ra.len]
    exact hl ds hp
  · obtain ⟨F, ds, hF, hT, ra, hp, q⟩ := h
    obtain ⟨t, ht, hs⟩ := body A outer s H E hr
    exact ⟨t, ht.nox, hs F ds hp _ H (er_start (m := tbMo T F) ⟨hF, hT⟩ ra N) _ q⟩
end
/-! ### a new pouch, of a script that may be a list that is not frozen -/
def spNewL (K : PySem.W.Frag) (pre : List Int → Int → Prop) : Sp := fun vs H Q _ => ∃ (F : Addr → Prop) (d : D) (xs : List Int) (i : Int), (∀ a, F a → H a ≠ none) ∧ RpAll K F H vs [d, .int i] ∧ (d = .lst (xs.map D.int) ∨ d = .frl (xs.map D.int)) ∧ pre xs i ∧ ∀ p H', H p = none → Same H H' → PI H' p → Q (.ref p) H'
/-- what is left gives a new list of three numbers -/
def SN (m : Mo) (K : PySem.W.Frag) (H0 : Hp) (ts : TS) (Γ : G) : Prop := ∀ σ H, ER m K Γ σ H → Same H0 H → ∀ E : Ends, (∀ p H', H0 p = none → Same H0 H' → PI H' p → E.rt (.ref p) H') → ts E σ H
section
variable {K : PySem.W.Frag} {F : Addr → Prop} {Γ : G} {H0 : Hp} {ts tw : TS} {te : TE} {ta : TA} {S : D → Prop} {i : Nat}
theorem sn_asgN (h : EvN (pureMo F) K te Γ S) (k : ∀ d, S d → SN (pureMo F) K H0 tw (Γ.set i (some d))) : SN (pureMo F) K H0 (tSeq (tAsg te (gName i)) tw) Γ := fun σ H e r E q =>
  h σ H e _ fun v d H' s r' rv => k d s _ H' ((e.mv r').set i rv) (r.trans r') E q
theorem sn_ret (h : EvA (pureMo F) K ta Γ fun ds => ∃ a b c : Int, ds = [.int a, .int b, .int c]) : SN (pureMo F) K H0 (tRet (tLst ta)) Γ := fun σ H e r E q =>
  h σ H e _ fun vs ds H' s r' rs => by
    obtain ⟨a, b, c, rfl⟩ := s
    have ev : vs = [a, b, c].map V.int := RpAll.ints (l := [a, b, c]) rs
    refine ⟨by rw [ev]; exact show 3 ≤ sizeLine from by decide, fun p hp => q p _ ((r.trans r').free hp) ((r.trans r').trans (same_new hp)) ⟨a, b, c, by rw [upd_same, ev]; rfl⟩⟩
theorem en_newcallL {pre : List Int → Int → Prop} {E : XK} {xs : List Int} {d : D} {i : Int} (h : EvA1 (pureMo F) K ta Γ [d, .int i]) (hd : d = .lst (xs.map D.int) ∨ d = .frl (xs.map D.int)) (hp : pre xs i) : EvNew (pureMo F) K (tCall (spNewL K pre) [] E ta) Γ := fun σ H e Q q =>
  h σ H e _ fun vs ds H1 s r1 rs => by
    subst s
    have r1' : Same H H1 := r1
    exact ⟨F, d, xs, i, ((pureMo F).inv r1 e.i), by rw [List.append_nil]; exact rs, hd, hp, fun p H' hn sm hpi => q p H' (r1'.free hn) (r1'.trans sm) hpi⟩
variable {P : Program} {w : World} {mg : Str → Option Value} {base : Heap}
theorem fn_newL {x qual : Str} {st : Stmt} {f : Addr} {fd : FuncData} {N ps : List Str} {k : Nat} {pre : List Int → Int → Prop} (Fu : Fun K x qual st f fd) (Sc : FnScope N ps (defScope st)) (hl : ps.length = 2)
    (body : ∀ (cdv : Value) (A : Around) (outer : List Env) (s : Shared) (H : Hp) (E : XK), Room k (A.deeper (PyProof.Rows.envOfC qual (defScope st) s.heap.objs.size f cdv)) →
      ∃ t, PSs (cxOf CX0 P w K mg base N qual (defScope st) f cdv A outer s H E).nox (defBody st) t ∧ ∀ (F : Addr → Prop) (d : D) (xs : List Int) (i : Int), (d = .lst (xs.map D.int) ∨ d = .frl (xs.map D.int)) → pre xs i → ∀ H0, SN (pureMo F) K H0 t (startG N [d, .int i])) :
    FnOk P w K mg base CX0 (k + 1) f fd ps (spNewL K pre) := by
  refine Fu.ok Sc (fun vs H Q E h => ?_) (fun cdv A outer s H vs Q E hr h => ?_)
  · obtain ⟨F, d, xs, i, _, ra, _⟩ := h
    rw [ra.len, hl]
    rfl
  · obtain ⟨F, d, xs, i, hF, ra, hd, hp, q⟩ := h
    obtain ⟨t, ht, hs⟩ := body cdv A outer s H E hr
    exact ⟨t, ht, hs F d xs i hd hp H _ H (er_start (m := pureMo F) hF ra N) (Same.refl H) _ q⟩
end
end Tx

set_option Elab.async false
set_option linter.all false
set_option maxRecDepth 100000
set_option maxHeartbeats 4000000
set_option autoImplicit false
/-! TxGD: defs whose callers are known to stand in no guard (repr of lists, tuples, dicts asks that), up to the law's end -/
namespace Tx
open PySem PySem.Spec PyProof.Rows L2 LamX
structure FnG (P : Program) (w : World) (K : PySem.W.Frag) (mg : Str → Option Value) (base : Heap) (CX : CXT) (k : Nat) (f : Addr) (fd : FuncData) (ps : List Str) (sp : Sp) : Prop where
  len : ∀ vs H Q E, sp vs H Q E → vs.length = ps.length
  run : ∀ (A : Around) (outer : List Env) (s : Shared) (H : Hp) (args : Args) (us : List Value) (vs : List V) (Q : VK) (E : XK), Room k A → A.guards = some [] → Env0 P w K mg base A outer s H → BindsTo s fd args (ps.zip us) → Vals vs us → sp vs H Q E → codeAny (model P w) A (.call (.ref f) args) (CR CX outer P w H s Q E) s
section
variable {P : Program} {w : World} {K : PySem.W.Frag} {mg : Str → Option Value} {base : Heap} {CX : CXT}
theorem FnG.of {k : Nat} {f : Addr} {fd : FuncData} {ps : List Str} {sp : Sp} (F : FnOk P w K mg base CX k f fd ps sp) : FnG P w K mg base CX k f fd ps sp := ⟨F.len, fun A outer s H args us vs Q E hr _ => F.run A outer s H args us vs Q E hr⟩
theorem fn_G {x qual : Str} {st : Stmt} {f c : Addr} {fd : FuncData} {N ps : List Str} {k : Nat} {sp : Sp} (Fu : Fun K x qual st f fd) (Sc : FnScope N ps (defScope st)) (hl : ∀ vs H Q E, sp vs H Q E → vs.length = ps.length) (hc : fd.code = .ref c)
    (body : ∀ (A : Around) (outer : List Env) (s : Shared) (H : Hp) (vs : List V) (Q : VK) (E : XK), Room k (A.deeper (PyProof.Rows.envOfC qual (defScope st) s.heap.objs.size f (.ref c))) → (A.deeper (PyProof.Rows.envOfC qual (defScope st) s.heap.objs.size f (.ref c))).guards = some [] → sp vs H Q E →
      ∃ t, PSs (cxOf CX P w K mg base N qual (defScope st) f (.ref c) A outer s H E) (defBody st) t ∧ t { nx := fun _ H' => Q .non H', rt := Q } (L2.start N vs) H) : FnG P w K mg base CX (k + 1) f fd ps sp := by
  obtain ⟨oc, od, kV, doc, pm, an, cdv, ct, osl, rfl, lk, hcd⟩ := Fu.ex
  obtain rfl : cdv = .ref c := hc
  exact ⟨hl, fun A outer s H args us vs Q E hr hg e0 hb r h => run_ofS lk hcd Sc hr e0 hb r (hl _ _ _ _ h) fun hr' => body A outer s H vs Q E hr' hg h⟩
theorem fn_TG {x qual : Str} {st : Stmt} {f c : Addr} {fd : FuncData} {N ps : List Str} {k : Nat} {pre : List D → Prop} {T : List (Addr × Str)} (Fu : Fun K x qual st f fd) (Sc : FnScope N ps (defScope st)) (hl : ∀ ds, pre ds → ds.length = ps.length) (hc : fd.code = .ref c)
    (body : ∀ (A : Around) (outer : List Env) (s : Shared) (H : Hp) (E : XK), Room k (A.deeper (PyProof.Rows.envOfC qual (defScope st) s.heap.objs.size f (.ref c))) → (A.deeper (PyProof.Rows.envOfC qual (defScope st) s.heap.objs.size f (.ref c))).guards = some [] →
      ∃ t, PSs (cxOf CX0 P w K mg base N qual (defScope st) f (.ref c) A outer s H E).nox (defBody st) t ∧ ∀ (F : Addr → Prop) (ds : List D), pre ds → ST (tbMo T F) K t (startG N ds)) :
    FnG P w K mg base CX0 (k + 1) f fd ps (spT K T pre) :=
  fn_G Fu Sc (fun vs H Q E ⟨F, ds, _, _, ra, hp, _⟩ => by rw [ra.len]; exact hl ds hp) hc fun A outer s H vs Q E hr hg ⟨F, ds, hF, hT, ra, hp, q⟩ => by
    obtain ⟨t, ht, hs⟩ := body A outer s H E hr hg
    exact ⟨t, ht.nox, hs F ds hp _ H (er_start (m := tbMo T F) ⟨hF, hT⟩ ra N) _ q⟩
end
/-! ### the end -/
section
variable {P : Program} {w : World} {K : PySem.W.Frag} {mg mb : Str → Option Value} {CX : CXT} {k : Nat} {fa a : Addr} {cs : List (Addr × Addr)} {fd : FuncData} {x : Str} {sp : Sp} {s : Shared} {vs : List Value} {ns : List Int}
open Classical in
/-- what is followed as a law begins: the tables, and the script where it is not of the written part -/
noncomputable def firstH (K : PySem.W.Frag) (T : List Addr) (a : Addr) (o : Obj) (xs : List V) : Hp := fun b => if b ∈ T then some (.tbl #[]) else if b = a ∧ K.lookup a = none then some (.frz o (.lst xs)) else none
theorem law_G (KX : K.In s.heap) (hns : s.heap.Ns mainGlobals mg) (hb : s.heap.Ns builtinsNs mb) (hbb : ∀ x : Str, x ≠ "__name__" → mb x = bootBuiltins x) (hlim : s.heap.NoLimit) (hg : s.gens = #[])
    (hT : ∀ p ∈ cs, s.heap.get? p.2 = some { cls := .none, data := .fields #[] }) (nT : ∀ p ∈ cs, K.lookup p.2 = none) (C : ∀ p ∈ cs, PySem.W.CodeHd s.heap p.1 p.2)
    (hbm : ∃ (bm : Addr) (ob : Obj), mg "__builtins__" = some (.ref bm) ∧ bm ≠ builtinsNs ∧ s.heap.get? bm = some ob ∧ ob.cls = .type "module" ∧ ob.dict = some builtinsNs ∧ ob.data = .plain)
    (ha : s.heap.get? a = some { cls := .type "list", data := .seq vs.toArray }) (hi : IntsAre vs ns) (hl : ns.length ≤ sizeLine) (hr : Room k callerA)
    (F : ∀ base : Heap, K.In base → base.Ns mainGlobals mg → (∀ p ∈ cs, TabB base mg p.1 p.2) → FnG P w K mg base CX k fa fd [x] sp) (hbind : ∀ (s : Shared) (u : Value), BindsTo s fd ⟨[u], []⟩ [(x, u)])
    (hsp : ∀ H : Hp, (∀ p ∈ cs, H p.2 = some (.tbl #[])) → SqL K H a (ns.map V.int) → sp [.ref a] H (fun v _ => v = .bl true) fun _ _ _ => False)
    (hCX : ∀ H e s', CX [] H s (fun _ _ _ => False) e s' → False) :
    codeAny (model P w) callerA (.call (.ref fa) ⟨[.ref a], []⟩) (fun r s' => r = .ok (.ret (.bool true)) ∧ OldK s.heap s'.heap ∧ s'.os = s.os ∧ AllBare s'.gens) s := by
  have T0 : ∀ {b : Addr}, b ∈ cs.map (·.2) → s.heap.get? b = some { cls := .none, data := .fields #[] } := fun {b} h => by
    obtain ⟨p, hp, rfl⟩ := List.mem_map.mp h
    exact hT p hp
  have K0 : ∀ {b : Addr}, b ∈ cs.map (·.2) → K.lookup b = none := fun {b} h => by
    obtain ⟨p, hp, rfl⟩ := List.mem_map.mp h
    exact nT p hp
  have inT : ∀ p ∈ cs, p.2 ∈ cs.map (·.2) := fun p hp => List.mem_map.mpr ⟨p, hp, rfl⟩
  let o : Obj := { cls := .type "list", data := .seq vs.toArray }
  let H : Hp := firstH K (cs.map (·.2)) a o (ns.map V.int)
  have aT : a ∉ cs.map (·.2) := fun h => by
    have e := ha.symm.trans (T0 h)
    have e2 := congrArg Obj.data (Option.some.inj e)
    cases e2
  have Ht : ∀ {b : Addr}, b ∈ cs.map (·.2) → H b = some (.tbl #[]) := fun h => if_pos h
  have Hin : ∀ {b : Addr} {u : HO}, H b = some u → (b ∈ cs.map (·.2) ∧ u = .tbl #[]) ∨ (b = a ∧ K.lookup a = none ∧ u = .frz o (.lst (ns.map V.int))) := fun {b u} e => by
    by_cases h : b ∈ cs.map (·.2)
    · have e' := (if_pos h).symm.trans e
      exact .inl ⟨h, (Option.some.inj e').symm⟩
    · have e' := (if_neg h).symm.trans e
      by_cases h2 : b = a ∧ K.lookup a = none
      · have e2 := (if_pos h2).symm.trans e'
        exact .inr ⟨h2.1, h2.2, (Option.some.inj e2).symm⟩
      · have e2 := (if_neg h2).symm.trans e'
        cases e2
  -- what is neither a list nor an empty table is not followed
  have out : ∀ {b : Addr} {u : Obj}, s.heap.get? b = some u → (∀ xs n, u.data ≠ .seq xs n) → u.data ≠ .fields #[] → H b = none := fun {b u} e h1 h2 => by
    cases q : H b with
    | none => rfl
    | some z =>
      rcases Hin q with ⟨h, _⟩ | ⟨rfl, _, _⟩
      · cases e.symm.trans (T0 h)
        exact absurd rfl h2
      · cases e.symm.trans ha
        exact absurd rfl (h1 _ _)
  have dict : ∀ {b : Addr} {u : Obj} {es : Array DictEntry} {ep : Nat}, s.heap.get? b = some u → u.data = .dict es ep → (hidT s.heap H).get? b = some u := fun {b u es ep} e d => hidT_get e (out e (fun xs n z => by rw [d] at z; cases z) (fun z => by rw [d] at z; cases z))
  have names : ∀ {b : Addr} {m : Str → Option Value}, s.heap.Ns b m → (hidT s.heap H).Ns b m := fun {b m} ⟨u, es, ep, e, d, r⟩ => ⟨u, es, ep, dict e d, d, r⟩
  have kin : K.In (hidT s.heap H) := fun b u e => hidT_get (KX b u e) (by
    cases q : H b with
    | none => rfl
    | some z =>
      rcases Hin q with ⟨h, _⟩ | ⟨rfl, h, _⟩
      · rw [K0 h] at e; cases e
      · rw [h] at e; cases e)
  have modl : L2.Mod K mg (hidT s.heap H) := ⟨kin, names hns, ⟨mb, names hb, hbb⟩, by
    obtain ⟨mc, h1, h2⟩ := hlim
    exact ⟨mc, names h1, h2⟩⟩
  have tabs : ∀ p ∈ cs, TabB (hidT s.heap H) mg p.1 p.2 := fun p hp => by
    have tp := hT p hp
    refine ⟨?_, ?_, fun z => ?_⟩
    · obtain ⟨u, us, file, tf, flags, tg, inF, text, tt, e1, r1, r2, r3, rest⟩ := C p hp
      refine ⟨u, us, file, tf, flags, tg, inF, text, tt, hidT_get e1 (out e1 (fun xs n z => by rw [r2] at z; cases z) (fun z => ?_)), r1, r2, r3, rest⟩
      rw [r2] at z
      cases z
      simp at r3
    · obtain ⟨bm, ob, b1, b2, b3, b4, b5, b6⟩ := hbm
      refine ⟨bm, ob, b1, b2, fun q => ?_, fun q => ?_, hidT_get b3 (out b3 (fun xs n z => by rw [b6] at z; cases z) (fun z => by rw [b6] at z; cases z)), b4, b5, b6⟩
      · obtain ⟨u, es, ep, e, d, _⟩ := hns
        rw [q, e] at b3
        cases b3
        rw [d] at b6
        cases b6
      · rw [q, tp] at b3
        cases b3
        cases b6
    · obtain ⟨u, es, ep, e, d, _⟩ := hns
      rw [z, tp] at e
      cases e
      cases d
  have rv := vals_ints hi
  have lv : vs.length = ns.length := hi.length
  have hok : HOk P w H s.heap := fun b u e => by
    rcases Hin e with ⟨h, rfl⟩ | ⟨rfl, _, rfl⟩
    · exact T0 h
    · exact ⟨ha, by rw [List.length_map]; exact hl, vs, _, rv, ha⟩
  have script : SqL K H a (ns.map V.int) := by
    cases q : K.lookup a with
    | none => exact .inl (.inr ⟨o, (if_neg aT).trans (if_pos ⟨rfl, q⟩)⟩)
    | some u =>
      cases (KX a u q).symm.trans ha
      exact .inr ⟨_, vs.toArray, _, q, rfl, rfl, rfl, by rw [List.size_toArray, lv]; exact hl, by simpa using rv⟩
  have e0 : Env0 P w K mg (hidT s.heap H) callerA [] s H := ⟨rfl, modl, fun b u e => of_hidT e, Nat.le_of_eq (hidT_size _ _), trivial, (fun b z => nomatch z), hok, .of_eq hg⟩
  refine codeAny_mono ((F _ kin (names hns) tabs).run callerA [] s H ⟨[.ref a], []⟩ [.ref a] [.ref a] _ _ hr rfl e0 (hbind s (.ref a)) (.cons rfl .nil) (hsp H (fun p hp => Ht (inT p hp)) script)) fun r s' h => ?_
  cases r with
  | error e => exact (hCX H e s' h).elim
  | ok fl =>
    cases fl with
    | next => exact h.elim
    | brk => exact h.elim
    | cont => exact h.elim
    | ret u =>
      obtain ⟨v, H', os, bare, un, ok', r', q⟩ := h
      obtain rfl : v = .bl true := q
      obtain rfl : u = Value.bool true := r'
      have kept : ∀ b u, b ∉ cs.map (·.2) → s.heap.get? b = some u → s'.heap.get? b = some u := fun b u nb e => by
        cases q : H b with
        | none => exact un.keep b u e q (fun z => nomatch z) (fun z => nomatch z)
        | some z =>
          rcases Hin q with ⟨h, _⟩ | ⟨rfl, _, rfl⟩
          · exact absurd h nb
          · cases e.symm.trans ha
            exact (ok' b _ (un.frzs b _ _ q)).1
      have more : ∀ p ∈ cs, ∃ ms : Array Value, s'.heap.get? p.2 = some { cls := .none, data := .fields ms } := fun p hp => by
        obtain ⟨ms, z⟩ := un.tbls p.2 #[] (Ht (inT p hp))
        exact ⟨_, ok' p.2 _ z⟩
      refine ⟨rfl, ⟨fun b u e => ?_, fun b u e => ?_⟩, os, bare⟩
      · by_cases h : b ∈ cs.map (·.2)
        · obtain ⟨p, hp, rfl⟩ := List.mem_map.mp h
          obtain ⟨ms, e2⟩ := more p hp
          cases e.symm.trans (hT p hp)
          exact .inr (.inl ⟨((C p hp).tab (hT p hp)).isCodeTable, rfl, #[], ms, rfl, by rw [Array.empty_append]; exact e2⟩)
        · exact .inl (kept b u h e)
      · by_cases h : b ∈ cs.map (·.2)
        · obtain ⟨p, hp, rfl⟩ := List.mem_map.mp h
          obtain ⟨ms, e2⟩ := more p hp
          exact ⟨_, e2⟩
        · exact ⟨u, kept b u h e⟩
end
theorem walk_G {l : PySem.W.OpenLaw} {n k : Nat} {q : Program} {loose : List Str} {XP : (Str → Option Value) → Heap → Prop} {YP : World → Heap → Prop} {d : DefRec} {K : Params → PySem.W.Frag} {x : Str} {cs : List (Addr × Addr)} {sp : World → Sp} (hn : l.most = some n) (hn2 : n ≤ sizeLine) (hdf : d.params.defaults = []) (hr : Room k callerA)
    (hY : ∀ (w : World) (h : Heap), YP w h → (K w.params).In h)
    (F : ∀ (w : World) (mg : Str → Option Value) (fa : Addr) (h : Heap), YP w h → (K w.params).In h → h.Ns mainGlobals mg → mg d.name = some (.ref fa) → ∃ fd : FuncData, (∀ p ∈ cs, h.get? p.2 = some { cls := .none, data := .fields #[] }) ∧ (∀ p ∈ cs, (K w.params).lookup p.2 = none) ∧ (∀ p ∈ cs, PySem.W.CodeHd h p.1 p.2) ∧ (∀ (s : Shared) (u : Value), BindsTo s fd ⟨[u], []⟩ [(x, u)]) ∧
      ∀ base : Heap, (K w.params).In base → base.Ns mainGlobals mg → (∀ p ∈ cs, TabB base mg p.1 p.2) → FnG l.prog w (K w.params) mg base CX0 k fa fd [x] (sp w))
    (hsp : ∀ (w : World) (H : Hp) (a : Addr) (ns : List Int), ns.length ≤ n → (∀ p ∈ cs, H p.2 = some (.tbl #[])) → SqL (K w.params) H a (ns.map V.int) → sp w [.ref a] H (fun v _ => v = .bl true) fun _ _ _ => False) :
    PySem.W.WalkO q loose XP YP l.row.toRowW d [] (fun f vs => PySem.call f vs) := by
  refine Att.attach_callB hn hdf fun w s0 s1 mg mb fa o pm cd doc a vs ns G Y _ _ _ hmg hobj hints hlen _ hg => ?_
  have KX := hY w _ Y
  obtain ⟨fd, h1, h2, h3, hb, hF⟩ := F w mg fa _ Y KX G.T.g hmg
  exact law_G KX G.T.g G.T.b G.T.builtins G.T.nolimit hg h1 h2 h3 G.T.bmain hobj hints (Nat.le_trans hlen hn2) hr hF hb (fun H hH hS => hsp w H a ns hlen hH hS) fun H e s' z => z
end Tx

set_option Elab.async false
set_option linter.all false
set_option maxRecDepth 100000
set_option maxHeartbeats 1000000
set_option autoImplicit false
/-! Tx: != of own instances, by their own == -/
namespace Tx
open PySem PySem.Spec PyProof.Rows L2
section
open PySem.W
variable {prog : Program} {w : World} {A : Around} {E : Value → Shared → Prop} {s : Shared} {K : Frag} {x C L f : Addr} {h₀ : Heap} {m : Str → Option Value} {ox : Obj} {od : Option Obj} {name : Str} {b tb : Value}
theorem check_slot_K {id owner n : String} {rest : List Value} {Q : Unit → Shared → Prop} (hk : builtinKind id = some .slot) (hs : splitId id = some (owner, n)) (ha : argsOk id ⟨.ref x :: rest, []⟩) (X : K.In s.heap) (I : InstAt s.heap x ox C od) (hm : mroIn K C (.type owner) = some true) (hq : Q () s) :
    wpAny (model prog w) A (checkBuiltinCall id ⟨.ref x :: rest, []⟩) Q E s := by
  simp only [checkBuiltinCall, hk, hs]
  refine wpAny_bind ?_
  · unfold isInstance
    refine wpAny_bind (I.type.here ((looks_mroIn X hm).here ?_))
    cases hsig : Manifest.signature? id with
    | none => exact wpAny_pure hq
    | some sig =>
      simp only [argsOk, hsig] at ha
      have h2 : Bind.checkArgs id sig ⟨.ref x :: rest, []⟩ = pure () := ha
      show wpAny _ A (Bind.checkArgs id sig ⟨.ref x :: rest, []⟩) Q E _
      rw [h2]
      exact wpAny_pure hq
theorem ifBoundB_K {M : Model} {id : String} {args : List Value} {Q : Option Value → Shared → Prop} (X : K.In s.heap) (I : InstAt s.heap x ox C od) (hs : findIn K (.ref C) name = some (some (.builtin id))) (hb : ∀ self, bindSpecial (.builtin id) self = pure (.builtin id, [self]))
    (h : wpAny M A (call (.builtin id) (.ref x :: args)) (fun v => Q (some v)) E s) : wpAny M A (callSpecialIfBound? (.ref x) name args) Q E s := by
  simp only [callSpecialIfBound?, bindSpecialIfBound?]
  refine wpAny_holding (wpAny_bind (wpAny_bind (wpAny_bind (I.type.here ((looks_findIn X hs).here ?_)))))
  simp only [hb]
  refine wpAny_bind (wpAny_askSetting (wpAny_ite ?_))
  have fin : wpAny M A (call (.builtin id) ([.ref x] ++ args) >>= fun v => pure (some v)) Q E s := wpAny_bind (wpAny_mono h (fun v s' h' => wpAny_pure h') fun _ _ h' => h')
  split
  · exact wpAny_bind (wpAny_pure (wpAny_pure (by exact fin)))
  · exact wpAny_tryCatch (wpAny_bind (wpAny_pure (wpAny_pure (by exact fin))))
theorem objNe_K (X : K.In s.heap) (I : InstAt s.heap x ox C od) (hu : A.units < cLine) (he : findIn K (.ref C) "__eq__" = some (some (.ref f))) (hf : isFn K (.ref f) = true) {Q : Fin → Shared → Prop}
    (hcall : wpAny (model prog w) A (call (.ref f) [.ref x, b]) (fun v s' => ∃ k, v = .bool k ∧ Q (.done (.ret (.bool (!k)))) s') E s) : wpAny (model prog w) A (Builtin.«object.__ne__» ⟨[.ref x, b], []⟩) Q E s := by
  unfold Builtin.«object.__ne__»
  repeat (first
    | with_reducible refine wpAny_cRoomFor hu ?_
    | (refine wpAny_bind (m := callSpecialIfBound? (.ref x) (Str.ofString "__eq__") [b])
        (ifBound_K X I he hf (wpAny_mono hcall (fun r s' hr => by
          obtain ⟨k, rfl, hq⟩ := hr
          repeat (first | exact hq | exact wpAny_pure hq | exact wpAny_truthy_bool hq | (refine wpAny_bind (m := truthy (.bool _)) (wpAny_truthy_bool ?_)) | wp_step)) fun _ _ e => e)))
    | wp_step)
theorem cmpNe_K {Q : Value → Shared → Prop} (hu : A.units + 1 < cLine) (F : Fr h₀ L s.heap m) (X₀ : K.In h₀) (I : InstAt s.heap x ox C od) (hb : Looks (model prog w) s.heap (typeOf b) tb) (hn : notFirst K C tb = true)
    (hs : findIn K (.ref C) "__ne__" = some (some (.builtin "object.__ne__"))) (hm : mroIn K C (.type "object") = some true) (he : findIn K (.ref C) "__eq__" = some (some (.ref f))) (hf : isFn K (.ref f) = true)
    (h : wpAny (model prog w) A.in1 (call (.ref f) [.ref x, b]) (fun v s' => ∃ k, v = .bool k ∧ Q (.bool (!k)) s') E s) : wpAny (model prog w) A (richCompare .NotEq (.ref x) b) Q E s := by
  have X := X₀.keeps F.keep
  have slot := PySem.F.slot_object_ne
  have both : wpAny (model prog w) A (tryCompare (.ref x) (cmpInfo .NotEq).2.1 b) (fun r s' => ∃ v, r = some v ∧ Q v s') E s := by
    unfold tryCompare
    refine wpAny_bind (ifBoundB_K (name := (cmpInfo .NotEq).2.1) X I hs slot.bind (wpAny_call (codeAny_call_builtin slot.plain PySem.F.cmpEntry_ne (check_slot_K PySem.F.cmpKind_ne PySem.F.cmpSplit_ne (PySem.F.cmpArgs_ne _ _) X I hm (objNe_K (A := A.in1) X I hu he hf (wpAny_mono h (fun v s' hv => ?_) fun _ _ e => e))))))
    obtain ⟨k, rfl, q⟩ := hv
    exact ⟨k, rfl, wpAny_pure ⟨_, rfl, q⟩⟩
  unfold richCompare
  simp only [oneThing_ref]
  refine wpAny_holding (wpAny_bind (wpAny_cRoomFor (Nat.lt_of_succ_lt hu) (wpAny_bind (I.type.here (wpAny_bind (hb.here ?_))))))
  have last : ∀ {s'' : Shared}, s'' = s → wpAny (model prog w) A (tryCompare (.ref x) (cmpInfo .NotEq).2.1 b) (fun r s' => ∃ v, r = some v ∧ Q v s') E s'' := fun e => e ▸ both
  split
  · rename_i q
    have e : subIn K tb (.ref C) = some false := by
      rcases Bool.or_eq_true_iff.mp hn with z | z
      · rw [beq_iff_eq.mp z] at q; simp at q
      · exact beq_iff_eq.mp z
    refine wpAny_bind ((looks_subIn X e).here ?_)
    simp only [Bool.false_eq_true, if_false]
    exact wpAny_bind (wpAny_mono (last rfl) (fun r s' z => by obtain ⟨v, rfl, hq⟩ := z; exact wpAny_pure hq) fun _ _ e => e)
  · refine wpAny_bind (wpAny_pure ?_)
    simp only [Bool.false_eq_true, if_false]
    exact wpAny_bind (wpAny_mono (last rfl) (fun r s' z => by obtain ⟨v, rfl, hq⟩ := z; exact wpAny_pure hq) fun _ _ e => e)
end
section
variable {X : Cx}
/-- o != y, by its own == -/
def rNeO (K : PySem.W.Frag) (C : Addr) (sp : Sp) : R2 := fun x y H Q => ∃ (a dx : Addr) (fs : List (Str × V)), x = .ref a ∧ H a = some (.ins C dx fs) ∧ NotSub K C H y ∧ sp [.ref a, y] H (fun v H' => ∃ b : Bool, v = .bl b ∧ Q (.bl (!b)) H') E0
/-- that the class has no != of its own -/
structure NeC (K : PySem.W.Frag) (C : Addr) : Prop where
  ne : PySem.W.findIn K (.ref C) "__ne__" = some (some (.builtin "object.__ne__"))
  ob : PySem.W.mroIn K C (.type "object") = some true
theorem op_neO {C : Addr} {n k : Nat} {sp : Sp} (O : OwnK X.prog X.w X.K X.mg X.base C "__eq__" n sp) (c : NeC X.K C) (hr : Room k X.A) (hk : n + 1 ≤ k) : OpR X (compareOp .NotEq) (rNeO X.K C sp) := by
  intro pins s σ H x y v u Q I rx ry q0
  obtain ⟨a, dx, fs, rfl, ha, ns, hsp⟩ := q0
  obtain ⟨f, h1, h2, fd, ps, F, hb⟩ := O.ex
  cases rx
  have hr' : Room (n + 1) X.A := hr.mono hk
  obtain ⟨_, J, _⟩ := ins_get I.hok ha
  obtain ⟨od, J, _⟩ := J.look
  obtain ⟨m, hF⟩ := I.fr
  have hl : ∃ tb, PySem.W.Looks (model X.prog X.w) s.heap (typeOf u) tb ∧ PySem.W.notFirst X.K C tb = true := by
    cases ns with
    | ins hb' =>
      cases ry
      obtain ⟨_, J2, _⟩ := ins_get I.hok hb'
      obtain ⟨_, J2, _⟩ := J2.look
      exact ⟨_, J2.type, by simp [PySem.W.notFirst]⟩
    | tup ht hn =>
      cases ry
      obtain ⟨_, _, p, _⟩ := I.tuple ht
      obtain ⟨o, ho, hc, _⟩ := p
      exact ⟨_, hc ▸ (PySem.W.Looks.ld ho).andThen .now, hn⟩
  obtain ⟨tb, hl, hn⟩ := hl
  show wpAny _ X.A (richCompare .NotEq (.ref a) u) (EP X pins σ Q) X.xe s
  refine cmpNe_K (tb := tb) (Nat.lt_of_le_of_lt (Nat.add_le_add_left (by decide : 1 ≤ 64) _) hr'.units) hF I.ok.mod.kin J hl hn c.ne c.ob h1 h2 (wpAny_mono (run_own F hb hr'.in1 rfl I (rr2 a ry) hsp) (fun z s' hv => ?_) fun _ _ z => z)
  obtain ⟨_, H', I', rz, b, e, q⟩ := hv
  subst e
  cases rz
  exact ⟨b, rfl, .bl (!b), H', I', rfl, q⟩
def rNeU (K : PySem.W.Frag) (C : Addr) (sp : Sp) : R2 := fun x y H Q => rNeD K x y H Q ∨ rNeO K C sp x y H Q
theorem op_neK {C : Addr} {n k : Nat} {sp : Sp} (O : OwnK X.prog X.w X.K X.mg X.base C "__eq__" n sp) (c : NeC X.K C) (hr : Room k X.A) (hk : n + 1 ≤ k) (hu : X.A.units + 64 < cLine) : OpR X (compareOp .NotEq) (rNeU X.K C sp) := (op_neD hu).or (op_neO O c hr hk)
end
section
variable {K : PySem.W.Frag} {m : Mo} {C : Addr} {ns : List Str} {xs : List D} {x : D} {pre : List D → Prop} {Sf : List D → D → Prop}
theorem o_neOS {b : Bool} (hx : (∃ ns' xs', x = .obj C ns' xs') ∨ ((∃ ts, x = .tup ts) ∧ PySem.W.notFirst K C (.type "tuple") = true)) (hp : pre [.obj C ns xs, x]) (hn : ∀ d, Sf [.obj C ns xs, x] d → d = .bl b) : Op1 m K (rNeU K C (spS K pre Sf)) (.obj C ns xs) x (.bl (!b)) := fun vo vx H I rv rx Q q => by
  obtain ⟨a, dx, fs, rfl, ha, _⟩ := rv.ins
  refine .inr ⟨a, dx, fs, rfl, ha, ?_, m.F, [.obj C ns xs, x], fun a f => m.fa I f, .cons rv (.cons rx .nil), hp, fun v d H' sd sm rv => ⟨b, (by rw [hn d sd] at rv; exact rv.blE), q _ _ H' rfl (m.grow I sm) (.bl (!b))⟩⟩
  rcases hx with ⟨ns', xs', e⟩ | ⟨⟨ts, e⟩, hnf⟩
  · subst e
    obtain ⟨_, _, _, rfl, ha', _⟩ := rx.ins
    exact .ins ha'
  · subst e
    obtain ⟨_, _, rfl, hs, _⟩ := rx.tupE
    exact .tup hs hnf
theorem o_neUD {sp : Sp} {a b : D} {n : Nat} (hn : n ≤ 60) (ha : pur n a = true) (hb : pur n b = true) : Op1 m K (rNeU K C sp) a b (.bl (!PyData.eqv a.py b.py)) := fun x y H I rx ry Q q => .inl (o_neP hn ha hb x y H I rx ry Q q)
end
end Tx

set_option Elab.async false
set_option linter.all false
set_option maxRecDepth 100000
set_option maxHeartbeats 1000000
set_option autoImplicit false
/-! Tx: slices, lists that are multiplied, places, what is popped and put -/
namespace Tx
open PySem L2
section
variable {K : PySem.W.Frag} {m : Mo} {Γ : G} {ta tb te tv : TE} {ts tw : TS} {d : D} {ds : List D} {l : Addr} {H0 : Hp}
theorem RpAll.dropN {F : Addr → Prop} {H : Hp} : ∀ (n : Nat) {vs : List V} {ds : List D}, RpAll K F H vs ds → RpAll K F H (vs.drop n) (ds.drop n)
  | 0, _, _, h => h
  | n + 1, _, _, .nil => .nil
  | n + 1, _, _, .cons _ t => RpAll.dropN n t
theorem RpAll.takeN {F : Addr → Prop} {H : Hp} : ∀ (n : Nat) {vs : List V} {ds : List D}, RpAll K F H vs ds → RpAll K F H (vs.take n) (ds.take n)
  | 0, _, _, _ => .nil
  | n + 1, _, _, .nil => .nil
  | n + 1, _, _, .cons r t => .cons r (RpAll.takeN n t)
theorem RpAll.eraseN {F : Addr → Prop} {H : Hp} : ∀ (n : Nat) {vs : List V} {ds : List D}, RpAll K F H vs ds → RpAll K F H (vs.eraseIdx n) (ds.eraseIdx n)
  | _, _, _, .nil => .nil
  | 0, _, _, .cons _ t => t
  | n + 1, _, _, .cons r t => .cons r (RpAll.eraseN n t)
theorem RpAll.setN {F : Addr → Prop} {H : Hp} {v : V} {d : D} (rv : Rp K F H v d) : ∀ (n : Nat) {vs : List V} {ds : List D}, RpAll K F H vs ds → RpAll K F H (vs.set n v) (ds.set n d)
  | _, _, _, .nil => .nil
  | 0, _, _, .cons _ t => .cons rv t
  | n + 1, _, _, .cons r t => .cons r (RpAll.setN rv n t)
/-! a slice's parts -/
def EvO (m : Mo) (K : PySem.W.Frag) (to : TO) (Γ : G) (o : Option Int) : Prop := ∀ σ H, ER m K Γ σ H → ∀ Q : Option Int → Hp → Prop, (∀ H', m.R H H' → Q o H') → to σ H Q
theorem eo_none : EvO m K tNoPart Γ none := fun σ H e Q q => q H (m.refl H)
theorem eo_some {i : Int} (h : Ev1 m K te Γ (.int i)) : EvO m K (tPart te) Γ (some i) := fun σ H e Q q => h σ H e _ fun v d' H1 s r1 rv => by
  subst s
  exact ⟨i, rv.intE, q H1 r1⟩
def cutD (ds : List D) (lo hi : Option Int) : List D := (ds.drop (HT.sIx ds.length 0 lo)).take (HT.sIx ds.length ds.length hi - HT.sIx ds.length 0 lo)
theorem cutD_to {n : Nat} (hn : n ≤ ds.length) : cutD ds none (some (n : Int)) = ds.take n := by
  unfold cutD
  rw [HT.sIx_none, HT.sIx_nat, List.drop_zero, Nat.sub_zero, Nat.min_eq_left hn]
theorem cutD_from {n : Nat} (hn : n ≤ ds.length) : cutD ds (some (n : Int)) none = ds.drop n := by
  unfold cutD
  rw [HT.sIx_nat, HT.sIx_none, Nat.min_eq_left hn, List.take_of_length_le (by rw [List.length_drop]; exact Nat.le_refl _)]
theorem en_slT {tl th : TO} {lo hi : Option Int} (h : Ev1 m K te Γ (.tup ds)) (hl : EvO m K tl Γ lo) (hh : EvO m K th Γ hi) : Ev1 m K (tSl (rSlA K) te tl th) Γ (.tup (cutD ds lo hi)) := fun σ H e Q q =>
  h σ H e _ fun v d' H1 s r1 rv => hl σ H1 (e.mv r1) _ fun H2 r2 => hh σ H2 ((e.mv r1).mv r2) _ fun H3 r3 => by
    subst s
    have i1 := m.inv r1 e.i
    have i3 := m.inv r3 (m.inv r2 i1)
    have rv3 : Rp K m.F H3 v (.tup ds) := rv.mv fun a o n x => m.keep r3 (m.inv r2 i1) a o n (m.keep r2 i1 a o n x)
    have rr := m.trans r1 (m.trans r2 r3)
    obtain ⟨a, vs, rfl, hs, ra⟩ := rv3.tupE
    have len := ra.len
    refine ⟨a, vs, rfl, hs, fun hw => ?_, fun hw p hp => ?_⟩
    · rw [len] at hw
      have : cutD ds lo hi = ds := by
        unfold cutD
        rw [hw.1, hw.2, List.drop_zero, Nat.sub_zero, List.take_length]
      exact q _ _ H3 rfl rr (by rw [this]; exact rv3)
    · refine q _ _ _ rfl (m.trans rr (m.grow i3 (same_new hp))) (rp_new i3 hp ?_)
      unfold cutV cutD
      rw [len]
      exact RpAll.takeN _ (RpAll.dropN _ ra)
theorem RpAll.repL {F : Addr → Prop} {H : Hp} {vs : List V} {ds : List D} (r : RpAll K F H vs ds) : ∀ n, RpAll K F H (List.replicate n vs).flatten (List.replicate n ds).flatten
  | 0 => .nil
  | n + 1 => by
    rw [List.replicate_succ, List.replicate_succ, List.flatten_cons, List.flatten_cons]
    exact r.append (RpAll.repL r n)
theorem rep_one (d : D) : ∀ n, (List.replicate n [d]).flatten = List.replicate n d
  | 0 => rfl
  | n + 1 => by rw [List.replicate_succ, List.replicate_succ, List.flatten_cons, rep_one d n]; rfl
/-! a list that is made last: it may be owned -/
def EvL (m : Mo) (K : PySem.W.Frag) (te : TE) (Γ : G) (ds : List D) : Prop := ∀ σ H, ER m K Γ σ H → ∀ Q : VK, (∀ l H1 vs, m.R H H1 → H1 l = none → RpAll K m.F H1 vs ds → Q (.ref l) (upd H1 l (.lst vs))) → te σ H Q
theorem el_lst {ta : TA} (h : EvA1 m K ta Γ ds) (hz : ds.length ≤ 100000) : EvL m K (tLst ta) Γ ds := fun σ H e Q q =>
  h σ H e _ fun vs ds' H1 s r1 rs => by
    subst s
    exact ⟨Nat.le_trans (show vs.length ≤ 100000 by have := rs.len; omega) (by decide), fun l hl => q l H1 vs r1 hl rs⟩
theorem el_list {b : D} (h : Ev1 m K te Γ b) (hd : isSeq b ds) : EvL m K (tCB (rLst K) (tCons te tNil)) Γ ds := fun σ H e Q q =>
  h σ H e _ fun v d H1 s r1 rv => by
    subst s
    obtain ⟨a, vs, rfl, ra, hs⟩ := seq_standsX (m := m) rv hd
    refine ⟨a, vs, rfl, ?_, fun l hl => q l H1 vs r1 hl ra⟩
    rcases hs with hs | hs
    · exact .inl (hs H1 fun _ _ _ e => e)
    · exact .inr (hs H1 fun _ _ _ e => e)
def rMulL (K : PySem.W.Frag) : R2 := fun x y H Q => rMulU K x y H Q ∨ rRep x y H Q
theorem op_mulL {X : Cx} : OpR X (binaryOp .Mult) (rMulL X.K) := op_mulU.or op_rep
theorem el_mul {n : Nat} {d : D} (h : Ev1 m K ta Γ (.lst [d])) (hn : Ev1 m K tb Γ (dN n)) (hz : n ≤ 100000) : EvL m K (tOp (rMulL K) ta tb) Γ (List.replicate n d) := fun σ H e Q q =>
  h σ H e _ fun v d' H1 s r1 rv => hn σ H1 (e.mv r1) _ fun w dw H2 s2 r2 rw' => by
    subst s; subst s2
    have i1 := m.inv r1 e.i
    obtain ⟨a, vs, rfl, ha, ra⟩ := (rv.mv (m.keep r2 i1)).lstE
    obtain rfl := rw'.intE
    have hv : vs.length = 1 := ra.len
    refine .inr ⟨a, n, vs, rfl, rfl, ha, by omega, by omega, Nat.le_trans (show vs.length * (n : Int).toNat ≤ 100000 by rw [hv, Int.toNat_natCast]; omega) (by decide), fun p hp => ?_⟩
    have := q p H2 (List.replicate n vs).flatten (m.trans r1 r2) hp (by have z := RpAll.repL ra n; rw [rep_one] at z; exact z)
    rw [Int.toNat_natCast]
    exact this
/-- x = such a list; rest -/
theorem sq_ownL {i : Nat} {O : Out} (h : EvL m K te Γ ds) (k : ∀ l H0, SGo m K l H0 tw (Γ.set i (some (.adr l))) ds { nx := fun _ _ => False, rt := O.rt }) : SG m K (tSeq (tAsg te (gName i)) tw) Γ O := fun σ H e E M =>
  h σ H e _ fun l H1 vs r1 hl rs => by
    have e1 := e.mv r1
    have rN : m.R H1 (upd H1 l (.lst vs)) := m.grow e1.i (same_new hl)
    have eX : ER (m.ext l) K Γ σ (upd H1 l (.lst vs)) := e1.ext hl rN (by rw [upd_same]; exact fun z => nomatch z)
    have rs' : RpAll K (m.ext l).F (upd H1 l (.lst vs)) vs ds := Rp.goAll (fun a o n q => ⟨fun z => z.elim n fun z => (by rw [z, hl] at q; cases q), same_new hl a o q⟩) rs
    exact k l H1 hl e1.i _ _ vs rN (eX.set i (.adr l)) upd_same rs' E ⟨fun _ _ _ _ _ o => o.elim, fun d v H' o r rv => M.rt d v H' o (m.trans r1 r) rv⟩
/-! data of tuples alone leans on no list -/
def ttree : Nat → D → Bool
  | _, .non => true
  | _, .bl _ => true
  | _, .int _ => true
  | _, .str _ => true
  | n + 1, .tup xs => xs.all (ttree n)
  | _, _ => false
theorem Rp.off {F : Addr → Prop} {H : Hp} {vs0 : List V} (hl : H l = some (.lst vs0)) : ∀ (n : Nat) {d : D} {v : V}, ttree n d = true → Rp K F H v d → Rp K (fun a => F a ∨ a = l) H v d
  | n, .non, _, _, .non => .non
  | n, .bl _, _, _, .bl b => .bl b
  | n, .int _, _, _, .int i => .int i
  | n, .str _, _, _, .str s => .str s
  | n + 1, .tup xs, _, ht, .tup nf h t => by
    refine .tup (fun z => z.elim nf fun z => ?_) h ?_
    · subst z
      rcases h with h | ⟨o, h⟩ <;> (rw [hl] at h; cases h)
    · have ht' : ∀ x ∈ xs, ttree n x = true := List.all_eq_true.mp ht
      have go : ∀ {ys : List D} {ws : List V}, (∀ x ∈ ys, ttree n x = true) → RpAll K F H ws ys → RpAll K (fun a => F a ∨ a = l) H ws ys := fun {ys} => by
        induction ys with
        | nil => intro ws _ r; cases r; exact .nil
        | cons y ys ih =>
          intro ws hy r
          cases r with
          | cons r1 r2 => exact .cons (Rp.off hl n (hy y List.mem_cons_self) r1) (ih (fun x hx => hy x (List.mem_cons_of_mem _ hx)) r2)
      exact go ht' t
  | n + 1, .tup xs, _, ht, .ktup h t => by
    refine .ktup h ?_
    have ht' : ∀ x ∈ xs, ttree n x = true := List.all_eq_true.mp ht
    have go : ∀ {ys : List D} {ws : List V}, (∀ x ∈ ys, ttree n x = true) → RpAll K F H ws ys → RpAll K (fun a => F a ∨ a = l) H ws ys := fun {ys} => by
      induction ys with
      | nil => intro ws _ r; cases r; exact .nil
      | cons y ys ih =>
        intro ws hy r
        cases r with
        | cons r1 r2 => exact .cons (Rp.off hl n (hy y List.mem_cons_self) r1) (ih (fun x hx => hy x (List.mem_cons_of_mem _ hx)) r2)
    exact go ht' t
  | 0, .lst _, _, ht, _ => by cases ht
  | 0, .tup _, _, ht, _ => by cases ht
  | 0, .obj _ _ _, _, ht, _ => by cases ht
  | 0, .adr _, _, ht, _ => by cases ht
  | 0, .dic, _, ht, _ => by cases ht
  | 0, .frl _, _, ht, _ => by cases ht
  | 0, .ftp _, _, ht, _ => by cases ht
  | 0, .dct _ _ _, _, ht, _ => by cases ht
  | _ + 1, .dct _ _ _, _, ht, _ => by cases ht
  | _ + 1, .lst _, _, ht, _ => by cases ht
  | _ + 1, .obj _ _ _, _, ht, _ => by cases ht
  | _ + 1, .adr _, _, ht, _ => by cases ht
  | _ + 1, .dic, _, ht, _ => by cases ht
  | _ + 1, .frl _, _, ht, _ => by cases ht
  | _ + 1, .ftp _, _, ht, _ => by cases ht
/-- x[k] = e, the list one's own; e may read the list -/
theorem so_setD {i k : Nat} {ti : TE} {O : OutO} {n : Nat} (hi : Γ[i]? = some (some (.adr l))) (h : Ev1 m K te (Γ.set i (some (.lst ds))) d) (ht : ttree n d = true) (hk : Ev1 (m.ext l) K ti Γ (dN k)) (hlt : k < ds.length) (kk : O.nx Γ (ds.set k d)) : SGo m K l H0 (tAsg te (gSub (tVar i) ti rSetL)) Γ ds O := fun h0 i0 σ H vs r e hl ra E M =>
  h σ H (er_dis h0 i0 e hi hl ra) _ fun v d' H1 s r1 rv => by
    subst s
    have e1 : ER (m.ext l) K Γ σ H1 := e.mv (m := m.ext l) r1
    have hl1 : H1 l = some (.lst vs) := m.keep r1 e.i.1 l _ (nFl h0 i0) hl
    have ra1 : RpAll K (m.ext l).F H1 vs ds := ra.mv ((m.ext l).keep r1 e.i)
    have rv1 : Rp K (m.ext l).F H1 v d' := Rp.off hl1 n ht rv
    obtain ⟨w, h1, h2⟩ := e1.at_ i _ hi
    obtain rfl := h2.adrE
    refine ⟨_, h1, hk σ H1 e1 _ fun z dz H2 s2 r2 rz => ?_⟩
    subst s2
    obtain rfl := rz.intE
    have e2 := e1.mv r2
    have hl2 : H2 l = some (.lst vs) := m.keep r2 e1.i.1 l _ (nFl h0 i0) hl1
    have ra2 : RpAll K (m.ext l).F H2 vs ds := ra1.mv ((m.ext l).keep r2 e1.i)
    have rv2 : Rp K (m.ext l).F H2 v d' := rv1.mv ((m.ext l).keep r2 e1.i)
    refine ⟨l, vs, k, k, rfl, rfl, hl2, Evl.ixN_nat (by rw [ra.len]; exact hlt), ?_⟩
    have mv : ∀ a o, ¬ (m.ext l).F a → H2 a = some o → (upd H2 l (.lst (vs.set k v))) a = some o := fun a o n q => by rw [upd_ne (fun z => n (.inr z))]; exact q
    have rr : m.R H0 (upd H2 l (.lst (vs.set k v))) := m.chg i0 (m.trans r (m.trans r1 r2)) h0
    refine M.nx Γ _ σ _ (vs.set k v) kk rr (fun a o n q => mv a o n ((m.ext l).keep r2 e1.i a o n ((m.ext l).keep r1 e.i a o n q))) ⟨⟨m.inv rr i0, by rw [upd_same]; exact fun z => nomatch z⟩, e2.len, fun j d h => let ⟨v, h1, h2⟩ := e2.at_ j d h; ⟨v, h1, h2.go fun a o n q => ⟨n, mv a o n q⟩⟩⟩ upd_same ((ra2.setN rv2 k).mv mv)
end
end Tx

set_option Elab.async false
set_option linter.all false
set_option maxRecDepth 100000
set_option maxHeartbeats 1000000
set_option autoImplicit false
/-! Tx: sorted({e for x in xs if c}), e a number -/
namespace Tx
open PySem L2
/-- what such a set comprehension asks: each number that comes is put into the set at Dl -/
def tSetI (w : World) (wi : TI) (g : TG) (tt : TT) (te : TE) (vs : List Nat) : TE := fun σ H Q => wi σ H fun J H1 => ∀ Dl, H1 Dl = none →
  ∃ W : Nat → Nat → Hp → Prop, (∃ m0, W 0 m0 (upd H1 Dl (SetO w Dl (fun _ => false) 0))) ∧ ∀ i m0 H2, W i m0 H2 → (J.stop i H2 ∧ Q (.ref Dl) H2) ∨ (J.go i H2 ∧
    ∃ Nx : Hp → Prop, (∀ H3, Nx H3 → ∃ m1, m1 < m0 ∧ W (i + 1) m1 H3) ∧ ∀ x H3, J.yld i H2 x H3 → g x (wipe σ vs) H3 fun σ2 H4 => wipe σ2 vs = wipe σ vs ∧ tt σ2 H4 fun b H5 =>
      if b = true then te σ2 H5 fun y H6 => ∃ (c : Int) (S : Int → Bool) (n : Nat), y = .int c ∧ H6 Dl = some (SetO w Dl S n) ∧ n + 1 < scanBound ∧ Nx (upd H6 Dl (SetO w Dl (fun j => S j || decide (j = c)) (if S c = true then n else n + 1))) else Nx H5)
section
variable {K : PySem.W.Frag} {m : Mo} {Γ : G} {te : TE} {tt : TT} {w : World}
theorem en_sortSet {α : Type} {wi : TI} {g : TG} {vs : List Nat} {xs : List α} {js : List Nat} (enc : α → D) (t : α → Bool) (f : α → Int) (hc : ∀ x ∈ xs, ∀ y ∈ xs, enc x = enc y → x = y) (hj : ∀ j ∈ js, j ∈ vs) (hi : ItD1 m K wi Γ (xs.map enc)) (hu : xs.length < 60)
    (hs : ∀ m', Mo.Le m m' → ∀ x, x ∈ xs → ∃ Γ2, TgD m' K g (wipeG Γ vs) (enc x) js Γ2 ∧ EvT1 m' K tt Γ2 (t x) ∧ (t x = true → Ev1 m' K te Γ2 (.int (f x)))) :
    EvN m K (tCB (rSortedSet w) (tCons (tSetI w wi g tt te vs) tNil)) Γ (fun d => ∃ ns : List Int, d = .lst (ns.map D.int) ∧ ns.Pairwise (· < ·) ∧ ∀ k, k ∈ ns ↔ k ∈ (xs.filter t).map f) := fun σ H e Q q => by
  refine (show tSetI w wi g tt te vs σ H (fun x H2 => rSortedSet w [x] H2 Q) from ?_)
  refine hi σ H e _ fun J zs H1 hz r1 wk => fun Dl hD => ?_
  subst hz
  have e1 := e.mv r1
  have nF : ¬ m.F Dl := fun f => m.fa e1.i f hD
  have rN : m.R H1 (upd H1 Dl (SetO w Dl (fun _ => false) 0)) := m.grow e1.i (same_new hD)
  have wkA : ∀ H', m.R H1 H' → (m.ext Dl).I H' → WkD (m.ext Dl) K J H' (xs.map enc) := fun H' r i => wk (m.ext Dl) (m.le_ext Dl) H' i r fun a f n => f.elim (fun f => absurd f n) fun z => z ▸ hD
  refine ⟨fun i k H' => k = xs.length - i ∧ i ≤ xs.length ∧ m.R H1 H' ∧ ∃ S n, H' Dl = some (SetO w Dl S n) ∧ n ≤ i ∧ ∀ j, S j = true ↔ j ∈ ((xs.take i).filter t).map f, ⟨_, rfl, Nat.zero_le _, rN, _, 0, upd_same, Nat.le_refl 0, fun j => by simp⟩, ?_⟩
  rintro i k H' ⟨rfl, hle, r, S, n, hS, hn, hm⟩
  have eX : ER (m.ext Dl) K Γ σ H' := e1.ext hD r (by rw [hS]; exact fun z => nomatch z)
  have iX := eX.i
  have wkX := wkA H' r iX
  have hlen : (xs.map enc).length = xs.length := List.length_map _
  by_cases hlt : i < xs.length
  · refine .inr ⟨wkX.go i H' (m.refl _) (by rw [hlen]; exact hlt), fun H3 => m.R H1 H3 ∧ ∃ S n, H3 Dl = some (SetO w Dl S n) ∧ n ≤ i + 1 ∧ ∀ j, S j = true ↔ j ∈ ((xs.take (i + 1)).filter t).map f, fun H3 z => ⟨xs.length - (i + 1), by omega, rfl, hlt, z⟩, fun x H2 y => ?_⟩
    obtain ⟨r2, d, hd, rx⟩ := wkX.yld i H' x H2 (m.refl _) (by rw [hlen]; exact hlt) y
    rw [List.getElem?_map, List.getElem?_eq_getElem hlt] at hd
    injection hd with hd
    subst hd
    have hxm : xs[i] ∈ xs := List.getElem_mem hlt
    obtain ⟨Γ2, tg, tst, el⟩ := hs (m.ext Dl) (m.le_ext Dl) xs[i] hxm
    have tk : xs.take (i + 1) = xs.take i ++ [xs[i]] := take_one (List.getElem?_eq_getElem hlt)
    have kD : ∀ {Hb : Hp}, m.R H' Hb → Hb Dl = some (SetO w Dl S n) := fun rr => m.keep rr iX.1 Dl _ nF hS
    refine tg x (wipe σ vs) H2 ((eX.mv r2).wipe vs) rx _ fun σ3 H3 e3 r3 w3 => ⟨by rw [w3 vs hj, wipe_wipe], ?_⟩
    refine tst σ3 H3 e3 _ fun b H4 tb r4 => ?_
    subst tb
    have rr := m.trans r2 (m.trans r3 r4)
    cases hb : t xs[i] with
    | false =>
      refine ⟨m.trans r rr, S, n, kD rr, by omega, fun j => ?_⟩
      rw [hm j, tk, List.filter_append, List.filter_cons, hb]
      simp
    | true =>
      refine el hb σ3 H4 (e3.mv r4) _ fun v dv H5 sv r5 rv => ?_
      subst sv
      have rr5 := m.trans rr r5
      refine ⟨f xs[i], S, n, rv.intE, kD rr5, by unfold scanBound; omega, m.chg e1.i (m.trans r rr5) hD, _, _, upd_same, by split <;> omega, fun j => ?_⟩
      rw [Bool.or_eq_true, hm j, decide_eq_true_iff, tk, List.filter_append, List.filter_cons, hb, if_pos rfl, List.map_append, List.mem_append]
      simp
  · have e0 : i = xs.length := by omega
    subst e0
    have iN : m.I H' := m.inv r e1.i
    refine .inl ⟨by have := wkX.stop H' (m.refl _); rw [hlen] at this; exact this, ?_⟩
    refine ⟨Dl, S, n, rfl, hS, by omega, fun ns p hp1 hp2 _ hp3 => ?_⟩
    refine q _ (.lst (ns.map D.int)) _ ⟨ns, rfl, hp1, fun k => ?_⟩ (m.trans r1 (m.trans r (m.grow iN (same_new hp3)))) (.lst (fun z => m.fa iN z hp3) upd_same ?_)
    · rw [hp2, hm, List.take_length]
    · induction ns with
      | nil => exact .nil
      | cons a ns ih => exact (show RpAll K m.F _ ((a :: ns).map V.int) ((a :: ns).map D.int) from by
          have : ∀ l : List Int, RpAll K m.F (upd H' p (.lst ((a :: ns).map V.int))) (l.map V.int) (l.map D.int) := fun l => by
            induction l with
            | nil => exact .nil
            | cons b l ih2 => exact .cons (.int _) ih2
          exact this (a :: ns))
end
end Tx

set_option Elab.async false
set_option linter.all false
set_option maxRecDepth 100000
set_option maxHeartbeats 2000000
/-! Tx: a set comprehension of numbers, as a value: one turn, all turns, the whole -/
namespace TxS
open PySem PySem.Spec PyProof.Rows L2 PpSet Tx
theorem addI_ok {X : Cx} {pins : List (Addr × Obj)} {σ : L2.St} {H : Hp} {s : Shared} {E : Value → Shared → Prop} {D : Addr} {S : Int → Bool} {n : Nat} {k : Int} {tk : Tok} {Q : Value → Shared → Prop} (I : Inv X pins σ H s) (hD : H D = some (SetO X.w D S n)) (room : n + 1 < scanBound)
    (h : ∀ s', Inv X pins σ (upd H D (SetO X.w D (fun j => S j || decide (j = k)) (if S k = true then n else n + 1))) s' → Q .none s') : wpAny (model X.prog X.w) X.A (call (.builtin "set.add") [.ref D, .int k tk]) Q E s := by
  refine setR_add (setO_get I hD) room fun _ keeps made => ?_
  have ⟨o, _, _, _, stands, _⟩ := made
  exact h _ (I.write (e := D) (t' := s.toks + 1) (by rw [hD]; trivial) (.inl rfl) (fun b u ne at_ => (keeps.2 b ne).trans at_) ⟨o, stands⟩ (setO_new made))
section
variable {X : Cx} {σ : L2.St} {elt tg iter : Expr} {ifs : List Expr} {sc : Scope} {own : List (PySem.Str × Nat)} {pos pos2 : Pos} {wi : TI} {g : TG} {tt : TT} {te : TE}
/-- what is empty at first -/
abbrev emptySet (w : World) : Obj := { cls := .type "set", dict := none, data := .set #[] 0 (.fresh 0 0 (!w.params.followText "set-order")) }
/-- what holds ahead of each turn, in the block B of the comprehension -/
def Here (B : Cx) (σ : L2.St) (vs : List Nat) (seen : Nat → Heap → Prop) (fp : List Addr) (W : Nat → Nat → Hp → Prop) (k : Nat) (t : Shared) : Prop := ∃ i H, Inv B [] (wipe σ vs) H t ∧ seen i t.heap ∧ (∀ b ∈ fp, H b = none) ∧ W i k H
/-- behind a turn, whatever it did with the set -/
theorem turn_next {B : Cx} {P : Program} {w : World} {F : PySem.W.Frag} {vs : List Nat} {J : It} {itA : Addr} {fp : List Addr} {seen : Nat → Heap → Prop} (T : Turn P w F tg J fp itA seen) {W : Nat → Nat → Hp → Prop} {Nx : Hp → Prop} {k i : Nat} {τ : L2.St} {t t' : Shared} {H : Hp} (at_ : seen (i + 1) t.heap)
    (next : ∀ H, Nx H → ∃ j, j < k ∧ W (i + 1) j H) (same : wipe τ vs = wipe σ vs) (I : Inv B ([] ++ pinsAt fp t.heap) τ H t') (nx : Nx H) : ∃ j, j < k ∧ Here B σ vs seen fp W j t' := by
  obtain ⟨j, lt, w'⟩ := next H nx
  have stay : ∀ b ∈ fp, ∀ o, t.heap.get? b = some o → t'.heap.get? b = some o ∧ H b = none := fun b hb o e => by
    have p := I.pin (b, o) (List.mem_append_right _ (List.mem_append_right _ (mem_pinsAt hb e))); exact ⟨p.1, p.2.1⟩
  have len : (wipe σ vs).length = τ.length := by rw [← same, wipe_length]
  refine ⟨j, lt, i + 1, H, (I.unpinned (pins := [])).weak len (fun a v e => (wipe_some (same ▸ e)).1), T.keep _ _ _ at_ fun b hb o e => (stay b hb o e).1, fun b hb => ?_, w'⟩
  obtain ⟨o, e, _⟩ := T.obj _ _ at_ b hb; exact (stay b hb o e).2
/-- the comprehension itself: what is asked of its parts holds in whatever block it opens -/
theorem setI_core {pins : List (Addr × Obj)} {s : Shared} {H : Hp} {Q : VK} {use : Option (Value → Sem Unit)} {Qf : Value → Shared → Prop} (hc : X.calm = true) (hN : X.N.Nodup) (I : Inv X pins σ H s) (hi : PI X tg iter wi) (ok : BlkOk X.N X.env.scope sc own)
    (hg : ∀ s H C cl fp, PG (X.blk s H sc (compEnvC sc cl C X.env) fp) tg g) (ht : ∀ s H C cl fp, PTs (X.blk s H sc (compEnvC sc cl C X.env) fp) ifs tt) (he : ∀ s H C cl fp, PE (X.blk s H sc (compEnvC sc cl C X.env) fp) elt te)
    (hs : ∀ x, foldedSetIterable iter X.env x = pure x) (h : tSetI X.w wi g tt te (own.map (·.2)) σ H Q)
    (out : ∀ D C t m H', Inv X pins σ H' t → Q (.ref D) H' → t.heap.Ns C m → FpOk X pins H' C → compPost (model X.prog X.w) X.A X.xe use Qf (.ref D) C (.ok .next) t) :
    wpAny (model X.prog X.w) X.A (comprehension (.SetComp elt [⟨tg, iter, ifs, 0⟩] sc pos) sc X.env pos2 (newSet (.type "set")) false (eval iter X.env) use) Qf X.xe s := by
  refine wpAny_comprehension_free (use := use) rfl hs (closure_ok fun y hy e => (ok.free y hy e).elim (fun k => I.ok.has _ (.inl k)) fun k => I.ok.has _ (.inr k)) ok.kind (fun y hy e => by rw [ok.uniq y hy, e]) (thn (hi.run pins s σ H _ I h) fun _ _ came => thn came fun _ t came2 => ?_)
  obtain ⟨itA, fp, seen, J, H2, rfl, I2, T, at0, away, asks⟩ := came2
  refine newSet_ok (newEnv_comp ?_)
  generalize eD : t.heap.objs.size = D
  obtain ⟨W, ⟨k0, w0⟩, turns⟩ := asks D (I2.hok.fresh (Nat.le_of_eq eD))
  generalize e3 : ({ t with heap := t.heap.push (emptySet X.w) } : Shared) = s3
  have p3 : s3.heap = t.heap.push (emptySet X.w) := by rw [← e3]
  have z3 : s3.heap.objs.size = t.heap.objs.size + 1 := by rw [p3, Heap.size_push]
  generalize eH : upd H2 D (SetO X.w D (fun _ => false) 0) = H3 at w0
  have I3 : Inv X pins σ H3 s3 := by
    rw [← e3, ← eH]; refine I2.laid (t' := t.toks) (fun _ _ e => Heap.get?_push_of_some _ e) (Nat.le_of_eq eD) ?_; rw [← eD]; exact setO_new (setR_fresh X.w)
  have own3 : ∀ b ∈ fp, FpOk X pins H3 b ∧ b < s3.heap.objs.size := fun b hb => by
    obtain ⟨_, e, _⟩ := T.obj _ _ at0 b hb
    have lt : b < t.heap.objs.size := Heap.lt_size e
    refine ⟨⟨?_, (away b hb).2⟩, by rw [z3]; exact Nat.lt_succ_of_lt lt⟩; rw [← eH, upd_ne (by rw [← eD]; exact Nat.ne_of_lt lt)]; exact (away b hb).1
  have at3 : seen 0 s3.heap := T.keep _ _ _ at0 fun _ _ _ e => by rw [p3]; exact Heap.get?_push_of_some _ e
  have I4 := block_start I3 ok hN own3
  let cl := cellsFrom (s3.heap.objs.size + 1) sc.names (cloFrom X.env.cells sc.names [])
  have gT := hg s3 H3 s3.heap.objs.size cl fp; have gI := ht s3 H3 s3.heap.objs.size cl fp; have gE := he s3 H3 s3.heap.objs.size cl fp
  show codeAny _ _ (.compStart (.SetComp elt [⟨tg, iter, ifs, 0⟩] sc pos) 0 (.ref itA) (.ref D) (compEnvC sc cl s3.heap.objs.size X.env)) (compPost (model X.prog X.w) X.A X.xe use Qf (.ref D) s3.heap.objs.size) { s3 with heap := pushCells (s3.heap.push { cls := .type "dict", data := .dict #[] }) sc.names }
  generalize eB : compEnvC sc cl s3.heap.objs.size X.env = ce at gT gI gE ⊢
  have I4 : Inv (X.blk s3 H3 sc ce fp) [] (wipe σ (own.map (·.2))) H3 { s3 with heap := pushCells (s3.heap.push { cls := .type "dict", data := .dict #[] }) sc.names } := by rw [← eB]; exact I4
  have loc : ce.locals = s3.heap.objs.size := by rw [← eB]; rfl
  generalize e4 : ({ s3 with heap := pushCells (s3.heap.push { cls := .type "dict", data := .dict #[] }) sc.names } : Shared) = s4 at I4 ⊢
  have at4 : seen 0 s4.heap := T.keep _ _ _ at3 fun _ _ _ e => by rw [← e4]; exact pushCells_keeps _ _ _ _ (Heap.get?_push_of_some _ e)
  have mine : ∀ {σ' : L2.St} {H' : Hp} {t : Shared}, Inv (X.blk s3 H3 sc ce fp) [] σ' H' t → (∀ b ∈ fp, H' b = none) → ∀ b ∈ fp, FpOk (X.blk s3 H3 sc ce fp) [] H' b := fun I' none_ b hb => ⟨none_ b hb, (I'.ok.exf b hb).1, I'.ok.exfs b hb, .inl hb, fun x c e => (I'.ok.exf b hb).2 x c e, fun p hp => by
    have hp : p ∈ ([] : List (Addr × Obj)) ++ [] := hp
    simp at hp⟩
  have all : codeAny (model X.prog X.w) X.A (.compLoop (.SetComp elt [⟨tg, iter, ifs, 0⟩] sc pos) 0 (.ref itA) (.ref D) ce) (compPost (model X.prog X.w) X.A X.xe use Qf (.ref D) s3.heap.objs.size) s4 := by
    refine compLoopS_any (Here (X.blk s3 H3 sc ce fp) σ (own.map (·.2)) seen fp W) ?_ k0 ⟨0, H3, I4, at4, fun b hb => (own3 b hb).1.1, w0⟩
    rintro k s5 ⟨i, H5, I5, at5, no5, w5⟩
    rcases turns i k H5 w5 with ⟨ends, fin⟩ | ⟨goes, Nx, next, one⟩
    · refine thnF (T.done (X.blk s3 H3 sc ce fp) rfl rfl rfl hc i [] s5 _ H5 (fun _ _ => False) I5 (mine I5 no5) at5 ends) fun r s6 ⟨hr, I6⟩ => ?_
      subst hr
      have back : Inv X pins σ H5 s6 := I3.call' (ch := fp) I6.os I6.base I6.hok I6.bare fun b hb => let q := (own3 b hb).1.2; ⟨q.2.2.1, q.1, q.2.2.2.1, q.2.2.2.2⟩
      have free : H5 s3.heap.objs.size = none := loc ▸ (show H5 ce.locals = none from I6.free)
      obtain ⟨m, ns, _⟩ := I6.loc
      exact out D s3.heap.objs.size s6 m H5 back fin (loc ▸ (show s6.heap.Ns ce.locals m from ns)) (I3.fpOk (Nat.le_refl _) free)
    · refine thnF (T.item (X.blk s3 H3 sc ce fp) rfl rfl rfl hc i [] s5 _ H5 (fun _ _ => False) I5 (mine I5 no5) at5 goes) fun r s6 ⟨u, hr, came6⟩ => ?_
      subst hr
      refine thnF came6 fun _ s7 ⟨x, H7, I7, r7, y7, at7, no7⟩ => thnF (gT.run _ s7 _ H7 x u _ (I7.pinned (mine I7 no7) (T.obj _ _ at7)) r7 (one x H7 y7)) fun _ s8 ⟨σ8, H8, I8, same, q8⟩ => thnF (gI.run _ s8 σ8 H8 _ I8 q8) fun b s9 ⟨H9, I9, q9⟩ => ?_
      cases b with
      | false => simp only [Bool.false_eq_true, if_false] at q9 ⊢; exact turn_next T at7 next same I9 q9
      | true =>
        simp only [if_true] at q9 ⊢
        refine thnF (gE.run _ s9 σ8 H9 _ I9 q9) fun z s10 ⟨_, H10, I10, rz, c, S0, n0, ey, at10, few, nx⟩ => ?_
        subst ey
        obtain ⟨tk, rfl⟩ := (show ∃ tk, z = Value.int c tk from rz)
        exact addI_ok (X := X.blk s3 H3 sc ce fp) I10 at10 few fun _ I11 => turn_next T at7 next same I11 nx
  exact codeAny_compStart_set all (T.self X.A 0 _ _ _ at4 all)
/-- as a value -/
theorem pe_setI (hc : X.calm = true) (hN : X.N.Nodup) (hi : PI X tg iter wi) (ok : BlkOk X.N X.env.scope sc own)
    (hg : ∀ s H C cl fp, PG (X.blk s H sc (compEnvC sc cl C X.env) fp) tg g) (ht : ∀ s H C cl fp, PTs (X.blk s H sc (compEnvC sc cl C X.env) fp) ifs tt) (he : ∀ s H C cl fp, PE (X.blk s H sc (compEnvC sc cl C X.env) fp) elt te)
    (hs : ∀ x, foldedSetIterable iter X.env x = pure x := by intro _; rfl) : PE X (.SetComp elt [⟨tg, iter, ifs, 0⟩] sc pos) (tSetI X.w wi g tt te (own.map (·.2))) :=
  ⟨fun pins s σ H Q I h => by
    rw [eval_SetComp]
    exact setI_core hc hN I hi ok hg ht he hs h fun D C t m H' I' q ns f => ⟨m, ns, fun h'' sb => ⟨.ref D, H', I'.turned (t' := t.toks) (fun b o ne e => (sb.2 b ne).trans e) f.1 f.2.1 f.2.2.2.1 f.2.2.2.2.1 f.2.2.2.2.2, rfl, q⟩⟩⟩
end
end TxS

set_option Elab.async false
set_option linter.all false
set_option maxRecDepth 100000
set_option maxHeartbeats 1000000
set_option autoImplicit false
/-! Tx: sorted(set(t)), t a tuple of numbers -/
namespace Tx
open PySem PySem.Spec PyProof.Rows L2 L2
def rSetIT (K : PySem.W.Frag) (w : World) : List V → Hp → VK → Prop := fun vs H Q => ∃ (a : Addr) (ns : List Int), vs = [V.ref a] ∧ SqT K H a (ns.map V.int) ∧ ns.length < 60 ∧ ∀ (l : Addr) (c : Nat), c ≤ ns.length → H l = none → Q (.ref l) (upd H l (SetO w l (fun j => decide (j ∈ ns)) c))
theorem cr_setIT {X : Cx} (hc : X.calm = true) : CallR X (.type "set") (rSetIT X.K X.w) := by
  intro pins s σ H vs us Q I r q0
  obtain ⟨a, ns, rfl, ha, h60, q⟩ := q0
  rw [Vals.ref1 r]
  obtain ⟨its, rv, p, _⟩ := I.tuple ha
  refine call_set_tupI ns (I.ok.hd hc) p (intsAre_of rv) (by unfold scanBound; omega) fun h' tk c R hcn hk => ?_
  exact ⟨.ref _, _, I.laid (t' := tk) hk (Nat.le_refl _) (setO_new R), rfl, q _ c hcn (I.hok.fresh (Nat.le_refl _))⟩
section
variable {K : PySem.W.Frag} {m : Mo} {Γ : G} {te : TE} {w : World}
theorem en_sortSetT {ns : List Int} (h : Ev1 m K te Γ (.tup (ns.map D.int))) (hu : ns.length < 60) : EvN m K (tCB (rSortedSet w) (tCons (tCB (rSetIT K w) (tCons te tNil)) tNil)) Γ (fun d => ∃ ms : List Int, d = .lst (ms.map D.int) ∧ ms.Pairwise (· < ·) ∧ ∀ k, k ∈ ms ↔ k ∈ ns) := fun σ H e Q q =>
  h σ H e _ fun v d H1 s r1 rv => by
    subst s
    obtain ⟨a, vs, rfl, ha, ra⟩ := rv.tupE
    have i1 := m.inv r1 e.i
    rw [ra.ints] at ha
    refine ⟨a, ns, rfl, ha, hu, fun l c hcn hl => ⟨l, _, c, rfl, upd_same, by omega, fun ms p hp1 hp2 _ hp3 => ?_⟩⟩
    have r2 : m.R H1 (upd H1 l (SetO w l (fun j => decide (j ∈ ns)) c)) := m.grow i1 (same_new hl)
    have i2 := m.inv r2 i1
    have all : ∀ (F : Addr → Prop) (Hx : Hp) (l : List Int), RpAll K F Hx (l.map V.int) (l.map D.int) := fun F Hx l => by
      induction l with
      | nil => exact .nil
      | cons b l ih => exact .cons (.int _) ih
    exact q _ (.lst (ms.map D.int)) _ ⟨ms, rfl, hp1, fun k => by rw [hp2]; exact decide_eq_true_iff⟩ (m.trans r1 (m.trans r2 (m.grow i2 (same_new hp3)))) (.lst (fun z => m.fa i2 z hp3) upd_same (all _ _ ms))
end
end Tx

set_option Elab.async false
set_option linter.all false
set_option maxRecDepth 100000
set_option maxHeartbeats 1000000
set_option autoImplicit false
/-! Tx: zip of two tuples -/
namespace Tx
open PySem L2 RZ
/-- how a tuple stands, and stays -/
theorem tup_stands {K : PySem.W.Frag} {m : Mo} {H1 : Hp} {v : V} {ds : List D} (i1 : m.I H1) (r : Rp K m.F H1 v (.tup ds)) : ∃ a vs, v = .ref a ∧ RpAll K m.F H1 vs ds ∧ ∀ H, m.R H1 H → SqT K H a vs := by
  cases r with
  | tup n h t => exact ⟨_, _, rfl, t, fun H r => .inl (rd_up h fun o q => m.keep r i1 _ o n q)⟩
  | ktup h t => exact ⟨_, _, rfl, t, fun H r => .inr h⟩
section
variable {K : PySem.W.Frag} {m : Mo} {Γ : G} {ta : TA} {as bs : List D}
def zipD (as bs : List D) : List D := (as.zip bs).map fun p => .tup [p.1, p.2]
theorem zipD_len : (zipD as bs).length = min as.length bs.length := by unfold zipD; rw [List.length_map, List.length_zip]
theorem zipD_at {i : Nat} {a b : D} (ha : as[i]? = some a) (hb : bs[i]? = some b) : (zipD as bs)[i]? = some (.tup [a, b]) := by
  unfold zipD
  rw [List.getElem?_map]
  have h1 := (List.getElem?_eq_some_iff.mp ha)
  have h2 := (List.getElem?_eq_some_iff.mp hb)
  obtain ⟨l1, e1⟩ := h1
  obtain ⟨l2, e2⟩ := h2
  rw [List.getElem?_eq_getElem (by rw [List.length_zip]; omega), List.getElem_zip, e1, e2]
  rfl
theorem it_zipT (h : EvA1 m K ta Γ [.tup as, .tup bs]) : ItD1 m K (iZipA K ta) Γ (zipD as bs) := fun σ H e Q q =>
  h σ H e _ fun vs es H1 s r1 rs => by
    subst s
    have i1 := m.inv r1 e.i
    cases rs with
    | cons ra rs =>
      cases rs with
      | cons rb rs =>
        cases rs
        obtain ⟨a, vs1, rfl, rA, hA⟩ := tup_stands i1 ra
        obtain ⟨b, vs2, rfl, rB, hB⟩ := tup_stands i1 rb
        have lA := rA.len
        have lB := rB.len
        refine ⟨a, b, vs1, vs2, rfl, .inr ⟨hA H1 (m.refl _), hB H1 (m.refl _), q _ _ H1 rfl r1 fun m' le H2 i2 r c => ?_⟩⟩
        have up : ∀ H, m'.R H2 H → m.R H1 H := fun H q => m.trans r (by have := q; rw [le.R] at this; exact this)
        refine ⟨fun i H q hi => ?_, fun H q => ?_, fun i H x H' q hi y => ?_⟩
        · rw [zipD_len] at hi
          exact ⟨vs1, vs2, vs1[i]'(by omega), vs2[i]'(by omega), hA H (up H q), hB H (up H q), List.getElem?_eq_getElem _, List.getElem?_eq_getElem _⟩
        · refine ⟨vs1, vs2, hA H (up H q), hB H (up H q), ?_⟩
          rw [zipD_len]
          omega
        · rw [zipD_len] at hi
          obtain ⟨T, x1, x2, rfl, hT, rfl, hx1, hx2⟩ := y
          have iH : m'.I H := m'.inv q i2
          obtain ⟨d1, hd1, rd1⟩ := rA.at (hx1 vs1 (hA H (up H q)))
          obtain ⟨d2, hd2, rd2⟩ := rB.at (hx2 vs2 (hB H (up H q)))
          exact ⟨m'.grow iH (same_new hT), _, zipD_at hd1 hd2, rp_new iH hT (.cons (rd1.go (carry i1 (up H q) c)) (.cons (rd2.go (carry i1 (up H q) c)) .nil))⟩
end
end Tx

set_option Elab.async false
set_option linter.all false
set_option maxRecDepth 100000
set_option maxHeartbeats 2000000
set_option autoImplicit false
/-! Tx: sum of lists that start with a list -/
namespace Tx
open PySem PySem.Spec PyProof.Rows
theorem args_sumS (a b : Value) : argsOk "sum" ⟨[a, b], []⟩ := by unfold argsOk; kernel_rfl
theorem ne_lt {a b N : Nat} (h : a < N) (k : N ≤ b) : a ≠ b := by omega
theorem ne_lt' {a b : Nat} (h : a < b) : b ≠ a := by omega
section
variable {prog : Program} {w : World} {A : Around} {E : Value → Shared → Prop}
theorem sum_loopL {R : Result → Shared → Prop} {I ax S : Addr} {items : Array Value} {N : Nat} (L : List (List Value)) (hn : items.size = L.length) (hI : N ≤ I) (hS : N ≤ S) (hIS : I ≠ S) (hax : ax < N)
    (W : Walks prog w A.in1 I [I, ax] [I] items.size (fun i v => items[i]? = some v) (fun i h => h.IsListIter I ax i ∧ h.IsList ax items)) :
    ∀ (k i : Nat) (s : Shared) (T : Addr) (c nT : Nat) (acc : List Value), items.size - i = k → i ≤ items.size → (s.heap.IsListIter I ax i ∧ s.heap.IsList ax items) →
      s.heap.get? S = some { cls := .type "list", dict := none, data := .seq #[.ref T] c, slots := #[] } → s.heap.get? T = some { cls := .type "list", data := .seq acc.toArray nT } → T ≠ S → T ≠ I →
      (∀ (j : Nat) (v : Value), items[j]? = some v → ∃ (l : Addr) (zs : List Value) (m : Nat), v = Value.ref l ∧ l < N ∧ L[j]? = some zs ∧ s.heap.get? l = some { cls := .type "list", data := .seq zs.toArray m }) →
      acc.length + ((L.drop i).flatten).length ≤ sizeLine →
      (∀ h' tk T' nT', (∀ b o, b < N → s.heap.get? b = some o → h'.get? b = some o) → h'.get? T' = some { cls := .type "list", data := .seq (acc ++ (L.drop i).flatten).toArray nT' } → ((N ≤ T ∨ i < items.size) → N ≤ T') → R (.ok (.ret (.ref T'))) { s with heap := h', toks := tk }) →
      codeAny (model prog w) A (.builtin "sum.loop" ⟨[.ref I, .ref S, rawInt 2, rawInt 0], []⟩) R s := by
  intro k
  induction k with
  | zero =>
    intro i s T c nT acc hk hi hst hSt hT hTS hTI hL hz hR
    have hin : i = items.size := by omega
    subst hin
    refine codeAny_builtin F.entry_sum_loop ?_
    rw [Around.under_plainId F.plain_sum_loop _]
    show wpAny _ A.in1 (seqItems? (.ref S) >>= _) _ _ s
    refine wpAny_bind (wpAny_seqItems hSt rfl ?_)
    show wpAny _ A.in1 (tryCatch (pyNext (.ref I)) _ >>= _) _ _ s
    refine wpAny_bind (wpAny_tryCatch (W.done s _ _ hst fun h' tk hk' => ?_))
    have e : (L.drop items.size).flatten = [] := by rw [hn, List.drop_length]; rfl
    refine wpAny_pure (hR h' tk T nT (fun b o hb e => hk' b o (by simp only [List.mem_singleton]; exact ne_lt hb hI) e) ?_ fun z => z.elim id fun z => absurd z (by omega))
    rw [e, List.append_nil]
    exact hk' T _ (by simp only [List.mem_singleton]; exact hTI) hT
  | succ k ih =>
    intro i s T c nT acc hk hi hst hSt hT hTS hTI hL hz hR
    have hlt : i < items.size := by omega
    refine codeAny_builtin F.entry_sum_loop ?_
    rw [Around.under_plainId F.plain_sum_loop _]
    show wpAny _ A.in1 (seqItems? (.ref S) >>= _) _ _ s
    refine wpAny_bind (wpAny_seqItems hSt rfl ?_)
    show wpAny _ A.in1 (tryCatch (pyNext (.ref I)) _ >>= _) _ _ s
    refine wpAny_bind (wpAny_tryCatch (W.item i s _ _ hlt hst fun v h' tk hP hst' hk' => ?_))
    obtain ⟨l, zs, m, rfl, hlN, hLi, hl⟩ := hL i v hP
    have kp : ∀ b o, b ≠ I → s.heap.get? b = some o → h'.get? b = some o := fun b o hb e => hk' b o (by simp only [List.mem_singleton]; exact hb) e
    have hS' := kp S _ (Ne.symm hIS) hSt
    have hT' := kp T _ hTI hT
    have hl' := kp l _ (ne_lt hlN hI) hl
    have dr : L.drop i = zs :: L.drop (i + 1) := by
      obtain ⟨h1, h2⟩ := List.getElem?_eq_some_iff.mp hLi
      rw [← h2, List.drop_eq_getElem_cons h1]
    rw [dr, List.flatten_cons, List.length_append] at hz
    have hST : S < h'.objs.size := Heap.lt_size hS'
    have hTT : T < h'.objs.size := Heap.lt_size hT'
    have hIT : I < h'.objs.size := by
      obtain ⟨o, ho, _⟩ := hst'.1
      exact Heap.lt_size ho
    show wpAny _ A.in1 ((holding [Value.ref l] (binaryOp .Add (.ref T) (.ref l))).attempt >>= _) _ _ _
    refine wpAny_bind (wpAny_attempt (wpAny_holding (PySem.P.add_list hT' hl' ?_ (by rw [List.size_toArray, List.size_toArray]; omega))))
    have hS2 : (h'.push { cls := .type "list", data := .seq (acc.toArray ++ zs.toArray) }).get? S = some { cls := .type "list", dict := none, data := .seq #[.ref T] c, slots := #[] } := Heap.get?_push_of_some _ hS'
    show wpAny _ A.in1 (updateSeq S (fun _ => #[.ref h'.objs.size]) >>= _) _ _ _
    refine wpAny_bind ?_
    refine wpAny_updateSeq hS2 rfl ?_
    have hS3 := Heap.get?_update_self (Obj.mapSeq fun _ => #[Value.ref h'.objs.size]) hS2 rfl
    refine wpAny_bind (wpAny_letGo ?_)
    refine wpAny_bind ?_
    have up : ∀ b o, b ≠ S → h'.get? b = some o → (((h'.push { cls := .type "list", data := .seq (acc.toArray ++ zs.toArray) }).update S (Obj.mapSeq fun _ => #[Value.ref h'.objs.size])).update S (Obj.mapSeq fun _ => #[Value.ref h'.objs.size])).get? b = some o := fun b o hb e =>
      (Heap.get?_update_other _ _ (Ne.symm hb)).trans ((Heap.get?_update_other _ _ (Ne.symm hb)).trans (Heap.get?_push_of_some _ e))
    refine wpAny_updateSeq hS3 rfl (wpAny_pure ⟨plainId_quiet F.plain_sum_loop _, ih (i + 1) _ h'.objs.size _ 0 (acc ++ zs) (by omega) hlt (W.frame _ _ _ hst' fun b hb o e => ?_) (Heap.get?_update_self _ hS3 rfl) ?_ (ne_lt' hST) (ne_lt' hIT) (fun j v hv => ?_) (by rw [List.length_append]; omega) fun h'' tk'' T'' n'' hk'' hT'' hN'' => ?_⟩)
    · refine up b o ?_ e
      simp only [List.mem_cons, List.not_mem_nil, or_false] at hb
      rcases hb with rfl | rfl
      · exact hIS
      · exact ne_lt hax hS
    · refine (Heap.get?_update_other _ _ (Ne.symm (ne_lt' hST))).trans ((Heap.get?_update_other _ _ (Ne.symm (ne_lt' hST))).trans ?_)
      have := Heap.get?_push_size h' (o := { cls := .type "list", data := .seq (acc.toArray ++ zs.toArray) }) rfl
      rw [this, List.append_toArray] <;> rfl
    · obtain ⟨l2, zs2, m2, e1, e2, e3, e4⟩ := hL j v hv
      exact ⟨l2, zs2, m2, e1, e2, e3, up l2 _ (ne_lt e2 hS) (kp l2 _ (ne_lt e2 hI) e4)⟩
    · refine hR h'' tk'' T'' n'' (fun b o hb e => hk'' b o hb (up b o (ne_lt hb hS) (kp b o (ne_lt hb hI) e))) ?_ fun _ => ?_
      · rw [dr, List.flatten_cons, ← List.append_assoc]
        exact hT''
      · exact hN'' (.inl (Nat.le_of_lt (Nat.lt_of_le_of_lt hI hIT)))
theorem call_sumL {s : Shared} {a b : Addr} {items : Array Value} {na nb : Nat} {Q : Value → Shared → Prop} (hh : A.handled = none) (L : List (List Value)) (hn : items.size = L.length) (hne : 0 < items.size)
    (ha : s.heap.get? a = some { cls := .type "list", data := .seq items na }) (hb : s.heap.get? b = some { cls := .type "list", data := .seq #[] nb })
    (hL : ∀ (j : Nat) (v : Value), items[j]? = some v → ∃ (l : Addr) (zs : List Value) (m : Nat), v = Value.ref l ∧ L[j]? = some zs ∧ s.heap.get? l = some { cls := .type "list", data := .seq zs.toArray m })
    (hz : L.flatten.length ≤ sizeLine)
    (h : ∀ h' tk T n, (∀ b o, s.heap.get? b = some o → h'.get? b = some o) → h'.get? T = some { cls := .type "list", data := .seq L.flatten.toArray n } → s.heap.objs.size ≤ T → Q (.ref T) { s with heap := h', toks := tk }) :
    wpAny (model prog w) A (call (.builtin "sum") [.ref a, .ref b]) Q E s := by
  refine call_function_tree F.kind_sum F.plain_sum F.entry_sum (args_sumS _ _) ?_
  unfold Builtin.«sum»
  simp only [List.length_cons, List.length_nil]
  rw [if_neg (by decide)]
  refine wpAny_bind (wpAny_of_eq (show Builtin.Builtins.bindParams "sum" ["start"] 0 ⟨[Value.ref b], []⟩ = pure [some (.ref b)] from rfl) ?_)
  have hlA : s.heap.IsList a items := ⟨_, ha, rfl, na, rfl⟩
  refine wpAny_bind (wpAny_pyIter_list hlA ?_)
  refine wpAny_bind (wpAny_pure ?_)
  have hb2 := Heap.get?_push_of_some { cls := .type "list_iterator", data := .fields #[.ref a, .int 0 0] } hb
  have ty : Shared.TypeIs { s with heap := s.heap.push { cls := .type "list_iterator", data := .fields #[.ref a, .int 0 0] } } (.ref b) "list" := ⟨_, hb2, rfl⟩
  simp only [List.forIn_cons, List.forIn_nil]
  refine wpAny_bind (wpAny_bind (wpAny_bind (wpAny_isInstance (T := "list") (b := false) ty F.sub_list_str ?_)))
  simp only [Bool.false_eq_true, if_false]
  refine wpAny_pure (wpAny_bind (wpAny_bind (wpAny_isInstance (T := "list") (b := false) ty F.sub_list_bytes ?_)))
  simp only [Bool.false_eq_true, if_false]
  refine wpAny_pure (wpAny_bind (wpAny_bind (wpAny_isInstance (T := "list") (b := false) ty F.sub_list_bytearray ?_)))
  simp only [Bool.false_eq_true, if_false]
  refine wpAny_pure (wpAny_pure ?_)
  refine wpAny_bind (wpAny_newObj_type ?_)
  have ltA : a < s.heap.objs.size := Heap.lt_size ha
  have ltB : b < s.heap.objs.size := Heap.lt_size hb
  have sz1 : (s.heap.push { cls := .type "list_iterator", data := .fields #[.ref a, .int 0 0] }).objs.size = s.heap.objs.size + 1 := Heap.size_push ..
  have up : ∀ (c : Nat) (o : Obj), s.heap.get? c = some o → ((s.heap.push { cls := .type "list_iterator", data := .fields #[.ref a, .int 0 0] }).push { cls := .type "list", data := .seq #[.ref b] }).get? c = some o := fun c o e => Heap.get?_push_of_some _ (Heap.get?_push_of_some _ e)
  refine wpAny_pure ⟨plainId_quiet F.plain_sum_loop _, sum_loopL (N := s.heap.objs.size) L hn (Nat.le_refl _) (by rw [sz1]; exact Nat.le_succ _) (by rw [sz1]; exact Nat.ne_of_lt (Nat.lt_succ_self _)) ltA
    (Walks.list (A := A.in1) hh _ a (Nat.ne_of_lt ltA) items) items.size 0 _ b 0 nb [] rfl (Nat.zero_le _) ⟨⟨_, Heap.get?_push_of_some _ (Heap.get?_push_size _ rfl), rfl, rfl⟩, ⟨_, up a _ ha, rfl, na, rfl⟩⟩
    (Heap.get?_push_size _ rfl) (up b _ hb) (by rw [sz1]; exact Nat.ne_of_lt (Nat.lt_succ_of_lt ltB)) (Nat.ne_of_lt ltB) (fun j v hv => ?_) (by simpa using hz) fun h' tk T n hk hT hN => ?_⟩
  · obtain ⟨l, zs, m, e1, e2, e3⟩ := hL j v hv
    exact ⟨l, zs, m, e1, Heap.lt_size e3, e2, up l _ e3⟩
  · exact h h' tk T n (fun c o e => hk c o (Heap.lt_size e) (up c o e)) (by simpa using hT) (hN (.inr hne))
end
end Tx

set_option Elab.async false
set_option linter.all false
set_option maxRecDepth 100000
set_option maxHeartbeats 4000000
set_option autoImplicit false
/-! Tx: sum of lists, set(list of numbers), as calls -/
namespace Tx
open PySem PySem.Spec PyProof.Rows L2
theorem pick {α : Type} {P : Nat → α → Prop} {n : Nat} (h : ∀ j, j < n → ∃ y, P j y) : ∃ L : List α, L.length = n ∧ ∀ j y, L[j]? = some y → P j y := by
  induction n with
  | zero => exact ⟨[], rfl, fun j y e => (by simp at e)⟩
  | succ n ih =>
    obtain ⟨L, hl, hL⟩ := ih fun j hj => h j (by omega)
    obtain ⟨y, hy⟩ := h n (by omega)
    refine ⟨L ++ [y], by rw [List.length_append, hl]; rfl, fun j z e => ?_⟩
    by_cases q : j < L.length
    · rw [List.getElem?_append_left q] at e
      exact hL j z e
    · rw [List.getElem?_append_right (by omega)] at e
      have : j - L.length = 0 := by
        cases k : j - L.length with
        | zero => rfl
        | succ k' => rw [k] at e; simp at e
      rw [this] at e
      injection e with e
      subst e
      have : j = n := by omega
      rw [this]
      exact hy
theorem valsFlat : ∀ {zss : List (List V)} {L : List (List Value)}, zss.length = L.length → (∀ (j : Nat) zs ws, zss[j]? = some zs → L[j]? = some ws → Vals zs ws) → Vals zss.flatten L.flatten
  | [], [], _, _ => .nil
  | [], _ :: _, h, _ => by simp at h
  | _ :: _, [], h, _ => by simp at h
  | zs :: zss, ws :: L, h, k => by
    rw [List.flatten_cons, List.flatten_cons]
    exact (k 0 zs ws rfl rfl).append (valsFlat (by simpa using h) fun j a b e1 e2 => k (j + 1) a b (by simpa using e1) (by simpa using e2))
def rSumL : List V → Hp → VK → Prop := fun vs H Q => ∃ (a b : Addr) (xs : List V) (zss : List (List V)), vs = [V.ref a, V.ref b] ∧ H a = some (.lst xs) ∧ H b = some (.lst []) ∧ 0 < xs.length ∧ xs.length = zss.length ∧
  (∀ (j : Nat) x, xs[j]? = some x → ∃ l zs, x = V.ref l ∧ zss[j]? = some zs ∧ H l = some (.lst zs)) ∧ zss.flatten.length ≤ 1000 ∧ ∀ p, H p = none → Q (.ref p) (upd H p (.lst zss.flatten))
theorem cr_sumL {X : Cx} (hc : X.calm = true) : CallR X (.builtin "sum") rSumL := by
  intro pins s σ H vs us Q I r h
  obtain ⟨a, b, xs, zss, rfl, ha, hb, h0, hl, hx, hz, q⟩ := h
  cases r with
  | cons r1 r =>
    cases r with
    | cons r2 r =>
      cases r
      cases r1
      cases r2
      obtain ⟨_, its, n, rv, el, ga⟩ := I.lstM ha
      obtain ⟨_, its2, n2, rv2, el2, gb⟩ := I.lstM hb
      cases rv2
      obtain ⟨L, hL, kL⟩ := pick (P := fun j (ws : List Value) => ∃ zs, zss[j]? = some zs ∧ Vals zs ws ∧ ∃ (l : Addr) (m : Nat), its[j]? = some (Value.ref l) ∧ s.heap.get? l = some { cls := .type "list", data := .seq ws.toArray m }) (n := zss.length) fun j hj => by
        have hj' : j < xs.length := by omega
        obtain ⟨l, zs, e1, e2, e3⟩ := hx j _ (List.getElem?_eq_getElem hj')
        obtain ⟨_, ws, m, rw', _, g⟩ := I.lstM e3
        obtain ⟨u, hu, ru⟩ := rv.get (List.getElem?_eq_getElem hj')
        rw [e1] at ru
        cases ru
        exact ⟨ws, zs, e2, rw', l, m, hu, g⟩
      have hv : Vals zss.flatten L.flatten := valsFlat hL.symm fun j zs ws e1 e2 => by
        obtain ⟨zs', e3, v, _⟩ := kL j ws e2
        rw [e1] at e3
        injection e3 with e3
        rw [e3]
        exact v
      have fl : L.flatten.length ≤ sizeLine := by rw [← hv.length]; exact Nat.le_trans hz (by decide)
      refine call_sumL (I.ok.hd hc) L (by rw [List.size_toArray, ← el, hl, hL]) (by rw [List.size_toArray, ← el]; exact h0) ga gb (fun j v hv' => ?_) fl fun h' tk T m hk hT hN => ?_
      · have hv' : its[j]? = some v := by simpa using hv'
        have hj : j < L.length := by
          have := (List.getElem?_eq_some_iff.mp hv').1
          omega
        obtain ⟨zs, e1, _, l, m, e2, g⟩ := kL j _ (List.getElem?_eq_getElem hj)
        rw [hv'] at e2
        injection e2 with e2
        exact ⟨l, _, m, e2, List.getElem?_eq_getElem hj, g⟩
      · exact ⟨.ref T, upd H T (.lst zss.flatten), I.laid (t' := tk) hk hN ⟨by rw [hv.length]; exact fl, L.flatten, m, hv, hT⟩, rfl, q T (I.hok.fresh hN)⟩
end Tx

set_option Elab.async false
set_option linter.all false
set_option maxRecDepth 100000
set_option maxHeartbeats 4000000
set_option autoImplicit false
/-! Tx: set(list of numbers) -/
namespace Tx
open PySem PySem.Spec PyProof.Rows L2 L2
section
variable {P : Program} {w : World} {A : Around} {E : Value → Shared → Prop} {s : Shared}
abbrev bare (w : World) : Obj := { cls := .type "set", dict := none, data := .set #[] 0 (.fresh 0 0 (!w.params.followText "set-order")) }
theorem call_setL {l : Addr} {items : Array Value} (ns : List Int) {Q : Value → Shared → Prop} (hh : A.handled = none) (hl : s.heap.IsList l items) (hit : IntsAre items.toList ns) (hb : ns.length + 1 < scanBound)
    (h : ∀ (h' : Heap) (tk c : Nat), SetR w h' s.heap.objs.size (fun j => decide (j ∈ ns)) c → c ≤ ns.length → (∀ b o, s.heap.get? b = some o → h'.get? b = some o) → Q (.ref s.heap.objs.size) { s with heap := h', toks := tk }) :
    wpAny (model P w) A (call (.type "set") [.ref l]) Q E s := by
  have hsz : items.size = ns.length := by have q := IntsAre.length hit; rw [Array.length_toList] at q; exact q
  obtain ⟨c, tl, hmro⟩ := F.called_set.mro
  have hmade := F.called_set.made; have hsub := F.called_set.sub
  refine wpAny_call (codeAny_of_tree ?_); show wpAny _ _ (callAny (.type "set") _) _ _ _
  refine wpAny_pure ⟨Code.quiet_builtin _ (by decide +kernel), codeAny_builtin F.entry_type_call ?_⟩; rw [Around.under_plain (weight_type_call_type "set" [.ref l] []) rfl]
  have h1 := F.called_set.notType; have h2 := F.called_set.canCreate; have hct := F.typeCall_set_1 (.ref l)
  repeat (any_goals (first | assumption | wp_step))
  refine codeAny_mono (code_set_led1 (.ref l) (E := E) (Q₁ := fun ob s1 => ob = .ref s.heap.objs.size ∧ s1 = { s with heap := s.heap.push (bare w) }) ⟨rfl, rfl⟩) fun r s1 hr => ?_
  cases r with
  | error e => exact hr
  | ok fl =>
    cases fl with
    | ret ob =>
      obtain ⟨rfl, rfl⟩ := hr
      have hS : (s.heap.push (bare w)).get? s.heap.objs.size = some (bare w) := Heap.get?_push_size _ rfl
      have hT : Shared.TypeIs { s with heap := s.heap.push (bare w) } (.ref s.heap.objs.size) "set" := ⟨_, hS, rfl⟩
      have hli := F.called_set.init.lookup; have hbi := F.called_set.init.bind (.ref s.heap.objs.size)
      repeat (any_goals (first | assumption | wp_step))
      refine codeAny_mono (codeAny_call_builtin (R := wants (fun r s2 => r = .none ∧ ∃ h' tk c, s2 = { s with heap := h', toks := tk } ∧ SetR w h' s.heap.objs.size (fun j => decide (j ∈ ns)) c ∧ c ≤ ns.length ∧ (∀ b o, s.heap.get? b = some o → h'.get? b = some o)) E) F.called_set.init.plain F.entry_set_init (check_set_init_1 hT ?_)) fun r2 s2 hr2 => ?_
      · obtain ⟨ol, hol, hcl, nl, hdl⟩ := hl
        obtain ⟨ocls, odict, odata, oslots⟩ := ol
        simp only at hcl hdl; subst hcl; subst hdl
        have hol' : (s.heap.push (bare w)).get? l = some { cls := .type "list", dict := odict, data := .seq items nl, slots := oslots } := Heap.get?_push_of_some _ hol
        have hsls := F.sub_list_set; have hslf := F.sub_list_frozenset; have hne : (Value.type "list" == Value.type "dict") = false := by decide
        have hl1 : (s.heap.push (bare w)).IsList l items := ⟨_, hol', rfl, nl, rfl⟩
        unfold Builtin.«set.__init__» noKeywords Builtin.Frozenset.updateFrom; generalize hPI : pyIter = PI
        wp_walk
        subst hPI
        refine wpAny_pyIter_list hl1 ?_
        refine wpAny_bind (wpAny_runValue ?_)
        have hlS : l < s.heap.objs.size := Heap.lt_size hol
        have hh3 : A.in1.in1.in1.handled = none := by simp [hh]
        have sz : (s.heap.push (bare w)).objs.size = s.heap.objs.size + 1 := Heap.size_push ..
        have hneI : l ≠ (s.heap.push (bare w)).objs.size := by rw [sz]; exact Nat.ne_of_lt (Nat.lt_succ_of_lt hlS)
        have hSf : s.heap.objs.size ∉ [(s.heap.push (bare w)).objs.size, l] := by
          rw [sz]; simp only [List.mem_cons, List.mem_singleton, List.not_mem_nil, or_false, not_or]; exact ⟨Nat.ne_of_lt (Nat.lt_succ_self _), Nat.ne_of_gt hlS⟩
        have hval : ∀ (i : Nat) (v : Value), items[i]? = some v → ∃ k t, ns[i]? = some k ∧ v = .int k t := fun i v hv => by
          have hi : i < ns.length := by rw [← hsz]; exact (Array.getElem?_eq_some_iff.mp hv).1
          obtain ⟨t, e⟩ := PyProof.Rows.IntsAre.int_at hit i v (by rw [Array.getElem?_toList]; exact hv)
          exact ⟨ns[i], t, List.getElem?_eq_getElem hi, by rw [e, List.getD_eq_getElem?_getD, List.getElem?_eq_getElem hi] <;> rfl⟩
        refine set_update_ints ((Walks.list hh3 _ l hneI items).toS) s.heap.objs.size hSf ns hsz hb hval (items.size - 0) 0 _ (by omega) (Nat.zero_le _) ⟨⟨_, Heap.get?_push_size _ rfl, rfl, rfl⟩, (hl1.push _)⟩ ?hS0 ?hR
        case hS0 => exact ⟨0, Nat.le_refl 0, setR_new_at (Heap.get?_push_of_some _ hS)⟩
        case hR =>
          intro s' c' hm hc' hS'
          obtain ⟨h', g2, d', tk', os'⟩ := s'
          have eg : g2 = s.gens := hm.gens; have ed : d' = s.drawn := hm.drawn; have eo : os' = s.os := hm.os
          subst eg; subst ed; subst eo
          show wpAny _ _ _ _ _ _
          refine wpAny_pure ?_
          show wpAny _ _ (ret Value.none) _ _ _
          rw [hsz] at hc'
          refine wpAny_pure ⟨rfl, h', tk', c', rfl, hS', hc', fun b o e => hm.heap b o ?_ (Heap.get?_push_of_some _ (Heap.get?_push_of_some _ e))⟩
          have hb0 : b < s.heap.objs.size := Heap.lt_size e
          simp only [List.mem_cons, List.mem_singleton, List.not_mem_nil, or_false, not_or]; exact ⟨Nat.ne_of_lt hb0, by rw [sz]; exact Nat.ne_of_lt (Nat.lt_succ_of_lt hb0)⟩
      · cases r2 with
        | error e => exact hr2
        | ok fl2 =>
          cases fl2 with
          | ret r =>
            obtain ⟨rfl, h', tk, c2, rfl, hS', hc', hk'⟩ := hr2
            repeat (any_goals (first | assumption | wp_step))
            exact h _ _ _ hS' hc' hk'
          | _ => exact hr2.elim
    | _ => exact hr.elim
end
def rSetIL (K : PySem.W.Frag) (w : World) : List V → Hp → VK → Prop := fun vs H Q => ∃ (a : Addr) (ns : List Int), vs = [V.ref a] ∧ SqL K H a (ns.map V.int) ∧ ns.length < 60 ∧ ∀ (l : Addr) (c : Nat), c ≤ ns.length → H l = none → Q (.ref l) (upd H l (SetO w l (fun j => decide (j ∈ ns)) c))
theorem cr_setIL {X : Cx} (hc : X.calm = true) : CallR X (.type "set") (rSetIL X.K X.w) := by
  intro pins s σ H vs us Q I r q0
  obtain ⟨a, ns, rfl, ha, h60, q⟩ := q0
  rw [Vals.ref1 r]
  obtain ⟨its, rv, pl, _⟩ := I.list ha
  exact call_setL ns (I.ok.hd hc) pl.isList (by simpa using intsAre_of rv) (by unfold scanBound; omega) fun h' tk c R hcn hk => ⟨.ref _, _, I.laid (t' := tk) hk (Nat.le_refl _) (setO_new R), rfl, q _ c hcn (I.hok.fresh (Nat.le_refl _))⟩
/-- set(of either) -/
def rSetU (K : PySem.W.Frag) (w : World) : List V → Hp → VK → Prop := fun vs H Q => rSetIT K w vs H Q ∨ rSetIL K w vs H Q
theorem cr_setU {X : Cx} (hc : X.calm = true) : CallR X (.type "set") (rSetU X.K X.w) := by
  intro pins s σ H vs us Q I r q0
  rcases q0 with q0 | q0
  · exact cr_setIT hc pins s σ H vs us Q I r q0
  · exact cr_setIL hc pins s σ H vs us Q I r q0
section
variable {K : PySem.W.Frag} {m : Mo} {Γ : G} {te : TE} {w : World}
theorem en_sortSetU {b : D} {ns : List Int} (h : Ev1 m K te Γ b) (hb : b = .tup (ns.map D.int) ∨ b = .lst (ns.map D.int)) (hu : ns.length < 60) : EvN m K (tCB (rSortedSet w) (tCons (tCB (rSetU K w) (tCons te tNil)) tNil)) Γ (fun d => ∃ ms : List Int, d = .lst (ms.map D.int) ∧ ms.Pairwise (· < ·) ∧ ∀ k, k ∈ ms ↔ k ∈ ns) := fun σ H e Q q =>
  h σ H e _ fun v d H1 s r1 rv => by
    subst s
    have i1 := m.inv r1 e.i
    have all : ∀ (F : Addr → Prop) (Hx : Hp) (l : List Int), RpAll K F Hx (l.map V.int) (l.map D.int) := fun F Hx l => by
      induction l with
      | nil => exact .nil
      | cons b l ih => exact .cons (.int _) ih
    have fin : ∀ (l : Addr) (c : Nat), c ≤ ns.length → H1 l = none → (rSortedSet w) [V.ref l] (upd H1 l (SetO w l (fun j => decide (j ∈ ns)) c)) Q := fun l c hcn hl => by
      refine ⟨l, _, c, rfl, upd_same, by omega, fun ms p hp1 hp2 _ hp3 => ?_⟩
      have r2 : m.R H1 (upd H1 l (SetO w l (fun j => decide (j ∈ ns)) c)) := m.grow i1 (same_new hl)
      have i2 := m.inv r2 i1
      exact q _ (.lst (ms.map D.int)) _ ⟨ms, rfl, hp1, fun k => by rw [hp2]; exact decide_eq_true_iff⟩ (m.trans r1 (m.trans r2 (m.grow i2 (same_new hp3)))) (.lst (fun z => m.fa i2 z hp3) upd_same (all _ _ ms))
    rcases hb with hb | hb
    · subst hb
      obtain ⟨a, vs, rfl, ha, ra⟩ := rv.tupE
      rw [ra.ints] at ha
      exact .inl ⟨a, ns, rfl, ha, hu, fin⟩
    · subst hb
      obtain ⟨a, vs, rfl, ha, ra⟩ := rv.lstE
      rw [ra.ints] at ha
      exact .inr ⟨a, ns, rfl, SqL.of ha, hu, fin⟩
/-- sum(lists, []) -/
theorem en_sumL {ta tb : TE} {xs : List (List D)} (ha : Ev1 m K ta Γ (.lst (xs.map D.lst))) (hb : EvL m K tb Γ []) (h0 : 0 < xs.length) (hz : xs.flatten.length ≤ 1000) : Ev1 m K (tCB rSumL (tCons ta (tCons tb tNil))) Γ (.lst xs.flatten) := fun σ H e Q q =>
  ha σ H e _ fun v d H1 s r1 rv => hb σ H1 (e.mv r1) _ fun l H2 vs r2 hl rs => by
    subst s
    cases rs
    have i1 := m.inv r1 e.i
    have i2 := m.inv r2 i1
    have r3 : m.R H2 (upd H2 l (.lst [])) := m.grow i2 (same_new hl)
    have i3 := m.inv r3 i2
    have rv3 : Rp K m.F (upd H2 l (.lst [])) v (.lst (xs.map D.lst)) := (rv.mv (m.keep r2 i1)).mv (m.keep r3 i2)
    obtain ⟨a, ws, rfl, hA, ra⟩ := rv3.lstE
    have lw : ws.length = xs.length := by rw [ra.len, List.length_map]
    obtain ⟨zss, hz1, hz2⟩ := pick (P := fun j (zs : List V) => ∃ (ds : List D) (p : Addr), xs[j]? = some ds ∧ ws[j]? = some (V.ref p) ∧ (upd H2 l (.lst [])) p = some (.lst zs) ∧ RpAll K m.F (upd H2 l (.lst [])) zs ds) (n := xs.length) fun j hj => by
      obtain ⟨x, hx, rx⟩ := ra.get (i := j) (d := .lst xs[j]) (by rw [List.getElem?_map, List.getElem?_eq_getElem hj]; rfl)
      obtain ⟨p, zs, rfl, hp, rz⟩ := rx.lstE
      exact ⟨zs, xs[j], p, List.getElem?_eq_getElem hj, hx, hp, rz⟩
    have rf : RpAll K m.F (upd H2 l (.lst [])) zss.flatten xs.flatten := by
      have go : ∀ {as : List (List V)} {bs : List (List D)}, as.length = bs.length → (∀ (j : Nat) x y, as[j]? = some x → bs[j]? = some y → RpAll K m.F (upd H2 l (.lst [])) x y) → RpAll K m.F (upd H2 l (.lst [])) as.flatten bs.flatten := fun {as} => by
        induction as with
        | nil => intro bs hl _; cases bs with | nil => exact .nil | cons b bs => simp at hl
        | cons x as ih =>
          intro bs hl k
          cases bs with
          | nil => simp at hl
          | cons y bs =>
            rw [List.flatten_cons, List.flatten_cons]
            exact (k 0 x y rfl rfl).append (ih (by simpa using hl) fun j u v e1 e2 => k (j + 1) u v (by simpa using e1) (by simpa using e2))
      refine go hz1 fun j x y e1 e2 => ?_
      obtain ⟨ds, p, e3, _, _, r⟩ := hz2 j x e1
      rw [e2] at e3
      injection e3 with e3
      rw [e3]
      exact r
    refine ⟨a, l, ws, zss, rfl, hA, upd_same, by omega, by omega, fun j x hx => ?_, by rw [rf.len]; exact hz, fun p hp => ?_⟩
    · have hj : j < zss.length := by
        have := (List.getElem?_eq_some_iff.mp hx).1
        omega
      obtain ⟨ds, p, _, e2, e3, _⟩ := hz2 j _ (List.getElem?_eq_getElem hj)
      rw [hx] at e2
      injection e2 with e2
      exact ⟨p, _, e2, List.getElem?_eq_getElem hj, e3⟩
    · exact q _ _ _ rfl (m.trans r1 (m.trans r2 (m.trans r3 (m.grow i3 (same_new hp))))) (rp_newL i3 hp rf)
end
end Tx

set_option Elab.async false
set_option linter.all false
set_option maxRecDepth 100000
set_option maxHeartbeats 2000000
set_option autoImplicit false
/-! Tx: loops over what makes a tuple each time, while one or two lists are one's own -/
namespace Tx
open PySem L2 RZ
section
variable {K : PySem.W.Frag} {m : Mo} {Γ : G} {ta tb te tv : TE} {tt : TT} {ts tw : TS} {d : D} {ds : List D} {l : Addr} {H0 : Hp} {O O' : OutO}
def ItY (m : Mo) (K : PySem.W.Frag) (wi : TI) (Γ : G) (xs : List D) : Prop := ∀ σ H, ER m K Γ σ H → ∀ Q : It → Hp → Prop, (∀ (J : It) H1, m.R H H1 → (∀ H2, m.I H2 → StK m H1 H2 →
  (∀ i, i < xs.length → J.go i H2) ∧ J.stop xs.length H2 ∧ ∀ i x H', i < xs.length → J.yld i H2 x H' → Same H2 H' ∧ ∃ d, xs[i]? = some d ∧ Rp K m.F H' x d) → Q J H1) → wi σ H Q
theorem ItX.y {wi : TI} {xs : List D} (h : ItX m K wi Γ xs) : ItY m K wi Γ xs := fun σ H e Q q => h σ H e Q fun J H1 r wk => q J H1 r fun H2 _ st => by
  obtain ⟨a, b, c⟩ := wk H2 st
  exact ⟨a, b, fun i x H' hi y => by obtain ⟨e, z⟩ := c i x H' hi y; subst e; exact ⟨Same.refl _, z⟩⟩
theorem ity_enum {ta : TA} {b : D} (h : EvA1 m K ta Γ [b]) (hd : isSeq b ds) : ItY m K (iEnumS K ta) Γ (enumD ds) := fun σ H e Q q =>
  h σ H e _ fun vs es H1 s r1 rs => by
    subst s
    cases rs with
    | cons rv rs =>
      cases rs
      have i1 := m.inv r1 e.i
      obtain ⟨a, ws, rfl, ra, hs⟩ := seq_standsX rv hd
      have hl := ra.len
      have fin : ∀ {H2 : Hp} {T : Addr} {w : V} {i : Nat}, m.I H2 → StK m H1 H2 → H2 T = none → ws[i]? = some w → Same H2 (upd H2 T (.tup [.int (i : Nat), w])) ∧ ∃ d, (enumD ds)[i]? = some d ∧ Rp K m.F (upd H2 T (.tup [.int (i : Nat), w])) (.ref T) d := fun {H2 T w i} i2 st hT hw => by
        obtain ⟨d, hd, rd⟩ := ra.at hw
        exact ⟨same_new hT, _, enumD_at hd, rp_new i2 hT (.cons (.int _) (.cons (rd.go fun a o n e => ⟨n, st a o n e⟩) .nil))⟩
      refine ⟨a, rfl, ?_⟩
      rcases hs with hs | hs
      · refine .inl ⟨⟨ws, hs H1 fun _ _ _ e => e⟩, q _ H1 r1 fun H2 i2 st => ⟨fun i hi => ⟨ws, ws[i]'(by rw [enumD_len] at hi; omega), hs H2 st, List.getElem?_eq_getElem _⟩, ⟨ws, hs H2 st, by rw [enumD_len]; omega⟩, fun i x H' hi y => ?_⟩⟩
        obtain ⟨T, w, rfl, hT, rfl, hw⟩ := y
        exact fin i2 st hT (hw ws (hs H2 st))
      · refine .inr ⟨⟨ws, hs H1 fun _ _ _ e => e⟩, q _ H1 r1 fun H2 i2 st => ⟨fun i hi => ⟨ws, ws[i]'(by rw [enumD_len] at hi; omega), hs H2 st, List.getElem?_eq_getElem _⟩, ⟨ws, hs H2 st, by rw [enumD_len]; omega⟩, fun i x H' hi y => ?_⟩⟩
        obtain ⟨T, w, rfl, hT, rfl, hw⟩ := y
        exact fin i2 st hT (hw ws (hs H2 st))
theorem tup_standsX {H1 : Hp} {v : V} (r : Rp K m.F H1 v (.tup ds)) : ∃ a vs, v = .ref a ∧ RpAll K m.F H1 vs ds ∧ ∀ H, StK m H1 H → SqT K H a vs := by
  cases r with
  | tup n h t => exact ⟨_, _, rfl, t, fun H r => .inl (rd_up h fun o q => r _ o n q)⟩
  | ktup h t => exact ⟨_, _, rfl, t, fun H r => .inr h⟩
theorem ity_zip {ta : TA} {as bs : List D} (h : EvA1 m K ta Γ [.tup as, .tup bs]) : ItY m K (iZipA K ta) Γ (zipD as bs) := fun σ H e Q q =>
  h σ H e _ fun vs es H1 s r1 rs => by
    subst s
    cases rs with
    | cons ra rs =>
      cases rs with
      | cons rb rs =>
        cases rs
        obtain ⟨a, vs1, rfl, rA, hA⟩ := tup_standsX ra
        obtain ⟨b, vs2, rfl, rB, hB⟩ := tup_standsX rb
        have lA := rA.len
        have lB := rB.len
        have z0 : StK m H1 H1 := fun _ _ _ e => e
        refine ⟨a, b, vs1, vs2, rfl, .inr ⟨hA H1 z0, hB H1 z0, q _ _ r1 fun H2 i2 st => ⟨fun i hi => ?_, ?_, fun i x H' hi y => ?_⟩⟩⟩
        · rw [zipD_len] at hi
          exact ⟨vs1, vs2, vs1[i]'(by omega), vs2[i]'(by omega), hA H2 st, hB H2 st, List.getElem?_eq_getElem _, List.getElem?_eq_getElem _⟩
        · exact ⟨vs1, vs2, hA H2 st, hB H2 st, by rw [zipD_len]; omega⟩
        · obtain ⟨T, x1, x2, rfl, hT, rfl, hx1, hx2⟩ := y
          obtain ⟨d1, hd1, rd1⟩ := rA.at (hx1 vs1 (hA H2 st))
          obtain ⟨d2, hd2, rd2⟩ := rB.at (hx2 vs2 (hB H2 st))
          exact ⟨same_new hT, _, zipD_at hd1 hd2, rp_new i2 hT (.cons (rd1.go fun a o n e => ⟨n, st a o n e⟩) (.cons (rd2.go fun a o n e => ⟨n, st a o n e⟩) .nil))⟩
/-- for, over either -/
theorem so_forY {wi : TI} {g : TG} {xs : List D} (hi : ItY (m.ext l) K wi Γ xs) (W : Nat → G → List D → Prop) (hw : W 0 Γ ds)
    (hs : ∀ i d Γ' ds', xs[i]? = some d → W i Γ' ds' → ∃ Γ2 js, TgD (m.ext l) K g Γ' d js Γ2 ∧ SGo m K l H0 ts Γ2 ds' { nx := W (i + 1), rt := O.rt }) (hd : ∀ Γ' ds', W xs.length Γ' ds' → O.nx Γ' ds') : SGo m K l H0 (tFor wi g ts) Γ ds O := fun h0 i0 σ H vs r e hl ra E M => by
  refine hi σ H e _ fun J H1 r1 wk => ?_
  have e1 := e.mv r1
  have kp : ∀ {Ha Hb : Hp} {us : List V}, (m.ext l).I Ha → m.R Ha Hb → Ha l = some (.lst us) → Hb l = some (.lst us) := fun ia r h => m.keep r ia.1 l _ (nFl h0 i0) h
  refine ⟨fun i k σ' H' => k = xs.length - i ∧ i ≤ xs.length ∧ m.R H0 H' ∧ StK (m.ext l) H1 H' ∧ ∃ Γ' ds' vs', W i Γ' ds' ∧ ER (m.ext l) K Γ' σ' H' ∧ H' l = some (.lst vs') ∧ RpAll K (m.ext l).F H' vs' ds', ⟨_, rfl, Nat.zero_le _, m.trans r r1, fun _ _ _ e => e, Γ, ds, vs, hw, e1, kp e.i r1 hl, ra.mv ((m.ext l).keep r1 e.i)⟩, ?_⟩
  rintro i k σ' H' ⟨rfl, hle, r', st, Γ', ds', vs', w, e', hl', ra'⟩
  obtain ⟨go, stop, yld⟩ := wk H' e'.i st
  by_cases hlt : i < xs.length
  · refine .inr ⟨go i hlt, fun σ3 H3 => m.R H0 H3 ∧ StK (m.ext l) H1 H3 ∧ ∃ Γ3 ds3 vs3, W (i + 1) Γ3 ds3 ∧ ER (m.ext l) K Γ3 σ3 H3 ∧ H3 l = some (.lst vs3) ∧ RpAll K (m.ext l).F H3 vs3 ds3, fun σ3 H3 q => ⟨xs.length - (i + 1), by omega, rfl, hlt, q⟩, fun x H2 y => ?_⟩
    obtain ⟨sm, d, hd', rx⟩ := yld i x H2 hlt y
    have r2 : m.R H' H2 := m.grow e'.i.1 sm
    obtain ⟨Γ2, js, tg, body⟩ := hs i d Γ' ds' hd' w
    refine tg x σ' H2 (e'.mv (m := m.ext l) r2) rx _ fun σ3 H3 e3 r3 _ => ?_
    have r23 : m.R H' H3 := m.trans r2 r3
    have ra3 : RpAll K (m.ext l).F H3 vs' ds' := ra'.mv ((m.ext l).keep r23 e'.i)
    have st3 : StK (m.ext l) H1 H3 := fun a o n q => (m.ext l).keep r23 e'.i a o n (st a o n q)
    refine body h0 i0 σ3 H3 vs' (m.trans r' r23) e3 (kp e'.i r23 hl') ra3 _ ⟨fun Γ4 ds4 σ4 H4 vs4 o r4 st4 e4 hl4 ra4 => ⟨r4, st3.trans st4, Γ4, ds4, vs4, o, e4, hl4, ra4⟩, fun d v H4 o r4 rv => M.rt d v H4 o r4 rv⟩
  · have e0 : i = xs.length := by omega
    subst e0
    exact .inl ⟨stop, M.nx Γ' ds' σ' H' vs' (hd Γ' ds' w) r' (fun a o n q => st a o n ((m.ext l).keep r1 e.i a o n q)) e' hl' ra'⟩
/-! ### a list that is put into: what is put in may be made in any way -/
theorem so_setG {i k : Nat} {ti : TE} (hi : Γ[i]? = some (some (.adr l))) (h : ∀ σ H vs, H0 l = none → m.I H0 → ER (m.ext l) K Γ σ H → H l = some (.lst vs) → RpAll K (m.ext l).F H vs ds → ∀ Q : VK, (∀ v H1, m.R H H1 → Rp K (m.ext l).F H1 v d → Q v H1) → te σ H Q) (hk : Ev1 (m.ext l) K ti Γ (dN k)) (hlt : k < ds.length) (kk : O.nx Γ (ds.set k d)) : SGo m K l H0 (tAsg te (gSub (tVar i) ti rSetL)) Γ ds O := fun h0 i0 σ H vs r e hl ra E M =>
  h σ H vs h0 i0 e hl ra _ fun v H1 r1 rv1 => by
    have e1 : ER (m.ext l) K Γ σ H1 := e.mv (m := m.ext l) r1
    have hl1 : H1 l = some (.lst vs) := m.keep r1 e.i.1 l _ (nFl h0 i0) hl
    have ra1 : RpAll K (m.ext l).F H1 vs ds := ra.mv ((m.ext l).keep r1 e.i)
    obtain ⟨w, h1, h2⟩ := e1.at_ i _ hi
    obtain rfl := h2.adrE
    refine ⟨_, h1, hk σ H1 e1 _ fun z dz H2 s2 r2 rz => ?_⟩
    subst s2
    obtain rfl := rz.intE
    have e2 := e1.mv r2
    have hl2 : H2 l = some (.lst vs) := m.keep r2 e1.i.1 l _ (nFl h0 i0) hl1
    have ra2 : RpAll K (m.ext l).F H2 vs ds := ra1.mv ((m.ext l).keep r2 e1.i)
    have rv2 : Rp K (m.ext l).F H2 v d := rv1.mv ((m.ext l).keep r2 e1.i)
    refine ⟨l, vs, k, k, rfl, rfl, hl2, Evl.ixN_nat (by rw [ra.len]; exact hlt), ?_⟩
    have mv : ∀ a o, ¬ (m.ext l).F a → H2 a = some o → (upd H2 l (.lst (vs.set k v))) a = some o := fun a o n q => by rw [upd_ne (fun z => n (.inr z))]; exact q
    have rr : m.R H0 (upd H2 l (.lst (vs.set k v))) := m.chg i0 (m.trans r (m.trans r1 r2)) h0
    refine M.nx Γ _ σ _ (vs.set k v) kk rr (fun a o n q => mv a o n ((m.ext l).keep r2 e1.i a o n ((m.ext l).keep r1 e.i a o n q))) ⟨⟨m.inv rr i0, by rw [upd_same]; exact fun z => nomatch z⟩, e2.len, fun j d h => let ⟨v, h1, h2⟩ := e2.at_ j d h; ⟨v, h1, h2.go fun a o n q => ⟨n, mv a o n q⟩⟩⟩ upd_same ((ra2.setN rv2 k).mv mv)
/-- x[k] = e, e does not read the list -/
theorem so_setX {i k : Nat} {ti : TE} (hi : Γ[i]? = some (some (.adr l))) (h : Ev1 (m.ext l) K te Γ d) (hk : Ev1 (m.ext l) K ti Γ (dN k)) (hlt : k < ds.length) (kk : O.nx Γ (ds.set k d)) : SGo m K l H0 (tAsg te (gSub (tVar i) ti rSetL)) Γ ds O :=
  so_setG hi (fun σ H vs h0 i0 e hl ra Q q => h σ H e _ fun v d' H1 s r1 rv => by subst s; exact q v H1 r1 rv) hk hlt kk
/-- a list that is made new -/
def EvF (m : Mo) (K : PySem.W.Frag) (te : TE) (Γ : G) (ds : List D) : Prop := ∀ σ H, ER m K Γ σ H → ∀ Q : VK, (∀ p H1 vs, m.R H H1 → H p = none → H1 p = some (.lst vs) → RpAll K m.F H1 vs ds → Q (.ref p) H1) → te σ H Q
/-- x[k] = [..], of numbers and tuples of them; it may read the list -/
theorem so_setF {i k n : Nat} {ti : TE} {es : List D} (hi : Γ[i]? = some (some (.adr l))) (h : EvF m K te (Γ.set i (some (.lst ds))) es) (ht : ∀ x ∈ es, ttree n x = true) (hk : Ev1 (m.ext l) K ti Γ (dN k)) (hlt : k < ds.length) (kk : O.nx Γ (ds.set k (.lst es))) : SGo m K l H0 (tAsg te (gSub (tVar i) ti rSetL)) Γ ds O :=
  so_setG hi (fun σ H vs h0 i0 e hl ra Q q => h σ H (er_dis h0 i0 e hi hl ra) _ fun p H1 us r1 hp hp1 rs => by
    have hl1 : H1 l = some (.lst vs) := m.keep r1 e.i.1 l _ (nFl h0 i0) hl
    refine q _ H1 r1 (.lst (fun z => z.elim (fun f => m.fa e.i.1 f hp) fun z => by rw [z, hl] at hp; cases hp) hp1 ?_)
    have go : ∀ {ys : List D} {ws : List V}, (∀ x ∈ ys, ttree n x = true) → RpAll K m.F H1 ws ys → RpAll K (m.ext l).F H1 ws ys := fun {ys} => by
      induction ys with
      | nil => intro ws _ r; cases r; exact .nil
      | cons y ys ih =>
        intro ws hy r
        cases r with
        | cons r1 r2 => exact .cons (Rp.off hl1 n (hy y List.mem_cons_self) r1) (ih (fun x hx => hy x (List.mem_cons_of_mem _ hx)) r2)
    exact go ht rs) hk hlt kk
end
end Tx

set_option Elab.async false
set_option linter.all false
set_option maxRecDepth 100000
set_option maxHeartbeats 2000000
set_option autoImplicit false
/-! Tx: comprehensions as new lists; two lists of one's own -/
namespace Tx
open PySem L2
section
variable {K : PySem.W.Frag} {m : Mo} {Γ : G} {te : TE} {tt : TT}
theorem ef_lcN {wi : TI} {g : TG} {vs : List Nat} {U : List D → Prop} {T : D → Bool → Prop} {V' : D → D → Prop} {js : List Nat} (hj : ∀ j ∈ js, j ∈ vs) (hi : ItD m K wi Γ U) (hu : ∀ xs, U xs → xs.length ≤ 100000)
    (hs : ∀ m', Mo.Le m m' → ∀ xs d, U xs → d ∈ xs → ∃ Γ2, TgD m' K g (wipeG Γ vs) d js Γ2 ∧ EvT m' K tt Γ2 (T d) ∧ (T d true → EvN m' K te Γ2 (V' d))) : ∀ σ H, ER m K Γ σ H → ∀ Q : VK, (∀ p H1 us xs ys, U xs → LcR T V' xs ys → m.R H H1 → H p = none → H1 p = some (.lst us) → RpAll K m.F H1 us ys → Q (.ref p) H1) → (tLc wi g tt te vs) σ H Q := fun σ H e Q q => by
  refine hi σ H e _ fun J xs H1 ht r1 wk => fun Dl hD => ?_
  have e1 := e.mv r1
  have rN : m.R H1 (upd H1 Dl (.lst [])) := m.grow e1.i (same_new hD)
  have nF : ¬ m.F Dl := fun f => m.fa e1.i f hD
  have wkA : ∀ H', m.R H1 H' → (m.ext Dl).I H' → WkD (m.ext Dl) K J H' xs := fun H' r i => wk (m.ext Dl) (m.le_ext Dl) H' i r fun a f n => f.elim (fun f => absurd f n) fun z => z ▸ hD
  -- the word: what the new list holds
  refine ⟨fun i k H' => k = xs.length - i ∧ i ≤ xs.length ∧ m.R H1 H' ∧ ∃ acc ys, H' Dl = some (.lst acc) ∧ RpAll K (m.ext Dl).F H' acc ys ∧ LcR T V' (xs.take i) ys, ⟨_, rfl, Nat.zero_le _, rN, [], [], upd_same, .nil, by simpa using LcR.nil⟩, ?_⟩
  rintro i k H' ⟨rfl, hle, r, acc, ys, hacc, ra, lr⟩
  have eX : ER (m.ext Dl) K Γ σ H' := e1.ext hD r (by rw [hacc]; exact fun z => nomatch z)
  have iX := eX.i
  have wkX := wkA H' r iX
  by_cases hlt : i < xs.length
  · refine .inr ⟨wkX.go i H' (m.refl _) hlt, fun H3 => m.R H1 H3 ∧ ∃ acc ys, H3 Dl = some (.lst acc) ∧ RpAll K (m.ext Dl).F H3 acc ys ∧ LcR T V' (xs.take (i + 1)) ys, fun H3 q => ⟨xs.length - (i + 1), by omega, rfl, hlt, q⟩, fun x H2 y => ?_⟩
    obtain ⟨r2, d, hd', rx⟩ := wkX.yld i H' x H2 (m.refl _) hlt y
    obtain ⟨Γ2, tg, tst, el⟩ := hs (m.ext Dl) (m.le_ext Dl) xs d ht (List.mem_of_getElem? hd')
    have hlen : acc.length < sizeLine := Nat.lt_of_lt_of_le (show acc.length < 100001 by
      have := lr.len; have h2 := ra.len; have h3 := hu xs ht; rw [List.length_take] at this; omega) (by decide)
    have tk : xs.take (i + 1) = xs.take i ++ [d] := by rw [List.take_add_one, hd']; rfl
    have kD : ∀ {Ha Hb : Hp}, (m.ext Dl).I Ha → m.R Ha Hb → Ha Dl = some (.lst acc) → Hb Dl = some (.lst acc) := fun ia r h => m.keep r ia.1 Dl _ nF h
    refine tg x (wipe σ vs) H2 ((eX.mv r2).wipe vs) rx _ fun σ3 H3 e3 r3 w3 => ⟨by rw [w3 vs hj, wipe_wipe], ?_⟩
    have i2 := (m.ext Dl).inv r2 iX
    refine tst σ3 H3 e3 _ fun b H4 tb' r4 => ?_
    have i3 := e3.i
    have i4 := (m.ext Dl).inv r4 i3
    have rr := m.trans r2 (m.trans r3 r4)
    cases b with
    | false =>
      exact ⟨m.trans r rr, acc, ys, kD iX rr hacc, ra.mv ((m.ext Dl).keep rr iX), by rw [tk]; simpa using lr.append (.no tb' .nil)⟩
    | true =>
      refine el tb' σ3 H4 (e3.mv r4) _ fun w dw H5 sv r5 rw' => ?_
      have i5 := (m.ext Dl).inv r5 i4
      have rr5 := m.trans rr r5
      refine ⟨acc, kD iX rr5 hacc, hlen, m.chg e1.i (m.trans r rr5) hD, acc ++ [w], ys ++ [dw], upd_same, ?_, by rw [tk]; exact lr.append (.yes tb' sv .nil)⟩
      have k5 : ∀ a o, ¬ (m.ext Dl).F a → H5 a = some o → (upd H5 Dl (.lst (acc ++ [w]))) a = some o := fun a o n x => by rw [upd_ne (fun z => n (.inr z))]; exact x
      exact (((ra.mv ((m.ext Dl).keep rr5 iX)).append (.cons rw' .nil)).mv k5)
  · have e0 : i = xs.length := by omega
    subst e0
    exact .inl ⟨wkX.stop H' (m.refl _), q Dl H' acc xs ys ht (by simpa using lr) (m.trans r1 r) (Classical.byContradiction fun z => m.had e.i r1 z hD) hacc (ra.weak fun a f => .inl f)⟩
theorem ef_lcM {α : Type} {wi : TI} {g : TG} {vs : List Nat} {xs : List α} {js : List Nat} (enc : α → D) (t : α → Bool) (f : α → D) (hc : ∀ x ∈ xs, ∀ y ∈ xs, enc x = enc y → x = y) (hj : ∀ j ∈ js, j ∈ vs) (hi : ItD1 m K wi Γ (xs.map enc)) (hu : xs.length ≤ 100000)
    (hs : ∀ m', Mo.Le m m' → ∀ x, x ∈ xs → ∃ Γ2, TgD m' K g (wipeG Γ vs) (enc x) js Γ2 ∧ EvT1 m' K tt Γ2 (t x) ∧ (t x = true → Ev1 m' K te Γ2 (f x))) : EvF m K (tLc wi g tt te vs) Γ ((xs.filter t).map f) := fun σ H e Q q =>
  ef_lcN (U := fun x => x = xs.map enc) (T := fun d b => ∃ x ∈ xs, d = enc x ∧ b = t x) (V' := fun d y => ∃ x ∈ xs, d = enc x ∧ y = f x) hj hi (fun x e => by rw [e, List.length_map]; exact hu) (fun m' l x d e hd => by
    subst e
    obtain ⟨x, hx, rfl⟩ := List.mem_map.mp hd
    obtain ⟨Γ2, h1, h2, h3⟩ := hs m' l x hx
    exact ⟨Γ2, h1, h2.mono fun b e => ⟨x, hx, rfl, e⟩, fun ⟨y, hy, e1, e2⟩ => (h3 (by rw [hc x hx y hy e1]; exact e2.symm)).mono fun d e => ⟨x, hx, rfl, e⟩⟩) σ H e Q fun p H1 us zs ys hz lr r hp hp1 rs => by
      subst hz
      have e3 := lr.fnM (t := t) (f := f) (fun x hx b ⟨y, hy, e1, e2⟩ => by rw [hc x hx y hy e1]; exact e2) fun x hx d _ ⟨y, hy, e1, e2⟩ => by rw [hc x hx y hy e1]; exact e2
      rw [e3] at rs
      exact q p H1 us r hp hp1 rs
end
section
variable {K : PySem.W.Frag} {m : Mo} {Γ : G} {ta tb te tv : TE} {tt : TT} {ts tw : TS} {d : D} {as bs : List D} {l k : Addr} {H0 : Hp}
structure OutP where
  nx : G → List D → List D → Prop
  rt : D → Prop
variable {O O' : OutP}
abbrev Mo.ext2 (m : Mo) (l k : Addr) : Mo := (m.ext l).ext k
structure MeetsP (m : Mo) (K : PySem.W.Frag) (l k : Addr) (H0 H : Hp) (O : OutP) (E : Ends) : Prop where
  nx : ∀ Γ' as' bs' σ' H' us' vs', O.nx Γ' as' bs' → m.R H0 H' → StK (m.ext2 l k) H H' → ER (m.ext2 l k) K Γ' σ' H' → H' l = some (.lst us') → H' k = some (.lst vs') → RpAll K (m.ext2 l k).F H' us' as' → RpAll K (m.ext2 l k).F H' vs' bs' → E.nx σ' H'
  rt : ∀ d v H', O.rt d → m.R H0 H' → Rp K m.F H' v d → E.rt v H'
theorem MeetsP.mv {H H1 : Hp} {E : Ends} (M : MeetsP m K l k H0 H O E) (s : StK (m.ext2 l k) H H1) : MeetsP m K l k H0 H1 O E := ⟨fun Γ' as' bs' σ' H' us' vs' o r st => M.nx Γ' as' bs' σ' H' us' vs' o r (s.trans st), M.rt⟩
/-- a statement, while the lists at l and k are one's own; H0: the heap ahead of both -/
def SGp (m : Mo) (K : PySem.W.Frag) (l k : Addr) (H0 : Hp) (ts : TS) (Γ : G) (as bs : List D) (O : OutP) : Prop :=
  H0 l = none → H0 k = none → l ≠ k → m.I H0 → ∀ σ H us vs, m.R H0 H → ER (m.ext2 l k) K Γ σ H → H l = some (.lst us) → H k = some (.lst vs) → RpAll K (m.ext2 l k).F H us as → RpAll K (m.ext2 l k).F H vs bs → ∀ E : Ends, MeetsP m K l k H0 H O E → ts E σ H
theorem er_disp {i : Nat} {σ : L2.St} {H : Hp} {us : List V} (h0 : H0 l = none) (i0 : m.I H0) (hlk : l ≠ k) (e : ER (m.ext2 l k) K Γ σ H) (hi : Γ[i]? = some (some (.adr l))) (hl : H l = some (.lst us)) (ra : RpAll K (m.ext2 l k).F H us as) : ER (m.ext k) K (Γ.set i (some (.lst as))) σ H := by
  refine ⟨⟨e.i.1.1, e.i.2⟩, by rw [List.length_set, e.len], fun j d h => ?_⟩
  have wk : ∀ a, (m.ext k).F a → (m.ext2 l k).F a := fun a f => f.elim (fun f => .inl (.inl f)) .inr
  by_cases z : i = j
  · subst z
    have hlt : i < Γ.length := (List.getElem?_eq_some_iff.mp hi).1
    rw [List.getElem?_set_self hlt] at h
    injection h with h
    injection h with h
    subst h
    obtain ⟨v, h1, h2⟩ := e.at_ i _ hi
    obtain rfl := h2.adrE
    exact ⟨_, h1, .lst (fun f => f.elim (nFl h0 i0) hlk) hl (ra.weak wk)⟩
  · rw [List.getElem?_set_ne z] at h
    obtain ⟨v, h1, h2⟩ := e.at_ j d h
    exact ⟨v, h1, h2.weak wk⟩
theorem sp_dis {i j : Nat} {O : Out} (hi : Γ[i]? = some (some (.adr l))) (hj : Γ[j]? = some (some (.adr k))) (hij : i ≠ j) (h : SG m K ts ((Γ.set i (some (.lst as))).set j (some (.lst bs))) { nx := fun _ => False, rt := O.rt }) : SGp m K l k H0 ts Γ as bs { nx := fun _ _ _ => False, rt := O.rt } := fun h0 k0 hlk i0 σ H us vs r e hl hk ra rb E M => by
  have e1 := er_disp h0 i0 hlk e hi hl ra
  have e2 : ER m K ((Γ.set i (some (.lst as))).set j (some (.lst bs))) σ H := er_dis k0 i0 e1 (by rw [List.getElem?_set_ne hij]; exact hj) hk (rb.weak fun a f => f.elim (fun f => .inl (.inl f)) .inr)
  exact h σ H e2 E ⟨fun _ _ _ o => o.elim, fun d v H' o r' rv => M.rt d v H' o (m.trans r r') rv, fun _ _ _ o => o.elim, fun _ _ _ o => o.elim⟩
theorem sp_seq (N : G → List D → List D → Prop) (h1 : SGp m K l k H0 ts Γ as bs { O with nx := N }) (h2 : ∀ Γ' as' bs', N Γ' as' bs' → SGp m K l k H0 tw Γ' as' bs' O) : SGp m K l k H0 (tSeq ts tw) Γ as bs O := fun h0 k0 hlk i0 σ H us vs r e hl hk ra rb E M =>
  h1 h0 k0 hlk i0 σ H us vs r e hl hk ra rb _ ⟨fun Γ' as' bs' σ' H' us' vs' o r' st e' hl' hk' ra' rb' => h2 Γ' as' bs' o h0 k0 hlk i0 σ' H' us' vs' r' e' hl' hk' ra' rb' E (M.mv st), M.rt⟩
theorem sp_forG {wi : TI} {g : TG} {xs : List D} (hi : ∀ σ H us, H0 l = none → l ≠ k → m.I H0 → ER (m.ext2 l k) K Γ σ H → H l = some (.lst us) → RpAll K (m.ext2 l k).F H us as → ∀ Q : It → Hp → Prop, (∀ (J : It) H1, m.R H H1 → (∀ H2, (m.ext2 l k).I H2 → StK (m.ext2 l k) H1 H2 → (∀ i, i < xs.length → J.go i H2) ∧ J.stop xs.length H2 ∧ ∀ i x H', i < xs.length → J.yld i H2 x H' → Same H2 H' ∧ ∃ d, xs[i]? = some d ∧ Rp K (m.ext2 l k).F H' x d) → Q J H1) → wi σ H Q) (W : Nat → G → List D → List D → Prop) (hw : W 0 Γ as bs)
    (hs : ∀ i d Γ' as' bs', xs[i]? = some d → W i Γ' as' bs' → ∃ Γ2 js, TgD (m.ext2 l k) K g Γ' d js Γ2 ∧ SGp m K l k H0 ts Γ2 as' bs' { nx := W (i + 1), rt := O.rt }) (hd : ∀ Γ' as' bs', W xs.length Γ' as' bs' → O.nx Γ' as' bs') : SGp m K l k H0 (tFor wi g ts) Γ as bs O := fun h0 k0 hlk i0 σ H us vs r e hl hk ra rb E M => by
  refine hi σ H us h0 hlk i0 e hl ra _ fun J H1 r1 wk => ?_
  have e1 := e.mv r1
  have kl : ∀ {Ha Hb : Hp} {us : List V}, (m.ext2 l k).I Ha → m.R Ha Hb → Ha l = some (.lst us) → Hb l = some (.lst us) := fun ia r h => m.keep r ia.1.1 l _ (nFl h0 i0) h
  have kk : ∀ {Ha Hb : Hp} {us : List V}, (m.ext2 l k).I Ha → m.R Ha Hb → Ha k = some (.lst us) → Hb k = some (.lst us) := fun ia r h => m.keep r ia.1.1 k _ (nFl k0 i0) h
  refine ⟨fun i n σ' H' => n = xs.length - i ∧ i ≤ xs.length ∧ m.R H0 H' ∧ StK (m.ext2 l k) H1 H' ∧ ∃ Γ' as' bs' us' vs', W i Γ' as' bs' ∧ ER (m.ext2 l k) K Γ' σ' H' ∧ H' l = some (.lst us') ∧ H' k = some (.lst vs') ∧ RpAll K (m.ext2 l k).F H' us' as' ∧ RpAll K (m.ext2 l k).F H' vs' bs', ⟨_, rfl, Nat.zero_le _, m.trans r r1, fun _ _ _ e => e, Γ, as, bs, us, vs, hw, e1, kl e.i r1 hl, kk e.i r1 hk, ra.mv ((m.ext2 l k).keep r1 e.i), rb.mv ((m.ext2 l k).keep r1 e.i)⟩, ?_⟩
  rintro i n σ' H' ⟨rfl, hle, r', st, Γ', as', bs', us', vs', w, e', hl', hk', ra', rb'⟩
  obtain ⟨go, stop, yld⟩ := wk H' e'.i st
  by_cases hlt : i < xs.length
  · refine .inr ⟨go i hlt, fun σ3 H3 => m.R H0 H3 ∧ StK (m.ext2 l k) H1 H3 ∧ ∃ Γ3 as3 bs3 us3 vs3, W (i + 1) Γ3 as3 bs3 ∧ ER (m.ext2 l k) K Γ3 σ3 H3 ∧ H3 l = some (.lst us3) ∧ H3 k = some (.lst vs3) ∧ RpAll K (m.ext2 l k).F H3 us3 as3 ∧ RpAll K (m.ext2 l k).F H3 vs3 bs3, fun σ3 H3 q => ⟨xs.length - (i + 1), by omega, rfl, hlt, q⟩, fun x H2 y => ?_⟩
    obtain ⟨sm, d, hd', rx⟩ := yld i x H2 hlt y
    have r2 : m.R H' H2 := m.grow e'.i.1.1 sm
    obtain ⟨Γ2, js, tg, body⟩ := hs i d Γ' as' bs' hd' w
    refine tg x σ' H2 (e'.mv (m := m.ext2 l k) r2) rx _ fun σ3 H3 e3 r3 _ => ?_
    have r23 : m.R H' H3 := m.trans r2 r3
    have up := (m.ext2 l k).keep r23 e'.i
    have st3 : StK (m.ext2 l k) H1 H3 := fun a o n q => up a o n (st a o n q)
    refine body h0 k0 hlk i0 σ3 H3 us' vs' (m.trans r' r23) e3 (kl e'.i r23 hl') (kk e'.i r23 hk') (ra'.mv up) (rb'.mv up) _ ⟨fun Γ4 as4 bs4 σ4 H4 us4 vs4 o r4 st4 e4 hl4 hk4 ra4 rb4 => ⟨r4, st3.trans st4, Γ4, as4, bs4, us4, vs4, o, e4, hl4, hk4, ra4, rb4⟩, fun d v H4 o r4 rv => M.rt d v H4 o r4 rv⟩
  · have e0 : i = xs.length := by omega
    subst e0
    exact .inl ⟨stop, M.nx Γ' as' bs' σ' H' us' vs' (hd Γ' as' bs' w) r' (fun a o n q => st a o n ((m.ext2 l k).keep r1 e.i a o n q)) e' hl' hk' ra' rb'⟩
theorem sp_for {wi : TI} {g : TG} {xs : List D} (hi : ItY (m.ext2 l k) K wi Γ xs) (W : Nat → G → List D → List D → Prop) (hw : W 0 Γ as bs)
    (hs : ∀ i d Γ' as' bs', xs[i]? = some d → W i Γ' as' bs' → ∃ Γ2 js, TgD (m.ext2 l k) K g Γ' d js Γ2 ∧ SGp m K l k H0 ts Γ2 as' bs' { nx := W (i + 1), rt := O.rt }) (hd : ∀ Γ' as' bs', W xs.length Γ' as' bs' → O.nx Γ' as' bs') : SGp m K l k H0 (tFor wi g ts) Γ as bs O := sp_forG (fun σ H us _ _ _ e _ _ Q q => hi σ H e Q q) W hw hs hd
/-- for x in range(e): e may read the one -/
theorem sp_forR {ta : TA} {g : TG} {n i : Nat} (hi : Γ[i]? = some (some (.adr l))) (h : EvA1 (m.ext k) K ta (Γ.set i (some (.lst as))) [dN n]) (hn : n ≤ 100000) (W : Nat → G → List D → List D → Prop) (hw : W 0 Γ as bs)
    (hs : ∀ i d Γ' as' bs', ((List.range n).map dN)[i]? = some d → W i Γ' as' bs' → ∃ Γ2 js, TgD (m.ext2 l k) K g Γ' d js Γ2 ∧ SGp m K l k H0 ts Γ2 as' bs' { nx := W (i + 1), rt := O.rt }) (hd : ∀ Γ' as' bs', W n Γ' as' bs' → O.nx Γ' as' bs') : SGp m K l k H0 (tFor (iRng1 ta) g ts) Γ as bs O :=
  sp_forG (xs := (List.range n).map dN) (fun σ H us h0 hlk i0 e hl ra Q q => h σ H (er_disp h0 i0 hlk e hi hl ra) _ fun vs ds H1 s r1 rs => by
    subst s
    cases rs with
    | cons r rs =>
      cases rs
      refine ⟨n, by rw [r.intE], by omega, by omega, q _ H1 r1 fun H2 i2 st => ⟨fun i hi => ?_, ?_, fun i x H' hi y => ?_⟩⟩
      · rw [List.length_map, List.length_range] at hi
        show i < (n : Int).toNat
        omega
      · rw [List.length_map, List.length_range]
        show (n : Int).toNat ≤ n
        omega
      · rw [List.length_map, List.length_range] at hi
        obtain ⟨e, ex⟩ := y
        subst e; subst ex
        exact ⟨Same.refl _, dN i, by rw [List.getElem?_map, List.getElem?_range hi]; rfl, by rw [Int.zero_add]; exact .int _⟩) W hw hs fun Γ' as' bs' w => hd Γ' as' bs' (by rw [List.length_map, List.length_range] at w; exact w)
/-- what changes at one of both: all else stays -/
theorem sp_keep {Γ : G} {σ : L2.St} {H : Hp} {p : Addr} {o : HO} (hp : p = l ∨ p = k) (rr : m.R H0 (upd H p o)) (i0 : m.I H0) (e : ER (m.ext2 l k) K Γ σ H) : (∀ a u, ¬ (m.ext2 l k).F a → H a = some u → (upd H p o) a = some u) ∧ ER (m.ext2 l k) K Γ σ (upd H p o) := by
  have mv : ∀ a u, ¬ (m.ext2 l k).F a → H a = some u → (upd H p o) a = some u := fun a u n q => by
    rw [upd_ne (fun z => n (by rw [z]; exact hp.elim (fun z => .inl (.inr z)) .inr))]
    exact q
  have nz : ∀ a, H a ≠ none → (upd H p o) a ≠ none := fun a n => by
    by_cases z : a = p
    · rw [z, upd_same]; exact fun z => nomatch z
    · rw [upd_ne z]; exact n
  exact ⟨mv, ⟨⟨m.inv rr i0, nz l e.i.1.2⟩, nz k e.i.2⟩, e.len, fun j d h => let ⟨v, h1, h2⟩ := e.at_ j d h; ⟨v, h1, h2.go fun a o n q => ⟨n, mv a o n q⟩⟩⟩
/-- x[n] = e, for the one and for the other -/
theorem sp_setL {i n : Nat} {ti : TE} (hi : Γ[i]? = some (some (.adr l))) (h : Ev1 (m.ext2 l k) K te Γ d) (hx : Ev1 (m.ext2 l k) K ti Γ (dN n)) (hlt : n < as.length) (kk : O.nx Γ (as.set n d) bs) : SGp m K l k H0 (tAsg te (gSub (tVar i) ti rSetL)) Γ as bs O := fun h0 k0 hlk i0 σ H us vs r e hl hk ra rb E M =>
  h σ H e _ fun v d' H1 s r1 rv => by
    subst s
    have e1 : ER (m.ext2 l k) K Γ σ H1 := e.mv (m := m.ext2 l k) r1
    obtain ⟨w, h1, h2⟩ := e1.at_ i _ hi
    obtain rfl := h2.adrE
    refine ⟨_, h1, hx σ H1 e1 _ fun z dz H2 s2 r2 rz => ?_⟩
    subst s2
    obtain rfl := rz.intE
    have r12 : m.R H H2 := m.trans r1 r2
    have e2 := e1.mv r2
    have up := (m.ext2 l k).keep r12 e.i
    have hl2 : H2 l = some (.lst us) := m.keep r12 e.i.1.1 l _ (nFl h0 i0) hl
    have hk2 : H2 k = some (.lst vs) := m.keep r12 e.i.1.1 k _ (nFl k0 i0) hk
    have rr : m.R H0 (upd H2 l (.lst (us.set n v))) := m.chg i0 (m.trans r r12) h0
    obtain ⟨mv, e3⟩ := sp_keep (o := .lst (us.set n v)) (.inl rfl) rr i0 e2
    exact ⟨l, us, n, n, rfl, rfl, hl2, Evl.ixN_nat (by rw [ra.len]; exact hlt), M.nx Γ _ _ σ _ (us.set n v) vs kk rr (fun a o n q => mv a o n (up a o n q)) e3 upd_same ((upd_ne (Ne.symm hlk)).trans hk2) (((ra.mv up).setN (rv.mv ((m.ext2 l k).keep r2 e1.i)) n).mv mv) ((rb.mv up).mv mv)⟩
theorem sp_setK {i n : Nat} {ti : TE} (hi : Γ[i]? = some (some (.adr k))) (h : Ev1 (m.ext2 l k) K te Γ d) (hx : Ev1 (m.ext2 l k) K ti Γ (dN n)) (hlt : n < bs.length) (kk : O.nx Γ as (bs.set n d)) : SGp m K l k H0 (tAsg te (gSub (tVar i) ti rSetL)) Γ as bs O := fun h0 k0 hlk i0 σ H us vs r e hl hk ra rb E M =>
  h σ H e _ fun v d' H1 s r1 rv => by
    subst s
    have e1 : ER (m.ext2 l k) K Γ σ H1 := e.mv (m := m.ext2 l k) r1
    obtain ⟨w, h1, h2⟩ := e1.at_ i _ hi
    obtain rfl := h2.adrE
    refine ⟨_, h1, hx σ H1 e1 _ fun z dz H2 s2 r2 rz => ?_⟩
    subst s2
    obtain rfl := rz.intE
    have r12 : m.R H H2 := m.trans r1 r2
    have e2 := e1.mv r2
    have up := (m.ext2 l k).keep r12 e.i
    have hl2 : H2 l = some (.lst us) := m.keep r12 e.i.1.1 l _ (nFl h0 i0) hl
    have hk2 : H2 k = some (.lst vs) := m.keep r12 e.i.1.1 k _ (nFl k0 i0) hk
    have rr : m.R H0 (upd H2 k (.lst (vs.set n v))) := m.chg i0 (m.trans r r12) k0
    obtain ⟨mv, e3⟩ := sp_keep (o := .lst (vs.set n v)) (.inr rfl) rr i0 e2
    exact ⟨k, vs, n, n, rfl, rfl, hk2, Evl.ixN_nat (by rw [rb.len]; exact hlt), M.nx Γ _ _ σ _ us (vs.set n v) kk rr (fun a o n q => mv a o n (up a o n q)) e3 ((upd_ne hlk).trans hl2) upd_same ((ra.mv up).mv mv) (((rb.mv up).setN (rv.mv ((m.ext2 l k).keep r2 e1.i)) n).mv mv)⟩
/-- found.append(left.pop(e)): e may read left -/
theorem sp_pop {i j : Nat} {S : D → Prop} (hi : Γ[i]? = some (some (.adr l))) (hj : Γ[j]? = some (some (.adr k))) (h : EvN (m.ext k) K te (Γ.set i (some (.lst as))) S) (hS : ∀ d, S d → ∃ n : Nat, d = dN n ∧ n < as.length) (hz : as.length ≤ 1000) (hz2 : bs.length ≤ 1000)
    (kk : ∀ n d, as[n]? = some d → O.nx Γ (as.eraseIdx n) (bs ++ [d])) : SGp m K l k H0 (tDrop (tBM K "list" rAppend (tVar j) (tCons (tBM K "list" rPopAt (tVar i) (tCons te tNil)) tNil))) Γ as bs O := fun h0 k0 hlk i0 σ H us vs r e hl hk ra rb E M => by
  obtain ⟨w, h1, h2⟩ := e.at_ j _ hj
  obtain rfl := h2.adrE
  obtain ⟨w, g1, g2⟩ := e.at_ i _ hi
  obtain rfl := g2.adrE
  refine ⟨_, h1, .inl ⟨rfl, vs, SqL.of hk⟩, ?_⟩
  refine ⟨_, g1, .inl ⟨rfl, us, SqL.of hl⟩, ?_⟩
  refine h σ H (er_disp h0 i0 hlk e hi hl ra) _ fun v d' H1 s r1 rv => ?_
  obtain ⟨n, rfl, hn⟩ := hS d' s
  obtain rfl := rv.intE
  have e1 : ER (m.ext2 l k) K Γ σ H1 := e.mv (m := m.ext2 l k) r1
  have up := (m.ext2 l k).keep r1 e.i
  have hl1 : H1 l = some (.lst us) := m.keep r1 e.i.1.1 l _ (nFl h0 i0) hl
  have hk1 : H1 k = some (.lst vs) := m.keep r1 e.i.1.1 k _ (nFl k0 i0) hk
  have lu := ra.len
  have lv := rb.len
  have hnu : n < us.length := by omega
  obtain ⟨d, hd, rd⟩ := (ra.mv up).at (List.getElem?_eq_getElem hnu)
  have rr : m.R H0 (upd H1 l (.lst (us.eraseIdx n))) := m.chg i0 (m.trans r r1) h0
  obtain ⟨mv, e2⟩ := sp_keep (o := .lst (us.eraseIdx n)) (.inl rfl) rr i0 e1
  refine ⟨l, us, (n : Int), n, us[n], rfl, rfl, hl1, by omega, by omega, ?_, List.getElem?_eq_getElem hnu, ?_⟩
  · unfold seqIndex?
    simp
    omega
  have hk2 : (upd H1 l (.lst (us.eraseIdx n))) k = some (.lst vs) := (upd_ne (Ne.symm hlk)).trans hk1
  have rr2 : m.R H0 (upd (upd H1 l (.lst (us.eraseIdx n))) k (.lst (vs ++ [us[n]]))) := m.chg i0 rr k0
  obtain ⟨mv2, e3⟩ := sp_keep (o := .lst (vs ++ [us[n]])) (.inr rfl) rr2 i0 e2
  refine ⟨k, vs, us[n], rfl, rfl, hk2, Nat.lt_of_lt_of_le (show vs.length < 1001 by omega) (by decide), ?_⟩
  exact M.nx Γ _ _ σ _ (us.eraseIdx n) (vs ++ [us[n]]) (kk n d hd) rr2 (fun a o x q => mv2 a o x (mv a o x (up a o x q))) e3 ((upd_ne hlk).trans upd_same) upd_same ((((ra.mv up).eraseN n).mv mv).mv mv2) (((((rb.mv up).append (.cons rd .nil)).mv mv)).mv mv2)
end
end Tx

set_option Elab.async false
set_option linter.all false
set_option maxRecDepth 100000
set_option maxHeartbeats 2000000
set_option autoImplicit false
/-! Tx: where a second list begins; places in lists -/
namespace Tx
open PySem L2
section
variable {K : PySem.W.Frag} {m : Mo} {Γ : G} {ta tb te tv : TE} {tt : TT} {ts tw : TS} {d : D} {as bs : List D} {l k : Addr} {H0 : Hp}
/-- x = a new list; rest -/
theorem so_own2 {j : Nat} {R : D → Prop} (h : EvL (m.ext l) K te Γ bs) (kk : ∀ k, SGp m K l k H0 tw (Γ.set j (some (.adr k))) as bs { nx := fun _ _ _ => False, rt := R }) : SGo m K l H0 (tSeq (tAsg te (gName j)) tw) Γ as { nx := fun _ _ => False, rt := R } := fun h0 i0 σ H us r e hl ra E M =>
  h σ H e _ fun k H1 vs r1 hk rs => by
    have e1 := e.mv r1
    have hl1 : H1 l = some (.lst us) := m.keep r1 e.i.1 l _ (nFl h0 i0) hl
    have ra1 := ra.mv ((m.ext l).keep r1 e.i)
    have hlk : l ≠ k := fun z => by rw [z, hk] at hl1; cases hl1
    have k0 : H0 k = none := Classical.byContradiction fun z => m.had i0 (m.trans r r1) z hk
    have rN : m.R H1 (upd H1 k (.lst vs)) := m.grow e1.i.1 (same_new hk)
    have eX : ER (m.ext2 l k) K Γ σ (upd H1 k (.lst vs)) := e1.ext hk rN (by rw [upd_same]; exact fun z => nomatch z)
    have up : ∀ {vs' : List V} {ds : List D}, RpAll K (m.ext l).F H1 vs' ds → RpAll K (m.ext2 l k).F (upd H1 k (.lst vs)) vs' ds := fun rs => Rp.goAll (fun a o n q => ⟨fun z => z.elim n fun z => (by rw [z, hk] at q; cases q), same_new hk a o q⟩) rs
    exact kk k h0 k0 hlk i0 _ _ us vs (m.trans r (m.trans r1 rN)) (eX.set j (.adr k)) ((upd_ne hlk).trans hl1) upd_same (up ra1) (up rs) E ⟨fun _ _ _ _ _ _ _ o => o.elim, fun d v H' o r rv => M.rt d v H' o r rv⟩
/-- x, y = a new list, []; rest (the pair itself is not made) -/
theorem sq_two {i j : Nat} {O : Out} (h : EvL m K te Γ as) (kk : ∀ l k H0, SGp m K l k H0 tw ((Γ.set i (some (.adr l))).set j (some (.adr k))) as [] { nx := fun _ _ _ => False, rt := O.rt }) : SG m K (tSeq (tPar i j (tCons te (tCons (tLst tNil) tNil))) tw) Γ O := fun σ H e E M =>
  h σ H e _ fun l H1 us r1 hl rs => by
    have e1 := e.mv r1
    have rN : m.R H1 (upd H1 l (.lst us)) := m.grow e1.i (same_new hl)
    have eX : ER (m.ext l) K Γ σ (upd H1 l (.lst us)) := e1.ext hl rN (by rw [upd_same]; exact fun z => nomatch z)
    have rs' : RpAll K (m.ext l).F (upd H1 l (.lst us)) us as := Rp.goAll (fun a o n q => ⟨fun z => z.elim n fun z => (by rw [z, hl] at q; cases q), same_new hl a o q⟩) rs
    refine ⟨by decide, fun k hk => ?_⟩
    have hlk : l ≠ k := fun z => by rw [← z, upd_same] at hk; cases hk
    have k1 : H1 k = none := by rw [upd_ne (Ne.symm hlk)] at hk; exact hk
    have rK : m.R (upd H1 l (.lst us)) (upd (upd H1 l (.lst us)) k (.lst [])) := m.grow eX.i.1 (same_new hk)
    have eK : ER (m.ext2 l k) K Γ σ (upd (upd H1 l (.lst us)) k (.lst [])) := eX.ext hk rK (by rw [upd_same]; exact fun z => nomatch z)
    have rs2 : RpAll K (m.ext2 l k).F (upd (upd H1 l (.lst us)) k (.lst [])) us as := Rp.goAll (fun a o n q => ⟨fun z => z.elim n fun z => (by rw [z, hk] at q; cases q), same_new hk a o q⟩) rs'
    exact ⟨_, _, rfl, kk l k H1 hl k1 hlk e1.i _ _ us [] (m.trans rN rK) ((eK.set i (.adr l)).set j (.adr k)) ((upd_ne hlk).trans upd_same) upd_same rs2 .nil E ⟨fun _ _ _ _ _ _ _ o => o.elim, fun d v H' o r rv => M.rt d v H' o (m.trans r1 r) rv⟩⟩
/-- x, y = e, f; rest -/
theorem sq_par {i j : Nat} {O : Out} {T : List D → Prop} {tc : TA} (h : EvA m K tc Γ T) (k : ∀ ds, T ds → ∃ d e, ds = [d, e] ∧ SG m K tw ((Γ.set i (some d)).set j (some e)) O) : SG m K (tSeq (tPar i j tc) tw) Γ O := fun σ H e E M =>
  h σ H e _ fun vs ds H1 s r1 rs => by
    obtain ⟨a, b, rfl, q⟩ := k ds s
    cases rs with
    | cons r2 rs =>
      cases rs with
      | cons r3 rs =>
        cases rs
        exact ⟨_, _, rfl, q _ H1 (((e.mv r1).set i r2).set j r3) E (M.mv r1)⟩
/-- list(range(n)) -/
theorem en_rangeL {n : Nat} (h : Ev1 m K ta Γ (dN n)) (hn : n ≤ 1000) : Ev1 m K (tLstRg (tRg1 ta)) Γ (lstN (List.range n)) := fun σ H e Q q =>
  h σ H e _ fun v d H1 s r1 rv => by
    subst s
    have i1 := m.inv r1 e.i
    refine ⟨n, rv.intE, RgOk.of_le (by omega) (by omega) (by omega) (by omega), fun p hp => q _ _ _ rfl (m.trans r1 (m.grow i1 (same_new hp))) (rp_newL i1 hp ?_)⟩
    have : rgV 0 (n : Int) = (List.range n).map fun i : Nat => V.int (i : Int) := by
      unfold rgV
      have e : ((n : Int) - 0).toNat = n := by omega
      rw [e]
      exact List.map_congr_left fun i _ => by rw [Int.zero_add]
    rw [this]
    exact RpAll.map (f := fun i : Nat => V.int (i : Int)) (g := dN) (fun x => .int _) _
theorem ne_idx {t : Nat} : ∀ {ns : List Nat} {j : Nat} (h : j < ns.length), j < ns.idxOf t → ns[j] ≠ t
  | a :: ns, 0, _, h => fun z => by
    rw [List.getElem_cons_zero] at z
    subst z
    simp at h
  | a :: ns, j + 1, hl, h => by
    rw [List.getElem_cons_succ]
    rw [List.idxOf_cons] at h
    cases q : a == t with
    | true => rw [q] at h; simp at h
    | false => rw [q] at h; exact ne_idx _ (by simpa using h)
/-- xs.index(x) -/
theorem en_index {ns : List Nat} {t : Nat} (ha : Ev1 m K ta Γ (lstN ns)) (hb : Ev1 m K tb Γ (dN t)) (ht : t ∈ ns) : Ev1 m K (tBM K "list" (rIndex K) ta (tCons tb tNil)) Γ (dN (ns.idxOf t)) := fun σ H e Q q =>
  ha σ H e _ fun v d H1 s r1 rv => by
    subst s
    obtain ⟨a, vs, rfl, hA, rs⟩ := rv.lstE
    refine ⟨.inl ⟨rfl, vs, SqL.of hA⟩, hb σ H1 (e.mv r1) _ fun y dy H2 s r2 ry => ?_⟩
    subst s
    obtain rfl := ry.intE
    have i1 := m.inv r1 e.i
    rw [show ns.map dN = (ns.map fun k : Nat => (k : Int)).map D.int from dN_ints ns] at rs
    have ev := rs.ints
    have hA2 : H2 a = some (.lst vs) := by
      cases rv with
      | lst n h t => exact m.keep r2 i1 a _ n hA
    have hlt := List.idxOf_lt_length_iff.mpr ht
    have at_ : ∀ j : Nat, vs[j]? = (ns[j]?).map fun k : Nat => V.int (k : Int) := fun j => by rw [ev, List.getElem?_map, List.getElem?_map, Option.map_map]; rfl
    refine ⟨a, vs, .int (t : Int), ns.idxOf t, .int (t : Int), rfl, rfl, SqL.of hA2, rfl, ?_, ?_, ?_, fun j z hj hz => ?_, q _ _ H2 rfl (m.trans r1 r2) (.int _)⟩
    · rw [ev, List.all_eq_true]
      intro x hx
      obtain ⟨y, _, rfl⟩ := List.mem_map.mp hx
      rfl
    · rw [at_, List.getElem?_eq_getElem hlt, List.getElem_idxOf hlt]; rfl
    · simp [eqV]
    · rw [at_, List.getElem?_eq_getElem (by omega)] at hz
      injection hz with hz
      subst hz
      have : ns[j] ≠ t := ne_idx _ (by omega)
      simp [eqV]
      omega
end
end Tx
namespace Tx
open PySem L2
section
variable {K : PySem.W.Frag} {m : Mo} {Γ : G} {te : TE} {d : D} {ds : List D} {l : Addr} {H0 : Hp} {O : OutO}
/-- y = e, while a list is one's own, which e does not read -/
theorem so_asg {i : Nat} (h : Ev1 (m.ext l) K te Γ d) (k : O.nx (Γ.set i (some d)) ds) : SGo m K l H0 (tAsg te (gName i)) Γ ds O := fun h0 i0 σ H vs r e hl ra E M =>
  h σ H e _ fun v d' H1 s r1 rv => by
    subst s
    have e1 : ER (m.ext l) K Γ σ H1 := e.mv (m := m.ext l) r1
    exact M.nx _ _ _ H1 vs k (m.trans r r1) (fun a o n q => (m.ext l).keep r1 e.i a o n q) (e1.set i rv) (m.keep r1 e.i.1 l _ (nFl h0 i0) hl) (ra.mv ((m.ext l).keep r1 e.i))
end
end Tx

set_option Elab.async false
set_option linter.all false
set_option maxRecDepth 100000
set_option maxHeartbeats 2000000
set_option autoImplicit false
/-! Tx: dicts whose keys are tuples of numbers and of such tuples -/
namespace Tx
open PySem PySem.Spec PyProof.Rows L2
mutual
def kd : D → NestedKey
  | .int i => .num i
  | .tup xs => .tup (kds xs)
  | _ => .none
def kds : List D → List NestedKey
  | [] => []
  | x :: xs => kd x :: kds xs
end
theorem kds_map : ∀ xs : List D, kds xs = xs.map kd
  | [] => rfl
  | x :: xs => by rw [kds, kds_map xs]; rfl
def kok : Nat → D → Bool
  | _, .int _ => true
  | n + 1, .tup xs => xs.all (kok n)
  | _, _ => false
theorem kok_off : ∀ {n : Nat} {d : D}, kok n d = true → (∃ i, d = .int i) ∨ ∃ m xs, n = m + 1 ∧ d = .tup xs ∧ ∀ x ∈ xs, kok m x = true
  | n, .int i, _ => .inl ⟨i, rfl⟩
  | n + 1, .tup xs, h => .inr ⟨n, xs, rfl, rfl, List.all_eq_true.mp h⟩
  | 0, .tup _, h => by cases h
  | 0, .non, h => by cases h
  | 0, .bl _, h => by cases h
  | 0, .str _, h => by cases h
  | 0, .lst _, h => by cases h
  | 0, .obj _ _ _, h => by cases h
  | 0, .adr _, h => by cases h
  | 0, .dic, h => by cases h
  | 0, .frl _, h => by cases h
  | 0, .ftp _, h => by cases h
  | 0, .dct _ _ _, h => by cases h
  | _ + 1, .non, h => by cases h
  | _ + 1, .bl _, h => by cases h
  | _ + 1, .str _, h => by cases h
  | _ + 1, .lst _, h => by cases h
  | _ + 1, .obj _ _ _, h => by cases h
  | _ + 1, .adr _, h => by cases h
  | _ + 1, .dic, h => by cases h
  | _ + 1, .frl _, h => by cases h
  | _ + 1, .ftp _, h => by cases h
  | _ + 1, .dct _ _ _, h => by cases h
theorem kd_inj : ∀ (n : Nat) {m : Nat} {a b : D}, kok n a = true → kok m b = true → kd a = kd b → a = b := fun n => by
  induction n with
  | zero =>
    intro m a b ha hb e
    rcases kok_off ha with ⟨i, rfl⟩ | ⟨_, _, z, _⟩
    · rcases kok_off hb with ⟨j, rfl⟩ | ⟨_, ys, rfl, rfl, _⟩
      · rw [kd, kd] at e; injection e with e; rw [e]
      · rw [kd, kd] at e; cases e
    · cases z
  | succ n ih =>
    intro m a b ha hb e
    rcases kok_off ha with ⟨i, rfl⟩ | ⟨n', xs, z, rfl, hx⟩
    · rcases kok_off hb with ⟨j, rfl⟩ | ⟨_, ys, rfl, rfl, _⟩
      · rw [kd, kd] at e; injection e with e; rw [e]
      · rw [kd, kd] at e; cases e
    · cases z
      rcases kok_off hb with ⟨j, rfl⟩ | ⟨k, ys, rfl, rfl, hy⟩
      · rw [kd, kd] at e; cases e
      · rw [kd, kd] at e
        injection e with e
        congr 1
        have go : ∀ {xs ys : List D}, (∀ x ∈ xs, kok n x = true) → (∀ y ∈ ys, kok k y = true) → kds xs = kds ys → xs = ys := fun {xs} => by
          induction xs with
          | nil => intro ys _ _ e; cases ys with | nil => rfl | cons y ys => rw [kds, kds] at e; cases e
          | cons x xs ihx =>
            intro ys hx hy e
            cases ys with
            | nil => rw [kds, kds] at e; cases e
            | cons y ys =>
              rw [kds, kds] at e
              injection e with e1 e2
              rw [ih (hx x List.mem_cons_self) (hy y List.mem_cons_self) e1, ihx (fun z hz => hx z (List.mem_cons_of_mem _ hz)) (fun z hz => hy z (List.mem_cons_of_mem _ hz)) e2]
        exact go hx hy e
theorem kd_depth : ∀ (n : Nat) {d : D}, kok n d = true → (kd d).depth ≤ n := fun n => by
  induction n with
  | zero =>
    intro d h
    rcases kok_off h with ⟨i, rfl⟩ | ⟨_, _, z, _⟩
    · rw [kd, NestedKey.depth]; omega
    · cases z
  | succ n ih =>
    intro d h
    rcases kok_off h with ⟨i, rfl⟩ | ⟨n', xs, z, rfl, hx⟩
    · rw [kd, NestedKey.depth]; omega
    · cases z
      rw [kd, NestedKey.depth]
      have go : ∀ {xs : List D}, (∀ x ∈ xs, kok n x = true) → NestedKey.depthAll (kds xs) ≤ n := fun {xs} => by
        induction xs with
        | nil => intro _; rw [kds, NestedKey.depthAll]; omega
        | cons x xs ihx =>
          intro hx
          rw [kds, NestedKey.depthAll]
          have h1 := ih (hx x List.mem_cons_self)
          have h2 := ihx fun z hz => hx z (List.mem_cons_of_mem _ hz)
          omega
      have := go hx
      omega
section
variable {X : Cx} {pins : List (Addr × Obj)} {σ : L2.St} {H : Hp} {s : Shared} {F : Addr → Prop}
theorem nest_of (I : Inv X pins σ H s) : ∀ (n : Nat) {d : D} {v : V} {u : Value}, kok n d = true → Rp X.K F H v d → RelV v u → NestedIs s.heap (kd d) u := fun n => by
  induction n with
  | zero =>
    intro d v u h r ru
    rcases kok_off h with ⟨i, rfl⟩ | ⟨_, _, z, _⟩
    · obtain rfl := r.intE
      obtain ⟨t, rfl⟩ := ru
      rw [kd]
      exact .int _ _
    · cases z
  | succ n ih =>
    intro d v u h r ru
    rcases kok_off h with ⟨i, rfl⟩ | ⟨n', xs, z, rfl, hx⟩
    · obtain rfl := r.intE
      obtain ⟨t, rfl⟩ := ru
      rw [kd]
      exact .int _ _
    · cases z
      obtain ⟨a, vs, rfl, hs, ra⟩ := r.tupE
      cases ru
      obtain ⟨its, rv, ⟨o, ho, hc, m, hd⟩, _⟩ := I.tuple hs
      rw [kd]
      refine .tup ho hc hd ?_
      have go : ∀ {xs : List D} {vs : List V} {us : List Value}, (∀ x ∈ xs, kok n x = true) → RpAll X.K F H vs xs → Vals vs us → NestedAll s.heap (kds xs) us := fun {xs} => by
        induction xs with
        | nil => intro vs us _ r rv; cases r; cases rv; rw [kds]; exact .nil
        | cons x xs ihx =>
          intro vs us hx r rv
          cases r with
          | cons r1 r2 =>
            cases rv with
            | cons v1 v2 =>
              rw [kds]
              exact .cons (ih (hx x List.mem_cons_self) r1 v1) (ihx (fun z hz => hx z (List.mem_cons_of_mem _ hz)) r2 v2)
      exact go hx ra rv
/-- what may be a key here -/
def kkey (d : D) : Prop := kok 6 d = true ∧ ∃ ts, d = .tup ts
/-- what a dict's keys are -/
structure DOk (w : World) (hs : List Int) (ks : List D) : Prop where
  key : ∀ k ∈ ks, kkey k
  hash : hs = ks.map fun k => (kd k).hash w
  nd : (ks.map kd).Nodup
theorem key_is (I : Inv X pins σ H s) {d : D} {v : V} {u : Value} (h : kkey d) (r : Rp X.K F H v d) (ru : RelV v u) : ∃ b, v = .ref b ∧ u = .ref b ∧ (nestedKind X.prog X.w).is s.heap (kd d) b := by
  obtain ⟨h1, ts, rfl⟩ := h
  obtain ⟨b, vs, rfl, _, _⟩ := r.tupE
  have q := nest_of I 6 h1 r ru
  cases ru
  exact ⟨b, rfl, rfl, q, Nat.le_trans (kd_depth 6 h1) (by decide)⟩
abbrev EntR (e : Int × V × V) (x : DictEntry) : Prop := x.hash = e.1 ∧ RelV e.2.1 x.key ∧ RelV e.2.2 x.val
theorem mk_xs (I : Inv X pins σ H s) : ∀ {es : List (Int × V × V)} {ents : List DictEntry} {ks : List D}, Paired EntR es ents → RpAll X.K F H (es.map (·.2.1)) ks → (∀ k ∈ ks, kkey k) → es.map (·.1) = (ks.map fun k => (kd k).hash X.w) →
    ∃ xs : List (NestedKey × Addr × Value), ents = xs.map (entryOfKey (nestedKind X.prog X.w)) ∧ (∀ x ∈ xs, (nestedKind X.prog X.w).is s.heap x.1 x.2.1) ∧ xs.map (·.1) = ks.map kd ∧ Paired (fun (e : Int × V × V) (x : NestedKey × Addr × Value) => e.2.1 = V.ref x.2.1 ∧ RelV e.2.2 x.2.2) es xs := fun {es} => by
  induction es with
  | nil =>
    intro ents ks p r _ _
    cases p
    cases ks with
    | nil => exact ⟨[], rfl, (fun x hx => nomatch hx), rfl, .nil⟩
    | cons k ks => cases r
  | cons e es ih =>
    intro ents ks p r hk hh
    cases p with
    | @cons _ x _ ents p ps =>
      cases ks with
      | nil => cases r
      | cons k ks =>
        rw [List.map_cons] at r
        cases r with
        | cons r1 r2 =>
          rw [List.map_cons, List.map_cons] at hh
          injection hh with h1 h2
          obtain ⟨xs, e1, e2, e3, e4⟩ := ih ps r2 (fun z hz => hk z (List.mem_cons_of_mem _ hz)) h2
          obtain ⟨p1, p2, p3⟩ := p
          obtain ⟨b, q1, q2, q3⟩ := key_is I (hk k List.mem_cons_self) r1 p2
          refine ⟨(kd k, b, x.val) :: xs, ?_, (fun z hz => ?_), by rw [List.map_cons, List.map_cons, e3], .cons ⟨q1, p3⟩ e4⟩
          · rw [List.map_cons, ← e1]
            congr 1
            unfold entryOfKey
            obtain ⟨hh, kk, vv⟩ := x
            simp only at p1 q2
            rw [p1, h1, q2]
            rfl
          · rcases List.mem_cons.mp hz with rfl | hz
            · exact q3
            · exact e2 z hz
theorem dict_at (I : Inv X pins σ H s) {a : Addr} {es : List (Int × V × V)} {ep : Nat} {hs : List Int} {ks : List D} (hD : H a = some (.ext (isDict a es ep))) (he : es.map (·.1) = hs) (hk : RpAll X.K F H (es.map (·.2.1)) ks) (ok : DOk X.w hs ks) :
    ∃ xs : List (NestedKey × Addr × Value), s.heap.DictOfH (nestedKind X.prog X.w) a xs ∧ xs.map (·.1) = ks.map kd ∧ Paired (fun (e : Int × V × V) (x : NestedKey × Addr × Value) => e.2.1 = V.ref x.2.1 ∧ RelV e.2.2 x.2.2) es xs ∧ (a == sysModules) = false ∧ es.length ≤ 10000 := by
  obtain ⟨⟨o, ents, ho, hx, hd, hsm, hl, pr⟩, _⟩ := (show ObjOk X.prog X.w H s.heap a (.ext (isDict a es ep)) from I.hok a _ hD)
  obtain ⟨xs, e1, e2, e3, e4⟩ := mk_xs I pr hk ok.key (he.trans ok.hash)
  exact ⟨xs, ⟨o, ents, ep, ho, hx, hd, e1, e2, by rw [e3]; exact ok.nd⟩, e3, e4, hsm, hl⟩
theorem atKey_iff {xs : List (NestedKey × Addr × Value)} {k : NestedKey} : (atKey xs k).isSome = decide (k ∈ xs.map (·.1)) := by
  unfold atKey
  rw [Option.isSome_map, Bool.eq_iff_iff, List.find?_isSome, decide_eq_true_iff, List.mem_map]
  constructor
  · rintro ⟨x, hx, e⟩
    exact ⟨x, hx, of_decide_eq_true e⟩
  · rintro ⟨x, hx, e⟩
    exact ⟨x, hx, decide_eq_true e⟩
/-- k in d -/
def rInD (K : PySem.W.Frag) (w : World) : R2 := fun x y H Q => ∃ (F : Addr → Prop) (hs : List Int) (ks vs : List D) (k : D), Rp K F H x k ∧ Rp K F H y (.dct hs ks vs) ∧ DOk w hs ks ∧ kkey k ∧ Q (.bl (decide (kd k ∈ ks.map kd))) H
theorem op_inD (hu : X.A.units + 64 < cLine) : OpR X (compareOp .In) (rInD X.K X.w) := by
  intro pins s σ H x y v u Q I rx ry q0
  obtain ⟨F, hs, ks, vs, k, rk, rd, ok, hk, q⟩ := q0
  obtain ⟨b, rfl, rfl, hb⟩ := key_is I hk rk rx
  cases rd with
  | dct nf hD he r1 r2 =>
    cases ry
    obtain ⟨xs, hm, e1, _, hsm, _⟩ := dict_at I hD he r1 ok
    exact wpAny_in_heap (show X.A.in1.units + 8 < cLine by have z : X.A.in1.units = X.A.units + 1 := rfl; omega) hb hsm hm ⟨.bl _, H, I.tok _, by rw [atKey_iff, e1]; rfl, q⟩
end
end Tx

set_option Elab.async false
set_option linter.all false
set_option maxRecDepth 100000
set_option maxHeartbeats 2000000
set_option autoImplicit false
/-! Tx: dicts with such keys: {}, d[k], d[k] = v, setdefault, tuple(d.values()) -/
namespace Tx
open PySem PySem.Spec PyProof.Rows L2
abbrev Ent := Int × V × V
abbrev dO (a : Addr) (es : List Ent) (ep : Nat) : HO := .ext (isDict a es ep)
theorem dO_ok {P : Program} {w : World} {H : Hp} {h : Heap} {a : Addr} {es : List Ent} {ep : Nat} (z : isDict a es ep h) : ObjOk P w H h a (dO a es ep) := by
  have ⟨o, _, ho, _⟩ := z
  exact ⟨z, ⟨o, ho⟩, fun h1 h2 q k => let ⟨o, c, e, r⟩ := q; ⟨o, c, k o e, r⟩⟩
theorem dO_at {P : Program} {w : World} {H : Hp} {h : Heap} {a : Addr} {es : List Ent} {ep : Nat} (ok : HOk P w H h) (e : H a = some (dO a es ep)) : isDict a es ep h := (show ObjOk P w H h a (dO a es ep) from ok a _ e).1
theorem pAt {α β : Type} {G : α → β → Prop} : ∀ {as : List α} {bs : List β}, Paired G as bs → ∀ {j : Nat} {b : β}, bs[j]? = some b → ∃ a, as[j]? = some a ∧ G a b
  | _, _, .nil, _, _, e => by simp at e
  | _, _, .cons p _, 0, _, e => by simp at e; exact ⟨_, rfl, e ▸ p⟩
  | _, _, .cons _ q, j + 1, _, e => by
    obtain ⟨a, h1, h2⟩ := pAt q (j := j) (by simpa using e)
    exact ⟨a, by simpa using h1, h2⟩
theorem isDict_raw {a : Addr} {es : List Ent} {ep : Nat} {h : Heap} (z : isDict a es ep h) : ∃ ents, h.DictRaw a ents ep ∧ (a == sysModules) = false ∧ es.length ≤ 10000 ∧ Paired EntR es ents.toList := by
  obtain ⟨o, ents, h1, h2, h3, h4, h5, h6⟩ := z
  exact ⟨ents, ⟨o, h1, h2, h3⟩, h4, h5, h6⟩
theorem isDict_type {s : Shared} {a : Addr} {es : List Ent} {ep : Nat} (z : isDict a es ep s.heap) : s.TypeIs (.ref a) "dict" ∧ ∀ b, Value.ref a = .ref b → ∃ ob, s.heap.get? b = some ob ∧ ob.dict = none := by
  obtain ⟨o, ents, h1, h2, h3, _⟩ := z
  exact ⟨⟨o, h1, h2.1⟩, fun b e => by injection e with e; subst e; exact ⟨o, h1, h2.2.1⟩⟩
section
variable {X : Cx} {pins : List (Addr × Obj)} {σ : L2.St} {H : Hp} {s : Shared} {F : Addr → Prop} {a : Addr} {es : List Ent} {ep : Nat} {hs : List Int} {ks : List D} {k : D} {x y : V} {u r : Value}
/-- a new empty one -/
theorem inv_newD (I : Inv X pins σ H s) (tk : Nat) : Inv X pins σ (upd H s.heap.objs.size (dO s.heap.objs.size [] 0)) { s with heap := s.heap.push { cls := .type "dict", data := .dict #[] }, toks := tk } :=
  I.laid (t' := tk) (fun _ _ q => Heap.get?_push_of_some _ q) (Nat.le_refl _) (dO_ok ⟨_, #[], Heap.get?_push_size _ rfl, ⟨rfl, rfl, rfl⟩, rfl, beq_eq_false_iff_ne.mpr (Nat.ne_of_gt I.big), by decide, .nil⟩)
def tDNewH : TE := fun _ H Q => ∀ p, H p = none → Q (.ref p) (upd H p (dO p [] 0))
theorem pe_dnewH {pos : Pos} : PE X (.Dict [] [] pos) tDNewH := ⟨fun pins s σ H Q I h => wpAny_Dict_empty ⟨.ref s.heap.objs.size, _, inv_newD I s.toks, rfl, h _ (I.hok.fresh (Nat.le_refl _))⟩⟩
/-- a key more -/
theorem ents_more {xs : List (NestedKey × Addr × Value)} {b : Addr} {kk : NestedKey} {ents : Array DictEntry} (e : ents.toList = (xs ++ [(kk, b, r)]).map (entryOfKey (nestedKind X.prog X.w))) (h0 : es.map (·.1) = xs.map fun z => z.1.hash X.w) (p : Paired (fun (e : Ent) (x : NestedKey × Addr × Value) => e.2.1 = V.ref x.2.1 ∧ RelV e.2.2 x.2.2) es xs) (rv : RelV y r) : Paired EntR (es ++ [(kk.hash X.w, .ref b, y)]) ents.toList := by
  rw [e]
  clear e
  induction p with
  | nil => exact .cons ⟨rfl, rfl, rv⟩ .nil
  | @cons e0 x0 es xs p ps ih =>
    rw [List.map_cons, List.map_cons] at h0
    injection h0 with h1 h2
    exact .cons ⟨h1.symm, by rw [p.1]; rfl, p.2⟩ (ih h2)
theorem put_back {h' : Heap} {b : Addr} {xs : List (NestedKey × Addr × Value)} (hm : h'.DictOfH (nestedKind X.prog X.w) a (xs ++ [(kd k, b, r)])) (h0 : es.map (·.1) = xs.map fun z => z.1.hash X.w) (p : Paired (fun (e : Ent) (x : NestedKey × Addr × Value) => e.2.1 = V.ref x.2.1 ∧ RelV e.2.2 x.2.2) es xs) (rv : RelV y r) (hsm : (a == sysModules) = false) (hl : es.length < 10000) :
    ∃ ep', isDict a (es ++ [((kd k).hash X.w, .ref b, y)]) ep' h' := by
  obtain ⟨o, ents, ep, h1, h2, h3, h4, _, _⟩ := hm
  exact ⟨ep, o, ents, h1, h2, h3, hsm, by rw [List.length_append]; simp; omega, ents_more h4 h0 p rv⟩
theorem hash_xs {xs : List (NestedKey × Addr × Value)} (he : es.map (·.1) = hs) (e : xs.map (·.1) = ks.map kd) (ok : DOk X.w hs ks) : es.map (·.1) = xs.map fun z => z.1.hash X.w := by
  rw [he, ok.hash, show (xs.map fun z => z.1.hash X.w) = (xs.map (·.1)).map (NestedKey.hash X.w) from by rw [List.map_map]; rfl, e, List.map_map]; rfl
/-- d[k] = v, k not there -/
theorem put_ok {E : Value → Shared → Prop} {A : Around} {Q : Unit → Shared → Prop} (hu : A.units + 8 < cLine) (I : Inv X pins σ H s) (hD : H a = some (dO a es ep)) (he : es.map (·.1) = hs) (hk : RpAll X.K F H (es.map (·.2.1)) ks) (ok : DOk X.w hs ks) (kk : kkey k) (rk : Rp X.K F H x k) (rx : RelV x u) (rv : RelV y r) (new : kd k ∉ ks.map kd) (hl : es.length < 10000)
    (h : ∀ ep' s', Inv X pins σ (upd H a (dO a (es ++ [((kd k).hash X.w, x, y)]) ep')) s' → Q () s') : wpAny (model X.prog X.w) A (dictSet a u r) Q E s := by
  obtain ⟨b, rfl, rfl, hb⟩ := key_is I kk rk rx
  obtain ⟨xs, hm, e1, e2, hsm, _⟩ := dict_at I hD he hk ok
  have lx : xs.length = es.length := (Paired.length e2).symm
  have none_ : atKey xs (kd k) = none := by
    have z := @atKey_iff xs (kd k)
    rw [e1, decide_eq_false new] at z
    exact Option.not_isSome_iff_eq_none.mp (by rw [z]; exact Bool.false_ne_true)
  refine wpAny_dictSet_heap (by exact hu) hb hm (fun h' hm' same => ?_) (by rw [lx, sizeLine_eq]; omega)
  rw [storedH_new none_] at hm'
  obtain ⟨ep', z⟩ := put_back hm' (hash_xs he e1 ok) e2 rv hsm hl
  have ⟨o, _, ho, _⟩ := z
  exact h ep' _ (I.write (e := a) (by rw [hD]; trivial) (.inl rfl) (fun c u ne q => (same.2 c ne).trans q) ⟨o, ho⟩ (dO_ok z))
theorem getK {xs : List (NestedKey × Addr × Value)} (hm : s.heap.DictOfH (nestedKind X.prog X.w) a xs) (e1 : xs.map (·.1) = ks.map kd) (e2 : Paired (fun (e : Ent) (x : NestedKey × Addr × Value) => e.2.1 = V.ref x.2.1 ∧ RelV e.2.2 x.2.2) es xs) {j : Nat} (hj : ks[j]? = some k) : ∃ e p, es[j]? = some e ∧ atKey xs (kd k) = some p ∧ RelV e.2.2 p.2 := by
  obtain ⟨o, _, _, _, _, _, _, _, nd⟩ := hm
  have z : (xs.map (·.1))[j]? = some (kd k) := by rw [e1, List.getElem?_map, hj]; rfl
  rw [List.getElem?_map] at z
  obtain ⟨x, hx, ex⟩ := Option.map_eq_some_iff.mp z
  obtain ⟨e, he, _, rv⟩ := pAt e2 hx
  obtain ⟨x1, x2⟩ := x
  exact ⟨e, x2, he, atKey_of_get nd (by rw [hx]; simp only at ex; rw [ex]), rv⟩
/-! a key that is there -/
theorem set_at {r : Value} : ∀ {xs : List (NestedKey × Addr × Value)}, (xs.map (·.1)).Nodup → ∀ {j : Nat} {x : NestedKey × Addr × Value}, xs[j]? = some x → xs.map (putAt x.1 r) = xs.set j (x.1, x.2.1, r)
  | [], _, j, x, h => by simp at h
  | y :: ys, nd, 0, x, h => by
    simp only [List.getElem?_cons_zero, Option.some.injEq] at h
    subst h
    rw [List.map_cons, List.nodup_cons] at nd
    rw [List.map_cons, map_putAt_of_not_mem ys y.1 r nd.1, putAt, if_pos rfl]
    rfl
  | y :: ys, nd, j + 1, x, h => by
    simp only [List.getElem?_cons_succ] at h
    rw [List.map_cons, List.nodup_cons] at nd
    have ne : y.1 ≠ x.1 := fun z => nd.1 (z ▸ List.mem_map.mpr ⟨x, List.mem_of_getElem? h, rfl⟩)
    rw [List.map_cons, set_at nd.2 h, putAt, if_neg ne]
    rfl
theorem paired_set {α β : Type} {G : α → β → Prop} : ∀ {as : List α} {bs : List β}, Paired G as bs → ∀ {j : Nat} {a : α} {b : β}, G a b → Paired G (as.set j a) (bs.set j b)
  | _, _, .nil, _, _, _, _ => .nil
  | _, _, .cons _ q, 0, _, _, g => .cons g q
  | _, _, .cons p q, j + 1, _, _, g => .cons p (paired_set q g)
theorem ents_all {xs : List (NestedKey × Addr × Value)} {ents : Array DictEntry} (e : ents.toList = xs.map (entryOfKey (nestedKind X.prog X.w))) (h0 : es.map (·.1) = xs.map fun z => z.1.hash X.w) (p : Paired (fun (e : Ent) (x : NestedKey × Addr × Value) => e.2.1 = V.ref x.2.1 ∧ RelV e.2.2 x.2.2) es xs) : Paired EntR es ents.toList := by
  rw [e]
  clear e
  induction p with
  | nil => exact .nil
  | @cons e0 x0 es xs p ps ih =>
    rw [List.map_cons, List.map_cons] at h0
    injection h0 with h1 h2
    exact .cons ⟨h1.symm, by rw [p.1]; rfl, p.2⟩ (ih h2)
theorem set_self' {α : Type} : ∀ {xs : List α} {j : Nat} {x : α}, xs[j]? = some x → xs.set j x = xs
  | [], _, _, h => by simp at h
  | y :: ys, 0, x, h => by simp only [List.getElem?_cons_zero, Option.some.injEq] at h; subst h; rfl
  | y :: ys, j + 1, x, h => by simp only [List.getElem?_cons_succ] at h; rw [List.set_cons_succ, set_self' h]
theorem put_old {h' : Heap} {xs : List (NestedKey × Addr × Value)} {j : Nat} {e0 : Ent} {kx : NestedKey × Addr × Value} (hm : h'.DictOfH (nestedKind X.prog X.w) a (xs.map (putAt kx.1 r))) (nd : (xs.map (·.1)).Nodup) (hx : xs[j]? = some kx) (he0 : es[j]? = some e0) (h0 : es.map (·.1) = xs.map fun z => z.1.hash X.w) (p : Paired (fun (e : Ent) (x : NestedKey × Addr × Value) => e.2.1 = V.ref x.2.1 ∧ RelV e.2.2 x.2.2) es xs) (rv : RelV y r) (hsm : (a == sysModules) = false) (hl : es.length ≤ 10000) :
    ∃ ep', isDict a (es.set j (e0.1, e0.2.1, y)) ep' h' := by
  obtain ⟨o, ents, ep, h1, h2, h3, h4, _, _⟩ := hm
  rw [set_at nd hx] at h4
  obtain ⟨e1, q1, q2, q3⟩ := pAt p hx
  rw [he0] at q1
  injection q1 with q1
  subst q1
  refine ⟨ep, o, ents, h1, h2, h3, hsm, by rw [List.length_set]; exact hl, ents_all (X := X) h4 ?_ (paired_set p ⟨q2, rv⟩)⟩
  rw [List.map_set, set_self' (by rw [List.getElem?_map, he0]; rfl), h0, List.map_set, set_self' (by rw [List.getElem?_map, hx]; rfl)]
/-- d[k] = v -/
theorem put_any {E : Value → Shared → Prop} {A : Around} {Q : Unit → Shared → Prop} (hu : A.units + 8 < cLine) (I : Inv X pins σ H s) (hD : H a = some (dO a es ep)) (he : es.map (·.1) = hs) (hk : RpAll X.K F H (es.map (·.2.1)) ks) (ok : DOk X.w hs ks) (kk : kkey k) (rk : Rp X.K F H x k) (rx : RelV x u) (rv : RelV y r) (hl : es.length < 10000)
    (hn : kd k ∉ ks.map kd → ∀ ep' s', Inv X pins σ (upd H a (dO a (es ++ [((kd k).hash X.w, x, y)]) ep')) s' → Q () s')
    (ho : ∀ (j : Nat) (e0 : Ent), ks[j]? = some k → es[j]? = some e0 → ∀ ep' s', Inv X pins σ (upd H a (dO a (es.set j (e0.1, e0.2.1, y)) ep')) s' → Q () s') : wpAny (model X.prog X.w) A (dictSet a u r) Q E s := by
  by_cases new : kd k ∈ ks.map kd
  · obtain ⟨k2, hk2, ek⟩ := List.mem_map.mp new
    have e3 : k2 = k := kd_inj 6 (ok.key k2 hk2).1 kk.1 ek
    rw [e3] at hk2
    obtain ⟨j, hj⟩ := List.mem_iff_getElem?.mp hk2
    obtain ⟨b, rfl, rfl, hb⟩ := key_is I kk rk rx
    obtain ⟨xs, hm, e1, e2, hsm, _⟩ := dict_at I hD he hk ok
    have lx : xs.length = es.length := (Paired.length e2).symm
    have nd : (xs.map (·.1)).Nodup := by rw [e1]; exact ok.nd
    have z : (xs.map (·.1))[j]? = some (kd k) := by rw [e1, List.getElem?_map, hj]; rfl
    rw [List.getElem?_map] at z
    obtain ⟨kx, hx, ex⟩ := Option.map_eq_some_iff.mp z
    obtain ⟨e0, he0, _, _⟩ := pAt e2 hx
    refine wpAny_dictSet_heap (by exact hu) hb hm (fun h' hm' same => ?_) (by rw [lx, sizeLine_eq]; omega)
    rw [storedH_old (atKey_of_get nd (show xs[j]? = some (kd k, kx.2) from by rw [hx, ← ex])) b r, ← ex] at hm'
    obtain ⟨ep', z⟩ := put_old (X := X) hm' nd hx he0 (hash_xs he e1 ok) e2 rv hsm (by omega)
    have ⟨o, _, ho', _⟩ := z
    exact ho j e0 hj he0 ep' _ (I.write (e := a) (by rw [hD]; trivial) (.inl rfl) (fun c u ne q => (same.2 c ne).trans q) ⟨o, ho'⟩ (dO_ok z))
  · exact put_ok hu I hD he hk ok kk rk rx rv new hl (hn new)
/-- setdefault as a call -/
theorem setd_ok {E : Value → Shared → Prop} {A : Around} {Q : Value → Shared → Prop} (hu : A.units + 16 < cLine) (I : Inv X pins σ H s) (hD : H a = some (dO a es ep)) (he : es.map (·.1) = hs) (hk : RpAll X.K F H (es.map (·.2.1)) ks) (ok : DOk X.w hs ks) (kk : kkey k) (rk : Rp X.K F H x k) (rx : RelV x u) (rv : RelV y r) (hl : es.length < 10000)
    (h1 : ∀ (j : Nat) (e : Ent), ks[j]? = some k → es[j]? = some e → ∀ (v : Value) (s' : Shared), Inv X pins σ H s' → RelV e.2.2 v → Q v s') (h2 : kd k ∉ ks.map kd → ∀ ep' s', Inv X pins σ (upd H a (dO a (es ++ [((kd k).hash X.w, x, y)]) ep')) s' → Q r s') : wpAny (model X.prog X.w) A (call (.builtin "dict.setdefault") [.ref a, u, r]) Q E s := by
  obtain ⟨b, rfl, rfl, hb⟩ := key_is I kk rk rx
  obtain ⟨xs, hm, e1, e2, hsm, _⟩ := dict_at I hD he hk ok
  have lx : xs.length = es.length := (Paired.length e2).symm
  refine call_setdefault_heap (show A.in1.units + 8 < cLine by have z : A.in1.units = A.units + 1 := rfl; omega) hb hsm hm (fun p hp => ?_) (fun none_ h' hm' same => ?_) (by rw [lx, sizeLine_eq]; omega)
  · have z : kd k ∈ ks.map kd := by
      have q := @atKey_iff xs (kd k)
      rw [hp, e1] at q
      exact of_decide_eq_true q.symm
    obtain ⟨k2, hk2, ek⟩ := List.mem_map.mp z
    have e3 : k2 = k := kd_inj 6 (ok.key k2 hk2).1 kk.1 ek
    rw [e3] at hk2
    obtain ⟨j, hj⟩ := List.mem_iff_getElem?.mp hk2
    obtain ⟨e, p2, he2, hp2, rv2⟩ := getK hm e1 e2 hj
    rw [hp] at hp2
    injection hp2 with hp2
    subst hp2
    exact h1 j e hj he2 _ _ (I.tok _) rv2
  · rw [storedH_new none_] at hm'
    obtain ⟨ep', z⟩ := put_back hm' (hash_xs he e1 ok) e2 rv hsm hl
    have ⟨o, _, ho, _⟩ := z
    refine h2 (fun z => ?_) ep' _ (I.write (e := a) (by rw [hD]; trivial) (.inl rfl) (fun c u ne q => (same.2 c ne).trans q) ⟨o, ho⟩ (dO_ok ‹_›))
    have q := @atKey_iff xs (kd k)
    rw [none_, e1, decide_eq_true z] at q
    cases q
def tDSd (K : PySem.W.Frag) (w : World) (td ty tx : TE) : TE := fun σ H Q => td σ H fun x H1 => ∃ a, x = .ref a ∧ (∃ es ep, H1 a = some (dO a es ep)) ∧ ty σ H1 fun y H2 => tx σ H2 fun z H3 => ∃ (F : Addr → Prop) (es : List Ent) (ep : Nat) (hs : List Int) (ks : List D) (k : D), H3 a = some (dO a es ep) ∧ es.map (·.1) = hs ∧ RpAll K F H3 (es.map (·.2.1)) ks ∧ DOk w hs ks ∧ kkey k ∧ Rp K F H3 y k ∧ es.length < 10000 ∧
  (∀ (j : Nat) (e : Ent), ks[j]? = some k → es[j]? = some e → Q e.2.2 H3) ∧ (kd k ∉ ks.map kd → ∀ ep', Q z (upd H3 a (dO a (es ++ [((kd k).hash w, y, z)]) ep')))
theorem pe_dsd {o e f : Expr} {td ty tx : TE} {apos cpos : Pos} (hu : X.A.units + 64 < cLine) (ho : PE X o td) (h1 : PE X e ty) (h2 : PE X f tx) (m : M2 X o "setdefault" apos e f cpos) : PE X (.Call (.Attribute o "setdefault" apos) [e, f] [] cpos) (tDSd X.K X.w td ty tx) := by
  refine ⟨fun pins s σ H Q I h => wpAny_Call_method m.base m.few m.line PySem.F.plainAttrs_dict PySem.F.slot_dict_setdefault PySem.F.type_dict_setdefault (thn (ho.run pins s σ H _ I h) fun u s1 ⟨x, H1, I1, rx, a, ex, ⟨es, ep, d⟩, q1⟩ => ?_)⟩
  subst ex
  cases rx
  obtain ⟨t1, t2⟩ := isDict_type (dO_at I1.hok d)
  refine ⟨t1, t2, ?_⟩
  rw [m.trees]
  refine Calls.callWith_builtin rfl (Calls.evalArgs_plain (Calls.spliced_cons (thn (h1.run pins s1 σ H1 _ I1 q1) fun iv s2 ⟨y, H2, I2, ry, q2⟩ => Calls.spliced_cons (thn (h2.run pins s2 σ H2 _ I2 q2) fun fv s3 ⟨z, H3, I3, rz, F, es, ep, hs, ks, k, a1, a2, a3, a4, a5, a6, a7, q3, q4⟩ => Calls.spliced_nil ?_))))
  exact setd_ok (by omega) I3 a1 a2 a3 a4 a5 a6 ry rz a7 (fun j e0 b1 b2 v s4 I4 rv => ⟨_, _, I4, rv, q3 j e0 b1 b2⟩) fun nw ep' s4 I4 => ⟨z, _, I4, rz, q4 nw ep'⟩
/-- d[k], there -/
def rIxD (K : PySem.W.Frag) (w : World) : R2 := fun x y H Q => ∃ (F : Addr → Prop) (a : Addr) (es : List Ent) (ep : Nat) (hs : List Int) (ks : List D) (k : D) (j : Nat) (e : Ent), x = .ref a ∧ H a = some (dO a es ep) ∧ es.map (·.1) = hs ∧ RpAll K F H (es.map (·.2.1)) ks ∧ DOk w hs ks ∧ kkey k ∧ Rp K F H y k ∧ ks[j]? = some k ∧ es[j]? = some e ∧ Q e.2.2 H
theorem ix_D (hu : X.A.units + 64 < cLine) : IxR X (rIxD X.K X.w) := by
  intro va sl pins s σ H x y v u Q I rx ry q hsub
  obtain ⟨F, a, es, ep, hs, ks, k, j, e, rfl, hD, he, hk, ok, kk, rk, hj, hje, q⟩ := q
  cases rx
  obtain ⟨b, rfl, rfl, hb⟩ := key_is I kk rk ry
  obtain ⟨xs, hm, e1, e2, hsm, _⟩ := dict_at I hD he hk ok
  obtain ⟨e', p, he', hp, rv⟩ := getK hm e1 e2 hj
  rw [hje] at he'
  injection he' with he'
  subst he'
  refine tail_any hm.typeIs slot_dict_getitem.lookup (wpAny_getItem_heap (show X.A.in1.units + 8 < cLine by have z : X.A.in1.units = X.A.units + 1 := rfl; omega) hb hm hp ⟨_, H, I.tok _, rv, q⟩) hsub
end
end Tx

set_option Elab.async false
set_option linter.all false
set_option maxRecDepth 100000
set_option maxHeartbeats 2000000
set_option autoImplicit false
/-! Tx: tuple(d.values()) -/
namespace TxDV
open PySem PySem.W PySem.Calls PyProof.Rows PyProof.V PySem.Spec
section
variable {prog : Program} {w : World} {A : Around} {E : Value → Shared → Prop} {s : Shared} {p a : Addr} {ents : Array DictEntry} {ep : Nat}
abbrev IsVal (ents : Array DictEntry) (i : Nat) (v : Value) : Prop := ∃ hi : i < ents.size, v = ents[i].val
theorem new_vals {Q1 : Value → Shared → Prop} (hh : A.handled = none) (hv : s.heap.IsValuesView p a) (hm : s.heap.DictRaw a ents ep) (hn : ents.size ≤ sizeLine)
    (h : ∀ (h1 : Heap) (tk : Nat) (acc : Array Value), (∀ b o, s.heap.get? b = some o → h1.get? b = some o) → ItemsOf (IsVal ents) acc ents.size → Q1 (.ref h1.objs.size) { s with heap := h1.push { cls := .type "tuple", data := .seq acc }, toks := tk }) : codeAny (model prog w) A (.call (.builtin "tuple.__new__") ⟨[.type "tuple", .ref p], []⟩) (wants Q1 E) s := by
  refine codeAny_of_tree (show wpAny _ A.in1 (do checkBuiltinCall "tuple.__new__" ⟨[.type "tuple", .ref p], []⟩; again (.builtin "tuple.__new__" ⟨[.type "tuple", .ref p], []⟩)) _ _ s from ?_)
  refine wpAny_bind (wpAny_of_eq (F.newCall_tuple_1 _) (wpAny_pure ⟨plainId_quiet F.plain_tuple_new _, codeAny_builtin F.entry_tuple_new ?_⟩))
  rw [Around.under_plainId F.plain_tuple_new _]
  have h1 := sub_tuple_self; have h2 := init_tuple_lookup; have h3 := madeHere_tuple
  have h4 : s.TypeIs (.ref p) "dict_values" := hv.typeIs
  have h5 : A.in1.handled = none := hh
  wp_walk using wpAny_typeOf h4, kdu_collect (A := A.in1) (KdlSrc.rawValues (prog := prog) (w := w) (r := p) (d := a) (es := ents) (ep := ep)) h5 ⟨hv, hm⟩ hn
  intro g tk acc hk hacc
  show wpAny _ _ (Builtin.Tuple.tupleExact acc.toList.toArray >>= fun v => ret v) _ _ _
  unfold Builtin.Tuple.tupleExact
  rw [Array.toArray_toList]
  exact wpAny_bind (wpAny_newObj_type (wpAny_pure (h g tk acc hk hacc)) (Nat.le_trans (Nat.le_of_eq hacc.1) hn))
theorem call_vals {Q : Value → Shared → Prop} (hh : A.handled = none) (hv : s.heap.IsValuesView p a) (hm : s.heap.DictRaw a ents ep) (hn : ents.size ≤ sizeLine)
    (hQ : ∀ (h1 : Heap) (tk : Nat) (acc : Array Value), (∀ b o, s.heap.get? b = some o → h1.get? b = some o) → ItemsOf (IsVal ents) acc ents.size → Q (.ref h1.objs.size) { s with heap := h1.push { cls := .type "tuple", data := .seq acc }, toks := tk }) : wpAny (model prog w) A (call (.type "tuple") [.ref p]) Q E s := by
  refine callType_codes (Q₁ := fun obj t => t.TypeIs obj "tuple" ∧ Q obj t) F.called_tuple (F.typeCall_tuple_1 _) F.entry_object_init (new_vals (A := A.in1) hh hv hm hn fun g tk acc hk hacc => ⟨⟨_, Heap.get?_push_size _ rfl, rfl⟩, hQ g tk acc hk hacc⟩) fun obj t z => ?_
  exact ⟨z.1, F.args_object_init_2 obj _, object_init_meets F.called_tuple.init.lookup F.called_tuple.made (by decide) prog w A.in1 _ t ⟨z.1, rfl, z.2⟩⟩
end
end TxDV
namespace Tx
open PySem PySem.Spec PyProof.Rows L2
/-- the values of the dict at a -/
def valO (p a : Addr) : HO := .ext fun h => h.IsValuesView p a
theorem valO_ok {P : Program} {w : World} {H : Hp} {h : Heap} {p a : Addr} (z : h.IsValuesView p a) : ObjOk P w H h p (valO p a) := by
  have ⟨o, ho, _⟩ := z
  exact ⟨z, ⟨o, ho⟩, fun h1 h2 q k => let ⟨o, e, r⟩ := q; ⟨o, k o e, r⟩⟩
def tVals (te : TE) : TE := fun σ H Q => te σ H fun x H1 => ∃ a es ep, x = .ref a ∧ H1 a = some (dO a es ep) ∧ ∀ p, H1 p = none → Q (.ref p) (upd H1 p (valO p a))
def rTupV : List V → Hp → VK → Prop := fun vs H Q => ∃ p a es ep, vs = [.ref p] ∧ H p = some (valO p a) ∧ H a = some (dO a es ep) ∧ ∀ q, H q = none → Q (.ref q) (upd H q (.tup (es.map (·.2.2))))
section
variable {X : Cx}
theorem pe_vals {o : Expr} {to : TE} {apos cpos : Pos} (ho : PE X o to) (hbase : attributeBase o "values" X.env (eval o X.env) = eval o X.env := by rfl) (hline : (apos.endLine == cpos.line) = true := by rfl) : PE X (.Call (.Attribute o "values" apos) [] [] cpos) (tVals to) := by
  refine ⟨fun pins s σ H Q I h => wpAny_Call_method0_late hbase hline (thn (ho.run pins s σ H _ I h) fun v s1 ⟨x, H1, I1, r1, a, es, dep, ex, hD, q⟩ => ?_)⟩
  subst ex
  cases r1
  obtain ⟨t1, t2⟩ := isDict_type (dO_at I1.hok hD)
  obtain ⟨ents, hr, hsm, _, _⟩ := isDict_raw (dO_at I1.hok hD)
  refine ⟨"dict", _, PySem.F.plainAttrs_dict, PySem.F.slot_dict_values, PySem.F.type_dict_values, t1, t2, Calls.callWith_builtin rfl (PySem.evalArgs_none ?_)⟩
  refine call_meetsIn PySem.F.slot_dict_values t1 PySem.F.entry_dict_values (PySem.F.args_dict_values_1 _) (meets_dict_values_raw a hsm) ⟨⟨ents, _, hr⟩, ?_⟩
  exact ⟨.ref s1.heap.objs.size, _, I1.laid (t' := s1.toks) (fun _ _ q => Heap.get?_push_of_some _ q) (Nat.le_refl _) (valO_ok ⟨_, Heap.get?_push_size _ rfl, rfl, rfl⟩), rfl, q _ (I1.hok.fresh (Nat.le_refl _))⟩
theorem vals_of_ents : ∀ {es : List Ent} {l : List DictEntry}, Paired EntR es l → Vals (es.map (·.2.2)) (l.map (·.val))
  | _, _, .nil => .nil
  | _, _, .cons p q => .cons p.2.2 (vals_of_ents q)
theorem cr_tupV (hc : X.calm = true) : CallR X (.type "tuple") rTupV := by
  intro pins s σ H vs us Q I rs h
  obtain ⟨p, a, es, dep, rfl, hp, ha, q⟩ := h
  obtain ⟨u, rfl, ru⟩ := Vals.one rs
  cases ru
  obtain ⟨ents, hr, hsm, hl, pr⟩ := isDict_raw (dO_at I.hok ha)
  have hv : s.heap.IsValuesView p a := (show ObjOk X.prog X.w H s.heap p (valO p a) from I.hok p _ hp).1
  have sz : ents.size = es.length := by rw [← Array.length_toList]; exact (Paired.length pr).symm
  refine TxDV.call_vals (I.ok.hd hc) hv hr (by rw [sz, sizeLine_eq]; omega) fun g tk acc hk hacc => ?_
  have I1 : Inv X pins σ H { s with heap := g, toks := tk } := I.kept (t' := tk) hk
  have e : acc.toList = ents.toList.map (·.val) := by
    refine List.ext_getElem (by rw [Array.length_toList, List.length_map, Array.length_toList]; exact hacc.1) fun i h1 h2 => ?_
    have hi : i < acc.size := by rw [Array.length_toList] at h1; exact h1
    obtain ⟨_, z⟩ := hacc.2 i acc[i] (Array.getElem?_eq_getElem hi)
    rw [Array.getElem_toList, z, List.getElem_map, Array.getElem_toList]
  have rv : Vals (es.map (·.2.2)) acc.toList := by rw [e]; exact vals_of_ents pr
  have I2 : Inv X pins σ (upd H g.objs.size (.tup (es.map (·.2.2)))) { s with heap := g.push { cls := .type "tuple", data := .seq acc }, toks := tk } :=
    I1.laid (t' := tk) (fun b o e => Heap.get?_push_of_some _ e) (Nat.le_refl _) (show ObjOk X.prog X.w _ _ _ (.tup _) from ⟨by rw [List.length_map, sizeLine_eq]; omega, acc.toList, rv, by rw [Array.toArray_toList]; exact IsTup.new _ _⟩)
  exact ⟨.ref g.objs.size, _, I2, rfl, q _ (I1.hok.fresh (Nat.le_refl _))⟩
end
end Tx

set_option Elab.async false
set_option linter.all false
set_option maxRecDepth 100000
set_option maxHeartbeats 2000000
set_option autoImplicit false
/-! Tx: an object of one's own, of any kind (OwnW), while it is filled; a dict of one's own -/
namespace Tx
open PySem PySem.Spec PyProof.Rows L2
/-- what stands at l while it is one's own: α its content -/
structure OwnW (m : Mo) (K : PySem.W.Frag) (l : Addr) (α : Type) where
  at_ : Hp → α → Prop
  keep : ∀ {H H' : Hp} {x : α}, at_ H x → H' l = H l → (∀ a o, ¬ (m.ext l).F a → H a = some o → H' a = some o) → at_ H' x
  view : α → D
  see : ∀ {H : Hp} {x : α}, ¬ m.F l → at_ H x → Rp K m.F H (.ref l) (view x)
  some_ : ∀ {H : Hp} {x : α}, at_ H x → ∃ o, H l = some o
structure OutW (α : Type) where
  nx : G → α → Prop
  rt : D → Prop
section
variable {K : PySem.W.Frag} {m : Mo} {Γ : G} {ta tb te tv tk : TE} {tt : TT} {ts tw : TS} {d : D} {l : Addr} {H0 : Hp} {α : Type} {W : OwnW m K l α} {x : α} {O O' : OutW α}
structure MeetsW (W : OwnW m K l α) (H0 H : Hp) (O : OutW α) (E : Ends) : Prop where
  nx : ∀ Γ' x' σ' H', O.nx Γ' x' → m.R H0 H' → StK (m.ext l) H H' → ER (m.ext l) K Γ' σ' H' → W.at_ H' x' → E.nx σ' H'
  rt : ∀ d v H', O.rt d → m.R H0 H' → Rp K m.F H' v d → E.rt v H'
theorem MeetsW.mv {H H1 : Hp} {E : Ends} (M : MeetsW W H0 H O E) (s : StK (m.ext l) H H1) : MeetsW W H0 H1 O E := ⟨fun Γ' x' σ' H' o r st => M.nx Γ' x' σ' H' o r (s.trans st), M.rt⟩
/-- a statement, while what stands at l is one's own -/
def SGw (W : OwnW m K l α) (H0 : Hp) (ts : TS) (Γ : G) (x : α) (O : OutW α) : Prop :=
  H0 l = none → m.I H0 → ∀ σ H, m.R H0 H → ER (m.ext l) K Γ σ H → W.at_ H x → ∀ E : Ends, MeetsW W H0 H O E → ts E σ H
theorem ow_mv {σ : L2.St} {H H1 : Hp} (h0 : H0 l = none) (i0 : m.I H0) (e : ER (m.ext l) K Γ σ H) (a : W.at_ H x) (r : m.R H H1) : W.at_ H1 x := by
  obtain ⟨o, ho⟩ := W.some_ a
  exact W.keep a (by rw [ho]; exact m.keep r e.i.1 l _ (nFl h0 i0) ho) fun b u n q => (m.ext l).keep r e.i b u n q
theorem ew_dis {i : Nat} {σ : L2.St} {H : Hp} (h0 : H0 l = none) (i0 : m.I H0) (e : ER (m.ext l) K Γ σ H) (hi : Γ[i]? = some (some (.adr l))) (a : W.at_ H x) : ER m K (Γ.set i (some (W.view x))) σ H := by
  refine ⟨e.i.1, by rw [List.length_set, e.len], fun j d h => ?_⟩
  by_cases z : i = j
  · subst z
    rw [List.getElem?_set_self (List.getElem?_eq_some_iff.mp hi).1] at h
    injection h with h; injection h with h; subst h
    obtain ⟨v, h1, h2⟩ := e.at_ i _ hi
    obtain rfl := h2.adrE
    exact ⟨_, h1, W.see (nFl h0 i0) a⟩
  · rw [List.getElem?_set_ne z] at h
    obtain ⟨v, h1, h2⟩ := e.at_ j d h
    exact ⟨v, h1, h2.weak fun a f => .inl f⟩
theorem sw_dis {i : Nat} {O : Out} (hi : Γ[i]? = some (some (.adr l))) (k : SG m K ts (Γ.set i (some (W.view x))) { nx := fun _ => False, rt := O.rt }) : SGw W H0 ts Γ x { nx := fun _ _ => False, rt := O.rt } := fun h0 i0 σ H r e a E M =>
  k σ H (ew_dis h0 i0 e hi a) E ⟨fun _ _ _ o => o.elim, fun d v H' o r' rv => M.rt d v H' o (m.trans r r') rv, fun _ _ _ o => o.elim, fun _ _ _ o => o.elim⟩
theorem sw_next (h : O.nx Γ x) : SGw W H0 tNext Γ x O := fun h0 i0 σ H r e a E M => M.nx _ _ _ _ h r (fun _ _ _ e => e) e a
theorem sw_seq (N : G → α → Prop) (h1 : SGw W H0 ts Γ x { O with nx := N }) (h2 : ∀ Γ' x', N Γ' x' → SGw W H0 tw Γ' x' O) : SGw W H0 (tSeq ts tw) Γ x O := fun h0 i0 σ H r e a E M =>
  h1 h0 i0 σ H r e a _ ⟨fun Γ' x' σ' H' o r' st e' a' => h2 Γ' x' o h0 i0 σ' H' r' e' a' E (M.mv st), M.rt⟩
/-- a test that sees it as data -/
theorem sw_if {i : Nat} {b : Bool} (hi : Γ[i]? = some (some (.adr l))) (h : EvT1 m K tt (Γ.set i (some (W.view x))) b) (h1 : b = true → SGw W H0 ts Γ x O) (h2 : b = false → SGw W H0 tw Γ x O) : SGw W H0 (tIfS tt ts tw) Γ x O := fun h0 i0 σ H r e a E M =>
  h σ H (ew_dis h0 i0 e hi a) _ fun b' H1 s r1 => by
    subst s
    have e1 : ER (m.ext l) K Γ σ H1 := e.mv (m := m.ext l) r1
    have st1 : StK (m.ext l) H H1 := fun b u n q => (m.ext l).keep r1 e.i b u n q
    cases b' with
    | true => exact h1 rfl h0 i0 σ H1 (m.trans r r1) e1 (ow_mv h0 i0 e a r1) E (M.mv st1)
    | false => exact h2 rfl h0 i0 σ H1 (m.trans r r1) e1 (ow_mv h0 i0 e a r1) E (M.mv st1)
/-- a test that doesn't look at it -/
theorem sw_ifX {b : Bool} (h : EvT1 (m.ext l) K tt Γ b) (h1 : b = true → SGw W H0 ts Γ x O) (h2 : b = false → SGw W H0 tw Γ x O) : SGw W H0 (tIfS tt ts tw) Γ x O := fun h0 i0 σ H r e a E M =>
  h σ H e _ fun b' H1 s r1 => by
    subst s
    have e1 : ER (m.ext l) K Γ σ H1 := e.mv (m := m.ext l) r1
    have st1 : StK (m.ext l) H H1 := fun b u n q => (m.ext l).keep r1 e.i b u n q
    cases b' with
    | true => exact h1 rfl h0 i0 σ H1 (m.trans r r1) e1 (ow_mv h0 i0 e a r1) E (M.mv st1)
    | false => exact h2 rfl h0 i0 σ H1 (m.trans r r1) e1 (ow_mv h0 i0 e a r1) E (M.mv st1)
theorem sw_asg {i : Nat} (h : Ev1 (m.ext l) K te Γ d) (k : O.nx (Γ.set i (some d)) x) : SGw W H0 (tAsg te (gName i)) Γ x O := fun h0 i0 σ H r e a E M =>
  h σ H e _ fun v d' H1 s r1 rv => by
    subst s
    exact M.nx _ x _ H1 k (m.trans r r1) (fun b u n q => (m.ext l).keep r1 e.i b u n q) ((e.mv (m := m.ext l) r1).set i rv) (ow_mv h0 i0 e a r1)
/-- something that changes it -/
theorem sw_do {S : α → Prop} (h : ∀ σ H, H0 l = none → m.I H0 → m.R H0 H → ER (m.ext l) K Γ σ H → W.at_ H x → ∀ Q : VK, (∀ v H' x', S x' → m.R H0 H' → StK (m.ext l) H H' → ER (m.ext l) K Γ σ H' → W.at_ H' x' → Q v H') → te σ H Q) (k : ∀ x', S x' → O.nx Γ x') : SGw W H0 (tDrop te) Γ x O := fun h0 i0 σ H r e a E M =>
  h σ H h0 i0 r e a _ fun v H' x' s r' st e' a' => M.nx Γ x' σ H' (k x' s) r' st e' a'
theorem sw_for {wi : TI} {g : TG} {xs : List D} (hi : ItX (m.ext l) K wi Γ xs) (V : Nat → G → α → Prop) (hv : V 0 Γ x)
    (hs : ∀ i d Γ' x', xs[i]? = some d → V i Γ' x' → ∃ Γ2 js, TgD (m.ext l) K g Γ' d js Γ2 ∧ SGw W H0 ts Γ2 x' { nx := V (i + 1), rt := O.rt }) (hd : ∀ Γ' x', V xs.length Γ' x' → O.nx Γ' x') : SGw W H0 (tFor wi g ts) Γ x O := fun h0 i0 σ H r e a E M => by
  refine hi σ H e _ fun J H1 r1 wk => ?_
  have r01 : m.R H0 H1 := m.trans r r1
  refine ⟨fun i k σ' H' => k = xs.length - i ∧ i ≤ xs.length ∧ m.R H0 H' ∧ StK (m.ext l) H1 H' ∧ ∃ Γ' x', V i Γ' x' ∧ ER (m.ext l) K Γ' σ' H' ∧ W.at_ H' x', ⟨_, rfl, Nat.zero_le _, r01, fun _ _ _ e => e, Γ, x, hv, e.mv r1, ow_mv h0 i0 e a r1⟩, ?_⟩
  rintro i k σ' H' ⟨rfl, hle, r', st, Γ', x', w, e', a'⟩
  obtain ⟨go, stop, yld⟩ := wk H' st
  by_cases hlt : i < xs.length
  · refine .inr ⟨go i hlt, fun σ3 H3 => m.R H0 H3 ∧ StK (m.ext l) H1 H3 ∧ ∃ Γ3 x3, V (i + 1) Γ3 x3 ∧ ER (m.ext l) K Γ3 σ3 H3 ∧ W.at_ H3 x3, fun σ3 H3 q => ⟨xs.length - (i + 1), by omega, rfl, hlt, q⟩, fun y H2 yy => ?_⟩
    obtain ⟨e2, d, hd', rx⟩ := yld i y H2 hlt yy
    subst e2
    obtain ⟨Γ2, js, tg, body⟩ := hs i d Γ' x' hd' w
    refine tg y σ' H2 e' rx _ fun σ3 H3 e3 r3 _ => ?_
    have st3 : StK (m.ext l) H1 H3 := fun a o n q => (m.ext l).keep r3 e'.i a o n (st a o n q)
    exact body h0 i0 σ3 H3 (m.trans r' r3) e3 (ow_mv h0 i0 e' a' r3) _ ⟨fun Γ4 x4 σ4 H4 o r4 st4 e4 a4 => ⟨r4, st3.trans st4, Γ4, x4, o, e4, a4⟩, fun d v H4 o r4 rv => M.rt d v H4 o r4 rv⟩
  · have e0 : i = xs.length := by omega
    subst e0
    exact .inl ⟨stop, M.nx Γ' x' σ' H' (hd Γ' x' w) r' (fun a o n q => st a o n ((m.ext l).keep r1 e.i a o n q)) e' a'⟩
end
/-! ### a dict of one's own -/
structure DX where
  hs : List Int
  ks : List D
  vs : List D
def DX.nil : DX := ⟨[], [], []⟩
def DX.more (w : World) (x : DX) (k v : D) : DX := ⟨x.hs ++ [(kd k).hash w], x.ks ++ [k], x.vs ++ [v]⟩
noncomputable def DX.setd (w : World) (x : DX) (k v : D) : DX := open Classical in if kd k ∈ x.ks.map kd then x else x.more w k v
def dctW (m : Mo) (K : PySem.W.Frag) (w : World) (l : Addr) : OwnW m K l DX where
  at_ := fun H x => DOk w x.hs x.ks ∧ ∃ es ep, H l = some (dO l es ep) ∧ es.map (·.1) = x.hs ∧ RpAll K (m.ext l).F H (es.map (·.2.1)) x.ks ∧ RpAll K (m.ext l).F H (es.map (·.2.2)) x.vs
  keep := fun a e k => by
    obtain ⟨o, es, ep, h1, h2, h3, h4⟩ := a
    exact ⟨o, es, ep, e.trans h1, h2, RpAll.mv k h3, RpAll.mv k h4⟩
  view := fun x => .dct x.hs x.ks x.vs
  see := fun n a => let ⟨o, es, ep, h1, h2, h3, h4⟩ := a; .dct n h1 h2 (h3.weak fun a f => .inl f) (h4.weak fun a f => .inl f)
  some_ := fun a => let ⟨_, _, _, h1, _⟩ := a; ⟨_, h1⟩
theorem DOk.nil {w : World} : DOk w [] [] := ⟨(fun _ h => nomatch h), rfl, List.nodup_nil⟩
theorem DOk.more {w : World} {x : DX} {k v : D} (o : DOk w x.hs x.ks) (kk : kkey k) (new : kd k ∉ x.ks.map kd) : DOk w (x.more w k v).hs (x.more w k v).ks where
  key := fun z hz => (List.mem_append.mp hz).elim (o.key z) fun q => by rw [List.mem_singleton.mp q]; exact kk
  hash := by show _ ++ _ = _; rw [DX.more, List.map_append, o.hash]; rfl
  nd := by
    show ((x.ks ++ [k]).map kd).Nodup
    rw [List.map_append, List.nodup_append]
    refine ⟨o.nd, by simp, fun a ha b hb e => new ?_⟩
    have z : b = kd k := by simpa using hb
    rw [← z, ← e]
    exact ha
section
variable {K : PySem.W.Frag} {m : Mo} {w : World} {Γ : G} {te tv tk : TE} {ts tw : TS} {k v : D} {l : Addr} {H0 : Hp} {x : DX} {O : OutW DX}
theorem sq_newD {i : Nat} {O : Out} (kk : ∀ l H0, SGw (dctW m K w l) H0 tw (Γ.set i (some (.adr l))) DX.nil { nx := fun _ _ => False, rt := O.rt }) : SG m K (tSeq (tAsg tDNewH (gName i)) tw) Γ O := fun σ H e E M l hl => by
  have rN : m.R H (upd H l (dO l [] 0)) := m.grow e.i (same_new hl)
  have eX : ER (m.ext l) K Γ σ (upd H l (dO l [] 0)) := e.ext hl rN (by rw [upd_same]; exact fun z => nomatch z)
  exact kk l H hl e.i _ _ rN (eX.set i (.adr l)) ⟨.nil, [], 0, upd_same, rfl, .nil, .nil⟩ E ⟨fun _ _ _ _ o => o.elim, fun d v H' o r rv => M.rt d v H' o r rv⟩
theorem upd_w {σ : L2.St} {H1 : Hp} {es : List Ent} {ep : Nat} (h0 : H0 l = none) (i0 : m.I H0) (r : m.R H0 H1) (e : ER (m.ext l) K Γ σ H1) : m.R H0 (upd H1 l (dO l es ep)) ∧ (∀ a o, ¬ (m.ext l).F a → H1 a = some o → (upd H1 l (dO l es ep)) a = some o) ∧ ER (m.ext l) K Γ σ (upd H1 l (dO l es ep)) := by
  have mv : ∀ a o, ¬ (m.ext l).F a → H1 a = some o → (upd H1 l (dO l es ep)) a = some o := fun a o n q => by rw [upd_ne (fun z => n (.inr z))]; exact q
  have rr : m.R H0 (upd H1 l (dO l es ep)) := m.chg i0 r h0
  exact ⟨rr, mv, ⟨m.inv rr i0, by rw [upd_same]; exact fun z => nomatch z⟩, e.len, fun j d h => let ⟨v, h1, h2⟩ := e.at_ j d h; ⟨v, h1, h2.go fun a o n q => ⟨n, mv a o n q⟩⟩⟩
theorem at_more {H1 : Hp} {y z : V} {es : List Ent} {ep : Nat} (ok : DOk w x.hs x.ks) (kk : kkey k) (new : kd k ∉ x.ks.map kd) (h2 : es.map (·.1) = x.hs) (h3 : RpAll K (m.ext l).F H1 (es.map (·.2.1)) x.ks) (h4 : RpAll K (m.ext l).F H1 (es.map (·.2.2)) x.vs) (rk : Rp K (m.ext l).F H1 y k) (rv : Rp K (m.ext l).F H1 z v) (mv : ∀ a o, ¬ (m.ext l).F a → H1 a = some o → (upd H1 l (dO l (es ++ [((kd k).hash w, y, z)]) ep)) a = some o) :
    (dctW m K w l).at_ (upd H1 l (dO l (es ++ [((kd k).hash w, y, z)]) ep)) (x.more w k v) := by
  refine ⟨ok.more kk new, es ++ [((kd k).hash w, y, z)], ep, upd_same, ?_, ?_, ?_⟩
  · rw [List.map_append, h2]; rfl
  · rw [List.map_append]; exact (h3.append (.cons rk .nil)).mv mv
  · rw [List.map_append]; exact (h4.append (.cons rv .nil)).mv mv
/-- d.setdefault(k, v) -/
theorem sw_setd {i : Nat} (hi : Γ[i]? = some (some (.adr l))) (hk : Ev1 (m.ext l) K tk Γ k) (hv : Ev1 (m.ext l) K tv Γ v) (kk : kkey k) (hz : x.ks.length < 10000) (kn : O.nx Γ (x.setd w k v)) : SGw (dctW m K w l) H0 (tDrop (tDSd K w (tVar i) tk tv)) Γ x O :=
  sw_do (S := fun x' => x' = x.setd w k v) (fun σ H h0 i0 r e a Q q => by
    obtain ⟨u, h1, h2⟩ := e.at_ i _ hi
    obtain rfl := h2.adrE
    obtain ⟨ok, es, ep, e1, e2, e3, e4⟩ := a
    refine ⟨_, h1, l, rfl, ⟨es, ep, e1⟩, hk σ H e _ fun y ky H1 s1 r1 ry => hv σ H1 (e.mv (m := m.ext l) r1) _ fun z vz H2 s2 r2 rz => ?_⟩
    subst s1 s2
    have e12 := (e.mv (m := m.ext l) r1)
    have eb := e12.mv (m := m.ext l) r2
    have nl := nFl (m := m) h0 i0
    have at2 : H2 l = some (dO l es ep) := m.keep r2 e12.i.1 l _ nl (m.keep r1 e.i.1 l _ nl e1)
    have k12 : ∀ a o, ¬ (m.ext l).F a → H a = some o → H2 a = some o := fun a o n q => (m.ext l).keep r2 e12.i a o n ((m.ext l).keep r1 e.i a o n q)
    have ry2 := ry.mv fun a o n q => (m.ext l).keep r2 e12.i a o n q
    have rr := m.trans r (m.trans r1 r2)
    refine ⟨(m.ext l).F, es, ep, x.hs, x.ks, ky, at2, e2, e3.mv k12, ok, kk, ry2, by have := congrArg List.length e2; have h3 := e3.len; rw [List.length_map] at h3; omega, fun j e0 hj _ => ?_, fun new ep' => ?_⟩
    · refine q _ H2 x ?_ rr (fun a o n z => k12 a o n z) eb ⟨ok, es, ep, at2, e2, e3.mv k12, e4.mv k12⟩
      rw [DX.setd, if_pos (List.mem_map.mpr ⟨_, List.mem_of_getElem? hj, rfl⟩)]
    · obtain ⟨r3, mv, e3'⟩ := upd_w (es := es ++ [((kd ky).hash w, y, z)]) (ep := ep') h0 i0 rr eb
      exact q _ _ (x.more w ky vz) (by rw [DX.setd, if_neg new]) r3 (fun a o n z => mv a o n (k12 a o n z)) e3' (at_more ok kk new e2 (e3.mv k12) (e4.mv k12) ry2 rz mv)) fun x' e => e ▸ kn
/-- tuple(d.values()) -/
theorem en_tupV {hs : List Int} {ks vs : List D} (h : Ev1 m K te Γ (.dct hs ks vs)) : Ev1 m K (tCB rTupV (tCons (tVals te) tNil)) Γ (.tup vs) := fun σ H e Q q =>
  h σ H e _ fun v d H1 s r1 rv => by
    subst s
    cases rv with
    | dct nf hD he rk rv =>
      rename_i a es ep
      have i1 := m.inv r1 e.i
      refine ⟨a, es, ep, rfl, hD, fun p hp => ?_⟩
      have r2 : m.R H1 (upd H1 p (valO p a)) := m.grow i1 (same_new hp)
      have i2 := m.inv r2 i1
      have ne : a ≠ p := fun z => by rw [z, hp] at hD; cases hD
      refine ⟨p, a, es, ep, rfl, upd_same, by rw [upd_ne ne]; exact hD, fun t ht => ?_⟩
      exact q _ _ _ rfl (m.trans r1 (m.trans r2 (m.grow i2 (same_new ht)))) (rp_new i2 ht (rv.mv (m.keep r2 i1)))
end
end Tx

set_option Elab.async false
set_option linter.all false
set_option maxRecDepth 100000
set_option maxHeartbeats 2000000
/-! Tx: a dict comprehension whose keys are tuples -/
namespace TxDC
open PySem PySem.Spec PyProof.Rows L2 Tx TxS
/-- what it asks: each pair that comes is put at the end of the dict at D, under a new key -/
def tDcH (K : PySem.W.Frag) (w : World) (wi : TI) (g : TG) (tt : TT) (tk tv : TE) (vs : List Nat) : TE := fun σ H Q => wi σ H fun J H1 => ∀ D, H1 D = none →
  ∃ W : Nat → Nat → Hp → Prop, (∃ k0, W 0 k0 (upd H1 D (dO D [] 0))) ∧ ∀ i k H2, W i k H2 → (J.stop i H2 ∧ Q (.ref D) H2) ∨ (J.go i H2 ∧
    ∃ Nx : Hp → Prop, (∀ H3, Nx H3 → ∃ k1, k1 < k ∧ W (i + 1) k1 H3) ∧ ∀ x H3, J.yld i H2 x H3 → g x (wipe σ vs) H3 fun σ2 H4 => wipe σ2 vs = wipe σ vs ∧ tt σ2 H4 fun b H5 =>
      if b = true then tk σ2 H5 fun y H6 => tv σ2 H6 fun z H7 => ∃ (F : Addr → Prop) (es : List Ent) (ep : Nat) (hs : List Int) (ks : List Tx.D) (k : Tx.D), H7 D = some (dO D es ep) ∧ es.map (·.1) = hs ∧ RpAll K F H7 (es.map (·.2.1)) ks ∧ DOk w hs ks ∧ kkey k ∧ Rp K F H7 y k ∧ es.length < 10000 ∧ (kd k ∉ ks.map kd → ∀ ep', Nx (upd H7 D (dO D (es ++ [((kd k).hash w, y, z)]) ep'))) ∧ ∀ (j : Nat) (e0 : Ent), ks[j]? = some k → es[j]? = some e0 → ∀ ep', Nx (upd H7 D (dO D (es.set j (e0.1, e0.2.1, z)) ep')) else Nx H5)
section
variable {X : Cx} {σ : L2.St} {kx vx tg iter : Expr} {ifs : List Expr} {sc : Scope} {own : List (PySem.Str × Nat)} {pos pos2 : Pos} {wi : TI} {g : TG} {tt : TT} {tk tv : TE}
theorem dc_core {pins : List (Addr × Obj)} {s : Shared} {H : Hp} {Q : VK} {use : Option (Value → Sem Unit)} {Qf : Value → Shared → Prop} (hc : X.calm = true) (hu : X.A.units + 8 < cLine) (hN : X.N.Nodup) (I : Inv X pins σ H s) (hi : PI X tg iter wi) (ok : BlkOk X.N X.env.scope sc own)
    (hg : ∀ s H C cl fp, PG (X.blk s H sc (compEnvC sc cl C X.env) fp) tg g) (ht : ∀ s H C cl fp, PTs (X.blk s H sc (compEnvC sc cl C X.env) fp) ifs tt) (hk : ∀ s H C cl fp, PE (X.blk s H sc (compEnvC sc cl C X.env) fp) kx tk) (hv : ∀ s H C cl fp, PE (X.blk s H sc (compEnvC sc cl C X.env) fp) vx tv)
    (hs : ∀ x, foldedSetIterable iter X.env x = pure x) (h : tDcH X.K X.w wi g tt tk tv (own.map (·.2)) σ H Q)
    (out : ∀ D C t m H', Inv X pins σ H' t → Q (.ref D) H' → t.heap.Ns C m → FpOk X pins H' C → compPost (model X.prog X.w) X.A X.xe use Qf (.ref D) C (.ok .next) t) :
    wpAny (model X.prog X.w) X.A (comprehension (.DictComp kx vx [⟨tg, iter, ifs, 0⟩] sc pos) sc X.env pos2 newDict false (eval iter X.env) use) Qf X.xe s := by
  refine wpAny_comprehension_free (use := use) rfl hs (closure_ok fun y hy e => (ok.free y hy e).elim (fun k => I.ok.has _ (.inl k)) fun k => I.ok.has _ (.inr k)) ok.kind (fun y hy e => by rw [ok.uniq y hy, e]) (thn (hi.run pins s σ H _ I h) fun _ _ came => thn came fun _ t came2 => ?_)
  obtain ⟨itA, fp, seen, J, H2, rfl, I2, T, at0, away, asks⟩ := came2
  refine wpAny_newObj_type (newEnv_comp ?_)
  generalize eD : t.heap.objs.size = D
  obtain ⟨W, ⟨k0, w0⟩, turns⟩ := asks D (I2.hok.fresh (Nat.le_of_eq eD))
  generalize e3 : ({ t with heap := t.heap.push { cls := .type "dict", data := .dict #[] } } : Shared) = s3
  have p3 : s3.heap = t.heap.push { cls := .type "dict", data := .dict #[] } := by rw [← e3]
  have z3 : s3.heap.objs.size = t.heap.objs.size + 1 := by rw [p3, Heap.size_push]
  generalize eH : upd H2 D (dO D [] 0) = H3 at w0
  have I3 : Inv X pins σ H3 s3 := by rw [← e3, ← eH, ← eD]; exact inv_newD I2 t.toks
  have own3 : ∀ b ∈ fp, FpOk X pins H3 b ∧ b < s3.heap.objs.size := fun b hb => by
    obtain ⟨_, e, _⟩ := T.obj _ _ at0 b hb
    have lt : b < t.heap.objs.size := Heap.lt_size e
    refine ⟨⟨?_, (away b hb).2⟩, by rw [z3]; exact Nat.lt_succ_of_lt lt⟩; rw [← eH, upd_ne (by rw [← eD]; exact Nat.ne_of_lt lt)]; exact (away b hb).1
  have at3 : seen 0 s3.heap := T.keep _ _ _ at0 fun _ _ _ e => by rw [p3]; exact Heap.get?_push_of_some _ e
  have I4 := block_start I3 ok hN own3
  let cl := cellsFrom (s3.heap.objs.size + 1) sc.names (cloFrom X.env.cells sc.names [])
  have gT := hg s3 H3 s3.heap.objs.size cl fp; have gI := ht s3 H3 s3.heap.objs.size cl fp; have gK := hk s3 H3 s3.heap.objs.size cl fp; have gV := hv s3 H3 s3.heap.objs.size cl fp
  show codeAny _ _ (.compStart (.DictComp kx vx [⟨tg, iter, ifs, 0⟩] sc pos) 0 (.ref itA) (.ref D) (compEnvC sc cl s3.heap.objs.size X.env)) (compPost (model X.prog X.w) X.A X.xe use Qf (.ref D) s3.heap.objs.size) { s3 with heap := pushCells (s3.heap.push { cls := .type "dict", data := .dict #[] }) sc.names }
  generalize eB : compEnvC sc cl s3.heap.objs.size X.env = ce at gT gI gK gV ⊢
  have I4 : Inv (X.blk s3 H3 sc ce fp) [] (wipe σ (own.map (·.2))) H3 { s3 with heap := pushCells (s3.heap.push { cls := .type "dict", data := .dict #[] }) sc.names } := by rw [← eB]; exact I4
  have loc : ce.locals = s3.heap.objs.size := by rw [← eB]; rfl
  generalize e4 : ({ s3 with heap := pushCells (s3.heap.push { cls := .type "dict", data := .dict #[] }) sc.names } : Shared) = s4 at I4 ⊢
  have at4 : seen 0 s4.heap := T.keep _ _ _ at3 fun _ _ _ e => by rw [← e4]; exact pushCells_keeps _ _ _ _ (Heap.get?_push_of_some _ e)
  have mine : ∀ {σ' : L2.St} {H' : Hp} {t : Shared}, Inv (X.blk s3 H3 sc ce fp) [] σ' H' t → (∀ b ∈ fp, H' b = none) → ∀ b ∈ fp, FpOk (X.blk s3 H3 sc ce fp) [] H' b := fun I' none_ b hb => ⟨none_ b hb, (I'.ok.exf b hb).1, I'.ok.exfs b hb, .inl hb, fun x c e => (I'.ok.exf b hb).2 x c e, fun p hp => by
    have hp : p ∈ ([] : List (Addr × Obj)) ++ [] := hp
    simp at hp⟩
  have all : codeAny (model X.prog X.w) X.A (.compLoop (.DictComp kx vx [⟨tg, iter, ifs, 0⟩] sc pos) 0 (.ref itA) (.ref D) ce) (compPost (model X.prog X.w) X.A X.xe use Qf (.ref D) s3.heap.objs.size) s4 := by
    refine compLoop_anyD (Here (X.blk s3 H3 sc ce fp) σ (own.map (·.2)) seen fp W) ?_ k0 ⟨0, H3, I4, at4, fun b hb => (own3 b hb).1.1, w0⟩
    rintro k s5 ⟨i, H5, I5, at5, no5, w5⟩
    rcases turns i k H5 w5 with ⟨ends, fin⟩ | ⟨goes, Nx, next, one⟩
    · refine thnF (T.done (X.blk s3 H3 sc ce fp) rfl rfl rfl hc i [] s5 _ H5 (fun _ _ => False) I5 (mine I5 no5) at5 ends) fun r s6 ⟨hr, I6⟩ => ?_
      subst hr
      have back : Inv X pins σ H5 s6 := I3.call' (ch := fp) I6.os I6.base I6.hok I6.bare fun b hb => let q := (own3 b hb).1.2; ⟨q.2.2.1, q.1, q.2.2.2.1, q.2.2.2.2⟩
      have free : H5 s3.heap.objs.size = none := loc ▸ (show H5 ce.locals = none from I6.free)
      obtain ⟨m, ns, _⟩ := I6.loc
      exact out D s3.heap.objs.size s6 m H5 back fin (loc ▸ (show s6.heap.Ns ce.locals m from ns)) (I3.fpOk (Nat.le_refl _) free)
    · refine thnF (T.item (X.blk s3 H3 sc ce fp) rfl rfl rfl hc i [] s5 _ H5 (fun _ _ => False) I5 (mine I5 no5) at5 goes) fun r s6 ⟨u, hr, came6⟩ => ?_
      subst hr
      refine thnF came6 fun _ s7 ⟨x, H7, I7, r7, y7, at7, no7⟩ => thnF (gT.run _ s7 _ H7 x u _ (I7.pinned (mine I7 no7) (T.obj _ _ at7)) r7 (one x H7 y7)) fun _ s8 ⟨σ8, H8, I8, same, q8⟩ => thnF (gI.run _ s8 σ8 H8 _ I8 q8) fun b s9 ⟨H9, I9, q9⟩ => ?_
      cases b with
      | false => simp only [Bool.false_eq_true, if_false] at q9 ⊢; exact turn_next T at7 next same I9 q9
      | true =>
        simp only [if_true] at q9 ⊢
        refine thnF (gK.run _ s9 σ8 H9 _ I9 q9) fun z s10 ⟨y, H10, I10, ry, q10⟩ => thnF (gV.run _ s10 σ8 H10 _ I10 q10) fun z2 s11 ⟨v, H11, I11, rv, F, es, ep, hs', ks, kk, a1, a2, a3, a4, a5, a6, a7, nx1, nx2⟩ => ?_
        exact put_any (X := X.blk s3 H3 sc ce fp) (F := F) hu I11 a1 a2 a3 a4 a5 a6 ry rv a7 (fun a8 ep' _ I12 => turn_next T at7 next same I12 (nx1 a8 ep')) fun j e0 b1 b2 ep' _ I12 => turn_next T at7 next same I12 (nx2 j e0 b1 b2 ep')
  exact codeAny_compStart_dict all (T.self X.A 0 _ _ _ at4 all)
/-- as a value -/
theorem pe_dcH (hc : X.calm = true) (hu : X.A.units + 8 < cLine) (hN : X.N.Nodup) (hi : PI X tg iter wi) (ok : BlkOk X.N X.env.scope sc own)
    (hg : ∀ s H C cl fp, PG (X.blk s H sc (compEnvC sc cl C X.env) fp) tg g) (ht : ∀ s H C cl fp, PTs (X.blk s H sc (compEnvC sc cl C X.env) fp) ifs tt) (hk : ∀ s H C cl fp, PE (X.blk s H sc (compEnvC sc cl C X.env) fp) kx tk) (hv : ∀ s H C cl fp, PE (X.blk s H sc (compEnvC sc cl C X.env) fp) vx tv)
    (hs : ∀ x, foldedSetIterable iter X.env x = pure x := by intro _; rfl) : PE X (.DictComp kx vx [⟨tg, iter, ifs, 0⟩] sc pos) (tDcH X.K X.w wi g tt tk tv (own.map (·.2))) :=
  ⟨fun pins s σ H Q I h => by
    rw [arm_eval_DictComp]
    exact dc_core hc hu hN I hi ok hg ht hk hv hs h fun D C t m H' I' q ns f => ⟨m, ns, fun h'' sb => ⟨.ref D, H', I'.turned (t' := t.toks) (fun b o ne e => (sb.2 b ne).trans e) f.1 f.2.1 f.2.2.2.1 f.2.2.2.2.1 f.2.2.2.2.2, rfl, q⟩⟩⟩
end
end TxDC
namespace Tx
open PySem PySem.Spec PyProof.Rows L2 TxDC
section
variable {K : PySem.W.Frag} {m : Mo} {Γ : G} {tk tv : TE} {tt : TT} {w : World}
/-- {k: v for ..}, no test, all keys different -/
theorem en_dcH {α : Type} {wi : TI} {g : TG} {vs : List Nat} {xs : List α} {js : List Nat} (enc : α → D) (fk fv : α → D) (hj : ∀ j ∈ js, j ∈ vs) (hi : ItD1 m K wi Γ (xs.map enc)) (hu : xs.length < 10000) (kk : ∀ x ∈ xs, kkey (fk x)) (nd : (xs.map fun x => kd (fk x)).Nodup)
    (hs : ∀ m', Mo.Le m m' → ∀ x, x ∈ xs → ∃ Γ2, TgD m' K g (wipeG Γ vs) (enc x) js Γ2 ∧ EvT1 m' K tt Γ2 true ∧ Ev1 m' K tk Γ2 (fk x) ∧ Ev1 m' K tv Γ2 (fv x)) :
    Ev1 m K (tDcH K w wi g tt tk tv vs) Γ (.dct (xs.map fun x => (kd (fk x)).hash w) (xs.map fk) (xs.map fv)) := fun σ H e Q q => by
  refine hi σ H e _ fun J zs H1 hz r1 wk => fun Dl hD => ?_
  subst hz
  have e1 := e.mv r1
  have nF : ¬ m.F Dl := fun f => m.fa e1.i f hD
  have rN : m.R H1 (upd H1 Dl (dO Dl [] 0)) := m.grow e1.i (same_new hD)
  have wkA : ∀ H', m.R H1 H' → (m.ext Dl).I H' → WkD (m.ext Dl) K J H' (xs.map enc) := fun H' r i => wk (m.ext Dl) (m.le_ext Dl) H' i r fun a f n => f.elim (fun f => absurd f n) fun z => z ▸ hD
  let part : Nat → DX := fun i => ⟨(xs.take i).map fun x => (kd (fk x)).hash w, (xs.take i).map fk, (xs.take i).map fv⟩
  refine ⟨fun i k H' => k = xs.length - i ∧ i ≤ xs.length ∧ m.R H1 H' ∧ (dctW m K w Dl).at_ H' (part i), ⟨_, rfl, Nat.zero_le _, rN, ⟨.nil, [], 0, upd_same, rfl, .nil, .nil⟩⟩, ?_⟩
  rintro i k H' ⟨rfl, hle, r, at_⟩
  have eX : ER (m.ext Dl) K Γ σ H' := e1.ext hD r (by obtain ⟨_, _, _, z, _⟩ := at_; rw [z]; exact fun z => nomatch z)
  have iX := eX.i
  have wkX := wkA H' r iX
  have hlen : (xs.map enc).length = xs.length := List.length_map _
  by_cases hlt : i < xs.length
  · refine .inr ⟨wkX.go i H' (m.refl _) (by rw [hlen]; exact hlt), fun H3 => m.R H1 H3 ∧ (dctW m K w Dl).at_ H3 (part (i + 1)), fun H3 z => ⟨xs.length - (i + 1), by omega, rfl, hlt, z⟩, fun x H2 y => ?_⟩
    obtain ⟨r2, d, hd, rx⟩ := wkX.yld i H' x H2 (m.refl _) (by rw [hlen]; exact hlt) y
    rw [List.getElem?_map, List.getElem?_eq_getElem hlt] at hd
    injection hd with hd
    subst hd
    obtain ⟨Γ2, tg, tst, ek, ev⟩ := hs (m.ext Dl) (m.le_ext Dl) xs[i] (List.getElem_mem hlt)
    have tk1 : xs.take (i + 1) = xs.take i ++ [xs[i]] := take_one (List.getElem?_eq_getElem hlt)
    refine tg x (wipe σ vs) H2 ((eX.mv r2).wipe vs) rx _ fun σ3 H3 e3 r3 w3 => ⟨by rw [w3 vs hj, wipe_wipe], ?_⟩
    refine tst σ3 H3 e3 _ fun b H4 tb r4 => ?_
    subst tb
    rw [if_pos rfl]
    refine ek σ3 H4 (e3.mv r4) _ fun y dk H5 sk r5 ry => ev σ3 H5 ((e3.mv r4).mv r5) _ fun z dv H6 sv r6 rz => ?_
    subst sk sv
    have rr : m.R H' H6 := m.trans r2 (m.trans r3 (m.trans r4 (m.trans r5 r6)))
    obtain ⟨ok, es, dep, b1, b2, b3, b4⟩ := ow_mv (W := dctW m K w Dl) (H0 := H1) hD e1.i eX at_ rr
    have new : kd (fk xs[i]) ∉ (part i).ks.map kd := fun z => by
      have nd' := nd
      rw [show xs.map (fun x => kd (fk x)) = (xs.take (i + 1)).map (fun x => kd (fk x)) ++ (xs.drop (i + 1)).map (fun x => kd (fk x)) from by rw [← List.map_append, List.take_append_drop], List.nodup_append, tk1, List.map_append, List.nodup_append] at nd'
      refine nd'.1.2.2 (kd (fk xs[i])) ?_ (kd (fk xs[i])) (by simp) rfl
      have z' : kd (fk xs[i]) ∈ ((xs.take i).map fk).map kd := z
      rw [List.map_map] at z'
      exact z'
    have ry6 : Rp K (m.ext Dl).F H6 y (fk xs[i]) := ry.mv fun a o n q => (m.ext Dl).keep r6 ((e3.mv r4).mv r5).i a o n q
    have e6 := ((e3.mv r4).mv r5).mv (m := m.ext Dl) r6
    refine ⟨(m.ext Dl).F, es, _, _, _, fk xs[i], b1, b2, b3, ok, kk _ (List.getElem_mem hlt), ry6, ?_, fun _ ep' => ?_, fun j e0 hj _ => absurd (List.mem_map.mpr ⟨_, List.mem_of_getElem? hj, rfl⟩) new⟩
    · have h2 := congrArg List.length b2
      have h3 := b3.len
      simp only [part, List.length_map, List.length_take] at h2 h3
      omega
    · obtain ⟨r7, mv, _⟩ := upd_w (es := es ++ [((kd (fk xs[i])).hash w, y, z)]) (ep := ep') (H0 := H1) hD e1.i (m.trans r rr) e6
      have more := at_more (m := m) ok (kk _ (List.getElem_mem hlt)) new b2 b3 b4 ry6 rz mv
      refine ⟨r7, ?_⟩
      have ep : part (i + 1) = (part i).more w (fk xs[i]) (fv xs[i]) := by
        simp only [part, DX.more, tk1, List.map_append, List.map_cons, List.map_nil]
      rw [ep]
      exact more
  · have e0 : i = xs.length := by omega
    subst e0
    have sees := (dctW m K w Dl).see nF at_
    simp only [part, List.take_length] at sees
    exact .inl ⟨by have := wkX.stop H' (m.refl _); rw [hlen] at this; exact this, q _ _ _ rfl (m.trans r1 r) sees⟩
end
end Tx

set_option Elab.async false
set_option linter.all false
set_option maxRecDepth 100000
set_option maxHeartbeats 2000000
set_option autoImplicit false
/-! Tx: o[k] by the own `__getitem__` -/
namespace Tx
open PySem PySem.Spec PyProof.Rows L2
/-- the own method, as a subscript asks for it -/
structure IxK (P : Program) (w : World) (K : PySem.W.Frag) (mg : Str → Option Value) (base : Heap) (C : Addr) (n : Nat) (sp : Sp) : Prop where
  ex : ∃ f, PySem.W.findIn K (.ref C) "__getitem__" = some (some (.ref f)) ∧ PySem.W.isFn K (.ref f) = true ∧ PySem.W.fnIn K f = true ∧ ∃ fd ps, FnOk P w K mg base CX0 n f fd ps sp ∧ Binds K fd ps []
def rIxO (C : Addr) (sp : Sp) : R2 := fun x y H Q => ∃ (a dx : Addr) (fs : List (Str × V)), x = .ref a ∧ H a = some (.ins C dx fs) ∧ sp [.ref a, y] H Q E0
def rIxU (K : PySem.W.Frag) (C : Addr) (sp : Sp) : R2 := fun x y H Q => rIx K x y H Q ∨ rIxO C sp x y H Q
theorem pe_ixU {X : Cx} {C : Addr} {n k : Nat} {sp : Sp} {a b : Expr} {ta tb : TE} {pos : Pos} (O : IxK X.prog X.w X.K X.mg X.base C n sp) (hr : Room k X.A) (hk : n + 1 ≤ k) (ha : PE X a ta) (hb : PE X b tb) (hs : PlainIx b)
    (own : ∀ (x : Addr) (i : Value), subscripted b true (.ref x) i = runValue (.builtin "lifetime.subscript" ⟨[.ref x, i], []⟩) := by intro _ _; with_unfolding_all rfl) : PE X (.Subscript a b pos) (tOp (rIxU X.K C sp) ta tb) := by
  refine ⟨fun pins s σ H Q I h => Subscript_ (binT ha hb I h fun v u s2 x y H2 I2 rx ry q => ?_)⟩
  rcases q with q | ⟨p, dx, fs, rfl, hp, hsp⟩
  · exact ix_seq a b pins s2 σ H2 x y v u Q I2 rx ry q (hs _ _)
  cases rx
  obtain ⟨f, h1, h2, h3, fd, ps, F, hbi⟩ := O.ex
  obtain ⟨_, J, _⟩ := ins_get I2.hok hp
  obtain ⟨od, J, _⟩ := J.look
  obtain ⟨m, hF⟩ := I2.fr
  exact PySem.W.sub_K hF I2.ok.mod.kin J h1 h3 h2 (run_own F hbi (hr.mono hk).in1 rfl I2 (rr2 p ry) hsp) (own p u)
section
variable {K : PySem.W.Frag} {m : Mo} {C : Addr} {ns : List Str} {xs : List D} {y d : D} {pre : List D → Prop} {Sf : List D → D → Prop}
theorem o_ixOS (hp : pre [.obj C ns xs, y]) (hn : ∀ z, Sf [.obj C ns xs, y] z → z = d) : Op1 m K (rIxU K C (spS K pre Sf)) (.obj C ns xs) y d := fun vx vy H I rv ry Q q => by
  obtain ⟨a, dx, fs, rfl, ha, _⟩ := rv.ins
  exact .inr ⟨a, dx, fs, rfl, ha, m.F, [.obj C ns xs, y], fun a f => m.fa I f, .cons rv (.cons ry .nil), hp, fun v z H' sd sm rz => q _ _ H' (hn z sd) (m.grow I sm) rz⟩
theorem o_ixP {sp : Sp} {x : D} (h : Op1 m K (rIx K) x y d) : Op1 m K (rIxU K C sp) x y d := fun vx vy H I rx ry Q q => .inl (h vx vy H I rx ry Q q)
end
end Tx

set_option Elab.async false
set_option linter.all false
set_option maxRecDepth 100000
set_option maxHeartbeats 2000000
/-! Tx: a set comprehension of numbers with two sources -/
namespace TxS2
open PySem PySem.Spec PyProof.Rows L2 PpSet Tx TxS
section
variable {prog : Program} {w : World} {A : Around} {R : Result → Shared → Prop} {s : Shared} {elt t0 i0 t1 i1 : Expr} {f0 f1 : List Expr} {sc : Scope} {pos : Pos} {it acc : Value} {env : Env}
/-- the comprehension of two sources -/
abbrev two (elt t0 i0 t1 i1 : Expr) (f0 f1 : List Expr) (sc : Scope) (pos : Pos) : Expr := .SetComp elt [⟨t0, i0, f0, 0⟩, ⟨t1, i1, f1, 0⟩] sc pos
/-- the tests of a turn, one after the other -/
abbrev tests (fs : List Expr) (env : Env) : Sem Bool := forIn fs true fun c r => if r = true then do let ok ← isTrue c env (eval c env); pure (ForInStep.yield ok) else pure (ForInStep.yield r)
theorem turn_out : compTurn (two elt t0 i0 t1 i1 f0 f1 sc pos) 0 it acc env = (do
  standAt i0.pos; let r ← pyNext it
  match r with
  | none => pure (.done .next)
  | some v => do
    letOwnedTupleGo t0 it v; assign t0 env v; let ok ← tests f0 env
    if ok = true then do
      let x ← eval i1 env; standAt i1.pos; let x ← foldedSetIterable i1 env x
      let i ← holding [x] (pyIter x); let _ ← runOwn (.compStart (two elt t0 i0 t1 i1 f0 f1 sc pos) 1 i acc env) env
      again (.compLoop (two elt t0 i0 t1 i1 f0 f1 sc pos) 0 it acc env)
    else again (.compLoop (two elt t0 i0 t1 i1 f0 f1 sc pos) 0 it acc env)) := by rfl
theorem turn_in : compTurn (two elt t0 i0 t1 i1 f0 f1 sc pos) 1 it acc env = (do
  standAt i1.pos; let r ← pyNext it
  match r with
  | none => pure (.done .next)
  | some v => do
    letOwnedTupleGo t1 it v; assign t1 env v; let ok ← tests f1 env
    if ok = true then do
      (do let x ← eval elt env; standAt elt.pos; let _ ← call (.builtin "set.add") [acc, x])
      again (.compLoop (two elt t0 i0 t1 i1 f0 f1 sc pos) 1 it acc env)
    else again (.compLoop (two elt t0 i0 t1 i1 f0 f1 sc pos) 1 it acc env)) := by rfl
/-- a raise is noted -/
abbrev Out (prog : Program) (w : World) (A : Around) (env : Env) (R : Result → Shared → Prop) : Value → Shared → Prop := notedBy (model prog w) A env fun e s' => R (.error e) s'
theorem loop_out (plain : ∀ x, foldedSetIterable i1 env x = pure x) (J : Nat → Shared → Prop)
    (turn : ∀ n s, J n s → wpAny (model prog w) A (pyNext it) (fun r a => match r with
      | none => R (.ok .next) a
      | some v => wpAny (model prog w) A (letOwnedTupleGo t0 it v) (fun _ b => wpAny (model prog w) A (assign t0 env v) (fun _ c => wpAny (model prog w) A (tests f0 env) (fun ok d =>
          if ok = true then wpAny (model prog w) A (eval i1 env) (fun x e => wpAny (model prog w) A (pyIter x) (fun i f => codeAny (model prog w) A (.compStart (two elt t0 i0 t1 i1 f0 f1 sc pos) 1 i acc env) (fun r s' => match r with | .ok _ => ∃ m, m < n ∧ J m s' | .error _ => False) f) (Out prog w A env R) e) (Out prog w A env R) d
          else ∃ m, m < n ∧ J m d) (Out prog w A env R) c) (Out prog w A env R) b) (Out prog w A env R) a) (Out prog w A env R) s)
    (n : Nat) (h : J n s) : codeAny (model prog w) A (.compLoop (two elt t0 i0 t1 i1 f0 f1 sc pos) 0 it acc env) R s := by
  refine codeAny_loop rfl J (fun n s hJ => ?_) n h
  show wpAny _ A ((compTurn (two elt t0 i0 t1 i1 f0 f1 sc pos) 0 it acc env).onRaise (fun x => do noteFrame x env; theTreesLotGoes x)) _ _ s
  refine wpAny_noted ?_; rw [turn_out]; refine wpAny_bind (wpAny_standAt (wpAny_bind (wpAny_mono (turn n s hJ) (fun r a ha => ?_) fun _ _ z => z)))
  cases r with
  | none => exact wpAny_pure ha
  | some v =>
    refine wpAny_bind (wpAny_mono ha (fun _ b hb => wpAny_bind (wpAny_mono hb (fun _ c hc => wpAny_bind (wpAny_mono hc (fun ok d hd => ?_) fun _ _ z => z)) fun _ _ z => z)) fun _ _ z => z)
    cases ok with
    | false => exact wpAny_pure ⟨rfl, hd⟩
    | true =>
      refine wpAny_bind (wpAny_mono hd (fun x e he => wpAny_bind (wpAny_standAt (wpAny_bind (wpAny_of_eq (plain x) (wpAny_bind (wpAny_holding (wpAny_mono he (fun i f hf => ?_) fun _ _ z => z))))))) fun _ _ z => z)
      refine wpAny_bind (wpAny_runOwn ?_)
      rw [Around.mark_none]
      refine codeAny_mono hf fun r s' hr => ?_
      cases r with
      | error e => exact hr.elim
      | ok f => first | exact wpAny_pure ⟨rfl, hr⟩ | exact wpAny_bind (wpAny_pure (wpAny_pure ⟨rfl, hr⟩))
theorem loop_in (J : Nat → Shared → Prop)
    (turn : ∀ n s, J n s → wpAny (model prog w) A (pyNext it) (fun r a => match r with
      | none => R (.ok .next) a
      | some v => wpAny (model prog w) A (letOwnedTupleGo t1 it v) (fun _ b => wpAny (model prog w) A (assign t1 env v) (fun _ c => wpAny (model prog w) A (tests f1 env) (fun ok d =>
          if ok = true then wpAny (model prog w) A (eval elt env) (fun x e => wpAny (model prog w) A (call (.builtin "set.add") [acc, x]) (fun _ f => ∃ m, m < n ∧ J m f) (Out prog w A env R) e) (Out prog w A env R) d
          else ∃ m, m < n ∧ J m d) (Out prog w A env R) c) (Out prog w A env R) b) (Out prog w A env R) a) (Out prog w A env R) s)
    (n : Nat) (h : J n s) : codeAny (model prog w) A (.compLoop (two elt t0 i0 t1 i1 f0 f1 sc pos) 1 it acc env) R s := by
  refine codeAny_loop rfl J (fun n s hJ => ?_) n h
  show wpAny _ A ((compTurn (two elt t0 i0 t1 i1 f0 f1 sc pos) 1 it acc env).onRaise (fun x => do noteFrame x env; theTreesLotGoes x)) _ _ s
  refine wpAny_noted ?_; rw [turn_in]; refine wpAny_bind (wpAny_standAt (wpAny_bind (wpAny_mono (turn n s hJ) (fun r a ha => ?_) fun _ _ z => z)))
  cases r with
  | none => exact wpAny_pure ha
  | some v =>
    refine wpAny_bind (wpAny_mono ha (fun _ b hb => wpAny_bind (wpAny_mono hb (fun _ c hc => wpAny_bind (wpAny_mono hc (fun ok d hd => ?_) fun _ _ z => z)) fun _ _ z => z)) fun _ _ z => z)
    cases ok with
    | false => exact wpAny_pure ⟨rfl, hd⟩
    | true => exact wpAny_bind (wpAny_bind (wpAny_mono hd (fun x e he => wpAny_bind (wpAny_standAt (wpAny_bind (wpAny_mono he (fun _ f hf => wpAny_pure (wpAny_pure ⟨rfl, hf⟩)) fun _ _ z => z)))) fun _ _ z => z))
/-- the second source begins -/
theorem start1 (h0 : codeAny (model prog w) A (.compLoop (two elt t0 i0 t1 i1 f0 f1 sc pos) 1 it acc env) R s) (h : wpAny (model prog w) A (pyIter it) (fun i t => codeAny (model prog w) A (.compLoop (two elt t0 i0 t1 i1 f0 f1 sc pos) 1 i acc env) R t) (Out prog w A env R) s) : codeAny (model prog w) A (.compStart (two elt t0 i0 t1 i1 f0 f1 sc pos) 1 it acc env) R s := by
  refine codeAny_of_tree (show wpAny _ _ ((compStart (two elt t0 i0 t1 i1 f0 f1 sc pos) 1 it acc env).onRaise (fun x => do noteFrame x env; standAt theWindowsPlace)) _ _ s from wpAny_notedAt ?_)
  unfold compStart
  refine (show wpAny _ _ (ask >>= _) _ _ s from wpAny_bind (wpAny_askSetting (wpAny_ite ?_)))
  split
  · first | exact wpAny_bind (wpAny_pure (wpAny_pure (And.intro rfl h0))) | exact wpAny_pure (And.intro rfl h0)
  · first | exact wpAny_bind (wpAny_rule (wpAny_bind (wpAny_standAt (wpAny_bind (wpAny_mono h (fun i t z => wpAny_pure (And.intro rfl z)) fun _ _ x => x))))) | (refine wpAny_bind (wpAny_rule ?_); show wpAny _ _ (standAt i1.pos >>= _) _ _ s; exact wpAny_bind (wpAny_standAt (wpAny_bind (wpAny_mono h (fun i t z => wpAny_pure (And.intro rfl z)) fun _ _ x => x))))
end
/-- what such a comprehension asks -/
def tSetI2 (w : World) (wi : TI) (g : TG) (tt : TT) (wi1 : TI) (g1 : TG) (tt1 : TT) (te : TE) (vs vs1 : List Nat) : TE := fun σ H Q => wi σ H fun J H1 => ∀ D, H1 D = none →
  ∃ W : Nat → Nat → Hp → Prop, (∃ k0, W 0 k0 (upd H1 D (SetO w D (fun _ => false) 0))) ∧ ∀ i k H2, W i k H2 → (J.stop i H2 ∧ Q (.ref D) H2) ∨ (J.go i H2 ∧ ∃ Nx : Hp → Prop, (∀ H3, Nx H3 → ∃ k1, k1 < k ∧ W (i + 1) k1 H3) ∧
    ∀ x H3, J.yld i H2 x H3 → g x (wipe σ vs) H3 fun σ2 H4 => wipe σ2 vs = wipe σ vs ∧ tt σ2 H4 fun b H5 => if b = true then wi1 σ2 H5 fun J1 H6 => ∃ W1 : Nat → Nat → Hp → Prop, (∃ k2, W1 0 k2 H6) ∧ ∀ j k2 H7, W1 j k2 H7 →
      (J1.stop j H7 ∧ Nx H7) ∨ (J1.go j H7 ∧ ∃ Nx1 : Hp → Prop, (∀ H8, Nx1 H8 → ∃ k3, k3 < k2 ∧ W1 (j + 1) k3 H8) ∧ ∀ x H8, J1.yld j H7 x H8 → g1 x (wipe σ2 vs1) H8 fun σ3 H9 => wipe σ3 vs1 = wipe σ2 vs1 ∧ tt1 σ3 H9 fun b H10 =>
        if b = true then te σ3 H10 fun y H11 => ∃ (c : Int) (S : Int → Bool) (n : Nat), y = .int c ∧ H11 D = some (SetO w D S n) ∧ n + 1 < scanBound ∧ Nx1 (upd H11 D (SetO w D (fun j => S j || decide (j = c)) (if S c = true then n else n + 1))) else Nx1 H10)
      else Nx H5)
theorem wipe_sub {σ : L2.St} {vs : List Nat} : ∀ {us : List Nat}, (∀ i ∈ us, i ∈ vs) → wipe (wipe σ us) vs = wipe σ vs
  | [], _ => rfl
  | u :: us, h => (wipe_set (h u List.mem_cons_self)).trans (wipe_sub fun i hi => h i (List.mem_cons_of_mem _ hi))
/-- as Here, with pins -/
def HereP (B : Cx) (p0 : List (Addr × Obj)) (τ : L2.St) (seen : Nat → Heap → Prop) (fp : List Addr) (W : Nat → Nat → Hp → Prop) (k : Nat) (t : Shared) : Prop := ∃ i H, Inv B p0 τ H t ∧ seen i t.heap ∧ (∀ b ∈ fp, H b = none) ∧ W i k H
theorem turn_nextP {B : Cx} {P : Program} {w : World} {F : PySem.W.Frag} {tg : Expr} {p0 : List (Addr × Obj)} {σ : L2.St} {vs : List Nat} {J : It} {itA : Addr} {fp : List Addr} {seen : Nat → Heap → Prop} (T : Turn P w F tg J fp itA seen) {W : Nat → Nat → Hp → Prop} {Nx : Hp → Prop} {k i : Nat} {τ : L2.St} {t t' : Shared} {H : Hp} (at_ : seen (i + 1) t.heap)
    (next : ∀ H, Nx H → ∃ j, j < k ∧ W (i + 1) j H) (same : wipe τ vs = wipe σ vs) (I : Inv B (p0 ++ pinsAt fp t.heap) τ H t') (nx : Nx H) : ∃ j, j < k ∧ HereP B p0 (wipe σ vs) seen fp W j t' := by
  obtain ⟨j, lt, w'⟩ := next H nx
  have stay : ∀ b ∈ fp, ∀ o, t.heap.get? b = some o → t'.heap.get? b = some o ∧ H b = none := fun b hb o e => let p := I.pin (b, o) (List.mem_append_right _ (List.mem_append_right _ (mem_pinsAt hb e))); ⟨p.1, p.2.1⟩
  refine ⟨j, lt, i + 1, H, I.unpinned.weak (by rw [← same, wipe_length]) (fun a v e => (wipe_some (same ▸ e)).1), T.keep _ _ _ at_ fun b hb o e => (stay b hb o e).1, fun b hb => ?_, w'⟩
  obtain ⟨o, e, _⟩ := T.obj _ _ at_ b hb; exact (stay b hb o e).2
section
variable {X : Cx} {σ : L2.St} {elt tg iter tg1 iter1 : Expr} {ifs ifs1 : List Expr} {sc : Scope} {own : List (PySem.Str × Nat)} {vs1 : List Nat} {pos pos2 : Pos} {wi wi1 : TI} {g g1 : TG} {tt tt1 : TT} {te : TE}
theorem core2 {pins : List (Addr × Obj)} {s : Shared} {H : Hp} {Q : VK} {use : Option (Value → Sem Unit)} {Qf : Value → Shared → Prop} (hc : X.calm = true) (hN : X.N.Nodup) (I : Inv X pins σ H s) (hi : PI X tg iter wi) (ok : BlkOk X.N X.env.scope sc own) (sub : ∀ i ∈ vs1, i ∈ own.map (·.2))
    (hg : ∀ s H C cl fp, PG (X.blk s H sc (compEnvC sc cl C X.env) fp) tg g) (ht : ∀ s H C cl fp, PTs (X.blk s H sc (compEnvC sc cl C X.env) fp) ifs tt) (hi1 : ∀ s H C cl fp, PI (X.blk s H sc (compEnvC sc cl C X.env) fp) tg1 iter1 wi1) (hg1 : ∀ s H C cl fp, PG (X.blk s H sc (compEnvC sc cl C X.env) fp) tg1 g1)
    (ht1 : ∀ s H C cl fp, PTs (X.blk s H sc (compEnvC sc cl C X.env) fp) ifs1 tt1) (he : ∀ s H C cl fp, PE (X.blk s H sc (compEnvC sc cl C X.env) fp) elt te) (hs : ∀ x, foldedSetIterable iter X.env x = pure x) (hs1 : ∀ env x, foldedSetIterable iter1 env x = pure x) (h : tSetI2 X.w wi g tt wi1 g1 tt1 te (own.map (·.2)) vs1 σ H Q)
    (out : ∀ D C t m H', Inv X pins σ H' t → Q (.ref D) H' → t.heap.Ns C m → FpOk X pins H' C → compPost (model X.prog X.w) X.A X.xe use Qf (.ref D) C (.ok .next) t) :
    wpAny (model X.prog X.w) X.A (comprehension (two elt tg iter tg1 iter1 ifs ifs1 sc pos) sc X.env pos2 (newSet (.type "set")) false (eval iter X.env) use) Qf X.xe s := by
  refine wpAny_comprehension_free (use := use) rfl hs (closure_ok fun y hy e => (ok.free y hy e).elim (fun k => I.ok.has _ (.inl k)) fun k => I.ok.has _ (.inr k)) ok.kind (fun y hy e => by rw [ok.uniq y hy, e]) (thn (hi.run pins s σ H _ I h) fun _ _ came => thn came fun _ t came2 => ?_)
  obtain ⟨itA, fp, seen, J, H2, rfl, I2, T, at0, away, asks⟩ := came2
  refine newSet_ok (newEnv_comp ?_)
  generalize eD : t.heap.objs.size = D
  obtain ⟨W, ⟨k0, w0⟩, turns⟩ := asks D (I2.hok.fresh (Nat.le_of_eq eD))
  generalize e3 : ({ t with heap := t.heap.push (emptySet X.w) } : Shared) = s3
  have p3 : s3.heap = t.heap.push (emptySet X.w) := by rw [← e3]
  have z3 : s3.heap.objs.size = t.heap.objs.size + 1 := by rw [p3, Heap.size_push]
  generalize eH : upd H2 D (SetO X.w D (fun _ => false) 0) = H3 at w0
  have I3 : Inv X pins σ H3 s3 := by
    rw [← e3, ← eH]; refine I2.laid (t' := t.toks) (fun _ _ e => Heap.get?_push_of_some _ e) (Nat.le_of_eq eD) ?_; rw [← eD]; exact setO_new (setR_fresh X.w)
  have own3 : ∀ b ∈ fp, FpOk X pins H3 b ∧ b < s3.heap.objs.size := fun b hb => by
    obtain ⟨_, e, _⟩ := T.obj _ _ at0 b hb
    have lt : b < t.heap.objs.size := Heap.lt_size e
    refine ⟨⟨?_, (away b hb).2⟩, by rw [z3]; exact Nat.lt_succ_of_lt lt⟩; rw [← eH, upd_ne (by rw [← eD]; exact Nat.ne_of_lt lt)]; exact (away b hb).1
  have at3 : seen 0 s3.heap := T.keep _ _ _ at0 fun _ _ _ e => by rw [p3]; exact Heap.get?_push_of_some _ e
  have I4 := block_start I3 ok hN own3
  let cl := cellsFrom (s3.heap.objs.size + 1) sc.names (cloFrom X.env.cells sc.names [])
  have gT := hg s3 H3 s3.heap.objs.size cl fp; have gI := ht s3 H3 s3.heap.objs.size cl fp; have gE := he s3 H3 s3.heap.objs.size cl fp; have gJ := hi1 s3 H3 s3.heap.objs.size cl fp; have gT1 := hg1 s3 H3 s3.heap.objs.size cl fp; have gI1 := ht1 s3 H3 s3.heap.objs.size cl fp
  show codeAny _ _ (.compStart (two elt tg iter tg1 iter1 ifs ifs1 sc pos) 0 (.ref itA) (.ref D) (compEnvC sc cl s3.heap.objs.size X.env)) (compPost (model X.prog X.w) X.A X.xe use Qf (.ref D) s3.heap.objs.size) { s3 with heap := pushCells (s3.heap.push { cls := .type "dict", data := .dict #[] }) sc.names }
  generalize eB : compEnvC sc cl s3.heap.objs.size X.env = ce at gT gI gE gJ gT1 gI1 ⊢
  have I4 : Inv (X.blk s3 H3 sc ce fp) [] (wipe σ (own.map (·.2))) H3 { s3 with heap := pushCells (s3.heap.push { cls := .type "dict", data := .dict #[] }) sc.names } := by rw [← eB]; exact I4
  have loc : ce.locals = s3.heap.objs.size := by rw [← eB]; rfl
  generalize e4 : ({ s3 with heap := pushCells (s3.heap.push { cls := .type "dict", data := .dict #[] }) sc.names } : Shared) = s4 at I4 ⊢
  have at4 : seen 0 s4.heap := T.keep _ _ _ at3 fun _ _ _ e => by rw [← e4]; exact pushCells_keeps _ _ _ _ (Heap.get?_push_of_some _ e)
  have mine : ∀ {σ' : L2.St} {H' : Hp} {t : Shared}, Inv (X.blk s3 H3 sc ce fp) [] σ' H' t → (∀ b ∈ fp, H' b = none) → ∀ b ∈ fp, FpOk (X.blk s3 H3 sc ce fp) [] H' b := fun I' none_ b hb => ⟨none_ b hb, (I'.ok.exf b hb).1, I'.ok.exfs b hb, .inl hb, fun x c e => (I'.ok.exf b hb).2 x c e, fun p hp => by
    have hp : p ∈ ([] : List (Addr × Obj)) ++ [] := hp
    simp at hp⟩
  have all : codeAny (model X.prog X.w) X.A (.compLoop (two elt tg iter tg1 iter1 ifs ifs1 sc pos) 0 (.ref itA) (.ref D) ce) (compPost (model X.prog X.w) X.A X.xe use Qf (.ref D) s3.heap.objs.size) s4 := by
    refine loop_out (hs1 ce) (HereP (X.blk s3 H3 sc ce fp) [] (wipe σ (own.map (·.2))) seen fp W) ?_ k0 ⟨0, H3, I4, at4, fun b hb => (own3 b hb).1.1, w0⟩
    rintro k s5 ⟨i, H5, I5, at5, no5, w5⟩
    rcases turns i k H5 w5 with ⟨ends, fin⟩ | ⟨goes, Nx, next, one⟩
    · refine thnF (T.done (X.blk s3 H3 sc ce fp) rfl rfl rfl hc i [] s5 _ H5 (fun _ _ => False) I5 (mine I5 no5) at5 ends) fun r s6 ⟨hr, I6⟩ => ?_
      subst hr
      have back : Inv X pins σ H5 s6 := I3.call' (ch := fp) I6.os I6.base I6.hok I6.bare fun b hb => let q := (own3 b hb).1.2; ⟨q.2.2.1, q.1, q.2.2.2.1, q.2.2.2.2⟩
      have free : H5 s3.heap.objs.size = none := loc ▸ (show H5 ce.locals = none from I6.free)
      obtain ⟨m, ns, _⟩ := I6.loc
      exact out D s3.heap.objs.size s6 m H5 back fin (loc ▸ (show s6.heap.Ns ce.locals m from ns)) (I3.fpOk (Nat.le_refl _) free)
    · refine thnF (T.item (X.blk s3 H3 sc ce fp) rfl rfl rfl hc i [] s5 _ H5 (fun _ _ => False) I5 (mine I5 no5) at5 goes) fun r s6 ⟨u, hr, came6⟩ => ?_
      subst hr
      refine thnF came6 fun _ s7 ⟨x, H7, I7, r7, y7, at7, no7⟩ => thnF (gT.run _ s7 _ H7 x u _ (I7.pinned (mine I7 no7) (T.obj _ _ at7)) r7 (one x H7 y7)) fun _ s8 ⟨σ8, H8, I8, same, q8⟩ => thnF (gI.run _ s8 σ8 H8 _ I8 q8) fun b s9 ⟨H9, I9, q9⟩ => ?_
      cases b with
      | false => simp only [Bool.false_eq_true, if_false] at q9 ⊢; exact turn_nextP T at7 next same I9 q9
      | true =>
        simp only [if_true] at q9 ⊢
        refine thnF (gJ.run _ s9 σ8 H9 _ I9 q9) fun _ _ cameA => thnF cameA fun _ s11 cameB => ?_
        obtain ⟨it1, fp1, seen1, J1, H11, rfl, I11, T1, atB, awayB, W1, ⟨k1, w1⟩, turns1⟩ := cameB
        have mine1 : ∀ {H' : Hp}, (∀ b ∈ fp1, H' b = none) → ∀ b ∈ fp1, FpOk (X.blk s3 H3 sc ce fp) ([] ++ pinsAt fp s7.heap) H' b := fun no b hb => ⟨no b hb, (awayB b hb).2⟩
        have inner : codeAny (model X.prog X.w) X.A (.compLoop (two elt tg iter tg1 iter1 ifs ifs1 sc pos) 1 (.ref it1) (.ref D) ce) (fun r s' => match r with | .ok _ => ∃ m, m < k ∧ HereP (X.blk s3 H3 sc ce fp) [] (wipe σ (own.map (·.2))) seen fp W m s' | .error _ => False) s11 := by
          refine loop_in (HereP (X.blk s3 H3 sc ce fp) ([] ++ pinsAt fp s7.heap) (wipe σ8 vs1) seen1 fp1 W1) ?_ k1 ⟨0, H11, I11.weak (wipe_length _ _) (fun j v e => (wipe_some e).1), atB, fun b hb => (awayB b hb).1, w1⟩
          rintro k2 s12 ⟨j, H12, I12, at12, no12, w12⟩
          rcases turns1 j k2 H12 w12 with ⟨ends1, nx⟩ | ⟨goes1, Nx1, next1, one1⟩
          · refine thnF (T1.done (X.blk s3 H3 sc ce fp) rfl rfl rfl hc j _ s12 _ H12 (fun _ _ => False) I12 (mine1 no12) at12 ends1) fun r s13 ⟨hr, I13⟩ => ?_
            subst hr
            exact turn_nextP T at7 next ((wipe_sub sub).trans same) I13 nx
          · refine thnF (T1.item (X.blk s3 H3 sc ce fp) rfl rfl rfl hc j _ s12 _ H12 (fun _ _ => False) I12 (mine1 no12) at12 goes1) fun r s13 ⟨u1, hr, came13⟩ => ?_
            subst hr
            refine thnF came13 fun _ s14 ⟨x1, H14, I14, r14, y14, at14, no14⟩ => thnF (gT1.run _ s14 _ H14 x1 u1 _ (I14.pinned (mine1 no14) (T1.obj _ _ at14)) r14 (one1 x1 H14 y14)) fun _ s15 ⟨σ15, H15, I15, same1, q15⟩ => thnF (gI1.run _ s15 σ15 H15 _ I15 q15) fun b s16 ⟨H16, I16, q16⟩ => ?_
            cases b with
            | false => simp only [Bool.false_eq_true, if_false] at q16 ⊢; exact turn_nextP T1 at14 next1 same1 I16 q16
            | true =>
              simp only [if_true] at q16 ⊢
              refine thnF (gE.run _ s16 σ15 H16 _ I16 q16) fun z s17 ⟨_, H17, I17, rz, c, S0, n0, ey, atD, few, nx⟩ => ?_
              subst ey
              obtain ⟨tk, rfl⟩ := (show ∃ tk, z = Value.int c tk from rz)
              exact addI_ok (X := X.blk s3 H3 sc ce fp) I17 atD few fun _ I18 => turn_nextP T1 at14 next1 same1 I18 nx
        exact start1 inner (T1.self X.A 0 _ _ _ atB inner)
  exact codeAny_compStart_set all (T.self X.A 0 _ _ _ at4 all)
/-- as a value -/
theorem pe_setI2 (hc : X.calm = true) (hN : X.N.Nodup) (hi : PI X tg iter wi) (ok : BlkOk X.N X.env.scope sc own) (sub : ∀ i ∈ vs1, i ∈ own.map (·.2))
    (hg : ∀ s H C cl fp, PG (X.blk s H sc (compEnvC sc cl C X.env) fp) tg g) (ht : ∀ s H C cl fp, PTs (X.blk s H sc (compEnvC sc cl C X.env) fp) ifs tt) (hi1 : ∀ s H C cl fp, PI (X.blk s H sc (compEnvC sc cl C X.env) fp) tg1 iter1 wi1) (hg1 : ∀ s H C cl fp, PG (X.blk s H sc (compEnvC sc cl C X.env) fp) tg1 g1)
    (ht1 : ∀ s H C cl fp, PTs (X.blk s H sc (compEnvC sc cl C X.env) fp) ifs1 tt1) (he : ∀ s H C cl fp, PE (X.blk s H sc (compEnvC sc cl C X.env) fp) elt te) (hs : ∀ x, foldedSetIterable iter X.env x = pure x := by intro _; rfl) (hs1 : ∀ env x, foldedSetIterable iter1 env x = pure x := by intro _ _; rfl) :
    PE X (two elt tg iter tg1 iter1 ifs ifs1 sc pos) (tSetI2 X.w wi g tt wi1 g1 tt1 te (own.map (·.2)) vs1) :=
  ⟨fun pins s σ H Q I h => by
    rw [eval_SetComp]
    exact core2 hc hN I hi ok sub hg ht hi1 hg1 ht1 he hs hs1 h fun D C t m H' I' q ns f => ⟨m, ns, fun h'' sb => ⟨.ref D, H', I'.turned (t' := t.toks) (fun b o ne e => (sb.2 b ne).trans e) f.1 f.2.1 f.2.2.2.1 f.2.2.2.2.1 f.2.2.2.2.2, rfl, q⟩⟩⟩
end
end TxS2

set_option Elab.async false
set_option linter.all false
set_option maxRecDepth 100000
set_option maxHeartbeats 2000000
set_option autoImplicit false
/-! Tx: sorted of such a set -/
namespace Tx
open PySem L2 TxS2
section
variable {K : PySem.W.Frag} {m : Mo} {Γ : G} {te : TE} {tt tt1 : TT} {w : World}
theorem er_stk {Γ2 : G} {σ2 : L2.St} {H H' : Hp} (e : ER m K Γ2 σ2 H) (st : StK m H H') (i : m.I H') : ER m K Γ2 σ2 H' := ⟨i, e.len, fun j d h => let ⟨v, h1, h2⟩ := e.at_ j d h; ⟨v, h1, h2.mv fun a o n q => st a o n q⟩⟩
theorem rp_intsL (F : Addr → Prop) (H : Hp) : ∀ l : List Int, RpAll K F H (l.map V.int) (l.map D.int)
  | [] => .nil
  | _ :: l => .cons (.int _) (rp_intsL F H l)
theorem en_sortSet2 {α : Type} {wi wi1 : TI} {g g1 : TG} {vs vs1 : List Nat} {xs : List α} {js js1 : List Nat} (enc : α → D) (ys : α → List Int) (hj : ∀ j ∈ js, j ∈ vs) (hj1 : ∀ j ∈ js1, j ∈ vs1) (hi : ItD1 m K wi Γ (xs.map enc)) (hu : (xs.flatMap ys).length < 60)
    (hs : ∀ m', Mo.Le m m' → ∀ x, x ∈ xs → ∃ Γ2, TgD m' K g (wipeG Γ vs) (enc x) js Γ2 ∧ EvT1 m' K tt Γ2 true ∧ ItX m' K wi1 Γ2 ((ys x).map D.int) ∧ ∀ y ∈ ys x, ∃ Γ3, TgD m' K g1 (wipeG Γ2 vs1) (.int y) js1 Γ3 ∧ EvT1 m' K tt1 Γ3 true ∧ Ev1 m' K te Γ3 (.int y)) :
    EvN m K (tCB (rSortedSet w) (tCons (tSetI2 w wi g tt wi1 g1 tt1 te vs vs1) tNil)) Γ (fun d => ∃ ns : List Int, d = .lst (ns.map D.int) ∧ ns.Pairwise (· < ·) ∧ ∀ k, k ∈ ns ↔ k ∈ xs.flatMap ys) := fun σ H e Q q => by
  refine (show tSetI2 w wi g tt wi1 g1 tt1 te vs vs1 σ H (fun x H2 => rSortedSet w [x] H2 Q) from ?_)
  refine hi σ H e _ fun J zs H1 hz r1 wk => fun Dl hD => ?_
  subst hz
  have e1 := e.mv r1
  have nF : ¬ m.F Dl := fun f => m.fa e1.i f hD
  have rN : m.R H1 (upd H1 Dl (SetO w Dl (fun _ => false) 0)) := m.grow e1.i (same_new hD)
  have wkA : ∀ H', m.R H1 H' → (m.ext Dl).I H' → WkD (m.ext Dl) K J H' (xs.map enc) := fun H' r i => wk (m.ext Dl) (m.le_ext Dl) H' i r fun a f n => f.elim (fun f => absurd f n) fun z => z ▸ hD
  have hlen : (xs.map enc).length = xs.length := List.length_map _
  refine ⟨fun i k H' => k = xs.length - i ∧ i ≤ xs.length ∧ m.R H1 H' ∧ ∃ S n, H' Dl = some (SetO w Dl S n) ∧ n ≤ ((xs.take i).flatMap ys).length ∧ ∀ j, S j = true ↔ j ∈ (xs.take i).flatMap ys, ⟨_, rfl, Nat.zero_le _, rN, _, 0, upd_same, Nat.le_refl 0, fun j => by simp⟩, ?_⟩
  rintro i k H' ⟨rfl, hle, r, S, n, hS, hn, hm⟩
  have eX : ER (m.ext Dl) K Γ σ H' := e1.ext hD r (by rw [hS]; exact fun z => nomatch z)
  have wkX := wkA H' r eX.i
  by_cases hlt : i < xs.length
  · refine .inr ⟨wkX.go i H' (m.refl _) (by rw [hlen]; exact hlt), fun H3 => m.R H1 H3 ∧ ∃ S n, H3 Dl = some (SetO w Dl S n) ∧ n ≤ ((xs.take (i + 1)).flatMap ys).length ∧ ∀ j, S j = true ↔ j ∈ (xs.take (i + 1)).flatMap ys, fun H3 z => ⟨xs.length - (i + 1), by omega, rfl, hlt, z⟩, fun x H2 y => ?_⟩
    obtain ⟨r2, d, hd, rx⟩ := wkX.yld i H' x H2 (m.refl _) (by rw [hlen]; exact hlt) y
    rw [List.getElem?_map, List.getElem?_eq_getElem hlt] at hd
    injection hd with hd
    subst hd
    obtain ⟨Γ2, tg, tst, itx, el⟩ := hs (m.ext Dl) (m.le_ext Dl) xs[i] (List.getElem_mem hlt)
    have tk : xs.take (i + 1) = xs.take i ++ [xs[i]] := take_one (List.getElem?_eq_getElem hlt)
    have tf : (xs.take (i + 1)).flatMap ys = (xs.take i).flatMap ys ++ ys xs[i] := by rw [tk, List.flatMap_append]; simp
    have tot : ((xs.take i).flatMap ys).length + (ys xs[i]).length < 60 := by
      have z : xs.flatMap ys = (xs.take (i + 1)).flatMap ys ++ (xs.drop (i + 1)).flatMap ys := by rw [← List.flatMap_append, List.take_append_drop]
      rw [z, tf, List.length_append, List.length_append] at hu
      omega
    refine tg x (wipe σ vs) H2 ((eX.mv r2).wipe vs) rx _ fun σ3 H3 e3 r3 w3 => ⟨by rw [w3 vs hj, wipe_wipe], ?_⟩
    refine tst σ3 H3 e3 _ fun b H4 tb r4 => ?_
    subst tb
    rw [if_pos rfl]
    have e4 := e3.mv r4
    refine itx σ3 H4 e4 _ fun J1 H6 r6 wk1 => ?_
    have e6 := e4.mv r6
    have r16 : m.R H1 H6 := m.trans r (m.trans r2 (m.trans r3 (m.trans r4 r6)))
    have hS6 : H6 Dl = some (SetO w Dl S n) := m.keep (m.trans r2 (m.trans r3 (m.trans r4 r6))) eX.i.1 Dl _ nF hS
    refine ⟨fun j k2 H7 => k2 = (ys xs[i]).length - j ∧ j ≤ (ys xs[i]).length ∧ m.R H1 H7 ∧ StK (m.ext Dl) H6 H7 ∧ ∃ S n, H7 Dl = some (SetO w Dl S n) ∧ n ≤ ((xs.take i).flatMap ys).length + j ∧ ∀ z, S z = true ↔ z ∈ (xs.take i).flatMap ys ++ (ys xs[i]).take j, ⟨_, rfl, Nat.zero_le _, r16, fun _ _ _ z => z, S, n, hS6, by omega, fun z => by rw [hm]; simp⟩, ?_⟩
    rintro j k2 H7 ⟨rfl, hle1, r7, st7, S7, n7, hS7, hn7, hm7⟩
    have i7 : (m.ext Dl).I H7 := ⟨m.inv r7 e1.i, by rw [hS7]; exact fun z => nomatch z⟩
    have e7 : ER (m.ext Dl) K Γ2 σ3 H7 := er_stk e6 st7 i7
    obtain ⟨go, stop, yld⟩ := wk1 H7 st7
    by_cases hlt1 : j < (ys xs[i]).length
    · refine .inr ⟨go j (by rw [List.length_map]; exact hlt1), fun H8 => m.R H1 H8 ∧ StK (m.ext Dl) H6 H8 ∧ ∃ S n, H8 Dl = some (SetO w Dl S n) ∧ n ≤ ((xs.take i).flatMap ys).length + (j + 1) ∧ ∀ z, S z = true ↔ z ∈ (xs.take i).flatMap ys ++ (ys xs[i]).take (j + 1), fun H8 z => ⟨(ys xs[i]).length - (j + 1), by omega, rfl, hlt1, z⟩, fun x1 H8 y1 => ?_⟩
      obtain ⟨e2, d1, hd1, rx1⟩ := yld j x1 H8 (by rw [List.length_map]; exact hlt1) y1
      subst e2
      rw [List.getElem?_map, List.getElem?_eq_getElem hlt1] at hd1
      injection hd1 with hd1
      subst hd1
      obtain ⟨Γ3, tg1, tst1, el1⟩ := el _ (List.getElem_mem hlt1)
      refine tg1 x1 (wipe σ3 vs1) H8 (e7.wipe vs1) rx1 _ fun σ5 H9 e9 r9 w9 => ⟨by rw [w9 vs1 hj1, wipe_wipe], ?_⟩
      refine tst1 σ5 H9 e9 _ fun b H10 tb r10 => ?_
      subst tb
      rw [if_pos rfl]
      refine el1 σ5 H10 (e9.mv r10) _ fun v dv H11 sv r11 rv => ?_
      subst sv
      have rr : m.R H8 H11 := m.trans r9 (m.trans r10 r11)
      have hS11 : H11 Dl = some (SetO w Dl S7 n7) := m.keep rr i7.1 Dl _ nF hS7
      refine ⟨(ys xs[i])[j], S7, n7, rv.intE, hS11, by unfold scanBound; omega, m.chg e1.i (m.trans r7 rr) hD, fun a o n q => ?_, _, _, upd_same, by split <;> omega, fun z => ?_⟩
      · rw [upd_ne (fun z => n (.inr z))]
        exact (m.ext Dl).keep rr i7 a o n (st7 a o n q)
      · rw [Bool.or_eq_true, hm7, decide_eq_true_iff, take_one (List.getElem?_eq_getElem hlt1), ← List.append_assoc]
        simp only [List.mem_append, List.mem_singleton]
    · have e0 : j = (ys xs[i]).length := by omega
      subst e0
      refine .inl ⟨by rw [List.length_map] at stop; exact stop, r7, S7, n7, hS7, by rw [tf, List.length_append]; exact hn7, fun z => ?_⟩
      rw [hm7, tf, List.take_length]
  · have e0 : i = xs.length := by omega
    subst e0
    have iN : m.I H' := m.inv r e1.i
    refine .inl ⟨by have := wkX.stop H' (m.refl _); rw [hlen] at this; exact this, ?_⟩
    rw [List.take_length] at hn hm
    refine ⟨Dl, S, n, rfl, hS, by omega, fun ns p hp1 hp2 _ hp3 => ?_⟩
    exact q _ (.lst (ns.map D.int)) _ ⟨ns, rfl, hp1, fun k => by rw [hp2, hm]⟩ (m.trans r1 (m.trans r (m.grow iN (same_new hp3)))) (.lst (fun z => m.fa iN z hp3) upd_same (rp_intsL _ _ ns))
end
end Tx

set_option Elab.async false
set_option linter.all false
set_option maxRecDepth 100000
set_option maxHeartbeats 2000000
set_option autoImplicit false
/-! Tx: len(set(..)) of different numbers -/
namespace Tx
open PySem PySem.Spec PyProof.Rows L2 PpSet
def rLenSet (w : World) : List V → Hp → VK → Prop := fun vs H Q => ∃ (l : Addr) (S : Int → Bool) (n : Nat) (ns : List Int), vs = [V.ref l] ∧ H l = some (SetO w l S n) ∧ ns.Nodup ∧ (∀ k, S k = true ↔ k ∈ ns) ∧ Q (.int (ns.length : Nat)) H
theorem cr_lenSet {X : Cx} : CallR X (.builtin "len") (rLenSet X.w) := by
  intro pins s σ H vs us Q I r q0
  obtain ⟨l, S, n, ns, rfl, hl, nd, hm, q⟩ := q0
  rw [Vals.ref1 r]
  obtain ⟨o, es, ep, t, ho, hex, hd, _, nd', hS, hb, hf, hn, _, _⟩ := setO_get I hl
  have p : (es.toList.map keyOf).Perm ns := (List.perm_ext_iff_of_nodup nd' nd).mpr fun k => (hS k).symm.trans (hm k)
  have e : es.size = ns.length := by have := p.length_eq; rw [List.length_map, Array.length_toList] at this; exact this
  exact call_len_set ho hex hd hf (by unfold scanBound at hb; omega) ⟨.int (ns.length : Nat), H, I.tok _, ⟨_, by rw [e]⟩, q⟩
section
variable {K : PySem.W.Frag} {m : Mo} {Γ : G} {te : TE} {w : World}
theorem en_lenSet {b : D} {ns : List Int} (h : Ev1 m K te Γ b) (hb : b = .tup (ns.map D.int) ∨ b = .lst (ns.map D.int)) (hu : ns.length < 60) (nd : ns.Nodup) : Ev1 m K (tCB (rLenSet w) (tCons (tCB (rSetU K w) (tCons te tNil)) tNil)) Γ (.int (ns.length : Nat)) := fun σ H e Q q =>
  h σ H e _ fun v d H1 s r1 rv => by
    subst s
    have i1 := m.inv r1 e.i
    have fin : ∀ (l : Addr) (c : Nat), c ≤ ns.length → H1 l = none → (rLenSet w) [V.ref l] (upd H1 l (SetO w l (fun j => decide (j ∈ ns)) c)) Q := fun l c hcn hl =>
      ⟨l, _, c, ns, rfl, upd_same, nd, fun k => decide_eq_true_iff, q _ _ _ rfl (m.trans r1 (m.grow i1 (same_new hl))) (.int _)⟩
    rcases hb with hb | hb
    · subst hb
      obtain ⟨a, vs, rfl, ha, ra⟩ := rv.tupE
      rw [ra.ints] at ha
      exact .inl ⟨a, ns, rfl, ha, hu, fin⟩
    · subst hb
      obtain ⟨a, vs, rfl, ha, ra⟩ := rv.lstE
      rw [ra.ints] at ha
      exact .inr ⟨a, ns, rfl, SqL.of ha, hu, fin⟩
end
/-- powers of greater numbers -/
def CPowW (i j : Int) : Prop := 0 ≤ j ∧ (Builtin.Int.intBits i : Int) * j ≤ 2 ^ 27
theorem op_powW {X : Cx} : OpR X (binaryOp .Pow) (rI CPowW fun i j => .int (i ^ j.toNat)) := opI fun _ _ _ _ _ _ _ hc q => pow_int hc.1 hc.2 q
end Tx

set_option Elab.async false
set_option linter.all false
set_option maxRecDepth 100000
set_option maxHeartbeats 2000000
set_option autoImplicit false
/-! Tx: return [x.pop(e) for .. in ..], x a list of one's own -/
namespace Tx
open PySem L2
theorem perm_out {α : Type} : ∀ {l : List α} {i : Nat} (h : i < l.length), (l[i] :: l.eraseIdx i).Perm l
  | a :: l, 0, _ => List.Perm.refl _
  | a :: l, i + 1, h => by
    have q := perm_out (l := l) (i := i) (by simpa using h)
    exact (List.Perm.swap a (l[i]'(by simpa using h)) (l.eraseIdx i)).symm.symm.trans (q.cons a)
section
variable {K : PySem.W.Frag} {m : Mo} {Γ : G} {te : TE} {ds : List D} {l : Addr} {H0 : Hp} {O : OutO}
theorem so_retPop {i n : Nat} {wi : TI} {g : TG} {vs js : List Nat} {xs : List D} {S : Nat → D → Prop} (hi : Γ[i]? = some (some (.adr l))) (hn : ds.length = n) (hz : n ≤ 1000) (hx : xs.length = n) (hj : ∀ j ∈ js, j ∈ vs) (hit : ItX (m.ext l) K wi Γ xs)
    (hint : ∀ d ∈ xs, ∃ z : Int, d = .int z)
    (hs : ∀ (Dl : Addr) (j : Nat) (d : D) (left : List D), xs[j]? = some d → left.length = n - j → ∃ Γ2, TgD (m.ext2 l Dl) K g (wipeG Γ vs) d js Γ2 ∧ Γ2[i]? = some (some (.adr l)) ∧ EvN (m.ext Dl) K te (Γ2.set i (some (.lst left))) (S left.length)) (hS : ∀ c d, S c d → ∃ k : Nat, d = dN k ∧ k < c)
    (kk : ∀ zs, zs.Perm ds → O.rt (.lst zs)) : SGo m K l H0 (tRet (tLc wi g tYes (tBM K "list" rPopAt (tVar i) (tCons te tNil)) vs)) Γ ds O := fun h0 i0 σ H vs0 r e hl ra E M => by
  refine (show tLc wi g tYes (tBM K "list" rPopAt (tVar i) (tCons te tNil)) vs σ H (fun v H' => E.rt v H') from ?_)
  refine hit σ H e _ fun J H1 r1 wk => fun Dl hD => ?_
  have r01 : m.R H0 H1 := m.trans r r1
  have k0 : H0 Dl = none := Classical.byContradiction fun z => m.had i0 r01 z hD
  have hl1 : H1 l = some (.lst vs0) := m.keep r1 e.i.1 l _ (nFl h0 i0) hl
  have hlk : l ≠ Dl := fun z => by rw [z, hD] at hl1; cases hl1
  have ra1 : RpAll K (m.ext l).F H1 vs0 ds := ra.mv ((m.ext l).keep r1 e.i)
  have e1 := e.mv r1
  have rN : m.R H1 (upd H1 Dl (.lst [])) := m.grow e1.i.1 (same_new hD)
  have eX : ER (m.ext2 l Dl) K Γ σ (upd H1 Dl (.lst [])) := e1.ext hD rN (by rw [upd_same]; exact fun z => nomatch z)
  refine ⟨fun j k H' => k = n - j ∧ j ≤ n ∧ m.R H0 H' ∧ StK (m.ext2 l Dl) H1 H' ∧ ER (m.ext2 l Dl) K Γ σ H' ∧ ∃ (acc left : List D) (av lv : List V), H' Dl = some (.lst av) ∧ H' l = some (.lst lv) ∧ RpAll K (m.ext2 l Dl).F H' av acc ∧ RpAll K (m.ext2 l Dl).F H' lv left ∧ acc.length = j ∧ left.length = n - j ∧ (acc ++ left).Perm ds,
    ⟨_, rfl, Nat.zero_le _, m.trans r01 rN, fun a o q z => by rw [upd_ne (fun y => q (.inr y))]; exact z, eX, [], ds, [], vs0, upd_same, (upd_ne hlk).trans hl1, .nil, ?_, rfl, by omega, List.Perm.refl _⟩, ?_⟩
  · exact Rp.goAll (fun a o q z => ⟨fun y => y.elim q fun y => (by rw [y, hD] at z; cases z), same_new hD a o z⟩) ra1
  rintro j k H' ⟨rfl, hle, r', st, e', acc, left, av, lv, hDl, hl', rac, rle, la, ll, pm⟩
  obtain ⟨go, stop, yld⟩ := wk H' fun a o q z => st a o (fun y => y.elim q fun y => (by rw [y, hD] at z; cases z)) z
  by_cases hlt : j < n
  · refine .inr ⟨go j (by omega), fun H3 => m.R H0 H3 ∧ StK (m.ext2 l Dl) H1 H3 ∧ ER (m.ext2 l Dl) K Γ σ H3 ∧ ∃ (acc left : List D) (av lv : List V), H3 Dl = some (.lst av) ∧ H3 l = some (.lst lv) ∧ RpAll K (m.ext2 l Dl).F H3 av acc ∧ RpAll K (m.ext2 l Dl).F H3 lv left ∧ acc.length = j + 1 ∧ left.length = n - (j + 1) ∧ (acc ++ left).Perm ds, fun H3 q => ⟨n - (j + 1), by omega, rfl, hlt, q⟩, fun x H2 y => ?_⟩
    obtain ⟨e2, d, hd', rx⟩ := yld j x H2 (by omega) y
    subst e2
    obtain ⟨z, rfl⟩ := hint d (List.mem_of_getElem? hd')
    obtain rfl := rx.intE
    obtain ⟨Γ2, tg, hi2, ev⟩ := hs Dl j _ left hd' ll
    refine tg (.int z) (wipe σ vs) H2 (e'.wipe vs) (.int z) _ fun σ3 H3 e3 r3 w3 => ⟨by rw [w3 vs hj, wipe_wipe], ?_⟩
    refine et_yes σ3 H3 e3 _ fun b H4 tb r4 => ?_
    subst tb
    rw [if_pos rfl]
    have e4 := e3.mv r4
    have r24 : m.R H2 H4 := m.trans r3 r4
    have up4 := (m.ext2 l Dl).keep r24 e'.i
    have hl4 : H4 l = some (.lst lv) := m.keep r24 e'.i.1.1 l _ (nFl h0 i0) hl'
    have hD4 : H4 Dl = some (.lst av) := m.keep r24 e'.i.1.1 Dl _ (nFl k0 i0) hDl
    obtain ⟨w, g1, g2⟩ := e4.at_ i _ hi2
    obtain rfl := g2.adrE
    refine ⟨_, g1, .inl ⟨rfl, lv, SqL.of hl4⟩, ?_⟩
    refine ev σ3 H4 (er_disp h0 i0 hlk e4 hi2 hl4 (rle.mv up4)) _ fun v d' H5 s r5 rv => ?_
    obtain ⟨c, rfl, hc⟩ := hS _ d' s
    obtain rfl := rv.intE
    have r25 : m.R H2 H5 := m.trans r24 r5
    have up5 := (m.ext2 l Dl).keep r25 e'.i
    have hl5 : H5 l = some (.lst lv) := m.keep r5 e4.i.1.1 l _ (nFl h0 i0) hl4
    have hD5 : H5 Dl = some (.lst av) := m.keep r5 e4.i.1.1 Dl _ (nFl k0 i0) hD4
    have e5 : ER (m.ext2 l Dl) K Γ σ H5 := e'.mv (m := m.ext2 l Dl) r25
    have lu := rle.len
    have lv' := rac.len
    have hnu : c < lv.length := by omega
    obtain ⟨dx, hdx, rdx⟩ := (rle.mv up5).at (List.getElem?_eq_getElem hnu)
    have rr : m.R H0 (upd H5 l (.lst (lv.eraseIdx c))) := m.chg i0 (m.trans r' r25) h0
    obtain ⟨mv, e6⟩ := sp_keep (o := .lst (lv.eraseIdx c)) (.inl rfl) rr i0 e5
    refine ⟨l, lv, (c : Int), c, lv[c], rfl, rfl, hl5, by omega, by omega, ?_, List.getElem?_eq_getElem hnu, ?_⟩
    · unfold seqIndex?
      simp
      omega
    have hD6 : (upd H5 l (.lst (lv.eraseIdx c))) Dl = some (.lst av) := (upd_ne (Ne.symm hlk)).trans hD5
    have rr2 : m.R H0 (upd (upd H5 l (.lst (lv.eraseIdx c))) Dl (.lst (av ++ [lv[c]]))) := m.chg i0 rr k0
    obtain ⟨mv2, e7⟩ := sp_keep (o := .lst (av ++ [lv[c]])) (.inr rfl) rr2 i0 e6
    have hcl : c < left.length := by omega
    have hdx' : left[c] = dx := by rw [List.getElem?_eq_getElem hcl] at hdx; exact Option.some.inj hdx
    refine ⟨av, hD6, Nat.lt_of_lt_of_le (show av.length < 1001 by omega) (by decide), rr2, fun a o q z => mv2 a o q (mv a o q (up5 a o q (st a o q z))), e7, acc ++ [dx], left.eraseIdx c, _, _, upd_same, (upd_ne hlk).trans upd_same, ((((rac.mv up5).append (.cons rdx .nil)).mv mv)).mv mv2, (((rle.mv up5).eraseN c).mv mv).mv mv2, by rw [List.length_append, la]; rfl, by rw [List.length_eraseIdx, if_pos hcl]; omega, ?_⟩
    have p1 : (left[c] :: left.eraseIdx c).Perm left := perm_out hcl
    rw [hdx'] at p1
    rw [List.append_assoc]
    exact (p1.append_left acc).trans pm
  · have ej : j = n := by omega
    subst ej
    have lnil : left = [] := List.length_eq_zero_iff.mp (by omega)
    subst lnil
    rw [List.append_nil] at pm
    exact .inl ⟨by rw [← hx]; exact stop, M.rt _ _ _ (kk acc pm) r' (.lst (nFl k0 i0) hDl (rac.weak fun a f => .inl (.inl f)))⟩
end
end Tx

set_option Elab.async false
set_option linter.all false
set_option maxRecDepth 100000
set_option maxHeartbeats 2000000
set_option autoImplicit false
/-! Tx: a list of one's own that begins with something drawn; a loop of drawn length over it -/
namespace Tx
open PySem L2
section
variable {K : PySem.W.Frag} {m : Mo} {Γ : G} {ts tw : TS} {ds : List D} {l : Addr} {H0 : Hp} {O : OutO}
theorem sq_newLN {i : Nat} {ta : TA} {T : List D → Prop} {O : Out} (h : EvA m K ta Γ T) (hz : ∀ ds, T ds → ds.length ≤ 100000) (k : ∀ l H0 ds, T ds → SGo m K l H0 tw (Γ.set i (some (.adr l))) ds { nx := fun _ _ => False, rt := O.rt }) : SG m K (tSeq (tAsg (tLst ta) (gName i)) tw) Γ O := fun σ H e E M =>
  h σ H e _ fun vs ds' H1 s r1 rs => ⟨Nat.le_trans (show vs.length ≤ 100000 by have := hz _ s; have := rs.len; omega) (by decide), fun l hl => by
    have e1 := e.mv r1
    have rN : m.R H1 (upd H1 l (.lst vs)) := m.grow e1.i (same_new hl)
    have eX : ER (m.ext l) K Γ σ (upd H1 l (.lst vs)) := e1.ext hl rN (by rw [upd_same]; exact fun z => nomatch z)
    exact k l H1 ds' s hl e1.i _ _ vs rN (eX.set i (.adr l)) upd_same (Rp.goAll (fun a o n q => ⟨fun z => z.elim n fun z => (by rw [z, hl] at q; cases q), same_new hl a o q⟩) rs) E ⟨fun _ _ _ _ _ o => o.elim, fun d v H' o r rv => M.rt d v H' o (m.trans r1 r) rv⟩⟩
/-- for .. in range(e), e drawn -/
theorem so_forRN {ta : TA} {g : TG} {b : Nat} (h : EvA (m.ext l) K ta Γ fun ds => ∃ n : Nat, ds = [dN n] ∧ n < b) (hb : b ≤ 1000) (V : Nat → G → List D → Prop) (hv : V 0 Γ ds)
    (hs : ∀ i Γ' ds', i + 1 < b → V i Γ' ds' → ∃ Γ2 js, TgD (m.ext l) K g Γ' (dN i) js Γ2 ∧ SGo m K l H0 ts Γ2 ds' { nx := V (i + 1), rt := O.rt }) (hd : ∀ i Γ' ds', V i Γ' ds' → O.nx Γ' ds') : SGo m K l H0 (tFor (iRng1 ta) g ts) Γ ds O := fun h0 i0 σ H vs r e hl ra E M => by
  have key : ∀ (n : Nat), n < b → ∀ (σ' : L2.St) (H' : Hp), m.R H0 H' → ER (m.ext l) K Γ σ' H' → H' l = some (.lst vs) → RpAll K (m.ext l).F H' vs ds → MeetsO m K l H0 H' O E → tFor (iRng1 (tCons (tC (.int n)) tNil)) g ts E σ' H' := fun n hn σ' H' r' e' hl' ra' M' =>
    so_for (xs := (List.range n).map dN) (itx_rng (ea_cons (en_int n) ea_nil) (by omega)) V hv (fun i d Γ' ds' hx w => by
      have hi := (List.getElem?_eq_some_iff.mp hx).1
      rw [List.length_map, List.length_range] at hi
      rw [List.getElem?_map, List.getElem?_range hi] at hx
      injection hx with hx
      subst hx
      exact hs i Γ' ds' (by omega) w) (fun Γ' ds' w => hd _ Γ' ds' w) h0 i0 σ' H' vs r' e' hl' ra' E M'
  refine h σ H e _ fun ws ds' H1 ⟨n, s, hn⟩ r1 rs => ?_
  subst s
  cases rs with
  | cons rv rs =>
    cases rs
    obtain rfl := rv.intE
    exact key n hn σ H1 (m.trans r r1) (e.mv r1) (m.keep r1 e.i.1 l _ (nFl h0 i0) hl) (ra.mv ((m.ext l).keep r1 e.i)) (M.mv fun a o n q => (m.ext l).keep r1 e.i a o n q)
end
end Tx

set_option Elab.async false
set_option linter.all false
set_option maxRecDepth 100000
set_option maxHeartbeats 2000000
set_option autoImplicit false
/-! Tx: x[:e] of a list, both drawn; a list times a number -/
namespace Tx
open PySem L2
section
variable {K : PySem.W.Frag} {m : Mo} {Γ : G} {te th ta tb : TE}
theorem en_slLN {b : Nat} {S : List D → Prop} {R : Nat → Prop} (h : EvN m K te Γ fun d => ∃ ds, d = .lst ds ∧ S ds) (hh : EvN m K th Γ fun d => ∃ k : Nat, d = dN k ∧ k ≤ b ∧ R k) (hb : ∀ ds, S ds → b ≤ ds.length) : EvN m K (tSl (rSlL K) te tNoPart (tPart th)) Γ (fun d => ∃ (ds : List D) (k : Nat), d = .lst (ds.take k) ∧ S ds ∧ k ≤ b ∧ R k) := fun σ H e Q q =>
  h σ H e _ fun v d H1 ⟨ds, ed, hS⟩ r1 rv => hh σ H1 (e.mv r1) _ fun u du H2 ⟨k, eu, hk, hR⟩ r2 ru => by
    subst ed; subst eu
    refine ⟨k, ru.intE, ?_⟩
    have i1 := m.inv r1 e.i
    obtain ⟨a, vs, rfl, ha, ra⟩ := (rv.mv (m.keep r2 i1)).lstE
    have len := ra.len
    refine ⟨a, vs, rfl, SqL.of ha, fun p hp => q _ (.lst (ds.take k)) _ ⟨ds, k, rfl, hS, hk, hR⟩ (m.trans r1 (m.trans r2 (m.grow (m.inv r2 i1) (same_new hp)))) (rp_newL (m.inv r2 i1) hp ?_)⟩
    rw [← cutD_to (Nat.le_trans hk (hb ds hS))]
    unfold cutV cutD
    rw [len]
    exact RpAll.takeN _ (RpAll.dropN _ ra)
theorem en_mulLs {n : Nat} {ds : List D} (h : Ev1 m K ta Γ (.lst ds)) (hn : Ev1 m K tb Γ (dN n)) (hz : ds.length * n ≤ 100000) (hn2 : n ≤ 100000) : Ev1 m K (tOp (rMulL K) ta tb) Γ (.lst (List.replicate n ds).flatten) := fun σ H e Q q =>
  h σ H e _ fun v d' H1 s r1 rv => hn σ H1 (e.mv r1) _ fun w dw H2 s2 r2 rw' => by
    subst s; subst s2
    have i1 := m.inv r1 e.i
    have i2 := m.inv r2 i1
    obtain ⟨a, vs, rfl, ha, ra⟩ := (rv.mv (m.keep r2 i1)).lstE
    obtain rfl := rw'.intE
    refine .inr ⟨a, n, vs, rfl, rfl, ha, by omega, by omega, Nat.le_trans (show vs.length * (n : Int).toNat ≤ 100000 by rw [ra.len, Int.toNat_natCast]; exact hz) (by decide), fun p hp => ?_⟩
    rw [Int.toNat_natCast]
    exact q _ _ _ rfl (m.trans r1 (m.trans r2 (m.grow i2 (same_new hp)))) (rp_newL i2 hp (RpAll.repL ra n))
end
end Tx

set_option Elab.async false
set_option linter.all false
set_option maxRecDepth 100000
set_option maxHeartbeats 2000000
set_option autoImplicit false
/-! Tx: repr of a number or None; truth values: their place in a list, sorted ones -/
namespace Tx
open PySem PySem.Spec PyProof.Rows L2
section
variable {X : Cx}
def rRepr : List V → Hp → VK → Prop := fun vs H Q => (∃ i : Int, vs = [V.int i] ∧ i.natAbs.log2 < 1920 ∧ Q (.str (toString i)) H) ∨ (vs = [V.non] ∧ Q (.str "None") H)
theorem cr_repr : CallR X (.builtin "repr") rRepr := by
  intro pins s σ H vs us Q I r h
  cases r with
  | nil => rcases h with ⟨i, e, _⟩ | ⟨e, _⟩ <;> cases e
  | cons r1 r2 =>
    cases r2 with
    | cons _ _ => rcases h with ⟨i, e, _⟩ | ⟨e, _⟩ <;> cases e
    | nil =>
      rcases h with ⟨i, e, hz, q⟩ | ⟨e, q⟩
      · injection e with e _
        subst e
        obtain ⟨t, rfl⟩ := r1
        exact PySem.P.repr_of_int hz ⟨V.str (toString i), H, I.tok _, ⟨_, rfl⟩, q⟩
      · injection e with e _
        subst e
        cases r1
        exact PySem.P.repr_of_none ⟨V.str "None", H, I.tok _, ⟨_, rfl⟩, q⟩
/-- sorted(bs), bs an ascending list of truth values -/
def rSortB (K : PySem.W.Frag) : List V → Hp → VK → Prop := fun vs H Q => ∃ (a : Addr) (bs : List Bool), vs = [V.ref a] ∧ SqL K H a (bs.map V.bl) ∧ bs.Pairwise (fun x y => x = true → y = true) ∧ bs.length < 64 ∧ ∀ p : Addr, H p = none → Q (.ref p) (upd H p (.lst (bs.map V.bl)))
theorem each_bls : ∀ {bs : List Bool} {its : List Value}, Vals (bs.map V.bl) its → PySem.W.EachIs (fun v (b : Bool) => v = Value.bool b) its bs
  | [], _, .nil => .nil
  | _ :: _, _, .cons r t => .cons r (each_bls t)
theorem vals_bls : ∀ {bs : List Bool} {its : List Value}, PySem.W.EachIs (fun v (b : Bool) => v = Value.bool b) its bs → Vals (bs.map V.bl) its
  | _, _, .nil => .nil
  | _, _, .cons r t => .cons r (vals_bls t)
theorem le_bls {a b : Bool} (h : a = true → b = true) : PySem.W.dataLe false PyData.bool a b = true := by
  rw [PySem.W.dataLe_eq]
  cases a <;> cases b <;> first | rfl | exact absurd (h rfl) Bool.false_ne_true
theorem cr_sortB (hu : X.A.units + 65 < cLine) : CallR X (.builtin "sorted") (rSortB X.K) := by
  intro pins s σ H vs us Q I r h
  obtain ⟨a, bs, rfl, hs, up, h64, q⟩ := h
  rw [Vals.ref1 r]
  obtain ⟨its, rv, hl, _⟩ := I.list hs
  have e := each_bls rv
  have hlen : bs.length ≤ sizeLine := small64 h64
  refine PySem.W.sorted_data (enc := PyData.bool) hl.isList e (e.mono fun v b z => ⟨[], by rw [z]; exact .bool b⟩) (PySem.W.AllAlike.of fun b b' => by simp [PySem.W.alike]) (PySem.W.Sortable.others fun b => ⟨nofun, nofun⟩) hlen (fun b _ => by simp only [PyData.depth]; omega) fun out ho eo => ?_
  rw [List.mergeSort_of_pairwise (up.imp fun {a b} z => le_bls z)] at eo
  obtain ⟨ep, he'⟩ := PyProof.Rows.sortedAll_at s.heap its (List.toArray out)
  exact ⟨.ref _, upd H (s.heap.objs.size + 1) (.lst (bs.map V.bl)), I.laid (t' := s.toks) (fun _ _ => PyProof.Rows.sortedAll_old) (Nat.le_succ _) ⟨by rw [List.length_map]; exact hlen, out, ep, vals_bls eo, he'⟩, rfl, q _ (I.hok.fresh (Nat.le_succ _))⟩
end
section
variable {K : PySem.W.Frag} {m : Mo} {Γ : G} {te ta tb : TE}
def rtext : D → Str
  | .int i => toString i
  | _ => "None"
theorem c_repr {d : D} (h : (∃ k : Nat, d = dN k ∧ k < 1000) ∨ d = .non) : Ca1 m K rRepr [d] (.str (rtext d)) := fun vs H I rs Q q => by
  cases rs with
  | cons rv rs =>
    cases rs
    rcases h with ⟨k, rfl, hk⟩ | rfl
    · obtain rfl := rv.intE
      exact .inl ⟨(k : Int), rfl, log_le (by omega), q _ _ H rfl (m.refl H) (.str _)⟩
    · cases rv
      exact .inr ⟨rfl, q _ _ H rfl (m.refl H) (.str _)⟩
theorem c_sortB {bs : List Bool} (up : bs.Pairwise (fun x y => x = true → y = true)) (h : bs.length < 64) : Ca1 m K (rSortB K) [.lst (bs.map D.bl)] (.lst (bs.map D.bl)) := fun vs H I rs Q q => by
  cases rs with
  | cons rv rs =>
    cases rs
    obtain ⟨a, ws, rfl, hs, ra⟩ := rv.lstE
    have e := ra.bls
    subst e
    exact ⟨a, bs, rfl, SqL.of hs, up, h, fun p hp => q _ (.lst (bs.map D.bl)) _ rfl (m.grow I (same_new hp)) (rp_newL I hp ra)⟩
/-- bs.index(True) -/
theorem en_indexB {bs : List Bool} {j : Nat} (ha : Ev1 m K ta Γ (.lst (bs.map D.bl))) (hb : Ev1 m K tb Γ (.bl true)) (hj : bs[j]? = some true) (hno : ∀ i, i < j → bs[i]? = some false) : Ev1 m K (tBM K "list" (rIndex K) ta (tCons tb tNil)) Γ (dN j) := fun σ H e Q q =>
  ha σ H e _ fun v d H1 s r1 rv => by
    subst s
    obtain ⟨a, vs, rfl, hA, rs⟩ := rv.lstE
    refine ⟨.inl ⟨rfl, vs, SqL.of hA⟩, hb σ H1 (e.mv r1) _ fun y dy H2 s r2 ry => ?_⟩
    subst s
    cases ry
    have i1 := m.inv r1 e.i
    have ev := rs.bls
    have hA2 : H2 a = some (.lst vs) := by
      cases rv with
      | lst n h t => exact m.keep r2 i1 a _ n hA
    have at_ : ∀ i : Nat, vs[i]? = (bs[i]?).map V.bl := fun i => by rw [ev, List.getElem?_map]
    refine ⟨a, vs, .bl true, j, .bl true, rfl, rfl, SqL.of hA2, rfl, ?_, ?_, ?_, fun i z hi hz => ?_, q _ _ H2 rfl (m.trans r1 r2) (.int _)⟩
    · rw [ev, List.all_eq_true]
      intro x hx
      obtain ⟨y, _, rfl⟩ := List.mem_map.mp hx
      rfl
    · rw [at_, hj]; rfl
    · rfl
    · rw [at_, hno i hi] at hz
      injection hz with hz
      subst hz
      rfl
end
end Tx

set_option Elab.async false
set_option linter.all false
set_option maxRecDepth 100000
set_option maxHeartbeats 4000000
set_option autoImplicit false
/-! TxRP: repr of a tuple of plain data and {} -/
namespace Tx
open PySem PySem.Spec PyProof.Rows L2
/-- an item that repr can show: plain data, or {} -/
def D.sh : D → PyData
  | .dic => .dict []
  | d => d.py
def D.shb : D → Bool
  | .dic => true
  | d => d.plain
mutual
theorem plain_noDict : ∀ d : D, d.plain = true → d.py.hasDict = false
  | .non, _ => by simp only [D.py, PyData.hasDict]
  | .bl _, _ => by simp only [D.py, PyData.hasDict]
  | .int _, _ => by simp only [D.py, PyData.hasDict]
  | .str _, _ => by simp only [D.py, PyData.hasDict]
  | .lst xs, h => by simp only [D.py, PyData.hasDict]; exact plains_noDict xs (by simpa [D.plain] using h)
  | .tup xs, h => by simp only [D.py, PyData.hasDict]; exact plains_noDict xs (by simpa [D.plain] using h)
  | .frl xs, h => by simp only [D.py, PyData.hasDict]; exact plains_noDict xs (by simpa [D.plain] using h)
  | .obj _ _ _, h => by simp [D.plain] at h
  | .adr _, h => by simp [D.plain] at h
  | .dic, h => by simp [D.plain] at h
  | .ftp _, h => by simp [D.plain] at h
  | .dct _ _ _, h => by simp [D.plain] at h
theorem plains_noDict : ∀ ds : List D, D.plains ds = true → PyData.hasDictAll (D.pys ds) = false
  | [], _ => by simp only [D.pys, PyData.hasDictAll]
  | d :: ds, h => by
    have h := Bool.and_eq_true_iff.mp (by simpa [D.plains] using h)
    simp only [D.pys, PyData.hasDictAll, plain_noDict d h.1, plains_noDict ds h.2, Bool.or_self]
end
section
variable {X : Cx} {pins : List (Addr × Obj)} {σ : L2.St} {H : Hp} {s : Shared} {F : Addr → Prop}
theorem sh_reads (I : Inv X pins σ H s) (d : D) (v : V) (u : Value) (h : d.shb = true) (r : Rp X.K F H v d) (rv : RelV v u) : ∃ as, Reads s.heap u d.sh as ∧ (d.sh.hasDict = true → sysModules ∉ as) := by
  by_cases hd : d = .dic
  · subst hd
    cases r with
    | @dic a n e =>
      cases rv
      obtain ⟨_, ns, vs, kv, o, es, ep, ho, hc, hdt, _, hp, _⟩ := I.hok a _ e
      cases kv
      have e0 : es.toList = [] := by
        cases q : es.toList with
        | nil => rfl
        | cons x l => rw [q] at hp; cases hp
      refine ⟨[a], ?_, fun _ z => ?_⟩
      · have rd : Reads s.heap (.ref a) (.dict []) (a :: [] ++ []) := .dict ho hc.1 hdt (by rw [e0]; exact .nil) (by rw [e0]; exact .nil)
        exact rd
      · rw [← List.mem_singleton.mp z] at ns
        simp at ns
  · have hp : d.plain = true := by
      cases d <;> first | exact h | exact absurd rfl hd
    have es : d.sh = d.py := by
      cases d <;> first | rfl | exact absurd rfl hd
    obtain ⟨as, q⟩ := Dp.reads I d.py v u (r.dp hp) rv
    exact ⟨as, by rw [es]; exact q, fun z => by rw [es, plain_noDict d hp] at z; cases z⟩
end
/-- the text of a pair of a number and such data -/
def pairTx (k : Int) (d : D) : Str := (PyData.tuple [.int k, d.sh]).shown
def pairOk (k : Int) (d : D) : Bool := d.shb && (PyData.tuple [.int k, d.sh]).showable && decide ((PyData.tuple [.int k, d.sh]).depth ≤ 20) && decide ((pairTx k d).length ≤ 100000)
def rReprP (K : PySem.W.Frag) : List V → Hp → VK → Prop := fun vs H Q => ∃ (F : Addr → Prop) (v : V) (k : Int) (d : D), vs = [v] ∧ Rp K F H v (.tup [.int k, d]) ∧ pairOk k d = true ∧ Q (.str (pairTx k d)) H
theorem cr_reprP {X : Cx} (hg : X.A.guards = some []) (hu : X.A.units + 64 < cLine) : CallR X (.builtin "repr") (rReprP X.K) := by
  intro pins s σ H vs us Q I r h
  obtain ⟨F, v, k, d, rfl, rv, ok, q⟩ := h
  obtain ⟨u, rfl, ru⟩ := vals1 r
  unfold pairOk at ok
  simp only [Bool.and_eq_true, decide_eq_true_eq] at ok
  obtain ⟨⟨⟨o1, o2⟩, o3⟩, o4⟩ := ok
  obtain ⟨a, ws, rfl, sq, rs⟩ := rv.tupE
  cases rs with
  | @cons v1 ws1 _ _ r1 rs =>
    cases rs with
    | @cons v2 ws2 _ _ r2 rs =>
      cases rs
      obtain rfl := r1.intE
      cases ru
      obtain ⟨its, rits, ⟨o, ho, hc, n, hd⟩, _⟩ := I.tuple sq
      cases rits with
      | @cons _ u1 _ us1 q1 qs =>
        cases qs with
        | @cons _ u2 _ us2 q2 qs =>
          cases qs
          obtain ⟨t, rfl⟩ := q1
          obtain ⟨as, rd, na⟩ := sh_reads I d v2 u2 o1 r2 q2
          have all : Reads s.heap (.ref a) (.tuple [.int k, d.sh]) ([] ++ (as ++ [])) := .tuple ho hc hd (.cons (.int k t) (.cons rd .nil))
          refine repr_of_reads' all o2 (fun z => ?_) hg (by have := hu; omega) (fun _ _ e => e) (fun h' u' tk ke => ⟨.str (pairTx k d), H, I.kept (t' := tk) ke, ⟨u', rfl⟩, q⟩) (Nat.le_trans o4 (by decide))
          rw [List.nil_append, List.append_nil]
          refine na ?_
          simpa [PyData.hasDict, PyData.hasDictAll] using z
section
variable {K : PySem.W.Frag} {m : Mo}
theorem c_reprP {k : Int} {d : D} (h : pairOk k d = true) : Ca1 m K (rReprP K) [.tup [.int k, d]] (.str (pairTx k d)) := fun vs H I rs Q q => by
  cases rs with
  | cons r rs =>
    cases rs
    exact ⟨m.F, _, k, d, rfl, r, h, q _ _ H rfl (m.refl H) (.str _)⟩
end
end Tx

set_option Elab.async false
set_option linter.all false
set_option maxRecDepth 100000
set_option maxHeartbeats 4000000
set_option autoImplicit false
/-! TxLC: laws that hand lambdas to a def that tells by a word what they raise; tables of code objects, also while a pouch is drawn from -/
namespace Tx
open PySem PySem.Spec PyProof.Rows L2 LamX
/-- the first clause that takes an exception of this class -/
inductive MatchC (K : PySem.W.Frag) {α : Type} (cls : Value) : List (Addr × α) → α → Prop
  | here {c : Addr} {v : α} {r : List (Addr × α)} : PySem.W.exmOne K cls (.ref c) = some true → MatchC K cls ((c, v) :: r) v
  | next {c : Addr} {v u : α} {r : List (Addr × α)} : PySem.W.exmOne K cls (.ref c) = some false → MatchC K cls r u → MatchC K cls ((c, v) :: r) u
abbrev clRet (l : List (Addr × V)) : List (Value × (Addr → Value → Option Addr → TS)) := l.map fun p => (.ref p.1, fun _ _ _ => tRet (tC p.2))
theorem wMany_of {K : PySem.W.Frag} {Wout : WX} {D : Ends} {cls : Value} {d : Option Addr} {σ : L2.St} {H : Hp} : ∀ {l : List (Addr × V)} {v : V}, MatchC K cls l v → D.rt v H → wMany K Wout D (clRet l) cls d σ H
  | _, _, .here e, q => ⟨true, e, fun _ _ _ => q, fun z => nomatch z⟩
  | _, _, .next e m, q => ⟨false, e, (fun z => nomatch z), fun _ => wMany_of m q⟩
/-! ### def caught(call): try: call() / except X1: return v1 / .. / return v0 -/
def TTc (K : PySem.W.Frag) (l : List (Addr × V)) (v0 : V) : (XK → Hp → VK → Prop) → Hp → VK → Prop := fun tl H Q => tl (fun cls _ H' => ∃ v, MatchC K cls l v ∧ Q v H') H fun _ H' => Q v0 H'
theorem caught_gives {X : Cx} {x a0 q s0 : Str} {sg : Scope} {g : Addr} {cdg : Value} {j : Nat} {l : List (Addr × V)} {hd : ExceptHandler} {hds : List ExceptHandler} {p1 p2 p3 p9 p10 p11 : Pos}
    (hk : ∀ (s : Shared) (H : Hp), HdsOk (cxOf C8.CX0 X.prog X.w X.K X.mg X.base [a0] x sg g cdg X.A X.stack s H C8.E0).nox (hd :: hds) (clRet l)) :
    GivesTo X [a0] x sg g cdg [.Try [.Expr (.Call (.Name a0 p1) [] [] p2) p3] (hd :: hds) [] [] p9, .Return (some (.Constant (.str s0) j p10)) p11] a0 q (TTc X.K l (.str s0)) := by
  intro fl c' s H Q tl act hc h
  refine ⟨_, pss_cons (ps_try_many (X := (cxOf C8.CX0 X.prog X.w X.K X.mg X.base [a0] x sg g cdg X.A X.stack s H C8.E0).nox) (Wout := fun _ _ _ _ => False)
      (tb := fun W D σ H => ∃ Ech : XK, (∀ cls d σ' H', Ech cls d H' → W cls d σ' H') ∧ σ[0]? = some (some (.ref fl)) ∧ H c' = some (CodeO c' q) ∧ tl Ech H fun _ H' => D.nx σ H')
      rfl rfl L2.takes0 (fun W pn xe tk _ => ?_) (hk s H)) (pss_one (ps_ret (pe_str (x := s0)))), ?_⟩
  · refine ⟨fun pins s' σ H' D I h' => ?_⟩
    obtain ⟨Ech, hW, h1, h2, h3⟩ := h'
    exact (pss_one (ps_expr (act W pn xe Ech p1 p2 tk hW))).run pins s' σ H' D I ⟨h1, h2, h3⟩
  · exact ⟨fun cls d H' => ∃ v, MatchC X.K cls l v ∧ Q v H', fun cls d σ' H' ⟨v, m, z⟩ => wMany_of m z, rfl, hc, h⟩
/-! ### modes in which lambdas are made -/
structure LamMo (m : Mo) (T : List (Addr × Str)) : Prop where
  tabs : ∀ {H}, m.I H → Tabs T H
  ext : ∀ {H H'}, m.I H → ExtN H H' → Tabs T H' → m.I H'
  lst : ∀ {H l xs ys}, m.I H → H l = some (.lst xs) → ¬ m.F l → m.I (upd H l (.lst ys))
theorem LamMo.tb {T : List (Addr × Str)} {F : Addr → Prop} : LamMo (tbMo T F) T where
  tabs := fun i => i.2
  ext := fun i e t => ⟨fun a f => let ⟨o, h, z⟩ := i.1 a f; ⟨o, e a o h z, z⟩, t⟩
  lst := fun {H l xs ys} i h n => ⟨fun a f => let ⟨o, q, z⟩ := i.1 a f; ⟨o, by rw [upd_ne (fun y => n (by rw [← y]; exact f))]; exact q, z⟩, fun p hp => TabS.chg (i.2 p hp) fun b o q z => by
    rw [upd_ne (fun y => by rw [y, h] at q; exact z xs (Option.some.inj q).symm)]
    exact q⟩
/-- a pouch too -/
def tpMo (T : List (Addr × Str)) (p : Addr) (F : Addr → Prop) : Mo where
  F := fun a => F a ∨ a = p
  R := RP p
  I := fun H => (∀ a, F a → ∃ o, H a = some o ∧ ∀ ps, o ≠ .tbl ps) ∧ PI H p ∧ Tabs T H
  refl := fun H => ⟨fun _ _ _ e => e, fun z => z⟩
  trans := fun a b => ⟨fun x o n e => b.1 x o n (a.1 x o n e), fun z => b.2 (a.2 z)⟩
  keep := fun r _ a o n e => r.1 a o (fun z => n (.inr z)) e
  grow := fun _ s => ⟨fun a o _ e => s a o e, fun ⟨a, b, c, e⟩ => ⟨a, b, c, s _ _ e⟩⟩
  inv := fun {H H'} r i => by
    refine ⟨fun a f => ?_, r.2 i.2.1, fun q hq => TabS.chg (i.2.2 q hq) fun b o e n => r.1 b o (fun z => ?_) e⟩
    · by_cases e : a = p
      · obtain ⟨x, y, z, h⟩ := r.2 i.2.1
        exact ⟨_, by rw [e]; exact h, fun _ z => by cases z⟩
      · obtain ⟨o, h, z⟩ := i.1 a f
        exact ⟨o, r.1 a o e h, z⟩
    · obtain ⟨x, y, w, h⟩ := i.2.1
      rw [z, h] at e
      exact n _ (Option.some.inj e).symm
  fa := fun i f => f.elim (fun f => by obtain ⟨o, e, _⟩ := i.1 _ f; rw [e]; exact fun z => nomatch z) fun e => e ▸ i.2.1.ne
  chg := fun {H H1 q o} i r hq => by
    have hpq : p ≠ q := fun z => i.2.1.ne (z ▸ hq)
    refine ⟨fun a u n e => by rw [upd_ne (ne_of_none e hq)]; exact r.1 a u n e, fun z => ?_⟩
    obtain ⟨x, y, w, e⟩ := r.2 z
    exact ⟨x, y, w, by rw [upd_ne hpq]; exact e⟩
  had := fun {H H' a} i r n => by
    by_cases e : a = p
    · rw [e]; exact (r.2 i.2.1).ne
    · cases q : H a with
      | none => exact absurd q n
      | some o => rw [r.1 a o e q]; exact fun z => nomatch z
theorem LamMo.tp {T : List (Addr × Str)} {p : Addr} {F : Addr → Prop} : LamMo (tpMo T p F) T where
  tabs := fun i => i.2.2
  ext := fun i e t => ⟨fun a f => let ⟨o, h, z⟩ := i.1 a f; ⟨o, e a o h z, z⟩, by obtain ⟨a, b, c, h⟩ := i.2.1; exact ⟨a, b, c, e _ _ h fun _ z => by cases z⟩, t⟩
  lst := fun {H l xs ys} i h n => by
    refine ⟨fun a f => let ⟨o, q, z⟩ := i.1 a f; ⟨o, by rw [upd_ne (fun y => n (.inl (by rw [← y]; exact f)))]; exact q, z⟩, ?_, fun q hq => TabS.chg (i.2.2 q hq) fun b o e z => ?_⟩
    · obtain ⟨a, b, c, e⟩ := i.2.1
      exact ⟨a, b, c, by rw [upd_ne (fun y => n (.inr y.symm))]; exact e⟩
    · rw [upd_ne (fun y => by rw [y, h] at e; exact z xs (Option.some.inj e).symm)]
      exact e
theorem HasP.tp {T : List (Addr × Str)} {p : Addr} {F : Addr → Prop} : HasP (tpMo T p F) p := ⟨fun _ _ r => r, fun _ i => i.2.1, .inr rfl⟩
theorem HasP.since {m : Mo} {p : Addr} {H0 : Hp} (h : HasP m p) : HasP (sinceMo m H0) p := ⟨fun _ _ r => h.r _ _ r, fun _ i => h.i _ i.1, h.f⟩
section
variable {K : PySem.W.Frag} {m b : Mo} {T : List (Addr × Str)} {F : Addr → Prop} {Γ : G} {σ : L2.St} {H H' : Hp} {N N1 : G → Prop} {ts tw : TS} {i : Nat}
theorem er_lamG (L : LamMo m T) (e : ER m K Γ σ H) (n : ExtN H H') (t : Tabs T H') : ER m K Γ σ H' :=
  ⟨L.ext e.i n t, e.len, fun i d h => let ⟨v, h1, h2⟩ := e.at_ i d h; ⟨v, h1, h2.goN fun a o z nf x => ⟨nf, n a o x z⟩⟩⟩
/-! ### a part of such a law: it ends in its next statement, or gives True -/
def SGT (m : Mo) (K : PySem.W.Frag) (ts : TS) (Γ : G) (N : G → Prop) : Prop := ∀ σ H, ER m K Γ σ H → ∀ E : Ends, (∀ Γ' σ' H', N Γ' → ER m K Γ' σ' H' → E.nx σ' H') → (∀ H', E.rt (.bl true) H') → ts E σ H
theorem st_sgt {T : List (Addr × Str)} {F : Addr → Prop} (h : SGT (tbMo T F) K ts Γ fun _ => False) : ST (tbMo T F) K ts Γ := fun σ H e E k => h σ H e E (fun _ _ _ z => z.elim) k
/-- where a mode b stands under m -/
structure Under (b m : Mo) : Prop where
  down : ∀ {K Γ σ H}, ER m K Γ σ H → ER b K Γ σ H
  up : ∀ {K Γ σ H Γ' σ' H'}, ER m K Γ σ H → b.R H H' → ER b K Γ' σ' H' → ER m K Γ' σ' H'
theorem Under.tb {T : List (Addr × Str)} {F : Addr → Prop} : Under (pureMo F) (tbMo T F) := ⟨fun e => e.tb, fun e r e' => ⟨(tbMo T F).inv r e.i, e'.len, e'.at_⟩⟩
theorem Under.tp {T : List (Addr × Str)} {p : Addr} {F : Addr → Prop} : Under (pouchMo p F) (tpMo T p F) :=
  ⟨fun e => ⟨⟨fun a f => (tpMo T p F).fa e.i (.inl f), e.i.2.1⟩, e.len, e.at_⟩, fun e r e' => ⟨(tpMo T p F).inv r e.i, e'.len, e'.at_⟩⟩
theorem sgt_sg (u : Under b m) (h : SG b K ts Γ { nx := N, rt := fun d => d = .bl true }) : SGT m K ts Γ N := fun σ H e E k1 k2 =>
  h σ H (u.down e) E ⟨fun Γ' σ' H' o r e' => k1 Γ' σ' H' o (u.up e r e'), fun d v H' o _ rv => by subst o; rw [rv.blE]; exact k2 H', fun _ _ _ o => o.elim, fun _ _ _ o => o.elim⟩
theorem sgt_seq (N1 : G → Prop) (h1 : SGT m K ts Γ N1) (h2 : ∀ Γ', N1 Γ' → SGT m K tw Γ' N) : SGT m K (tSeq ts tw) Γ N := fun σ H e E k1 k2 => h1 σ H e _ (fun Γ' σ' H' n e' => h2 Γ' n σ' H' e' E k1 k2) k2
theorem sgt_mono (h : SGT m K ts Γ N1) (k : ∀ Γ', N1 Γ' → N Γ') : SGT m K ts Γ N := fun σ H e E k1 k2 => h σ H e E (fun Γ' σ' H' n e' => k1 Γ' σ' H' (k Γ' n) e') k2
/-- x = a new pouch; rest -/
theorem sgt_pouch {te : TE} (h : EvNew (pureMo F) K te Γ) (k : ∀ p, SGT (tpMo T p F) K tw (Γ.set i (some (.adr p))) N) : SGT (tbMo T F) K (tSeq (tAsg te (gName i)) tw) Γ N := fun σ H e E k1 k2 =>
  h σ H e.tb _ fun p H' hp sm pi => by
    have i' := (tbMo T F).inv sm e.i
    have eP : ER (tpMo T p F) K Γ σ H' := ⟨⟨i'.1, pi, i'.2⟩, e.len, fun i d h => let ⟨v, h1, h2⟩ := e.at_ i d h; ⟨v, h1, h2.go fun a o n x => ⟨fun z => z.elim n fun z => (by rw [z, hp] at x; cases x), sm a o x⟩⟩⟩
    exact k p _ H' (eP.set i (.adr p)) E (fun Γ' σ' H2 n e2 => k1 Γ' σ' H2 n ⟨⟨e2.i.1, e2.i.2.2⟩, e2.len, fun i d h => let ⟨v, h1, h2⟩ := e2.at_ i d h; ⟨v, h1, h2.weak fun a f => .inl f⟩⟩) k2
/-- a loop over a range -/
theorem sgt_for {ta : TA} {n : Nat} (u : Under b m) (h : EvA1 b K ta Γ [dN n]) (hn : n ≤ 100000) (W : Nat → G → Prop) (h0 : W 0 Γ) (hs : ∀ j Γ', j < n → W j Γ' → SGT m K ts (Γ'.set i (some (dN j))) (W (j + 1))) (hd : ∀ Γ', W n Γ' → N Γ') : SGT m K (tFor (iRng1 ta) (gName i) ts) Γ N := fun σ H e E k1 k2 =>
  h σ H (u.down e) _ fun vs ds H1 s r1 rs => by
    subst s
    cases rs with
    | cons r rs =>
      cases rs
      have e1 : ER m K Γ σ H1 := u.up e r1 ((u.down e).mv r1)
      refine ⟨n, by rw [r.intE], by omega, by omega, ?_⟩
      refine ⟨fun j k σ' H' => k = n - j ∧ j ≤ n ∧ ∃ Γ', W j Γ' ∧ ER m K Γ' σ' H', ⟨_, rfl, Nat.zero_le _, Γ, h0, e1⟩, ?_⟩
      rintro j k σ' H' ⟨rfl, hle, Γ', w, e'⟩
      have wk := Tx.wk_rng (K := K) (m' := pureMo fun _ => False) (H2 := H') 0 n
      by_cases hlt : j < n
      · refine .inr ⟨wk.go j H' (Same.refl H') (by rw [rngD_len]; exact hlt), fun σ3 H3 => ∃ Γ3, W (j + 1) Γ3 ∧ ER m K Γ3 σ3 H3, fun σ3 H3 q => ⟨n - (j + 1), by omega, rfl, hlt, q⟩, fun x H2 y => ?_⟩
        obtain ⟨e2, ex⟩ := y
        subst e2
        subst ex
        have rx : Rp K m.F H2 (.int ((0 : Int) + (j : Nat))) (dN j) := by rw [Int.zero_add]; exact .int _
        exact hs j Γ' hlt w _ H2 (e'.set i rx) _ (fun Γ3 σ3 H3 n3 e3 => ⟨Γ3, n3, e3⟩) k2
      · have : j = n := by omega
        subst this
        have st := wk.stop H' (Same.refl H')
        rw [rngD_len] at st
        exact .inl ⟨st, k1 Γ' σ' H' (hd Γ' w) e'⟩
/-! ### the words that are told, a list of one's own -/
def STw (m : Mo) (K : PySem.W.Frag) (l : Addr) (zs : List Str) (ts : TS) (Γ : G) (N : G → Prop) : Prop := ∀ σ H, ER (m.ext l) K Γ σ H → H l = some (.lst (zs.map V.str)) → ¬ m.F l → ∀ E : Ends, (∀ Γ' σ' H', N Γ' → ER m K Γ' σ' H' → E.nx σ' H') → (∀ H', E.rt (.bl true) H') → ts E σ H
variable {l : Addr} {zs : List Str} {cl : List (Addr × V)} {v0 : V} {z : Str} {t : XK → TE}
theorem lam_evC (tb : Tabs T H) (hx : ∀ H1, ExtN H H1 → Tabs T H1 → ER m K Γ σ H1) (h : ∀ H1 (E : XK), (∀ cls d H', MatchC K cls cl (.str z) → m.R H1 H' → E cls d H') → EvN (sinceMo m H1) K (t E) Γ fun _ => False)
    {Q : VK} (q : ∀ H1 H', ExtN H H1 → Tabs T H1 → m.R H1 H' → ER m K Γ σ H' → Q (.str z) H') : tLam T (TTc K cl v0) t σ H Q := by
  refine ⟨tb, fun H1 eN T1 => ?_⟩
  have e1 := hx H1 eN T1
  exact h H1 _ (fun cls d H' mc r => ⟨.str z, mc, q H1 H' eN T1 r (e1.mv r)⟩) σ H1 ⟨⟨e1.i, m.refl _⟩, e1.len, e1.at_⟩ _ fun v d H' hz _ _ => hz.elim
/-- x = [caught(lambda: ..)]; rest -/
theorem sgt_lamL (L : LamMo m T) (h : ∀ H1 (E : XK), (∀ cls d H', MatchC K cls cl (.str z) → m.R H1 H' → E cls d H') → EvN (sinceMo m H1) K (t E) Γ fun _ => False)
    (k : ∀ l, STw m K l [z] tw (Γ.set i (some (.adr l))) N) : SGT m K (tSeq (tAsg (tLst (tCons (tLam T (TTc K cl v0) t) tNil)) (gName i)) tw) Γ N := fun σ H e E k1 k2 => by
  refine lam_evC (L.tabs e.i) (fun H1 n t => er_lamG L e n t) h fun H1 H' eN T1 r e' => ⟨show 1 ≤ sizeLine from by decide, fun p hp => ?_⟩
  have nF : ¬ m.F p := fun f => m.fa e'.i f hp
  have sm : Same H' (upd H' p (.lst [.str z])) := same_new hp
  have er : ER (m.ext p) K Γ σ (upd H' p (.lst [.str z])) := e'.ext hp (m.grow e'.i sm) (by rw [upd_same]; exact fun z => nomatch z)
  exact k p _ _ (er.set i (.adr p)) upd_same nF E k1 k2
/-- x.append(caught(lambda: ..)); rest -/
theorem stw_lamA (L : LamMo m T) (hi : Γ[i]? = some (some (.adr l))) (h : ∀ H1 (E : XK), (∀ cls d H', MatchC K cls cl (.str z) → m.R H1 H' → E cls d H') → EvN (sinceMo (m.ext l) H1) K (t E) Γ fun _ => False) (hz : zs.length ≤ 1000)
    (k : STw m K l (zs ++ [z]) tw Γ N) : STw m K l zs (tSeq (tDrop (tBM K "list" rAppend (tVar i) (tCons (tLam T (TTc K cl v0) t) tNil))) tw) Γ N := fun σ H e hl nF E k1 k2 => by
  obtain ⟨w, h1, h2⟩ := e.at_ i _ hi
  obtain rfl := h2.adrE
  refine ⟨_, h1, .inl ⟨rfl, _, SqL.of hl⟩, ?_⟩
  have lx : ∀ {H1 : Hp}, ExtN H H1 → H1 l = some (.lst (zs.map V.str)) := fun n => n l _ hl fun _ z => by cases z
  refine lam_evC (m := m.ext l) (L.tabs e.i.1) (fun H1 n t => ⟨⟨L.ext e.i.1 n t, by rw [lx n]; exact fun z => nomatch z⟩, e.len, fun i d h => let ⟨v, h1, h2⟩ := e.at_ i d h; ⟨v, h1, h2.goN fun a o z nf x => ⟨nf, n a o x z⟩⟩⟩) h fun H1 H' eN T1 r e' => ?_
  have i1 : m.I H1 := L.ext e.i.1 eN T1
  have hl' : H' l = some (.lst (zs.map V.str)) := m.keep r i1 l _ nF (lx eN)
  refine ⟨l, zs.map V.str, .str z, rfl, rfl, hl', Nat.lt_of_lt_of_le (show (zs.map V.str).length < 100001 by rw [List.length_map]; omega) (by decide), ?_⟩
  exact k σ _ ⟨⟨L.lst e'.i.1 hl' nF, by rw [upd_same]; exact fun z => nomatch z⟩, e'.len, fun j d h => let ⟨v, h1, h2⟩ := e'.at_ j d h; ⟨v, h1, h2.go fun a o n q => ⟨n, by rw [upd_ne (fun y => n (.inr y))]; exact q⟩⟩⟩ (by rw [upd_same, List.map_append]; rfl) nF E k1 k2
/-- the list is data from now on -/
theorem stw_dis (hi : Γ[i]? = some (some (.adr l))) (k : SGT m K ts (Γ.set i (some (.lst (zs.map D.str)))) N) : STw m K l zs ts Γ N := fun σ H e hl nF E k1 k2 => by
  refine k σ H ⟨e.i.1, by rw [List.length_set, e.len], fun j d h => ?_⟩ E k1 k2
  by_cases z : i = j
  · subst z
    have hlt : i < Γ.length := (List.getElem?_eq_some_iff.mp hi).1
    rw [List.getElem?_set_self hlt] at h
    injection h with h
    injection h with h
    subst h
    obtain ⟨v, h1, h2⟩ := e.at_ i _ hi
    obtain rfl := h2.adrE
    exact ⟨_, h1, .lst nF hl (RpAll.map (fun x => .str x) zs)⟩
  · rw [List.getElem?_set_ne z] at h
    obtain ⟨v, h1, h2⟩ := e.at_ j d h
    exact ⟨v, h1, h2.weak fun a f => .inl f⟩
end
/-! ### def own(..): try: f(..) / except X1: return v1 / .. / return v0, where f raises -/
section
variable {X : Cx} {hd : ExceptHandler} {hds : List ExceptHandler} {l : List (Addr × V)} {call : Expr} {p3 p9 : Pos} {sp : Sp} {t : TA}
abbrev tTryM (K : PySem.W.Frag) (l : List (Addr × V)) (sp : Sp) (t : TA) : TS := fun D σ H => tDrop (tCallS sp (WE (wMany K (fun _ _ _ _ => False) D (clRet l))) t) D σ H
theorem ps_tryM (hs : X.stack = X.env :: X.outer) (hf : X.env.frame = some X.env.locals) (hb : ∀ (W : WX) (pn : List (Addr × Obj)) (xe : Value → Shared → Prop), Takes (X.tr pn xe) W → PE (X.tr pn xe) call (tCallS sp (WE W) t)) (hk : HdsOk X (hd :: hds) (clRet l))
    (hsw : ∀ (pn : List (Addr × Obj)) (xe : Value → Shared → Prop), swapsWith call none p3.line (X.tr pn xe).env = pure false := by intros; rfl) : PS X (.Try [.Expr call p3] (hd :: hds) [] [] p9) (tTryM X.K l sp t) :=
  ps_try_many (tb := fun W => tDrop (tCallS sp (WE W) t)) hs hf L2.takes0 (fun W pn xe tk _ => pss_one (ps_expr (hb W pn xe tk) (hsw pn xe))) hk
/-- .. with names: return (k, e.f) -/
structure ClN where
  C : Addr
  f : Str
  k : Int
abbrev clNm (i : Nat) (l : List ClN) : List (Value × (Addr → Value → Option Addr → TS)) := l.map fun c => (.ref c.C, fun a cls d => tRet (tTup (tCons (tC (.int c.k)) (tCons (tXf a cls d c.C c.f (tVar i)) tNil))))
abbrev tTryN (K : PySem.W.Frag) (i : Nat) (l : List ClN) (sp : Sp) (t : TA) : TS := fun D σ H => tDrop (tCallS sp (WE (wNm K (fun _ _ _ _ => False) i D (clNm i l))) t) D σ H
theorem ps_tryN {n : Str} {i : Nat} {l : List ClN} (hs : X.stack = X.env :: X.outer) (hf : X.env.frame = some X.env.locals) (hN : X.N.Nodup) (hi : X.N[i]? = some n) (hln : X.env.kindOf n = some .local) (hb : ∀ (W : WX) (pn : List (Addr × Obj)) (xe : Value → Shared → Prop), Takes (X.tr pn xe) W → PE (X.tr pn xe) call (tCallS sp (WE W) t)) (hk : HdsN X n (hd :: hds) (clNm i l))
    (hsw : ∀ (pn : List (Addr × Obj)) (xe : Value → Shared → Prop), swapsWith call none p3.line (X.tr pn xe).env = pure false := by intros; rfl) : PS X (.Try [.Expr call p3] (hd :: hds) [] [] p9) (tTryN X.K i l sp t) :=
  ps_try_names (tb := fun W => tDrop (tCallS sp (WE W) t)) hs hf hN hi hln L2.takes0 (fun W pn xe tk _ => pss_one (ps_expr (hb W pn xe tk) (hsw pn xe))) hk
/-- one such clause -/
theorem hdsN_cons {n x f : Str} {i : Nat} {k : Int} {C : Addr} {j : Nat} {x1 : Nat} {np p p1 p2 p3 p4 p5 : Pos} {hds : List ExceptHandler} {l : List ClN} (T : XfC X.K C) (hno : PySem.W.findIn X.K (.ref C) f = some none) (hc : Names X x (.ref C)) (hN : X.N[i]? = some n) (hv : Vis X.env.scope n) (hd : (n == ("__debug__" : Str)) = false) (hcd : (n == ("__classdict__" : Str)) = false) (r : HdsN X n hds (clNm i l))
    (hp : ∀ (a : Addr) (pn : List (Addr × Obj)), PE (X.suite a pn) (.Constant (.int k) j p1) (tC (.int k))) : HdsN X n (.ExceptHandler (some (.Name x np)) (some n) [.Return (some (.Tuple [.Constant (.int k) j p1, .Attribute (.Name n p2) f p3] x1 p4)) p5] p :: hds) (clNm i (⟨C, f, k⟩ :: l)) :=
  .cons hc (fun a oe cls d pn z hf => pss_one (ps_ret (pe_tup (pa_cons (hp a _) (pa_cons (pe_xf T hno z hf (pe_var (X := X.suite a ((a, oe) :: pn)) (i := i) hN hv hd hcd)) pa_nil))))) r
end
section
variable {K : PySem.W.Frag} {m : Mo} {Γ : G} {O : Out} {ds : List D} {ta : TA}
theorem sg_tryM {l : List (Addr × V)} {pre : List D → Prop} {Sf : List D → D → Prop} {R : List D → Value → Prop} {v : V} {d0 : D} (h : EvA1 m K ta Γ ds) (hp : pre ds) (hS : ∀ d, ¬ Sf ds d) (hR : ∀ cls, R ds cls → MatchC K cls l v) (hv : ∀ F H, Rp K F H v d0) (ho : O.rt d0) : SG m K (tTryM K l (spX K pre Sf R) ta) Γ O := fun σ H e E M =>
  h σ H e _ fun vs ds' H1 s r1 rs => by
    subst s
    have i1 := m.inv r1 e.i
    exact ⟨m.F, ds', fun a f => m.fa i1 f, rs, hp, fun v d H' sd _ _ => absurd sd (hS d), fun cls H' hr sm => wMany_of (hR cls hr) (M.rt d0 v H' ho (m.trans r1 (m.grow i1 sm)) (hv _ _))⟩
/-- the first clause that takes it -/
inductive MatchN (K : PySem.W.Frag) (cls : Value) : List ClN → ClN → Prop
  | here {c : ClN} {r : List ClN} : PySem.W.exmOne K cls (.ref c.C) = some true → MatchN K cls (c :: r) c
  | next {c u : ClN} {r : List ClN} : PySem.W.exmOne K cls (.ref c.C) = some false → MatchN K cls r u → MatchN K cls (c :: r) u
theorem wNm_of {i : Nat} {Wout : WX} {D : Ends} {cls : Value} {dd : Addr} {y : V} {σ : L2.St} {H : Hp} (hx : ∀ {c : ClN}, cls = .ref c.C → True) : ∀ {l : List ClN} {c : ClN}, MatchN K cls l c → cls = .ref c.C → i < σ.length → H dd = some (.xd [(c.f, y)]) → (∀ p, H p = none → D.rt (.ref p) (upd H p (.tup [.int c.k, y]))) → wNm K Wout i D (clNm i l) cls (some dd) σ H
  | _, c, .here e, ec, hi, hd, q => ⟨true, e, fun _ a ha => by
      refine ⟨.ref a, by rw [List.getElem?_set_self hi], rfl, ec, dd, _, y, rfl, hd, by simp [List.lookup], ?_⟩
      exact ⟨show 2 ≤ sizeLine from by decide, fun p hp => q p hp⟩, fun z => nomatch z⟩
  | _, _, .next e m, ec, hi, hd, q => ⟨false, e, (fun z => nomatch z), fun _ => wNm_of hx m ec hi hd q⟩
theorem sg_tryN {i : Nat} {l : List ClN} {c : ClN} {pre : List D → Prop} {Sf : List D → D → Prop} {R : List D → Value → Str → D → Prop} {d0 : D} (h : EvA1 m K ta Γ ds) (hp : pre ds) (hS : ∀ d, ¬ Sf ds d) (hR : ∀ cls f d, R ds cls f d → MatchN K cls l c ∧ cls = .ref c.C ∧ f = c.f ∧ d = d0) (hi : i < Γ.length) (ho : O.rt (.tup [.int c.k, d0])) : SG m K (tTryN K i l (spXd K pre Sf R) ta) Γ O := fun σ H e E M =>
  h σ H e _ fun vs ds' H1 s r1 rs => by
    subst s
    have i1 := m.inv r1 e.i
    refine ⟨m.F, ds', fun a f => m.fa i1 f, rs, hp, fun v d H' sd _ _ => absurd sd (hS d), fun cls f y dx d H' hr sm hdx ry => ?_⟩
    obtain ⟨mc, ec, rfl, rfl⟩ := hR cls f d hr
    refine wNm_of (fun _ => trivial) mc ec (by rw [← e.len]; exact hi) hdx fun p hp => ?_
    have i2 := m.inv (m.grow i1 sm) i1
    have sn : Same H' (upd H' p (.tup [.int c.k, y])) := same_new hp
    refine M.rt _ _ _ ho (m.trans r1 (m.trans (m.grow i1 sm) (m.grow i2 sn))) (.tup (fun f => m.fa i2 f hp) (.inl upd_same) (.cons (.int _) (.cons (ry.mv fun a o n q => sn a o q) .nil)))
end
end Tx
namespace Tx
open PySem PySem.Spec PyProof.Rows L2 LamX
section
variable {K : PySem.W.Frag} {m : Mo} {Γ : G} {ta : TA} {E : XK} {H0 : Hp} {pre : List D → Prop} {Sf : List D → D → Prop}
/-- f(..), where it raises -/
theorem en_raiseD {R : List D → Value → Str → D → Prop} {ds : List D} (h : EvA1 (sinceMo m H0) K ta Γ ds) (hp : pre ds) (hS : ∀ d, ¬ Sf ds d) (hx : ∀ cls f d dx H', R ds cls f d → m.R H0 H' → E cls (some dx) H') : EvN (sinceMo m H0) K (tCallS (spXd K pre Sf R) (WE fun cls d _ H => E cls d H) ta) Γ fun _ => False := fun σ H e Q q =>
  h σ H e _ fun vs ds' H1 s r1 rs => by
    subst s
    have e1 := e.mv (m := sinceMo m H0) r1
    exact ⟨m.F, ds', fun a f => m.fa e1.i.1 f, rs, hp, fun v d H' sd _ _ => absurd sd (hS d), fun cls f y dx d H' r sm _ _ => hx cls f d dx H' r (m.trans e1.i.2 (m.grow e1.i.1 sm))⟩
theorem en_raiseC {R : List D → Value → Prop} {T : List D → Prop} (h : EvA (sinceMo m H0) K ta Γ T) (hp : ∀ ds, T ds → pre ds) (hS : ∀ ds d, T ds → ¬ Sf ds d) (hx : ∀ ds cls H', T ds → R ds cls → m.R H0 H' → E cls none H') : EvN (sinceMo m H0) K (tCallS (spX K pre Sf R) (WE fun cls d _ H => E cls d H) ta) Γ fun _ => False := fun σ H e Q q =>
  h σ H e _ fun vs ds' H1 s r1 rs => by
    have e1 := e.mv (m := sinceMo m H0) r1
    exact ⟨m.F, ds', fun a f => m.fa e1.i.1 f, rs, hp ds' s, fun v d H' sd _ _ => absurd sd (hS ds' d s), fun cls H' r sm => hx ds' cls H' s r (m.trans e1.i.2 (m.grow e1.i.1 sm))⟩
end
end Tx

set_option Elab.async false
set_option linter.all false
set_option maxRecDepth 100000
set_option maxHeartbeats 4000000
set_option autoImplicit false
namespace K00
open PySem L2 Tx
def top (i : Nat) : Stmt := PySem.Challenge.pw_poolmaps_k00_errors_keep_what_they_are_m.main.body.getD i (.Pass ⟨0, 0, 0, 0⟩)
def st_ParseError (i : Nat) : Stmt := (C8.clsBody (top 12)).getD i (.Pass ⟨0, 0, 0, 0⟩)
abbrev s_ParseError___init : Stmt := st_ParseError 0
def st_InvalidNumber (i : Nat) : Stmt := (C8.clsBody (top 13)).getD i (.Pass ⟨0, 0, 0, 0⟩)
abbrev s_InvalidNumber___init : Stmt := st_InvalidNumber 0
def st_UnknownName (i : Nat) : Stmt := (C8.clsBody (top 14)).getD i (.Pass ⟨0, 0, 0, 0⟩)
abbrev s_UnknownName___init : Stmt := st_UnknownName 0
def st_NothingToUndo (i : Nat) : Stmt := (C8.clsBody (top 15)).getD i (.Pass ⟨0, 0, 0, 0⟩)
abbrev s_NothingToUndo___init : Stmt := st_NothingToUndo 0
def st_TooMany (i : Nat) : Stmt := (C8.clsBody (top 16)).getD i (.Pass ⟨0, 0, 0, 0⟩)
abbrev s_TooMany___init : Stmt := st_TooMany 0
def st_Refused (i : Nat) : Stmt := (C8.clsBody (top 17)).getD i (.Pass ⟨0, 0, 0, 0⟩)
abbrev s_Refused___init : Stmt := st_Refused 0
abbrev s_law_pouch : Stmt := top 19
abbrev s_law_coin : Stmt := top 20
abbrev s_law_any : Stmt := top 21
abbrev s_law_caught : Stmt := top 22
abbrev s_law_plain : Stmt := top 23
abbrev s_law_own : Stmt := top 24
abbrev s_law_keeping : Stmt := top 25
abbrev s_law_kept : Stmt := top 26
abbrev s_law : Stmt := top 27
structure Txt (K : PySem.W.Frag) (mg : Str → Option Value) : Prop where
  int : mg "int" = none
  list : mg "list" = none
  len : mg "len" = none
  range : mg "range" = none
  max : mg "max" = none
  min : mg "min" = none
  abs : mg "abs" = none
  repr : mg "repr" = none
section
variable {P : Program} {w : World} {K : PySem.W.Frag} {mg : Str → Option Value} {base : Heap} 
theorem sc_law_pouch : FnScope ["_law_script", "_law_at", "_law_cell", "_law_great", "_law_start"] ["_law_script", "_law_at"] (defScope s_law_pouch) := ⟨rfl, rfl, rfl, by decide +kernel, rfl, by decide +kernel, by decide +kernel⟩
def pre_pouch (xs : List Int) (i : Int) : Prop := ∃ n : Nat, i = n ∧ n ≤ 100
theorem ok_law_pouch {f : Addr} {fd : FuncData} (Fu : Fun K "_law_pouch" "_law_pouch" s_law_pouch f fd) (T : Txt K mg) : FnOk P w K mg base CX0 1 f fd ["_law_script", "_law_at"] (spNewL K pre_pouch) := by
  refine fn_newL Fu sc_law_pouch rfl fun cdv A outer s H E hr => ⟨_, (pss_cons (ps_set (i := 2) sc_law_pouch.nd rfl (by first | exact Or.inl rfl | exact Or.inr rfl) (pe_ifExp (pt_cmpR op_lt (pv 1) (pe_callB (r := rLenS K) cr_len (by rfl) T.len (by decide +kernel) (pa_cons (pv 0) pa_nil)) (nomark _)) (pe_callTy cr_int (by rfl) T.int (by decide +kernel) (pa_cons (pe_ix (r := rIx K) ix_seq (pv 0) (pv 1) (fun _ _ => rfl)) pa_nil)) (pe_op (r := rAddU K) op_addU (pe_op (r := rMulU K) op_mulU pe_int (pv 1)) pe_int))) (pss_cons (ps_set (i := 3) sc_law_pouch.nd rfl (by first | exact Or.inl rfl | exact Or.inr rfl) (pe_op op_mod (pe_callB cr_abs (by rfl) T.abs (by decide +kernel) (pa_cons (pv 2) pa_nil)) (pe_op op_pow pe_int pe_int))) (pss_cons (ps_set (i := 4) sc_law_pouch.nd rfl (by first | exact Or.inl rfl | exact Or.inr rfl) (pe_op (r := rAddU K) op_addU (pe_op (r := rAddU K) op_addU (pe_op (r := rAddU K) op_addU (pe_op (r := rMulU K) op_mulU (pe_op op_mod (pv 3) pe_int) pe_int) (pe_op (r := rMulU K) op_mulU pe_int (pv 1))) (pe_op (r := rMulU K) op_mulU pe_int (pe_callTy cr_int (by rfl) T.int (by decide +kernel) (pa_cons (pe_cmpR op_lt (pv 2) pe_int (nomark _)) pa_nil)))) pe_int)) (pss_one (ps_ret (pe_lst (pa_cons (pe_op op_mod (pe_callB (r := rMaxU K) (cr_maxU rfl hr.units) (by rfl) T.max (by decide +kernel) (pa_cons pe_int (pa_cons (pe_op op_sub (pe_callB cr_abs (by rfl) T.abs (by decide +kernel) (pa_cons (pv 2) pa_nil)) (pe_op op_pow pe_int pe_int)) pa_nil))) (pe_op (r := rMulU K) op_mulU (pe_op op_pow pe_int pe_int) (pe_op op_pow pe_int pe_int))) (pa_cons (pv 4) (pa_cons pe_int pa_nil))))))))), fun F d xs i hd hp H0 => ?_⟩
  obtain ⟨n, rfl, hn⟩ := hp
  refine sn_asgN (S := isI) ?_ ?_
  · refine en_if1 (k := decide ((n : Int) < ((xs.map D.int).length : Int))) (et_test (en_op1 (en_var 1 rfl) (en_cb1 (ea_cons (en_var 0 rfl) ea_nil) (c_len (.inr hd))) o_bl)) (fun e => ?_) (fun e => ?_)
    · have e := of_decide_eq_true e
      have hl : n < (xs.map D.int).length := by omega
      have hx : ∃ x : Int, (xs.map D.int)[n]? = some (.int x) := by
        rw [List.length_map] at hl
        exact ⟨xs[n], by rw [List.getElem?_map, List.getElem?_eq_getElem hl]; rfl⟩
      obtain ⟨x, hx⟩ := hx
      exact en_intN (Ev1.n (en_op1 (en_var 0 rfl) (en_var 1 rfl) (o_ix (.inr hd) (atI_of hx))) ⟨x, rfl⟩) fun _ s => s
    · exact en_addN (en_mulN (A := fun d => d = .int 53) (B := isI) (en_int 53) (Ev1.n (en_var 1 rfl) ⟨_, rfl⟩) fun a b sa ⟨j, sb⟩ => ⟨53, j, sa, sb, .inl (by decide)⟩) (Ev1.n (en_int 29) ⟨_, rfl⟩)
  rintro _ ⟨c, rfl⟩
  refine sn_asgN (S := isI) ((en_modN (Ev1.n (en_cb1 (ea_cons (en_var 2 rfl) ea_nil) c_abs) ⟨_, rfl⟩) (en_op1 (en_int 10) (en_int 57) (o_intC (g := fun i j => i ^ j.toNat) (by unfold CPow; decide))) (by decide)).mono fun d s => s.isI) ?_
  rintro _ ⟨g, rfl⟩
  refine sn_asgN (S := isI) ?_ ?_
  · refine en_addN (en_addN (en_addN (en_mulN (A := inI 0 4611686018427387847) (B := fun d => d = .int 31) (en_modN (Ev1.n (en_var 3 rfl) ⟨_, rfl⟩) (en_int _) (by decide)) (en_int 31) fun a b ⟨x, hx, _⟩ sb => ⟨x, 31, hx, sb, .inr (by decide)⟩) (en_mulN (A := fun d => d = .int 1009) (B := isI) (en_int 1009) (Ev1.n (en_var 1 rfl) ⟨_, rfl⟩) fun a b sa ⟨j, sb⟩ => ⟨1009, j, sa, sb, .inl (by decide)⟩)) (en_mulN (A := fun d => d = .int 23) (B := isI) (en_int 23) ?_ fun a b sa ⟨j, sb⟩ => ⟨23, j, sa, sb, .inl (by decide)⟩)) (Ev1.n (en_int 5) ⟨_, rfl⟩)
    exact Ev1.n (en_cb1 (ea_cons (en_op1 (en_var 2 rfl) (en_int 0) o_bl) ea_nil) c_intB) ⟨_, rfl⟩
  rintro _ ⟨st, rfl⟩
  refine sn_ret (ea_consN (S := isI) ?_ (ea_cons (en_var 4 rfl) (ea_cons (en_int 0) ea_nil)) fun d ds ⟨a, ha⟩ e => ⟨a, st, 0, by rw [ha, e]⟩)
  refine (en_modN (n := 10 ^ 60 * 10 ^ 60) (Ev1.n (en_cb1 (ea_cons (en_int 0) (ea_cons (en_op1 (en_cb1 (ea_cons (en_var 2 rfl) ea_nil) c_abs) (en_op1 (en_int 10) (en_int 17) (o_intC (g := fun i j => i ^ j.toNat) (by unfold CPow; decide))) o_int) ea_nil)) c_max2) ⟨_, rfl⟩) (Ev1.is (en_op1 (en_op1 (en_int 10) (en_int 60) (o_intC (g := fun i j => i ^ j.toNat) (by unfold CPow; decide))) (en_op1 (en_int 10) (en_int 60) (o_intC (g := fun i j => i ^ j.toNat) (by unfold CPow; decide))) (o_mulW (by unfold CMulW; decide +kernel))) (by rfl)) (by decide)).mono fun d s => s.isI
theorem sc_law_coin : FnScope ["_law_pouch_here", "_law_total", "_law_one", "_law_two", "_law_found"] ["_law_pouch_here", "_law_total"] (defScope s_law_coin) := ⟨rfl, rfl, rfl, by decide +kernel, rfl, by decide +kernel, by decide +kernel⟩
def pre_coin (ds : List D) : Prop := ∃ n : Int, ds = [.int n] ∧ 0 < n ∧ n < 1000
def S_coin (ds : List D) (d : D) : Prop := ∀ n : Int, ds = [.int n] → inI 0 n d
theorem ok_law_coin {f : Addr} {fd : FuncData} (Fu : Fun K "_law_coin" "_law_coin" s_law_coin f fd) (T : Txt K mg) : FnOk P w K mg base CX0 1 f fd ["_law_pouch_here", "_law_total"] (spP K pre_coin S_coin) := by
  refine fn_pouch Fu sc_law_coin (fun ds h => by obtain ⟨n, rfl, _⟩ := h; rfl) fun cdv A outer s H E hr => ⟨_, (pss_cons (ps_if (pt_cmpR op_gt (pe_ix (r := rIx K) ix_seq (pv 0) pe_int (fun _ _ => rfl)) pe_int (nomark _)) (pss_cons (ps_set (i := 4) sc_law_coin.nd rfl (by first | exact Or.inl rfl | exact Or.inr rfl) (pe_op op_mod (pe_callTy cr_int (by rfl) T.int (by decide +kernel) (pa_cons (pe_ix (r := rIx K) ix_seq (pv 0) pe_int (fun _ _ => rfl)) pa_nil)) (pv 1))) (pss_cons (ps_asg (pe_op op_fdiv (pe_ix (r := rIx K) ix_seq (pv 0) pe_int (fun _ _ => rfl)) (pv 1)) (pg_sub (pv 0) pe_int set_list)) (pss_one (ps_ret (pv 4))))) pss_nil) (pss_cons (ps_asg (pe_op (r := rAddU K) op_addU (pe_ix (r := rIx K) ix_seq (pv 0) pe_int (fun _ _ => rfl)) pe_int) (pg_sub (pv 0) pe_int set_list)) (pss_cons (ps_set (i := 2) sc_law_coin.nd rfl (by first | exact Or.inl rfl | exact Or.inr rfl) (pe_op op_mod (pe_callTy cr_int (by rfl) T.int (by decide +kernel) (pa_cons (pe_op (r := rAddU K) op_addU (pe_ix (r := rIx K) ix_seq (pv 0) pe_int (fun _ _ => rfl)) (pe_op (r := rMulU K) op_mulU pe_int (pe_ix (r := rIx K) ix_seq (pv 0) pe_int (fun _ _ => rfl)))) pa_nil)) pe_int)) (pss_cons (ps_set (i := 3) sc_law_coin.nd rfl (by first | exact Or.inl rfl | exact Or.inr rfl) (pe_op op_mod (pe_callTy cr_int (by rfl) T.int (by decide +kernel) (pa_cons (pe_op (r := rAddU K) op_addU (pe_op (r := rMulU K) op_mulU (pv 2) (pv 2)) (pe_op (r := rMulU K) op_mulU pe_int (pe_ix (r := rIx K) ix_seq (pv 0) pe_int (fun _ _ => rfl)))) pa_nil)) pe_int)) (pss_one (ps_ret (pe_op op_mod (pe_callTy cr_int (by rfl) T.int (by decide +kernel) (pa_cons (pe_op op_fdiv (pe_callTy cr_int (by rfl) T.int (by decide +kernel) (pa_cons (pe_op (r := rAddU K) op_addU (pe_op (r := rMulU K) op_mulU (pv 3) pe_int) (pv 2)) pa_nil)) pe_int) pa_nil)) (pv 1)))))))), fun p F ds hp => ?_⟩
  obtain ⟨n, rfl, h0, h1⟩ := hp
  have HP := HasP.self p F
  have hS : ∀ d, inI 0 n d → S_coin [.int n] d := fun d h n' e => by injection e with e; injection e with e; rw [← e]; exact h
  have hm : ∀ k : Int, -(2 ^ 64) < k → k < 2 ^ 64 → ∀ a b, a = D.int k → isI b → ∃ i j, a = .int i ∧ b = .int j ∧ CMul i j := fun k k0 k1 a b e ⟨j, hb⟩ => ⟨k, j, e, hb, .inl ⟨k0, k1⟩⟩
  refine sg_seq (fun Γ' => Γ' = startG ["_law_pouch_here", "_law_total", "_law_one", "_law_two", "_law_found"] [.adr p, .int n]) (sg_ifN (T := fun _ => True) (et_testN (en_op (Sb := fun d => d = .int 0) (en_pIx HP (en_var 0 rfl) (by decide)) (en_int 0) fun a b ⟨x, sa⟩ sb => by subst sa; subst sb; exact OpN.mono o_bl fun d e => ⟨_, e, trivial⟩)) (fun _ => ?_) (fun _ => sg_next rfl)) ?_
  · refine sq_asgN (en_modN (en_intN (en_pIx HP (en_var 0 rfl) (by decide)) fun _ s => s) (en_var 1 rfl) h0) fun d hd => ?_
    refine sq_pSet HP (en_fdivN (en_pIx HP (en_var 0 rfl) (by decide)) (en_var 1 rfl) ⟨h0, by omega⟩) (en_var 0 rfl) (by decide) ?_
    exact sg_ret (en_var 4 rfl) (hS d hd)
  · rintro Γ' rfl
    refine sq_pSet HP (en_addN (en_pIx HP (en_var 0 rfl) (by decide)) (Ev1.n (en_int 1) ⟨_, rfl⟩)) (en_var 0 rfl) (by decide) ?_
    refine sq_asgN (en_modN (n := 4611686018427387847) (en_intN (en_addN (en_pIx HP (en_var 0 rfl) (by decide)) (en_mulN (A := fun d => d = .int 7541) (en_int 7541) (en_pIx HP (en_var 0 rfl) (by decide)) (hm _ (by decide) (by decide)))) fun _ s => s) (en_int _) (by decide)) ?_
    rintro _ ⟨a, rfl, ha0, ha1⟩
    refine sq_asgN (en_modN (n := 4611686018427387733) (en_intN (en_addN (en_mulN (A := fun d => d = .int a) (B := fun d => d = .int a) (en_var 2 rfl) (en_var 2 rfl) fun x y ex ey => ⟨a, a, ex, ey, .inl ⟨by omega, by omega⟩⟩) (en_mulN (A := fun d => d = .int 97) (en_int 97) (en_pIx HP (en_var 0 rfl) (by decide)) (hm _ (by decide) (by decide)))) fun _ s => s) (en_int _) (by decide)) ?_
    rintro _ ⟨b, rfl, hb0, hb1⟩
    exact sg_retN (en_modN (en_intN (en_fdivN (en_intN (en_addN (en_mulN (A := fun d => d = .int b) (B := fun d => d = .int 2654435769) (en_var 3 rfl) (en_int _) fun x y ex ey => ⟨b, _, ex, ey, .inl ⟨by omega, by omega⟩⟩) (Ev1.n (en_var 2 rfl) ⟨_, rfl⟩)) fun _ s => s) (en_int 32768) (by unfold CDiv; decide)) fun _ s => s) (en_var 1 rfl) h0) hS
theorem sc_law_any : FnScope ["_law_pouch_here", "_law_items"] ["_law_pouch_here", "_law_items"] (defScope s_law_any) := ⟨rfl, rfl, rfl, by decide +kernel, rfl, by decide +kernel, by decide +kernel⟩
def pre_any (ds : List D) : Prop := ∃ b xs, ds = [b] ∧ isSeq b xs ∧ 0 < xs.length ∧ xs.length < 1000
def S_any (ds : List D) (d : D) : Prop := ∀ b xs, ds = [b] → isSeq b xs → d ∈ xs
theorem isSeq_fun {b : D} {xs ys : List D} (h : isSeq b xs) (h' : isSeq b ys) : xs = ys := by
  rcases h with rfl | rfl | rfl <;> rcases h' with e | e | e <;> injection e
theorem ok_law_any {f : Addr} {fd : FuncData} (Fu : Fun K "_law_any" "_law_any" s_law_any f fd) (T : Txt K mg) (c__law_coin : C8.Cal P w K mg base 1 "_law_coin" (spP K pre_coin S_coin) []) : FnOk P w K mg base CX0 2 f fd ["_law_pouch_here", "_law_items"] (spP K pre_any S_any) := by
  refine fn_pouch Fu sc_law_any (fun ds h => by obtain ⟨b, xs, rfl, _⟩ := h; rfl) fun cdv A outer s H E hr => ⟨_, (pss_one (ps_ret (pe_ix (r := rIx K) ix_seq (pv 1) (C8.pe_c c__law_coin hr (by decide) rfl (pa_cons (pv 0) (pa_cons (pe_callB (r := rLenS K) cr_len (by rfl) T.len (by decide +kernel) (pa_cons (pv 1) pa_nil)) pa_nil))) (fun _ _ => rfl)))), fun p F ds hp => ?_⟩
  obtain ⟨b, xs, rfl, hb, h0, h1⟩ := hp
  have HP := HasP.self p F
  refine sg_retN (S := fun d => d ∈ xs) (en_op (Sa := fun d => d = b) (Sb := inI 0 xs.length) (en_var 1 rfl) (en_pcall1 HP (ds := [.int xs.length]) (ea_cons (en_var 0 rfl) (ea_cons (en_cb1 (ea_cons (en_var 1 rfl) ea_nil) (c_len hb)) ea_nil)) ⟨_, rfl, by omega, by omega⟩ fun d hd => hd _ rfl) fun x y ex ⟨i, ey, i0, i1⟩ => ?_) (fun d hd b' xs' e hb' => ?_)
  · subst ex; subst ey
    obtain ⟨k, rfl⟩ : ∃ k : Nat, i = k := ⟨i.toNat, by omega⟩
    have hk : k < xs.length := by omega
    exact OpN.mono (o_ix hb (d := xs[k]) (atI_of (List.getElem?_eq_getElem hk))) fun d e => by rw [e]; exact List.getElem_mem hk
  · injection e with e
    subst e
    rw [← isSeq_fun hb hb']
    exact hd
end
end K00

set_option Elab.async false
set_option linter.all false
set_option maxRecDepth 100000
set_option maxHeartbeats 4000000
set_option autoImplicit false
namespace K00
open PySem L2 Tx
/-! ### the errors that keep a value -/
section
variable {P : Program} {w : World} {K : PySem.W.Frag} {mg : Str → Option Value} {base : Heap} {Ct Cb : Addr}
theorem sc_ParseError___init : FnScope ["self", "at"] ["self", "at"] (defScope s_ParseError___init) := ⟨rfl, rfl, rfl, by decide +kernel, rfl, by decide +kernel, by decide +kernel⟩
theorem ok_ParseError_init {f : Addr} {fd : FuncData} (Fu : FunD K "__init__" "ParseError.__init__" (defArgs s_ParseError___init) (defBody s_ParseError___init) (defScope s_ParseError___init) [] [] f fd) (X : XjC K Ct "ValueError.__init__") (hm : mg "PoolError" = some (.ref Cb)) (ga : PySem.W.specialIn K (.ref Cb) "__getattribute__" = some (some (.builtin "type.__getattribute__"))) (rd : PySem.W.readsIn K Cb (.type "type") = true) (vV : PySem.W.findCls K (.ref Cb) (.type "type") "__init__" = some (.val (.builtin "ValueError.__init__"))) (ht : PySem.W.takerIn K Ct "at" = some none) : FnOk P w K mg base CX0 1 f fd ["self", "at"] (spXi Ct "at") := by
  refine Fu.ok sc_ParseError___init (fun vs H Q E h => by obtain ⟨a, y, rfl, _⟩ := h; rfl) fun cdv A outer s H vs Q E hr h => ⟨_, (pss_cons (ps_expr (pe_xjinitC (initId := "ValueError.__init__") rfl hm ga rd (by decide +kernel) vV (pa_cons (pv 0) (pa_cons pe_str pa_nil)))) (pss_one (ps_xjst (pv 0) (pv 1)))), ?_⟩
  obtain ⟨a, y, rfl, ha, q⟩ := h
  exact ⟨.ref a, rfl, a, Ct, _, rfl, by decide, X, ha, y, rfl, .ref a, rfl, a, Ct, _, rfl, X, ht, ha, fun dx h1 h2 => q dx h1 h2⟩
theorem sc_InvalidNumber___init : FnScope ["self", "given"] ["self", "given"] (defScope s_InvalidNumber___init) := ⟨rfl, rfl, rfl, by decide +kernel, rfl, by decide +kernel, by decide +kernel⟩
theorem ok_InvalidNumber_init {f : Addr} {fd : FuncData} (Fu : FunD K "__init__" "InvalidNumber.__init__" (defArgs s_InvalidNumber___init) (defBody s_InvalidNumber___init) (defScope s_InvalidNumber___init) [] [] f fd) (X : XjC K Ct "IndexError.__init__") (hm : mg "IndexError" = none) (vV : PySem.W.findCls K (.type "IndexError") (.type "type") "__init__" = some (.val (.builtin "IndexError.__init__"))) (ht : PySem.W.takerIn K Ct "given" = some none) : FnOk P w K mg base CX0 1 f fd ["self", "given"] (spXi Ct "given") := by
  refine Fu.ok sc_InvalidNumber___init (fun vs H Q E h => by obtain ⟨a, y, rfl, _⟩ := h; rfl) fun cdv A outer s H vs Q E hr h => ⟨_, (pss_cons (ps_expr (pe_xjinit (B := "IndexError") (initId := "IndexError.__init__") rfl hm PyProof.Rows.Boot.«IndexError» (by kernel_rfl) (by decide +kernel) (by decide +kernel) vV (pa_cons (pv 0) (pa_cons pe_str pa_nil)))) (pss_one (ps_xjst (pv 0) (pv 1)))), ?_⟩
  obtain ⟨a, y, rfl, ha, q⟩ := h
  exact ⟨.ref a, rfl, a, Ct, _, rfl, by decide, X, ha, y, rfl, .ref a, rfl, a, Ct, _, rfl, X, ht, ha, fun dx h1 h2 => q dx h1 h2⟩
theorem sc_UnknownName___init : FnScope ["self", "wanted"] ["self", "wanted"] (defScope s_UnknownName___init) := ⟨rfl, rfl, rfl, by decide +kernel, rfl, by decide +kernel, by decide +kernel⟩
theorem ok_UnknownName_init {f : Addr} {fd : FuncData} (Fu : FunD K "__init__" "UnknownName.__init__" (defArgs s_UnknownName___init) (defBody s_UnknownName___init) (defScope s_UnknownName___init) [] [] f fd) (X : XjC K Ct "KeyError.__init__") (hm : mg "KeyError" = none) (vV : PySem.W.findCls K (.type "KeyError") (.type "type") "__init__" = some (.val (.builtin "KeyError.__init__"))) (ht : PySem.W.takerIn K Ct "wanted" = some none) : FnOk P w K mg base CX0 1 f fd ["self", "wanted"] (spXi Ct "wanted") := by
  refine Fu.ok sc_UnknownName___init (fun vs H Q E h => by obtain ⟨a, y, rfl, _⟩ := h; rfl) fun cdv A outer s H vs Q E hr h => ⟨_, (pss_cons (ps_expr (pe_xjinit (B := "KeyError") (initId := "KeyError.__init__") rfl hm PyProof.Rows.Boot.«KeyError» (by kernel_rfl) (by decide +kernel) (by decide +kernel) vV (pa_cons (pv 0) (pa_cons pe_str pa_nil)))) (pss_one (ps_xjst (pv 0) (pv 1)))), ?_⟩
  obtain ⟨a, y, rfl, ha, q⟩ := h
  exact ⟨.ref a, rfl, a, Ct, _, rfl, by decide, X, ha, y, rfl, .ref a, rfl, a, Ct, _, rfl, X, ht, ha, fun dx h1 h2 => q dx h1 h2⟩
theorem sc_NothingToUndo___init : FnScope ["self", "many"] ["self", "many"] (defScope s_NothingToUndo___init) := ⟨rfl, rfl, rfl, by decide +kernel, rfl, by decide +kernel, by decide +kernel⟩
theorem ok_NothingToUndo_init {f : Addr} {fd : FuncData} (Fu : FunD K "__init__" "NothingToUndo.__init__" (defArgs s_NothingToUndo___init) (defBody s_NothingToUndo___init) (defScope s_NothingToUndo___init) [] [] f fd) (X : XjC K Ct "LookupError.__init__") (hm : mg "LookupError" = none) (vV : PySem.W.findCls K (.type "LookupError") (.type "type") "__init__" = some (.val (.builtin "LookupError.__init__"))) (ht : PySem.W.takerIn K Ct "many" = some none) : FnOk P w K mg base CX0 1 f fd ["self", "many"] (spXi Ct "many") := by
  refine Fu.ok sc_NothingToUndo___init (fun vs H Q E h => by obtain ⟨a, y, rfl, _⟩ := h; rfl) fun cdv A outer s H vs Q E hr h => ⟨_, (pss_cons (ps_expr (pe_xjinit (B := "LookupError") (initId := "LookupError.__init__") rfl hm PyProof.Rows.Boot.«LookupError» (by kernel_rfl) (by decide +kernel) (by decide +kernel) vV (pa_cons (pv 0) (pa_cons pe_str pa_nil)))) (pss_one (ps_xjst (pv 0) (pv 1)))), ?_⟩
  obtain ⟨a, y, rfl, ha, q⟩ := h
  exact ⟨.ref a, rfl, a, Ct, _, rfl, by decide, X, ha, y, rfl, .ref a, rfl, a, Ct, _, rfl, X, ht, ha, fun dx h1 h2 => q dx h1 h2⟩
theorem sc_TooMany___init : FnScope ["self", "limit"] ["self", "limit"] (defScope s_TooMany___init) := ⟨rfl, rfl, rfl, by decide +kernel, rfl, by decide +kernel, by decide +kernel⟩
theorem ok_TooMany_init {f : Addr} {fd : FuncData} (Fu : FunD K "__init__" "TooMany.__init__" (defArgs s_TooMany___init) (defBody s_TooMany___init) (defScope s_TooMany___init) [] [] f fd) (X : XjC K Ct "OverflowError.__init__") (hm : mg "OverflowError" = none) (vV : PySem.W.findCls K (.type "OverflowError") (.type "type") "__init__" = some (.val (.builtin "OverflowError.__init__"))) (ht : PySem.W.takerIn K Ct "limit" = some none) : FnOk P w K mg base CX0 1 f fd ["self", "limit"] (spXi Ct "limit") := by
  refine Fu.ok sc_TooMany___init (fun vs H Q E h => by obtain ⟨a, y, rfl, _⟩ := h; rfl) fun cdv A outer s H vs Q E hr h => ⟨_, (pss_cons (ps_expr (pe_xjinit (B := "OverflowError") (initId := "OverflowError.__init__") rfl hm PyProof.Rows.Boot.«OverflowError» (by kernel_rfl) (by decide +kernel) (by decide +kernel) vV (pa_cons (pv 0) (pa_cons pe_str pa_nil)))) (pss_one (ps_xjst (pv 0) (pv 1)))), ?_⟩
  obtain ⟨a, y, rfl, ha, q⟩ := h
  exact ⟨.ref a, rfl, a, Ct, _, rfl, by decide, X, ha, y, rfl, .ref a, rfl, a, Ct, _, rfl, X, ht, ha, fun dx h1 h2 => q dx h1 h2⟩
theorem sc_Refused___init : FnScope ["self", "claim"] ["self", "claim"] (defScope s_Refused___init) := ⟨rfl, rfl, rfl, by decide +kernel, rfl, by decide +kernel, by decide +kernel⟩
theorem ok_Refused_init {f : Addr} {fd : FuncData} (Fu : FunD K "__init__" "Refused.__init__" (defArgs s_Refused___init) (defBody s_Refused___init) (defScope s_Refused___init) [] [] f fd) (X : XjC K Ct "ArithmeticError.__init__") (hm : mg "ArithmeticError" = none) (vV : PySem.W.findCls K (.type "ArithmeticError") (.type "type") "__init__" = some (.val (.builtin "ArithmeticError.__init__"))) (ht : PySem.W.takerIn K Ct "claim" = some none) : FnOk P w K mg base CX0 1 f fd ["self", "claim"] (spXi Ct "claim") := by
  refine Fu.ok sc_Refused___init (fun vs H Q E h => by obtain ⟨a, y, rfl, _⟩ := h; rfl) fun cdv A outer s H vs Q E hr h => ⟨_, (pss_cons (ps_expr (pe_xjinit (B := "ArithmeticError") (initId := "ArithmeticError.__init__") rfl hm PyProof.Rows.Boot.«ArithmeticError» (by kernel_rfl) (by decide +kernel) (by decide +kernel) vV (pa_cons (pv 0) (pa_cons pe_str pa_nil)))) (pss_one (ps_xjst (pv 0) (pv 1)))), ?_⟩
  obtain ⟨a, y, rfl, ha, q⟩ := h
  exact ⟨.ref a, rfl, a, Ct, _, rfl, by decide, X, ha, y, rfl, .ref a, rfl, a, Ct, _, rfl, X, ht, ha, fun dx h1 h2 => q dx h1 h2⟩
end
end K00

set_option Elab.async false
set_option linter.all false
set_option maxRecDepth 100000
set_option maxHeartbeats 4000000
set_option autoImplicit false
namespace K00
open PySem L2 Tx
/-! ### defs that raise -/
section
variable {P : Program} {w : World} {K : PySem.W.Frag} {mg : Str → Option Value} {base : Heap} {Cn Ck : Nat → Addr} {Cb : Addr}
theorem sc_law_plain : FnScope ["_law_at"] ["_law_at"] (defScope s_law_plain) := ⟨rfl, rfl, rfl, by decide +kernel, rfl, by decide +kernel, by decide +kernel⟩
def pre_pl (ds : List D) : Prop := ∃ k : Nat, ds = [dN k] ∧ k < 10
def R_pl (Cn : Nat → Addr) (ds : List D) (cls : Value) : Prop := ∃ k : Nat, ds = [dN k] ∧ k < 10 ∧ cls = .ref (Cn k)
theorem ok_law_plain {f : Addr} {fd : FuncData} (Fu : Fun K "_law_plain" "_law_plain" s_law_plain f fd) (T : Txt K mg) (e0 : ExcK K mg "InvalidWeb" (Cn 0)) (e1 : ExcK K mg "InvalidPool" (Cn 1)) (e2 : ExcK K mg "InvalidWord" (Cn 2)) (e3 : ExcK K mg "InvalidRow" (Cn 3)) (e4 : ExcK K mg "InvalidTask" (Cn 4)) (e5 : ExcK K mg "InvalidRule" (Cn 5)) (e6 : ExcK K mg "InvalidKind" (Cn 6)) (e7 : ExcK K mg "InvalidMachine" (Cn 7)) (e8 : ExcK K mg "InvalidName" (Cn 8)) (e9 : ExcK K mg "InvalidOperation" (Cn 9)) : FnOk P w K mg base (L2.CX P w) 2 f fd ["_law_at"] (spX K pre_pl (fun _ _ => False) (R_pl Cn)) := by
  refine fn_pureX Fu sc_law_plain (fun ds h => by obtain ⟨k, rfl, _⟩ := h; rfl) fun cdv A outer s H E hr => ⟨_, (pss_cons (ps_if (pt_cmpR (r := rEqD K) (op_eqD hr.units) (pv 0) pe_int (nomark _)) (pss_one (ps_raiseD (by assumption) rfl)) pss_nil) (pss_cons (ps_if (pt_cmpR (r := rEqD K) (op_eqD hr.units) (pv 0) pe_int (nomark _)) (pss_one (ps_raiseD (by assumption) rfl)) pss_nil) (pss_cons (ps_if (pt_cmpR (r := rEqD K) (op_eqD hr.units) (pv 0) pe_int (nomark _)) (pss_one (ps_raiseD (by assumption) rfl)) pss_nil) (pss_cons (ps_if (pt_cmpR (r := rEqD K) (op_eqD hr.units) (pv 0) pe_int (nomark _)) (pss_one (ps_raiseD (by assumption) rfl)) pss_nil) (pss_cons (ps_if (pt_cmpR (r := rEqD K) (op_eqD hr.units) (pv 0) pe_int (nomark _)) (pss_one (ps_raiseD (by assumption) rfl)) pss_nil) (pss_cons (ps_if (pt_cmpR (r := rEqD K) (op_eqD hr.units) (pv 0) pe_int (nomark _)) (pss_one (ps_raiseD (by assumption) rfl)) pss_nil) (pss_cons (ps_if (pt_cmpR (r := rEqD K) (op_eqD hr.units) (pv 0) pe_int (nomark _)) (pss_one (ps_raiseD (by assumption) rfl)) pss_nil) (pss_cons (ps_if (pt_cmpR (r := rEqD K) (op_eqD hr.units) (pv 0) pe_int (nomark _)) (pss_one (ps_raiseD (by assumption) rfl)) pss_nil) (pss_cons (ps_if (pt_cmpR (r := rEqD K) (op_eqD hr.units) (pv 0) pe_int (nomark _)) (pss_one (ps_raiseD (by assumption) rfl)) pss_nil) (pss_one (ps_raiseD (by assumption) rfl))))))))))), fun F ds hp hE => ?_⟩
  obtain ⟨k, rfl, hk⟩ := hp
  refine sg_seqIf (b := decide ((k : Int) = 0)) (et_test (en_op1 (a := dN k) (b := .int 0) (en_var 0 rfl) (en_int 0) o_eqI)) (fun e => sg_raise fun H' r => hE _ H' ⟨k, rfl, hk, by rw [show k = 0 by have := of_decide_eq_true e; omega]⟩ r) fun n0 => ?_
  have n0 := of_decide_eq_false n0
  refine sg_seqIf (b := decide ((k : Int) = 1)) (et_test (en_op1 (a := dN k) (b := .int 1) (en_var 0 rfl) (en_int 1) o_eqI)) (fun e => sg_raise fun H' r => hE _ H' ⟨k, rfl, hk, by rw [show k = 1 by have := of_decide_eq_true e; omega]⟩ r) fun n1 => ?_
  have n1 := of_decide_eq_false n1
  refine sg_seqIf (b := decide ((k : Int) = 2)) (et_test (en_op1 (a := dN k) (b := .int 2) (en_var 0 rfl) (en_int 2) o_eqI)) (fun e => sg_raise fun H' r => hE _ H' ⟨k, rfl, hk, by rw [show k = 2 by have := of_decide_eq_true e; omega]⟩ r) fun n2 => ?_
  have n2 := of_decide_eq_false n2
  refine sg_seqIf (b := decide ((k : Int) = 3)) (et_test (en_op1 (a := dN k) (b := .int 3) (en_var 0 rfl) (en_int 3) o_eqI)) (fun e => sg_raise fun H' r => hE _ H' ⟨k, rfl, hk, by rw [show k = 3 by have := of_decide_eq_true e; omega]⟩ r) fun n3 => ?_
  have n3 := of_decide_eq_false n3
  refine sg_seqIf (b := decide ((k : Int) = 4)) (et_test (en_op1 (a := dN k) (b := .int 4) (en_var 0 rfl) (en_int 4) o_eqI)) (fun e => sg_raise fun H' r => hE _ H' ⟨k, rfl, hk, by rw [show k = 4 by have := of_decide_eq_true e; omega]⟩ r) fun n4 => ?_
  have n4 := of_decide_eq_false n4
  refine sg_seqIf (b := decide ((k : Int) = 5)) (et_test (en_op1 (a := dN k) (b := .int 5) (en_var 0 rfl) (en_int 5) o_eqI)) (fun e => sg_raise fun H' r => hE _ H' ⟨k, rfl, hk, by rw [show k = 5 by have := of_decide_eq_true e; omega]⟩ r) fun n5 => ?_
  have n5 := of_decide_eq_false n5
  refine sg_seqIf (b := decide ((k : Int) = 6)) (et_test (en_op1 (a := dN k) (b := .int 6) (en_var 0 rfl) (en_int 6) o_eqI)) (fun e => sg_raise fun H' r => hE _ H' ⟨k, rfl, hk, by rw [show k = 6 by have := of_decide_eq_true e; omega]⟩ r) fun n6 => ?_
  have n6 := of_decide_eq_false n6
  refine sg_seqIf (b := decide ((k : Int) = 7)) (et_test (en_op1 (a := dN k) (b := .int 7) (en_var 0 rfl) (en_int 7) o_eqI)) (fun e => sg_raise fun H' r => hE _ H' ⟨k, rfl, hk, by rw [show k = 7 by have := of_decide_eq_true e; omega]⟩ r) fun n7 => ?_
  have n7 := of_decide_eq_false n7
  refine sg_seqIf (b := decide ((k : Int) = 8)) (et_test (en_op1 (a := dN k) (b := .int 8) (en_var 0 rfl) (en_int 8) o_eqI)) (fun e => sg_raise fun H' r => hE _ H' ⟨k, rfl, hk, by rw [show k = 8 by have := of_decide_eq_true e; omega]⟩ r) fun n8 => ?_
  have n8 := of_decide_eq_false n8
  exact sg_raise fun H' r => hE _ H' ⟨k, rfl, hk, by rw [show k = 9 by omega]⟩ r
theorem sc_law_keeping : FnScope ["_law_at", "_law_value"] ["_law_at", "_law_value"] (defScope s_law_keeping) := ⟨rfl, rfl, rfl, by decide +kernel, rfl, by decide +kernel, by decide +kernel⟩
def fK (k : Nat) : Str := (["at", "given", "wanted", "many", "limit", "claim"] : List Str).getD k ""
def pre_kp (ds : List D) : Prop := ∃ (k : Nat) (d : D), ds = [dN k, d] ∧ k < 6
def R_kp (Ck : Nat → Addr) (ds : List D) (cls : Value) (f : Str) (y : D) : Prop := ∃ (k : Nat) (d : D), ds = [dN k, d] ∧ k < 6 ∧ cls = .ref (Ck k) ∧ f = fK k ∧ y = d
theorem ok_law_keeping {f : Addr} {fd : FuncData} (Fu : Fun K "_law_keeping" "_law_keeping" s_law_keeping f fd) (T : Txt K mg) (r0 : RaiseJ P w K mg base "ParseError" (Ck 0) "at") (r1 : RaiseJ P w K mg base "InvalidNumber" (Ck 1) "given") (r2 : RaiseJ P w K mg base "UnknownName" (Ck 2) "wanted") (r3 : RaiseJ P w K mg base "NothingToUndo" (Ck 3) "many") (r4 : RaiseJ P w K mg base "TooMany" (Ck 4) "limit") (r5 : RaiseJ P w K mg base "Refused" (Ck 5) "claim") : FnOk P w K mg base (L2.CX P w) 4 f fd ["_law_at", "_law_value"] (spXd K pre_kp (fun _ _ => False) (R_kp Ck)) := by
  refine fn_pureXd Fu sc_law_keeping (fun ds h => by obtain ⟨k, d, rfl, _⟩ := h; rfl) fun cdv A outer s H E hr => ⟨_, (pss_cons (ps_if (pt_cmpR (r := rEqD K) (op_eqD hr.units) (pv 0) pe_int (nomark _)) (pss_one (ps_raiseXj (by assumption) (hr.mono (by decide)) rfl (pv 1))) pss_nil) (pss_cons (ps_if (pt_cmpR (r := rEqD K) (op_eqD hr.units) (pv 0) pe_int (nomark _)) (pss_one (ps_raiseXj (by assumption) (hr.mono (by decide)) rfl (pv 1))) pss_nil) (pss_cons (ps_if (pt_cmpR (r := rEqD K) (op_eqD hr.units) (pv 0) pe_int (nomark _)) (pss_one (ps_raiseXj (by assumption) (hr.mono (by decide)) rfl (pv 1))) pss_nil) (pss_cons (ps_if (pt_cmpR (r := rEqD K) (op_eqD hr.units) (pv 0) pe_int (nomark _)) (pss_one (ps_raiseXj (by assumption) (hr.mono (by decide)) rfl (pv 1))) pss_nil) (pss_cons (ps_if (pt_cmpR (r := rEqD K) (op_eqD hr.units) (pv 0) pe_int (nomark _)) (pss_one (ps_raiseXj (by assumption) (hr.mono (by decide)) rfl (pv 1))) pss_nil) (pss_one (ps_raiseXj (by assumption) (hr.mono (by decide)) rfl (pv 1)))))))), fun F ds hp hE => ?_⟩
  obtain ⟨k, d, rfl, hk⟩ := hp
  refine sg_seqIf (b := decide ((k : Int) = 0)) (et_test (en_op1 (a := dN k) (b := .int 0) (en_var 0 rfl) (en_int 0) o_eqI)) (fun e => sg_raiseJ (d := d) (en_var 1 rfl) fun dx y H' r hx ry => hE _ _ y dx d H' ⟨k, d, rfl, hk, by rw [show k = 0 by have := of_decide_eq_true e; omega], by rw [show k = 0 by have := of_decide_eq_true e; omega]; rfl, rfl⟩ r hx ry) fun n0 => ?_
  have n0 := of_decide_eq_false n0
  refine sg_seqIf (b := decide ((k : Int) = 1)) (et_test (en_op1 (a := dN k) (b := .int 1) (en_var 0 rfl) (en_int 1) o_eqI)) (fun e => sg_raiseJ (d := d) (en_var 1 rfl) fun dx y H' r hx ry => hE _ _ y dx d H' ⟨k, d, rfl, hk, by rw [show k = 1 by have := of_decide_eq_true e; omega], by rw [show k = 1 by have := of_decide_eq_true e; omega]; rfl, rfl⟩ r hx ry) fun n1 => ?_
  have n1 := of_decide_eq_false n1
  refine sg_seqIf (b := decide ((k : Int) = 2)) (et_test (en_op1 (a := dN k) (b := .int 2) (en_var 0 rfl) (en_int 2) o_eqI)) (fun e => sg_raiseJ (d := d) (en_var 1 rfl) fun dx y H' r hx ry => hE _ _ y dx d H' ⟨k, d, rfl, hk, by rw [show k = 2 by have := of_decide_eq_true e; omega], by rw [show k = 2 by have := of_decide_eq_true e; omega]; rfl, rfl⟩ r hx ry) fun n2 => ?_
  have n2 := of_decide_eq_false n2
  refine sg_seqIf (b := decide ((k : Int) = 3)) (et_test (en_op1 (a := dN k) (b := .int 3) (en_var 0 rfl) (en_int 3) o_eqI)) (fun e => sg_raiseJ (d := d) (en_var 1 rfl) fun dx y H' r hx ry => hE _ _ y dx d H' ⟨k, d, rfl, hk, by rw [show k = 3 by have := of_decide_eq_true e; omega], by rw [show k = 3 by have := of_decide_eq_true e; omega]; rfl, rfl⟩ r hx ry) fun n3 => ?_
  have n3 := of_decide_eq_false n3
  refine sg_seqIf (b := decide ((k : Int) = 4)) (et_test (en_op1 (a := dN k) (b := .int 4) (en_var 0 rfl) (en_int 4) o_eqI)) (fun e => sg_raiseJ (d := d) (en_var 1 rfl) fun dx y H' r hx ry => hE _ _ y dx d H' ⟨k, d, rfl, hk, by rw [show k = 4 by have := of_decide_eq_true e; omega], by rw [show k = 4 by have := of_decide_eq_true e; omega]; rfl, rfl⟩ r hx ry) fun n4 => ?_
  have n4 := of_decide_eq_false n4
  exact sg_raiseJ (d := d) (en_var 1 rfl) fun dx y H' r hx ry => hE _ _ y dx d H' ⟨k, d, rfl, hk, by rw [show k = 5 by omega], by rw [show k = 5 by omega]; rfl, rfl⟩ r hx ry
end
end K00

set_option Elab.async false
set_option linter.all false
set_option maxRecDepth 100000
set_option maxHeartbeats 4000000
set_option autoImplicit false
namespace K00
open PySem L2 Tx
/-! ### defs that catch -/
section
variable {P : Program} {w : World} {K : PySem.W.Frag} {mg : Str → Option Value} {base : Heap} {Cn Ck : Nat → Addr} {Cb : Addr}
theorem sc_law_own : FnScope ["_law_at"] ["_law_at"] (defScope s_law_own) := ⟨rfl, rfl, rfl, by decide +kernel, rfl, by decide +kernel, by decide +kernel⟩
/-- the first of some clauses, one a class, that takes the k-th class -/
theorem match_at {α : Type} {Cf : Nat → Addr} {g : Nat → α} {n : Nat} (hx : ∀ i j : Nat, i < n → j < n → PySem.W.exmOne K (.ref (Cf i)) (.ref (Cf j)) = some (decide (i = j))) {k : Nat} (hk : k < n) : ∀ (m a : Nat), a ≤ k → k < a + m → a + m ≤ n → MatchC K (.ref (Cf k)) ((List.range' a m).map fun i => (Cf i, g i)) (g k)
  | 0, a, h1, h2, _ => by omega
  | m + 1, a, h1, h2, h3 => by
    rw [List.range'_succ, List.map_cons]
    by_cases e : k = a
    · subst e
      exact .here (by rw [hx k k hk hk, decide_eq_true rfl])
    · exact .next (by rw [hx k a hk (by omega), decide_eq_false e]) (match_at hx hk m (a + 1) (by omega) (by omega) (by omega))
def S_own (ds : List D) (d : D) : Prop := ∀ k : Nat, ds = [dN k] → d = dN k
theorem ok_law_own {f : Addr} {fd : FuncData} (Fu : Fun K "_law_own" "_law_own" s_law_own f fd) (T : Txt K mg) (x_law_plain : CalX P w K mg base 2 "_law_plain" (spX K pre_pl (fun _ _ => False) (R_pl Cn))) (exN : ∀ i j : Nat, i < 10 → j < 10 → PySem.W.exmOne K (.ref (Cn i)) (.ref (Cn j)) = some (decide (i = j))) (e0 : ExcK K mg "InvalidWeb" (Cn 0)) (e1 : ExcK K mg "InvalidPool" (Cn 1)) (e2 : ExcK K mg "InvalidWord" (Cn 2)) (e3 : ExcK K mg "InvalidRow" (Cn 3)) (e4 : ExcK K mg "InvalidTask" (Cn 4)) (e5 : ExcK K mg "InvalidRule" (Cn 5)) (e6 : ExcK K mg "InvalidKind" (Cn 6)) (e7 : ExcK K mg "InvalidMachine" (Cn 7)) (e8 : ExcK K mg "InvalidName" (Cn 8)) (e9 : ExcK K mg "InvalidOperation" (Cn 9)) : FnOk P w K mg base CX0 5 f fd ["_law_at"] (spS K pre_pl S_own) := by
  refine fn_pure Fu sc_law_own (fun ds h => by obtain ⟨k, rfl, _⟩ := h; rfl) fun cdv A outer s H E hr => ⟨_, (pss_cons (ps_tryM (l := [(Cn 0, .int 0), (Cn 1, .int 1), (Cn 2, .int 2), (Cn 3, .int 3), (Cn 4, .int 4), (Cn 5, .int 5), (Cn 6, .int 6), (Cn 7, .int 7), (Cn 8, .int 8), (Cn 9, .int 9)]) rfl rfl (fun W pn xe tk => pe_cXt x_law_plain hr (by decide) tk rfl (pa_cons (pv 0) pa_nil)) (.cons ⟨rfl, by decide, .inl e0.g⟩ (fun _ _ _ _ _ _ _ => pss_one (ps_ret pe_int)) (.cons ⟨rfl, by decide, .inl e1.g⟩ (fun _ _ _ _ _ _ _ => pss_one (ps_ret pe_int)) (.cons ⟨rfl, by decide, .inl e2.g⟩ (fun _ _ _ _ _ _ _ => pss_one (ps_ret pe_int)) (.cons ⟨rfl, by decide, .inl e3.g⟩ (fun _ _ _ _ _ _ _ => pss_one (ps_ret pe_int)) (.cons ⟨rfl, by decide, .inl e4.g⟩ (fun _ _ _ _ _ _ _ => pss_one (ps_ret pe_int)) (.cons ⟨rfl, by decide, .inl e5.g⟩ (fun _ _ _ _ _ _ _ => pss_one (ps_ret pe_int)) (.cons ⟨rfl, by decide, .inl e6.g⟩ (fun _ _ _ _ _ _ _ => pss_one (ps_ret pe_int)) (.cons ⟨rfl, by decide, .inl e7.g⟩ (fun _ _ _ _ _ _ _ => pss_one (ps_ret pe_int)) (.cons ⟨rfl, by decide, .inl e8.g⟩ (fun _ _ _ _ _ _ _ => pss_one (ps_ret pe_int)) (.cons ⟨rfl, by decide, .inl e9.g⟩ (fun _ _ _ _ _ _ _ => pss_one (ps_ret pe_int)) .nil))))))))))) (pss_one (ps_ret pe_int))), fun F ds hp => ?_⟩
  obtain ⟨k, rfl, hk⟩ := hp
  refine sg_seq (fun _ => False) (sg_tryM (v := .int k) (d0 := dN k) (ds := [dN k]) (ea_cons (en_var 0 rfl) ea_nil) ⟨k, rfl, hk⟩ (fun _ h => h) (fun cls ⟨k', e, _, ec⟩ => ?_) (fun _ _ => .int _) (fun k' e => by rw [← dN_inj (List.cons.inj e).1])) fun _ h => h.elim
  rw [ec, ← dN_inj (List.cons.inj e).1]
  exact match_at (g := fun i : Nat => V.int i) exN hk 10 0 (Nat.zero_le _) (by omega) (by omega)
theorem sc_law_kept : FnScope ["_law_at", "_law_value", "e"] ["_law_at", "_law_value"] (defScope s_law_kept) := ⟨rfl, rfl, rfl, by decide +kernel, rfl, by decide +kernel, by decide +kernel⟩
def S_kept (ds : List D) (d : D) : Prop := ∀ (k : Nat) (y : D), ds = [dN k, y] → d = .tup [.int k, y]
theorem match_nm {Cf : Nat → Addr} {g : Nat → ClN} (hg : ∀ i, (g i).C = Cf i) {n : Nat} (hx : ∀ i j : Nat, i < n → j < n → PySem.W.exmOne K (.ref (Cf i)) (.ref (Cf j)) = some (decide (i = j))) {k : Nat} (hk : k < n) : ∀ (m a : Nat), a ≤ k → k < a + m → a + m ≤ n → MatchN K (.ref (Cf k)) ((List.range' a m).map g) (g k)
  | 0, a, h1, h2, _ => by omega
  | m + 1, a, h1, h2, h3 => by
    rw [List.range'_succ, List.map_cons]
    by_cases e : k = a
    · subst e
      exact .here (by rw [hg, hx k k hk hk, decide_eq_true rfl])
    · exact .next (by rw [hg, hx k a hk (by omega), decide_eq_false e]) (match_nm hg hx hk m (a + 1) (by omega) (by omega) (by omega))
theorem ok_law_kept {f : Addr} {fd : FuncData} (Fu : Fun K "_law_kept" "_law_kept" s_law_kept f fd) (T : Txt K mg) (x_law_keeping : CalX P w K mg base 4 "_law_keeping" (spXd K pre_kp (fun _ _ => False) (R_kp Ck))) (exK : ∀ i j : Nat, i < 6 → j < 6 → PySem.W.exmOne K (.ref (Ck i)) (.ref (Ck j)) = some (decide (i = j))) (xf0 : XfC K (Ck 0)) (xf1 : XfC K (Ck 1)) (xf2 : XfC K (Ck 2)) (xf3 : XfC K (Ck 3)) (xf4 : XfC K (Ck 4)) (xf5 : XfC K (Ck 5)) (nf0 : PySem.W.findIn K (.ref (Ck 0)) "at" = some none) (nf1 : PySem.W.findIn K (.ref (Ck 1)) "given" = some none) (nf2 : PySem.W.findIn K (.ref (Ck 2)) "wanted" = some none) (nf3 : PySem.W.findIn K (.ref (Ck 3)) "many" = some none) (nf4 : PySem.W.findIn K (.ref (Ck 4)) "limit" = some none) (nf5 : PySem.W.findIn K (.ref (Ck 5)) "claim" = some none) (r0 : mg "ParseError" = some (.ref (Ck 0))) (r1 : mg "InvalidNumber" = some (.ref (Ck 1))) (r2 : mg "UnknownName" = some (.ref (Ck 2))) (r3 : mg "NothingToUndo" = some (.ref (Ck 3))) (r4 : mg "TooMany" = some (.ref (Ck 4))) (r5 : mg "Refused" = some (.ref (Ck 5))) : FnOk P w K mg base CX0 7 f fd ["_law_at", "_law_value"] (spS K pre_kp S_kept) := by
  refine fn_pure Fu sc_law_kept (fun ds h => by obtain ⟨k, d, rfl, _⟩ := h; rfl) fun cdv A outer s H E hr => ⟨_, (pss_cons (ps_tryN (i := 2) (l := [⟨Ck 0, "at", 0⟩, ⟨Ck 1, "given", 1⟩, ⟨Ck 2, "wanted", 2⟩, ⟨Ck 3, "many", 3⟩, ⟨Ck 4, "limit", 4⟩, ⟨Ck 5, "claim", 5⟩]) rfl rfl sc_law_kept.nd rfl rfl (fun W pn xe tk => pe_cXt x_law_keeping hr (by decide) tk rfl (pa_cons (pv 0) (pa_cons (pv 1) pa_nil))) (hdsN_cons (l := [⟨Ck 1, "given", 1⟩, ⟨Ck 2, "wanted", 2⟩, ⟨Ck 3, "many", 3⟩, ⟨Ck 4, "limit", 4⟩, ⟨Ck 5, "claim", 5⟩]) xf0 nf0 ⟨rfl, by decide, .inl r0⟩ rfl (.inl rfl) (by decide) (by decide) (hdsN_cons (l := [⟨Ck 2, "wanted", 2⟩, ⟨Ck 3, "many", 3⟩, ⟨Ck 4, "limit", 4⟩, ⟨Ck 5, "claim", 5⟩]) xf1 nf1 ⟨rfl, by decide, .inl r1⟩ rfl (.inl rfl) (by decide) (by decide) (hdsN_cons (l := [⟨Ck 3, "many", 3⟩, ⟨Ck 4, "limit", 4⟩, ⟨Ck 5, "claim", 5⟩]) xf2 nf2 ⟨rfl, by decide, .inl r2⟩ rfl (.inl rfl) (by decide) (by decide) (hdsN_cons (l := [⟨Ck 4, "limit", 4⟩, ⟨Ck 5, "claim", 5⟩]) xf3 nf3 ⟨rfl, by decide, .inl r3⟩ rfl (.inl rfl) (by decide) (by decide) (hdsN_cons (l := [⟨Ck 5, "claim", 5⟩]) xf4 nf4 ⟨rfl, by decide, .inl r4⟩ rfl (.inl rfl) (by decide) (by decide) (hdsN_cons (l := []) xf5 nf5 ⟨rfl, by decide, .inl r5⟩ rfl (.inl rfl) (by decide) (by decide) .nil fun _ _ => pe_int) fun _ _ => pe_int) fun _ _ => pe_int) fun _ _ => pe_int) fun _ _ => pe_int) fun _ _ => pe_int)) (pss_one (ps_ret (pe_tup (pa_cons pe_int (pa_cons pe_non pa_nil)))))), fun F ds hp => ?_⟩
  obtain ⟨k, d, rfl, hk⟩ := hp
  refine sg_seq (fun _ => False) (sg_tryN (c := ⟨Ck k, fK k, k⟩) (d0 := d) (ds := [dN k, d]) (ea_cons (en_var 0 rfl) (ea_cons (en_var 1 rfl) ea_nil)) ⟨k, d, rfl, hk⟩ (fun _ h => h) (fun cls f y ⟨k', d', e, _, ec, ef, ey⟩ => ?_) (by show 2 < 3; omega) (fun k' y e => ?_)) fun _ h => h.elim
  · injection e with e1 e2
    injection e2 with e2 _
    have e1 := dN_inj e1
    subst e1; subst e2; subst ec; subst ef; subst ey
    exact ⟨match_nm (g := fun i : Nat => ⟨Ck i, fK i, i⟩) (fun _ => rfl) exK hk 6 0 (Nat.zero_le _) (by omega) (by omega), rfl, rfl, rfl⟩
  · injection e with e1 e2
    injection e2 with e2 _
    rw [dN_inj e1, e2]
end
end K00

set_option Elab.async false
set_option linter.all false
set_option maxRecDepth 100000
set_option maxHeartbeats 4000000
set_option autoImplicit false
namespace K00
open PySem L2 Tx LamX
def vals (c : Nat) : List D := [.non, dN 0, .bl true, .str "name", .tup [.str "agrees", .str "two"], .lst [dN 1, dN 2], .dic, .int (-5), .int (10 ^ 40), dN c]
theorem vals_ok : ∀ c : Nat, c < 99 → ∀ k : Nat, k < 6 → (vals c).all (fun d => pairOk k d && PyData.strOk (pairTx k d)) = true := by decide +kernel
def wordK (i : Nat) : Str := (["pool", "number", "name", "undo", "many", "refused"] : List Str).getD i ""
abbrev clist (Ck : Nat → Addr) (Cb : Addr) : List (Addr × V) := [(Cb, .str "pool"), (Ck 1, .str "number"), (Ck 2, .str "name"), (Ck 3, .str "undo"), (Ck 4, .str "many"), (Ck 5, .str "refused")]
section
variable {P : Program} {w : World} {K : PySem.W.Frag} {mg : Str → Option Value} {base : Heap} {Cn Ck : Nat → Addr} {Cb Pt cl : Addr}
theorem sc_law_caught : FnScope ["_law_call"] ["_law_call"] (defScope s_law_caught) := ⟨rfl, rfl, rfl, by decide +kernel, rfl, by decide +kernel, by decide +kernel⟩
theorem told_k (exK : ∀ i j : Nat, i < 6 → j < 6 → PySem.W.exmOne K (.ref (Ck i)) (.ref (Ck j)) = some (decide (i = j))) (exB : ∀ i : Nat, i < 6 → PySem.W.exmOne K (.ref (Ck i)) (.ref Cb) = some (decide (i = 0))) {k : Nat} (hk : k < 6) : MatchC K (.ref (Ck k)) (clist Ck Cb) (.str (wordK k)) := by
  by_cases h0 : k = 0
  · subst h0
    exact .here (by rw [exB 0 hk]; rfl)
  · refine .next (by rw [exB k hk, decide_eq_false h0]) ?_
    have h := match_at (g := fun i : Nat => V.str (wordK i)) exK hk 5 1 (by omega) (by omega) (by omega)
    exact h
theorem sc_law : FnScope ["_law_script", "_law_at", "_law_pouch_here", "_law_value", "_law_kind", "_law_told"] ["_law_script"] (defScope s_law) := ⟨rfl, rfl, rfl, by decide +kernel, rfl, by decide +kernel, by decide +kernel⟩
def pre_law (ds : List D) : Prop := ∃ (d : D) (xs : List Int), ds = [d] ∧ (d = .lst (xs.map D.int) ∨ d = .frl (xs.map D.int)) ∧ xs.length ≤ 63
theorem ok_law {f : Addr} {fd : FuncData} (Fu : Fun K "law" "law" s_law f fd) (T : Txt K mg) (hc : fd.code = .ref cl) (TBl : TabB base mg cl Pt) {fM : Addr} {fdM : FuncData} (FM : Fun K "_law_caught" "_law_caught" s_law_caught fM fdM) (m_many : mg "_law_caught" = some (.ref fM)) (eB : mg "PoolError" = some (.ref Cb)) (r1 : mg "InvalidNumber" = some (.ref (Ck 1))) (r2 : mg "UnknownName" = some (.ref (Ck 2))) (r3 : mg "NothingToUndo" = some (.ref (Ck 3))) (r4 : mg "TooMany" = some (.ref (Ck 4))) (r5 : mg "Refused" = some (.ref (Ck 5)))
    (exK : ∀ i j : Nat, i < 6 → j < 6 → PySem.W.exmOne K (.ref (Ck i)) (.ref (Ck j)) = some (decide (i = j))) (exB : ∀ i : Nat, i < 6 → PySem.W.exmOne K (.ref (Ck i)) (.ref Cb) = some (decide (i = 0))) (exC : ∀ i : Nat, i < 10 → PySem.W.exmOne K (.ref (Cn i)) (.ref Cb) = some true)
    (c__law_pouch : C8.Cal P w K mg base 1 "_law_pouch" (spNewL K pre_pouch) []) (c__law_coin : C8.Cal P w K mg base 1 "_law_coin" (spP K pre_coin S_coin) []) (c__law_any : C8.Cal P w K mg base 2 "_law_any" (spP K pre_any S_any) [])
    (c__law_own : C8.Cal P w K mg base 5 "_law_own" (spS K pre_pl S_own) []) (c__law_kept : C8.Cal P w K mg base 7 "_law_kept" (spS K pre_kp S_kept) []) (x_law_plain : CalX P w K mg base 2 "_law_plain" (spX K pre_pl (fun _ _ => False) (R_pl Cn))) (x_law_keeping : CalX P w K mg base 4 "_law_keeping" (spXd K pre_kp (fun _ _ => False) (R_kp Ck))) :
    FnG P w K mg base CX0 15 f fd ["_law_script"] (spT K (lamT Pt) pre_law) := by
  have BM := FM.binds (ps := ["_law_call"]) fun _ _ _ _ _ _ us hl => match us, hl with | [_], _ => rfl
  have FM' := FM
  obtain ⟨oc, od, kV, doc, pm, an, cdvM, ct, osl, rfl, lkM, hcM⟩ := FM'.ex
  refine fn_TG Fu sc_law (fun ds h => by obtain ⟨d, xs, rfl, _⟩ := h; rfl) hc fun A outer s H E hr hg => ⟨_, (pss_cons (ps_if (pt_cmpR (r := rNeD K) (op_neD hr.units) (pe_lc (own := [("_law_at", 1)]) rfl sc_law.nd (pi_range1 rfl T.range (pa_cons pe_int pa_nil)) (blkOk_by (by kernel_rfl)) (fun _ _ _ _ _ => (pg_name (i := 1) sc_law.nd rfl (by first | exact Or.inl rfl | exact Or.inr rfl))) (fun _ _ _ _ _ => pts_nil) (fun _ _ _ _ _ => (C8.pe_c c__law_own hr (by decide) rfl (pa_cons (pv 1) pa_nil)))) (pe_listRg rfl rfl T.list (prg_1 rfl T.range pe_int)) (nomark _)) (pss_one (ps_ret pe_bl)) pss_nil) (pss_cons (ps_for PassesOwn.never rfl (pi_range1 rfl T.range (pa_cons (pe_callB (r := rMaxU K) (cr_maxU rfl hr.units) (by rfl) T.max (by decide +kernel) (pa_cons pe_int (pa_cons (pe_callB (cr_min2 rfl) (by rfl) T.min (by decide +kernel) (pa_cons pe_int (pa_cons (pe_callB (r := rLenS K) cr_len (by rfl) T.len (by decide +kernel) (pa_cons (pv 0) pa_nil)) pa_nil))) pa_nil))) pa_nil)) (pg_name (i := 1) sc_law.nd rfl (by first | exact Or.inl rfl | exact Or.inr rfl)) (pss_cons (ps_set (i := 2) sc_law.nd rfl (by first | exact Or.inl rfl | exact Or.inr rfl) (C8.pe_c c__law_pouch hr (by decide) rfl (pa_cons (pv 0) (pa_cons (pv 1) pa_nil)))) (pss_cons (ps_set (i := 3) sc_law.nd rfl (by first | exact Or.inl rfl | exact Or.inr rfl) (C8.pe_c c__law_any hr (by decide) rfl (pa_cons (pv 2) (pa_cons (pe_lst (pa_cons pe_non (pa_cons pe_int (pa_cons pe_bl (pa_cons pe_str (pa_cons (pe_tup (pa_cons pe_str (pa_cons pe_str pa_nil))) (pa_cons (pe_lst (pa_cons pe_int (pa_cons pe_int pa_nil))) (pa_cons pe_dnewK (pa_cons (pe_un un_neg pe_int) (pa_cons (pe_op op_pow pe_int pe_int) (pa_cons (C8.pe_c c__law_coin hr (by decide) rfl (pa_cons (pv 2) (pa_cons pe_int pa_nil))) pa_nil))))))))))) pa_nil)))) (pss_cons (ps_for PassesOwn.never rfl (pi_range1 rfl T.range (pa_cons pe_int pa_nil)) (pg_name (i := 4) sc_law.nd rfl (by first | exact Or.inl rfl | exact Or.inr rfl)) (pss_one (ps_if (pt_cmpR (r := rNeD K) (op_neD hr.units) (pe_callB (r := rReprP K) (cr_reprP hg hr.units) (by rfl) T.repr (by decide +kernel) (pa_cons (C8.pe_c c__law_kept hr (by decide) rfl (pa_cons (pv 4) (pa_cons (pv 3) pa_nil))) pa_nil)) (pe_callB (r := rReprP K) (cr_reprP hg hr.units) (by rfl) T.repr (by decide +kernel) (pa_cons (pe_tup (pa_cons (pv 4) (pa_cons (pv 3) pa_nil))) pa_nil)) (nomark _)) (pss_one (ps_ret pe_bl)) pss_nil))) (pss_cons (ps_set (i := 5) sc_law.nd rfl (by first | exact Or.inl rfl | exact Or.inr rfl) (pe_lst (pa_cons (pe_lamcall (k := 8) (T := lamT Pt) (TT := TTc K (clist Ck Cb) (.str "none")) rfl m_many FM.kp lkM hcM BM sc_law_caught rfl (.inl rfl) (caught_gives fun s H => (.cons ⟨rfl, by decide, .inl eB⟩ (fun _ _ _ _ _ _ _ => pss_one (ps_ret pe_str)) (.cons ⟨rfl, by decide, .inl r1⟩ (fun _ _ _ _ _ _ _ => pss_one (ps_ret pe_str)) (.cons ⟨rfl, by decide, .inl r2⟩ (fun _ _ _ _ _ _ _ => pss_one (ps_ret pe_str)) (.cons ⟨rfl, by decide, .inl r3⟩ (fun _ _ _ _ _ _ _ => pss_one (ps_ret pe_str)) (.cons ⟨rfl, by decide, .inl r4⟩ (fun _ _ _ _ _ _ _ => pss_one (ps_ret pe_str)) (.cons ⟨rfl, by decide, .inl r5⟩ (fun _ _ _ _ _ _ _ => pss_one (ps_ret pe_str)) .nil))))))) TBl rfl (.head _) (fun p hp _ => by rw [List.mem_singleton.mp hp]; rfl) (hr.mono (by decide)) (lamS_by rfl) rfl (fun _ _ _ _ _ => rfl) fun A outer s H E f c' hr => (pe_cXt x_law_keeping hr (by decide) (takes_of rfl rfl rfl rfl) rfl (pa_cons pe_int (pa_cons (pv 3) pa_nil)))) pa_nil))) (pss_cons (ps_expr (pe_bm PySem.F.plainAttrs_list PySem.F.slot_list_append PySem.F.type_list_append mt_append (pv 5) (pa_cons (pe_lamcall (k := 8) (T := lamT Pt) (TT := TTc K (clist Ck Cb) (.str "none")) rfl m_many FM.kp lkM hcM BM sc_law_caught rfl (.inl rfl) (caught_gives fun s H => (.cons ⟨rfl, by decide, .inl eB⟩ (fun _ _ _ _ _ _ _ => pss_one (ps_ret pe_str)) (.cons ⟨rfl, by decide, .inl r1⟩ (fun _ _ _ _ _ _ _ => pss_one (ps_ret pe_str)) (.cons ⟨rfl, by decide, .inl r2⟩ (fun _ _ _ _ _ _ _ => pss_one (ps_ret pe_str)) (.cons ⟨rfl, by decide, .inl r3⟩ (fun _ _ _ _ _ _ _ => pss_one (ps_ret pe_str)) (.cons ⟨rfl, by decide, .inl r4⟩ (fun _ _ _ _ _ _ _ => pss_one (ps_ret pe_str)) (.cons ⟨rfl, by decide, .inl r5⟩ (fun _ _ _ _ _ _ _ => pss_one (ps_ret pe_str)) .nil))))))) TBl rfl (.head _) (fun p hp _ => by rw [List.mem_singleton.mp hp]; rfl) (hr.mono (by decide)) (lamS_by rfl) rfl (fun _ _ _ _ _ => rfl) fun A outer s H E f c' hr => (pe_cXt x_law_keeping hr (by decide) (takes_of rfl rfl rfl rfl) rfl (pa_cons pe_int (pa_cons (pv 3) pa_nil)))) pa_nil))) (pss_cons (ps_expr (pe_bm PySem.F.plainAttrs_list PySem.F.slot_list_append PySem.F.type_list_append mt_append (pv 5) (pa_cons (pe_lamcall (k := 8) (T := lamT Pt) (TT := TTc K (clist Ck Cb) (.str "none")) rfl m_many FM.kp lkM hcM BM sc_law_caught rfl (.inl rfl) (caught_gives fun s H => (.cons ⟨rfl, by decide, .inl eB⟩ (fun _ _ _ _ _ _ _ => pss_one (ps_ret pe_str)) (.cons ⟨rfl, by decide, .inl r1⟩ (fun _ _ _ _ _ _ _ => pss_one (ps_ret pe_str)) (.cons ⟨rfl, by decide, .inl r2⟩ (fun _ _ _ _ _ _ _ => pss_one (ps_ret pe_str)) (.cons ⟨rfl, by decide, .inl r3⟩ (fun _ _ _ _ _ _ _ => pss_one (ps_ret pe_str)) (.cons ⟨rfl, by decide, .inl r4⟩ (fun _ _ _ _ _ _ _ => pss_one (ps_ret pe_str)) (.cons ⟨rfl, by decide, .inl r5⟩ (fun _ _ _ _ _ _ _ => pss_one (ps_ret pe_str)) .nil))))))) TBl rfl (.head _) (fun p hp _ => by rw [List.mem_singleton.mp hp]; rfl) (hr.mono (by decide)) (lamS_by rfl) rfl (fun _ _ _ _ _ => rfl) fun A outer s H E f c' hr => (pe_cXt x_law_keeping hr (by decide) (takes_of rfl rfl rfl rfl) rfl (pa_cons pe_int (pa_cons (pv 3) pa_nil)))) pa_nil))) (pss_cons (ps_expr (pe_bm PySem.F.plainAttrs_list PySem.F.slot_list_append PySem.F.type_list_append mt_append (pv 5) (pa_cons (pe_lamcall (k := 8) (T := lamT Pt) (TT := TTc K (clist Ck Cb) (.str "none")) rfl m_many FM.kp lkM hcM BM sc_law_caught rfl (.inl rfl) (caught_gives fun s H => (.cons ⟨rfl, by decide, .inl eB⟩ (fun _ _ _ _ _ _ _ => pss_one (ps_ret pe_str)) (.cons ⟨rfl, by decide, .inl r1⟩ (fun _ _ _ _ _ _ _ => pss_one (ps_ret pe_str)) (.cons ⟨rfl, by decide, .inl r2⟩ (fun _ _ _ _ _ _ _ => pss_one (ps_ret pe_str)) (.cons ⟨rfl, by decide, .inl r3⟩ (fun _ _ _ _ _ _ _ => pss_one (ps_ret pe_str)) (.cons ⟨rfl, by decide, .inl r4⟩ (fun _ _ _ _ _ _ _ => pss_one (ps_ret pe_str)) (.cons ⟨rfl, by decide, .inl r5⟩ (fun _ _ _ _ _ _ _ => pss_one (ps_ret pe_str)) .nil))))))) TBl rfl (.head _) (fun p hp _ => by rw [List.mem_singleton.mp hp]; rfl) (hr.mono (by decide)) (lamS_by rfl) rfl (fun _ _ _ _ _ => rfl) fun A outer s H E f c' hr => (pe_cXt x_law_keeping hr (by decide) (takes_of rfl rfl rfl rfl) rfl (pa_cons pe_int (pa_cons (pv 3) pa_nil)))) pa_nil))) (pss_cons (ps_expr (pe_bm PySem.F.plainAttrs_list PySem.F.slot_list_append PySem.F.type_list_append mt_append (pv 5) (pa_cons (pe_lamcall (k := 8) (T := lamT Pt) (TT := TTc K (clist Ck Cb) (.str "none")) rfl m_many FM.kp lkM hcM BM sc_law_caught rfl (.inl rfl) (caught_gives fun s H => (.cons ⟨rfl, by decide, .inl eB⟩ (fun _ _ _ _ _ _ _ => pss_one (ps_ret pe_str)) (.cons ⟨rfl, by decide, .inl r1⟩ (fun _ _ _ _ _ _ _ => pss_one (ps_ret pe_str)) (.cons ⟨rfl, by decide, .inl r2⟩ (fun _ _ _ _ _ _ _ => pss_one (ps_ret pe_str)) (.cons ⟨rfl, by decide, .inl r3⟩ (fun _ _ _ _ _ _ _ => pss_one (ps_ret pe_str)) (.cons ⟨rfl, by decide, .inl r4⟩ (fun _ _ _ _ _ _ _ => pss_one (ps_ret pe_str)) (.cons ⟨rfl, by decide, .inl r5⟩ (fun _ _ _ _ _ _ _ => pss_one (ps_ret pe_str)) .nil))))))) TBl rfl (.head _) (fun p hp _ => by rw [List.mem_singleton.mp hp]; rfl) (hr.mono (by decide)) (lamS_by rfl) rfl (fun _ _ _ _ _ => rfl) fun A outer s H E f c' hr => (pe_cXt x_law_keeping hr (by decide) (takes_of rfl rfl rfl rfl) rfl (pa_cons pe_int (pa_cons (pv 3) pa_nil)))) pa_nil))) (pss_cons (ps_expr (pe_bm PySem.F.plainAttrs_list PySem.F.slot_list_append PySem.F.type_list_append mt_append (pv 5) (pa_cons (pe_lamcall (k := 8) (T := lamT Pt) (TT := TTc K (clist Ck Cb) (.str "none")) rfl m_many FM.kp lkM hcM BM sc_law_caught rfl (.inl rfl) (caught_gives fun s H => (.cons ⟨rfl, by decide, .inl eB⟩ (fun _ _ _ _ _ _ _ => pss_one (ps_ret pe_str)) (.cons ⟨rfl, by decide, .inl r1⟩ (fun _ _ _ _ _ _ _ => pss_one (ps_ret pe_str)) (.cons ⟨rfl, by decide, .inl r2⟩ (fun _ _ _ _ _ _ _ => pss_one (ps_ret pe_str)) (.cons ⟨rfl, by decide, .inl r3⟩ (fun _ _ _ _ _ _ _ => pss_one (ps_ret pe_str)) (.cons ⟨rfl, by decide, .inl r4⟩ (fun _ _ _ _ _ _ _ => pss_one (ps_ret pe_str)) (.cons ⟨rfl, by decide, .inl r5⟩ (fun _ _ _ _ _ _ _ => pss_one (ps_ret pe_str)) .nil))))))) TBl rfl (.head _) (fun p hp _ => by rw [List.mem_singleton.mp hp]; rfl) (hr.mono (by decide)) (lamS_by rfl) rfl (fun _ _ _ _ _ => rfl) fun A outer s H E f c' hr => (pe_cXt x_law_keeping hr (by decide) (takes_of rfl rfl rfl rfl) rfl (pa_cons pe_int (pa_cons (pv 3) pa_nil)))) pa_nil))) (pss_cons (ps_expr (pe_bm PySem.F.plainAttrs_list PySem.F.slot_list_append PySem.F.type_list_append mt_append (pv 5) (pa_cons (pe_lamcall (k := 8) (T := lamT Pt) (TT := TTc K (clist Ck Cb) (.str "none")) rfl m_many FM.kp lkM hcM BM sc_law_caught rfl (.inl rfl) (caught_gives fun s H => (.cons ⟨rfl, by decide, .inl eB⟩ (fun _ _ _ _ _ _ _ => pss_one (ps_ret pe_str)) (.cons ⟨rfl, by decide, .inl r1⟩ (fun _ _ _ _ _ _ _ => pss_one (ps_ret pe_str)) (.cons ⟨rfl, by decide, .inl r2⟩ (fun _ _ _ _ _ _ _ => pss_one (ps_ret pe_str)) (.cons ⟨rfl, by decide, .inl r3⟩ (fun _ _ _ _ _ _ _ => pss_one (ps_ret pe_str)) (.cons ⟨rfl, by decide, .inl r4⟩ (fun _ _ _ _ _ _ _ => pss_one (ps_ret pe_str)) (.cons ⟨rfl, by decide, .inl r5⟩ (fun _ _ _ _ _ _ _ => pss_one (ps_ret pe_str)) .nil))))))) TBl rfl (.head _) (fun p hp _ => by rw [List.mem_singleton.mp hp]; rfl) (hr.mono (by decide)) (lamS_by rfl) rfl (fun _ _ _ _ _ => rfl) fun A outer s H E f c' hr => (pe_cXt x_law_plain hr (by decide) (takes_of rfl rfl rfl rfl) rfl (pa_cons (C8.pe_c c__law_coin hr (by decide) rfl (pa_cons (pv 2) (pa_cons pe_int pa_nil))) pa_nil))) pa_nil))) (pss_one (ps_if (pt_cmpR (r := rNeD K) (op_neD hr.units) (pv 5) (pe_lst (pa_cons pe_str (pa_cons pe_str (pa_cons pe_str (pa_cons pe_str (pa_cons pe_str (pa_cons pe_str (pa_cons pe_str pa_nil)))))))) (nomark _)) (pss_one (ps_ret pe_bl)) pss_nil))))))))))))) (pss_one (ps_ret pe_bl)))), fun F ds hp => st_sgt ?_⟩
  obtain ⟨d0, xs, rfl, hd0, hx⟩ := hp
  let Γs : Option D → Option D → Option D → Option D → Option D → G := fun x1 x2 x3 x4 x5 => [some d0, x1, x2, x3, x4, x5]
  refine sgt_seq (fun Γ' => Γ' = Γs none none none none none) (sgt_sg .tb (sg_if (b := false) (et_test (en_op1 (a := .lst ((List.range 10).map dN)) (b := .lst ((List.range 10).map dN)) (Ev1.is (en_lcA (js := [1]) (xs := (List.range 10).map dN) (fun d => d) (by simp) (it_rng (n := 10) (ea_cons (en_int 10) ea_nil) (by omega)) (by simp) fun m' l d hd => ?_) (by rw [List.map_id'])) (en_rangeL (en_int 10) (by decide)) (o_neS (n := 1) (by decide) (by decide)))) (fun e => nomatch e) fun _ => sg_next rfl)) ?_
  · obtain ⟨k, hk, rfl⟩ := List.mem_map.mp hd
    exact ⟨_, tg_name 1, en_call (ds := [dN k]) (ea_cons (en_var 1 rfl) ea_nil) ⟨k, rfl, List.mem_range.mp hk⟩ fun d h => h k rfl⟩
  rintro _ rfl
  have hN : ∃ n : Nat, n ≤ 4 ∧ (if (if ((xs.map D.int).length : Int) < 4 then ((xs.map D.int).length : Int) else 4) > 1 then (if ((xs.map D.int).length : Int) < 4 then ((xs.map D.int).length : Int) else 4) else 1) = (n : Int) := by
    generalize (xs.map D.int).length = k
    by_cases h1 : (k : Int) < 4
    · rw [if_pos h1]
      by_cases h2 : (k : Int) > 1
      · exact ⟨k, by omega, by rw [if_pos h2]⟩
      · exact ⟨1, by omega, by rw [if_neg h2]; rfl⟩
    · rw [if_neg h1]
      exact ⟨4, by omega, by rfl⟩
  obtain ⟨n, n4, en⟩ := hN
  refine sgt_seq (fun Γ' => ∃ x1 x2 x3 x4 x5 : Option D, Γ' = Γs x1 x2 x3 x4 x5) (sgt_for .tb (n := n) (ea_cons (Ev1.is (en_cb1 (ea_cons (en_int 1) (ea_cons (en_cb1 (ea_cons (en_int 4) (ea_cons (en_cb1 (ea_cons (en_var 0 rfl) ea_nil) (c_len (.inr hd0))) ea_nil)) c_min2) ea_nil)) c_max2) (by rw [en])) ea_nil) (by omega) (fun _ Γ' => ∃ x1 x2 x3 x4 x5 : Option D, Γ' = Γs x1 x2 x3 x4 x5) ⟨_, _, _, _, _, rfl⟩ ?_ fun Γ' h => h) fun Γ' ⟨x1, x2, x3, x4, x5, e⟩ => sgt_sg .tb (sg_ret (d := .bl true) (en_bl true) rfl)
  rintro j _ hj ⟨x1, x2, x3, x4, x5, rfl⟩
  refine sgt_pouch (en_newcallL (pre := pre_pouch) (xs := xs) (d := d0) (i := j) (ea_cons (en_var 0 rfl) (ea_cons (en_var 1 rfl) ea_nil)) hd0 ⟨j, rfl, by omega⟩) fun p => ?_
  have HP := HasP.self p F
  have cs : ∀ {m' : Mo} {Γ : G} {te : TE} {tr : TA} {d : D} {U : List D → Prop}, Ev1 m' K te Γ d → EvA m' K tr Γ U → EvA m' K (tCons te tr) Γ fun ds => ∃ r, U r ∧ ds = d :: r := fun {m' Γ te tr d U} h1 h2 => ea_consN (S := fun x => x = d) (T := U) h1 h2 fun _ ds e t => ⟨ds, t, by rw [e]⟩
  have coin : ∀ {m' : Mo} {Γ : G} {E : XK} {k : Nat}, HasP m' p → Γ[2]? = some (some (.adr p)) → 0 < k → k < 1000 → EvN m' K (tCall (spP K pre_coin S_coin) [] E (tCons (tVar 2) (tCons (tC (.int k)) tNil))) Γ fun d => ∃ c : Nat, d = dN c ∧ c < k := fun {m' Γ E k} h e2 k0 k1 => (en_pcall1 h (ds := [.int k]) (ea_cons (en_var 2 e2) (ea_cons (en_int k) ea_nil)) ⟨k, rfl, by omega, by omega⟩ fun d hd => hd k rfl).mono fun d ⟨a, e, a0, a1⟩ => ⟨a.toNat, by rw [e]; show D.int a = D.int _; rw [Int.toNat_of_nonneg a0], by omega⟩
  refine sgt_seq (fun Γ' => ∃ (c : Nat) (d : D), c < 99 ∧ d ∈ vals c ∧ Γ' = Γs (some (dN j)) (some (.adr p)) (some d) x4 x5) (sgt_sg .tp (sg_asgN (S := fun d => ∃ c : Nat, c < 99 ∧ d ∈ vals c) (en_pcall HP (T := fun ds => ∃ c : Nat, c < 99 ∧ ds = [.adr p, .lst (vals c)]) (ea_consN (S := fun d => d = .adr p) (T := fun ds => ∃ c : Nat, c < 99 ∧ ds = [.lst (vals c)]) (en_var 2 rfl) (ea_consN (S := fun d => ∃ c : Nat, c < 99 ∧ d = .lst (vals c)) (T := fun ds => ds = []) ((en_lstN (cs en_non (cs (en_int 0) (cs (en_bl true) (cs (en_str "name") (cs (en_tup (ea_cons (en_str "agrees") (ea_cons (en_str "two") ea_nil)) (by simp)) (cs (en_lst (ea_cons (en_int 1) (ea_cons (en_int 2) ea_nil)) (by simp)) (cs en_dic (cs (en_neg (i := 5) (en_int 5)) (cs (en_op1 (en_int 10) (en_int 40) (o_intC (g := fun i j => i ^ j.toNat) (by unfold CPow; decide))) (ea_consN (S := fun d => ∃ c : Nat, d = dN c ∧ c < 99) (T := fun ds => ds = []) (U := fun ds => ∃ c : Nat, c < 99 ∧ ds = [dN c]) (coin (k := 99) HP rfl (by decide) (by decide)) ea_nil fun d ds ⟨c, e, hc⟩ e2 => ⟨c, hc, by rw [e, e2]⟩)))))))))) ?_).mono ?_) ea_nil fun d ds ⟨c, hc, e⟩ e2 => ⟨c, hc, by rw [e, e2]⟩) fun d ds e ⟨c, hc, e2⟩ => ⟨c, hc, by rw [e, e2]⟩) fun ds ⟨c, hc, e⟩ => ⟨[.lst (vals c)], e, ⟨_, _, rfl, .inr (.inl rfl), show 0 < 10 by decide, show 10 < 1000 by decide⟩, fun d hd => ⟨c, hc, hd _ _ rfl (.inr (.inl rfl))⟩⟩) fun d ⟨c, hc, hv⟩ => ⟨c, d, hc, hv, rfl⟩)) ?_
  · rintro _ ⟨r1, ⟨r2, ⟨r3, ⟨r4, ⟨r5, ⟨r6, ⟨r7, ⟨r8, ⟨r9, ⟨c, hc, rfl⟩, rfl⟩, rfl⟩, rfl⟩, rfl⟩, rfl⟩, rfl⟩, rfl⟩, rfl⟩, rfl⟩
    simp
  · rintro d ⟨ds, e, r1, ⟨r2, ⟨r3, ⟨r4, ⟨r5, ⟨r6, ⟨r7, ⟨r8, ⟨r9, ⟨c, hc, rfl⟩, rfl⟩, rfl⟩, rfl⟩, rfl⟩, rfl⟩, rfl⟩, rfl⟩, rfl⟩, rfl⟩
    exact ⟨c, hc, e⟩
  rintro _ ⟨c, d, hc99, hv, rfl⟩
  have pok : ∀ {k : Nat}, k < 6 → pairOk k d = true ∧ PyData.strOk (pairTx k d) = true := fun {k} hk => Bool.and_eq_true_iff.mp (List.all_eq_true.mp (vals_ok c hc99 k hk) d hv)
  refine sgt_seq (fun Γ' => ∃ x4 : Option D, Γ' = Γs (some (dN j)) (some (.adr p)) (some d) x4 x5) (sgt_sg .tp (sg_for (js := [4]) (T := fun x => x = (List.range 6).map dN) (it_rng (n := 6) (ea_cons (en_int 6) ea_nil) (by omega)) (fun _ _ Γ' => ∃ x4 : Option D, Γ' = Γs (some (dN j)) (some (.adr p)) (some d) x4 x5) (fun _ _ => ⟨x4, rfl⟩) ?_ fun _ Γ' _ w => w)) ?_
  · rintro ys i e Γ' rfl he ⟨x4, rfl⟩
    have hi := (List.getElem?_eq_some_iff.mp he).1
    rw [List.length_map, List.length_range] at hi
    rw [List.getElem?_map, List.getElem?_range hi] at he
    injection he with he
    subst he
    exact ⟨_, tg_name 4, sg_if (b := false) (et_test (en_op1 (a := .str (pairTx i d)) (b := .str (pairTx i d)) (en_cb1 (ea_cons (en_call (ds := [dN i, d]) (ea_cons (en_var 4 rfl) (ea_cons (en_var 3 rfl) ea_nil)) ⟨i, d, rfl, hi⟩ fun y h => h i d rfl) ea_nil) (c_reprP (pok hi).1)) (en_cb1 (ea_cons (en_tup (ea_cons (en_var 4 rfl) (ea_cons (en_var 3 rfl) ea_nil)) (by simp)) ea_nil) (c_reprP (k := (i : Int)) (pok hi).1)) (o_neS (n := 0) (by decide) (pok hi).2))) (fun e => nomatch e) fun _ => sg_next ⟨_, rfl⟩⟩
  rintro _ ⟨x4, rfl⟩
  have raise : ∀ {m' : Mo} {H1 : Hp} {Γ : G} {E : XK} {k : Nat}, k < 6 → Γ[3]? = some (some d) → (∀ cls dd H', MatchC K cls (clist Ck Cb) (.str (wordK k)) → m'.R H1 H' → E cls dd H') → EvN (sinceMo m' H1) K (tCallS (spXd K pre_kp (fun _ _ => False) (R_kp Ck)) (WE fun cls d _ H => E cls d H) (tCons (tC (.int (k : Nat))) (tCons (tVar 3) tNil))) Γ fun _ => False := fun {m' H1 Γ E k} hk e3 hE => en_raiseD (m := m') (ds := [dN k, d]) (ea_cons (en_int (k : Nat)) (ea_cons (en_var 3 e3) ea_nil)) ⟨k, d, rfl, hk⟩ (fun _ h => h) fun cls f y dx H' ⟨k', d', e, _, ec, _, _⟩ r => hE cls _ H' (by
      rw [ec, ← dN_inj (List.cons.inj e).1]
      exact told_k exK exB hk) r
  refine sgt_lamL LamMo.tp (z := wordK 0) (fun H1 E hE => raise (k := 0) (by decide) rfl hE) fun l => ?_
  show STw _ K l [wordK 0] _ (Γs (some (dN j)) (some (.adr p)) (some d) x4 (some (.adr l))) _
  refine stw_lamA LamMo.tp (i := 5) (z := wordK 1) rfl (fun H1 E hE => raise (k := 1) (by decide) rfl hE) (by decide) ?_
  refine stw_lamA LamMo.tp (i := 5) (z := wordK 2) rfl (fun H1 E hE => raise (k := 2) (by decide) rfl hE) (by decide) ?_
  refine stw_lamA LamMo.tp (i := 5) (z := wordK 3) rfl (fun H1 E hE => raise (k := 3) (by decide) rfl hE) (by decide) ?_
  refine stw_lamA LamMo.tp (i := 5) (z := wordK 4) rfl (fun H1 E hE => raise (k := 4) (by decide) rfl hE) (by decide) ?_
  refine stw_lamA LamMo.tp (i := 5) (z := wordK 5) rfl (fun H1 E hE => raise (k := 5) (by decide) rfl hE) (by decide) ?_
  refine stw_lamA LamMo.tp (i := 5) (z := "pool") rfl (fun H1 E hE => en_raiseC (m := (tpMo (lamT Pt) p F).ext l) (T := fun ds => ∃ k : Nat, ds = [dN k] ∧ k < 10) (ea_consN (S := fun d => ∃ k : Nat, d = dN k ∧ k < 10) (T := fun ds => ds = []) (coin (k := 10) (HasP.since (HasP.tp.le (Mo.le_ext _ l))) rfl (by decide) (by decide)) ea_nil fun d ds ⟨k, e, h⟩ e2 => ⟨k, by rw [e, e2], h⟩) (fun ds ⟨k, e, h⟩ => ⟨k, e, h⟩) (fun _ _ _ h => h) fun ds cls H' _ ⟨k, _, hk, ec⟩ r => hE cls none H' (by rw [ec]; exact .here (exC k hk)) r) (by decide) ?_
  refine stw_dis (i := 5) rfl (sgt_sg .tp ?_)
  exact sg_if (b := false) (et_test (en_op1 (a := .lst ([wordK 0, wordK 1, wordK 2, wordK 3, wordK 4, wordK 5, "pool"].map D.str)) (b := .lst ([wordK 0, wordK 1, wordK 2, wordK 3, wordK 4, wordK 5, "pool"].map D.str)) (en_var 5 rfl) (en_lst (ea_cons (en_str "pool") (ea_cons (en_str "number") (ea_cons (en_str "name") (ea_cons (en_str "undo") (ea_cons (en_str "many") (ea_cons (en_str "refused") (ea_cons (en_str "pool") ea_nil))))))) (by decide)) (o_neS (n := 1) (by decide) (by decide +kernel)))) (fun e => nomatch e) fun _ => sg_next ⟨_, _, _, _, _, rfl⟩
theorem law_sp {H : Hp} {a : Addr} {ns : List Int} (hl : ns.length ≤ 63) (hH : H Pt = some (.tbl #[])) (hS : SqL K H a (ns.map V.int)) : spT K (lamT Pt) pre_law [.ref a] H (fun v _ => v = .bl true) fun _ _ _ => False := by
  have allI : RpAll K (fun _ => False) H (ns.map V.int) (ns.map D.int) := RpAll.map (fun x => .int x) ns
  have tabs : Tabs (lamT Pt) H := fun p hp => by
    rw [List.mem_singleton.mp hp]
    exact TabS.nil hH
  rcases hS with (h | ⟨o, h⟩) | h
  · exact ⟨fun _ => False, [.lst (ns.map D.int)], fun a f => f.elim, tabs, .cons (.lst (fun z => z) h allI) .nil, ⟨_, ns, rfl, .inl rfl, hl⟩, fun _ => rfl⟩
  · exact ⟨fun _ => False, [.frl (ns.map D.int)], fun a f => f.elim, tabs, .cons (.frl (fun z => z) h allI) .nil, ⟨_, ns, rfl, .inr rfl, hl⟩, fun _ => rfl⟩
  · exact ⟨fun _ => False, [.frl (ns.map D.int)], fun a f => f.elim, tabs, .cons (.kfrl h allI) .nil, ⟨_, ns, rfl, .inr rfl, hl⟩, fun _ => rfl⟩
end
end K00

set_option Elab.async false
set_option linter.all false
set_option maxRecDepth 100000
set_option maxHeartbeats 4000000
set_option autoImplicit false
namespace K00
open PySem PySem.Spec PyProof.Rows L2 Tx LamX
abbrev bmVal : List Value := [.type "ValueError", .type "Exception", .type "BaseException", .type "object"]
abbrev bmLook : List Value := [.type "LookupError", .type "Exception", .type "BaseException", .type "object"]
abbrev bmArith : List Value := [.type "ArithmeticError", .type "Exception", .type "BaseException", .type "object"]
theorem stores_Val : StoreFacts "ValueError" bmVal "object.__setattr__" "object" :=
  stores_of PySem.F.excBase_ValueError.mroIs (.of (owner := "object") (n := "__setattr__") (by rw [typeLookup_type, builtinLookup_eq_fast]; kernel_rfl) (by decide +kernel) (by decide +kernel) (by decide +kernel)
    (by first | exact .inl (by decide +kernel) | exact .inr (by decide +kernel)) (by rw [isSubtype_type]; kernel_rfl)) (by decide +kernel) fun self => by kernel_rfl
theorem stores_Look : StoreFacts "LookupError" bmLook "object.__setattr__" "object" :=
  stores_of PySem.F.excBase_LookupError.mroIs (.of (owner := "object") (n := "__setattr__") (by rw [typeLookup_type, builtinLookup_eq_fast]; kernel_rfl) (by decide +kernel) (by decide +kernel) (by decide +kernel)
    (by first | exact .inl (by decide +kernel) | exact .inr (by decide +kernel)) (by rw [isSubtype_type]; kernel_rfl)) (by decide +kernel) fun self => by kernel_rfl
theorem stores_Arith : StoreFacts "ArithmeticError" bmArith "object.__setattr__" "object" :=
  stores_of PySem.F.excBase_ArithmeticError.mroIs (.of (owner := "object") (n := "__setattr__") (by rw [typeLookup_type, builtinLookup_eq_fast]; kernel_rfl) (by decide +kernel) (by decide +kernel) (by decide +kernel)
    (by first | exact .inl (by decide +kernel) | exact .inr (by decide +kernel)) (by rw [isSubtype_type]; kernel_rfl)) (by decide +kernel) fun self => by kernel_rfl
def pick (l : List Addr) (i : Nat) : Addr := l.getD i 0
def exAll (K : PySem.W.Frag) (n m : Nat) (f g : Nat → Addr) (b : Nat → Nat → Bool) : Bool := (List.range n).all fun i => (List.range m).all fun j => decide (PySem.W.exmOne K (.ref (f i)) (.ref (g j)) = some (b i j))
theorem exAll_at {K : PySem.W.Frag} {n m : Nat} {f g : Nat → Addr} {b : Nat → Nat → Bool} (h : exAll K n m f g b = true) (i j : Nat) (hi : i < n) (hj : j < m) : PySem.W.exmOne K (.ref (f i)) (.ref (g j)) = some (b i j) :=
  of_decide_eq_true (List.all_eq_true.mp (List.all_eq_true.mp h i (List.mem_range.mpr hi)) j (List.mem_range.mpr hj))
theorem funD0_mk {K : PySem.W.Frag} {x qual : Str} {st : Stmt} {f : Addr} {oc : Value} {od an : Option Addr} {osl : Array (Option Value)} {kV doc pm cdv ct : Value} (l : K.lookup f = some ⟨oc, od, .func (PySem.W.fnOf x qual (defArgs st) (defBody st) (defScope st) .none kV doc pm an cdv ct), osl⟩)
    (c : PySem.W.codeIn K cdv qual = true) (k : PySem.W.keepIn K (.ref f) = true) : FunD K x qual (defArgs st) (defBody st) (defScope st) [] [] f (PySem.W.fnOf x qual (defArgs st) (defBody st) (defScope st) .none kV doc pm an cdv ct) :=
  ⟨⟨oc, od, .none, kV, doc, pm, an, cdv, ct, osl, rfl, l, c, .inl ⟨rfl, rfl⟩, .inl rfl⟩, k⟩
theorem all_mk {l : PySem.W.OpenLaw} {w : World} {K : PySem.W.Frag} {h : Heap} {mg : Str → Option Value} {fa : Addr} {Cb cl Pt c0 c1 c2 c3 c4 c5 c6 c7 c8 c9 k0 k1 k2 k3 k4 k5 : Addr} {fA_ParseError_init : Addr} {fd_ParseError_init : FuncData} {fA_InvalidNumber_init : Addr} {fd_InvalidNumber_init : FuncData} {fA_UnknownName_init : Addr} {fd_UnknownName_init : FuncData} {fA_NothingToUndo_init : Addr} {fd_NothingToUndo_init : FuncData} {fA_TooMany_init : Addr} {fd_TooMany_init : FuncData} {fA_Refused_init : Addr} {fd_Refused_init : FuncData} {fA_law_pouch : Addr} {fd_law_pouch : FuncData} {fA_law_coin : Addr} {fd_law_coin : FuncData} {fA_law_any : Addr} {fd_law_any : FuncData} {fA_law_plain : Addr} {fd_law_plain : FuncData} {fA_law_own : Addr} {fd_law_own : FuncData} {fA_law_keeping : Addr} {fd_law_keeping : FuncData} {fA_law_kept : Addr} {fd_law_kept : FuncData} {fA_law_caught : Addr} {fd_law_caught : FuncData} {fA_law : Addr} {fd_law : FuncData} (X : K.In h) (G : h.Ns mainGlobals mg) (hfa : mg "law" = some (.ref fa))
    (aCb : PySem.W.nsIn K mainGlobals "PoolError" = some (some (.ref Cb)))
    (gaCb : PySem.W.specialIn K (.ref Cb) "__getattribute__" = some (some (.builtin "type.__getattribute__")))
    (rdCb : PySem.W.readsIn K Cb (.type "type") = true)
    (vVCb : PySem.W.findCls K (.ref Cb) (.type "type") "__init__" = some (.val (.builtin "ValueError.__init__")))
    (z_int : PySem.W.nsIn K mainGlobals "int" = some none)
    (z_list : PySem.W.nsIn K mainGlobals "list" = some none)
    (z_len : PySem.W.nsIn K mainGlobals "len" = some none)
    (z_range : PySem.W.nsIn K mainGlobals "range" = some none)
    (z_max : PySem.W.nsIn K mainGlobals "max" = some none)
    (z_min : PySem.W.nsIn K mainGlobals "min" = some none)
    (z_abs : PySem.W.nsIn K mainGlobals "abs" = some none)
    (z_repr : PySem.W.nsIn K mainGlobals "repr" = some none)
    (z_IndexError : PySem.W.nsIn K mainGlobals "IndexError" = some none)
    (z_KeyError : PySem.W.nsIn K mainGlobals "KeyError" = some none)
    (z_LookupError : PySem.W.nsIn K mainGlobals "LookupError" = some none)
    (z_OverflowError : PySem.W.nsIn K mainGlobals "OverflowError" = some none)
    (z_ArithmeticError : PySem.W.nsIn K mainGlobals "ArithmeticError" = some none)
    (vV_IndexError : PySem.W.findCls K (.type "IndexError") (.type "type") "__init__" = some (.val (.builtin "IndexError.__init__")))
    (vV_KeyError : PySem.W.findCls K (.type "KeyError") (.type "type") "__init__" = some (.val (.builtin "KeyError.__init__")))
    (vV_LookupError : PySem.W.findCls K (.type "LookupError") (.type "type") "__init__" = some (.val (.builtin "LookupError.__init__")))
    (vV_OverflowError : PySem.W.findCls K (.type "OverflowError") (.type "type") "__init__" = some (.val (.builtin "OverflowError.__init__")))
    (vV_ArithmeticError : PySem.W.findCls K (.type "ArithmeticError") (.type "type") "__init__" = some (.val (.builtin "ArithmeticError.__init__")))
    (a_c0 : PySem.W.nsIn K mainGlobals "InvalidWeb" = some (some (.ref c0)))
    (p_c0 : PySem.W.keepIn K (.ref c0) = true)
    (x_c0 : PySem.W.excIn K c0 bmVal "ValueError.__new__" = true)
    (b_c0 : PySem.W.subIn K (.ref c0) (.type "BaseException") = some true)
    (t_c0 : PySem.W.typeIn K (.ref c0) = some (.type "type"))
    (a_c1 : PySem.W.nsIn K mainGlobals "InvalidPool" = some (some (.ref c1)))
    (p_c1 : PySem.W.keepIn K (.ref c1) = true)
    (x_c1 : PySem.W.excIn K c1 bmVal "ValueError.__new__" = true)
    (b_c1 : PySem.W.subIn K (.ref c1) (.type "BaseException") = some true)
    (t_c1 : PySem.W.typeIn K (.ref c1) = some (.type "type"))
    (a_c2 : PySem.W.nsIn K mainGlobals "InvalidWord" = some (some (.ref c2)))
    (p_c2 : PySem.W.keepIn K (.ref c2) = true)
    (x_c2 : PySem.W.excIn K c2 bmVal "ValueError.__new__" = true)
    (b_c2 : PySem.W.subIn K (.ref c2) (.type "BaseException") = some true)
    (t_c2 : PySem.W.typeIn K (.ref c2) = some (.type "type"))
    (a_c3 : PySem.W.nsIn K mainGlobals "InvalidRow" = some (some (.ref c3)))
    (p_c3 : PySem.W.keepIn K (.ref c3) = true)
    (x_c3 : PySem.W.excIn K c3 bmVal "ValueError.__new__" = true)
    (b_c3 : PySem.W.subIn K (.ref c3) (.type "BaseException") = some true)
    (t_c3 : PySem.W.typeIn K (.ref c3) = some (.type "type"))
    (a_c4 : PySem.W.nsIn K mainGlobals "InvalidTask" = some (some (.ref c4)))
    (p_c4 : PySem.W.keepIn K (.ref c4) = true)
    (x_c4 : PySem.W.excIn K c4 bmVal "ValueError.__new__" = true)
    (b_c4 : PySem.W.subIn K (.ref c4) (.type "BaseException") = some true)
    (t_c4 : PySem.W.typeIn K (.ref c4) = some (.type "type"))
    (a_c5 : PySem.W.nsIn K mainGlobals "InvalidRule" = some (some (.ref c5)))
    (p_c5 : PySem.W.keepIn K (.ref c5) = true)
    (x_c5 : PySem.W.excIn K c5 bmVal "ValueError.__new__" = true)
    (b_c5 : PySem.W.subIn K (.ref c5) (.type "BaseException") = some true)
    (t_c5 : PySem.W.typeIn K (.ref c5) = some (.type "type"))
    (a_c6 : PySem.W.nsIn K mainGlobals "InvalidKind" = some (some (.ref c6)))
    (p_c6 : PySem.W.keepIn K (.ref c6) = true)
    (x_c6 : PySem.W.excIn K c6 bmVal "ValueError.__new__" = true)
    (b_c6 : PySem.W.subIn K (.ref c6) (.type "BaseException") = some true)
    (t_c6 : PySem.W.typeIn K (.ref c6) = some (.type "type"))
    (a_c7 : PySem.W.nsIn K mainGlobals "InvalidMachine" = some (some (.ref c7)))
    (p_c7 : PySem.W.keepIn K (.ref c7) = true)
    (x_c7 : PySem.W.excIn K c7 bmVal "ValueError.__new__" = true)
    (b_c7 : PySem.W.subIn K (.ref c7) (.type "BaseException") = some true)
    (t_c7 : PySem.W.typeIn K (.ref c7) = some (.type "type"))
    (a_c8 : PySem.W.nsIn K mainGlobals "InvalidName" = some (some (.ref c8)))
    (p_c8 : PySem.W.keepIn K (.ref c8) = true)
    (x_c8 : PySem.W.excIn K c8 bmVal "ValueError.__new__" = true)
    (b_c8 : PySem.W.subIn K (.ref c8) (.type "BaseException") = some true)
    (t_c8 : PySem.W.typeIn K (.ref c8) = some (.type "type"))
    (a_c9 : PySem.W.nsIn K mainGlobals "InvalidOperation" = some (some (.ref c9)))
    (p_c9 : PySem.W.keepIn K (.ref c9) = true)
    (x_c9 : PySem.W.excIn K c9 bmVal "ValueError.__new__" = true)
    (b_c9 : PySem.W.subIn K (.ref c9) (.type "BaseException") = some true)
    (t_c9 : PySem.W.typeIn K (.ref c9) = some (.type "type"))
    (hN : exAll K 10 10 (pick [c0, c1, c2, c3, c4, c5, c6, c7, c8, c9]) (pick [c0, c1, c2, c3, c4, c5, c6, c7, c8, c9]) (fun i j => decide (i = j)) = true)
    (hK : exAll K 6 6 (pick [k0, k1, k2, k3, k4, k5]) (pick [k0, k1, k2, k3, k4, k5]) (fun i j => decide (i = j)) = true)
    (hB : exAll K 6 1 (pick [k0, k1, k2, k3, k4, k5]) (fun _ => Cb) (fun i _ => decide (i = 0)) = true)
    (hC : exAll K 10 1 (pick [c0, c1, c2, c3, c4, c5, c6, c7, c8, c9]) (fun _ => Cb) (fun _ _ => true) = true)
    (a_k0 : PySem.W.nsIn K mainGlobals "ParseError" = some (some (.ref k0)))
    (p_k0 : PySem.W.keepIn K (.ref k0) = true)
    (i_k0 : PySem.W.excInitIn K k0 bmVal "ValueError.__new__" = true)
    (o_k0 : PySem.W.excOver K k0 bmVal = true)
    (d_k0 : PySem.W.hasDictIn K k0 = true)
    (s_k0 : PySem.W.findIn K (.ref k0) "__setattr__" = some (some (.builtin "object.__setattr__")))
    (b_k0 : PySem.W.subIn K (.ref k0) (.type "BaseException") = some true)
    (t_k0 : PySem.W.typeIn K (.ref k0) = some (.type "type"))
    (g_k0 : PySem.W.findIn K (.ref k0) "__getattribute__" = some (some (.builtin "BaseException.__getattribute__")))
    (h_k0 : PySem.W.findIn K (.ref k0) "__getattr__" = some none)
    (n_k0 : PySem.W.findIn K (.ref k0) "at" = some none)
    (w_k0 : PySem.W.takerIn K k0 "at" = some none)
    (f_k0 : PySem.W.findIn K (.ref k0) "__init__" = some (some (.ref fA_ParseError_init)))
    (y_k0 : PySem.W.typeIn K (.ref fA_ParseError_init) = some (.type "function"))
    (F_ParseError_init : FunD K "__init__" "ParseError.__init__" (defArgs s_ParseError___init) (defBody s_ParseError___init) (defScope s_ParseError___init) [] [] fA_ParseError_init fd_ParseError_init)
    (a_k1 : PySem.W.nsIn K mainGlobals "InvalidNumber" = some (some (.ref k1)))
    (p_k1 : PySem.W.keepIn K (.ref k1) = true)
    (i_k1 : PySem.W.excInitIn K k1 bmIndex "IndexError.__new__" = true)
    (o_k1 : PySem.W.excOver K k1 bmIndex = true)
    (d_k1 : PySem.W.hasDictIn K k1 = true)
    (s_k1 : PySem.W.findIn K (.ref k1) "__setattr__" = some (some (.builtin "object.__setattr__")))
    (b_k1 : PySem.W.subIn K (.ref k1) (.type "BaseException") = some true)
    (t_k1 : PySem.W.typeIn K (.ref k1) = some (.type "type"))
    (g_k1 : PySem.W.findIn K (.ref k1) "__getattribute__" = some (some (.builtin "BaseException.__getattribute__")))
    (h_k1 : PySem.W.findIn K (.ref k1) "__getattr__" = some none)
    (n_k1 : PySem.W.findIn K (.ref k1) "given" = some none)
    (w_k1 : PySem.W.takerIn K k1 "given" = some none)
    (f_k1 : PySem.W.findIn K (.ref k1) "__init__" = some (some (.ref fA_InvalidNumber_init)))
    (y_k1 : PySem.W.typeIn K (.ref fA_InvalidNumber_init) = some (.type "function"))
    (F_InvalidNumber_init : FunD K "__init__" "InvalidNumber.__init__" (defArgs s_InvalidNumber___init) (defBody s_InvalidNumber___init) (defScope s_InvalidNumber___init) [] [] fA_InvalidNumber_init fd_InvalidNumber_init)
    (a_k2 : PySem.W.nsIn K mainGlobals "UnknownName" = some (some (.ref k2)))
    (p_k2 : PySem.W.keepIn K (.ref k2) = true)
    (i_k2 : PySem.W.excInitIn K k2 bmKey "LookupError.__new__" = true)
    (o_k2 : PySem.W.excOver K k2 bmKey = true)
    (d_k2 : PySem.W.hasDictIn K k2 = true)
    (s_k2 : PySem.W.findIn K (.ref k2) "__setattr__" = some (some (.builtin "object.__setattr__")))
    (b_k2 : PySem.W.subIn K (.ref k2) (.type "BaseException") = some true)
    (t_k2 : PySem.W.typeIn K (.ref k2) = some (.type "type"))
    (g_k2 : PySem.W.findIn K (.ref k2) "__getattribute__" = some (some (.builtin "BaseException.__getattribute__")))
    (h_k2 : PySem.W.findIn K (.ref k2) "__getattr__" = some none)
    (n_k2 : PySem.W.findIn K (.ref k2) "wanted" = some none)
    (w_k2 : PySem.W.takerIn K k2 "wanted" = some none)
    (f_k2 : PySem.W.findIn K (.ref k2) "__init__" = some (some (.ref fA_UnknownName_init)))
    (y_k2 : PySem.W.typeIn K (.ref fA_UnknownName_init) = some (.type "function"))
    (F_UnknownName_init : FunD K "__init__" "UnknownName.__init__" (defArgs s_UnknownName___init) (defBody s_UnknownName___init) (defScope s_UnknownName___init) [] [] fA_UnknownName_init fd_UnknownName_init)
    (a_k3 : PySem.W.nsIn K mainGlobals "NothingToUndo" = some (some (.ref k3)))
    (p_k3 : PySem.W.keepIn K (.ref k3) = true)
    (i_k3 : PySem.W.excInitIn K k3 bmLook "LookupError.__new__" = true)
    (o_k3 : PySem.W.excOver K k3 bmLook = true)
    (d_k3 : PySem.W.hasDictIn K k3 = true)
    (s_k3 : PySem.W.findIn K (.ref k3) "__setattr__" = some (some (.builtin "object.__setattr__")))
    (b_k3 : PySem.W.subIn K (.ref k3) (.type "BaseException") = some true)
    (t_k3 : PySem.W.typeIn K (.ref k3) = some (.type "type"))
    (g_k3 : PySem.W.findIn K (.ref k3) "__getattribute__" = some (some (.builtin "BaseException.__getattribute__")))
    (h_k3 : PySem.W.findIn K (.ref k3) "__getattr__" = some none)
    (n_k3 : PySem.W.findIn K (.ref k3) "many" = some none)
    (w_k3 : PySem.W.takerIn K k3 "many" = some none)
    (f_k3 : PySem.W.findIn K (.ref k3) "__init__" = some (some (.ref fA_NothingToUndo_init)))
    (y_k3 : PySem.W.typeIn K (.ref fA_NothingToUndo_init) = some (.type "function"))
    (F_NothingToUndo_init : FunD K "__init__" "NothingToUndo.__init__" (defArgs s_NothingToUndo___init) (defBody s_NothingToUndo___init) (defScope s_NothingToUndo___init) [] [] fA_NothingToUndo_init fd_NothingToUndo_init)
    (a_k4 : PySem.W.nsIn K mainGlobals "TooMany" = some (some (.ref k4)))
    (p_k4 : PySem.W.keepIn K (.ref k4) = true)
    (i_k4 : PySem.W.excInitIn K k4 bmOver "OverflowError.__new__" = true)
    (o_k4 : PySem.W.excOver K k4 bmOver = true)
    (d_k4 : PySem.W.hasDictIn K k4 = true)
    (s_k4 : PySem.W.findIn K (.ref k4) "__setattr__" = some (some (.builtin "object.__setattr__")))
    (b_k4 : PySem.W.subIn K (.ref k4) (.type "BaseException") = some true)
    (t_k4 : PySem.W.typeIn K (.ref k4) = some (.type "type"))
    (g_k4 : PySem.W.findIn K (.ref k4) "__getattribute__" = some (some (.builtin "BaseException.__getattribute__")))
    (h_k4 : PySem.W.findIn K (.ref k4) "__getattr__" = some none)
    (n_k4 : PySem.W.findIn K (.ref k4) "limit" = some none)
    (w_k4 : PySem.W.takerIn K k4 "limit" = some none)
    (f_k4 : PySem.W.findIn K (.ref k4) "__init__" = some (some (.ref fA_TooMany_init)))
    (y_k4 : PySem.W.typeIn K (.ref fA_TooMany_init) = some (.type "function"))
    (F_TooMany_init : FunD K "__init__" "TooMany.__init__" (defArgs s_TooMany___init) (defBody s_TooMany___init) (defScope s_TooMany___init) [] [] fA_TooMany_init fd_TooMany_init)
    (a_k5 : PySem.W.nsIn K mainGlobals "Refused" = some (some (.ref k5)))
    (p_k5 : PySem.W.keepIn K (.ref k5) = true)
    (i_k5 : PySem.W.excInitIn K k5 bmArith "ArithmeticError.__new__" = true)
    (o_k5 : PySem.W.excOver K k5 bmArith = true)
    (d_k5 : PySem.W.hasDictIn K k5 = true)
    (s_k5 : PySem.W.findIn K (.ref k5) "__setattr__" = some (some (.builtin "object.__setattr__")))
    (b_k5 : PySem.W.subIn K (.ref k5) (.type "BaseException") = some true)
    (t_k5 : PySem.W.typeIn K (.ref k5) = some (.type "type"))
    (g_k5 : PySem.W.findIn K (.ref k5) "__getattribute__" = some (some (.builtin "BaseException.__getattribute__")))
    (h_k5 : PySem.W.findIn K (.ref k5) "__getattr__" = some none)
    (n_k5 : PySem.W.findIn K (.ref k5) "claim" = some none)
    (w_k5 : PySem.W.takerIn K k5 "claim" = some none)
    (f_k5 : PySem.W.findIn K (.ref k5) "__init__" = some (some (.ref fA_Refused_init)))
    (y_k5 : PySem.W.typeIn K (.ref fA_Refused_init) = some (.type "function"))
    (F_Refused_init : FunD K "__init__" "Refused.__init__" (defArgs s_Refused___init) (defBody s_Refused___init) (defScope s_Refused___init) [] [] fA_Refused_init fd_Refused_init)
    (a_law_pouch : PySem.W.nsIn K mainGlobals "_law_pouch" = some (some (.ref fA_law_pouch)))
    (F_law_pouch : Fun K "_law_pouch" "_law_pouch" s_law_pouch fA_law_pouch fd_law_pouch)
    (a_law_coin : PySem.W.nsIn K mainGlobals "_law_coin" = some (some (.ref fA_law_coin)))
    (F_law_coin : Fun K "_law_coin" "_law_coin" s_law_coin fA_law_coin fd_law_coin)
    (a_law_any : PySem.W.nsIn K mainGlobals "_law_any" = some (some (.ref fA_law_any)))
    (F_law_any : Fun K "_law_any" "_law_any" s_law_any fA_law_any fd_law_any)
    (a_law_plain : PySem.W.nsIn K mainGlobals "_law_plain" = some (some (.ref fA_law_plain)))
    (F_law_plain : Fun K "_law_plain" "_law_plain" s_law_plain fA_law_plain fd_law_plain)
    (a_law_own : PySem.W.nsIn K mainGlobals "_law_own" = some (some (.ref fA_law_own)))
    (F_law_own : Fun K "_law_own" "_law_own" s_law_own fA_law_own fd_law_own)
    (a_law_keeping : PySem.W.nsIn K mainGlobals "_law_keeping" = some (some (.ref fA_law_keeping)))
    (F_law_keeping : Fun K "_law_keeping" "_law_keeping" s_law_keeping fA_law_keeping fd_law_keeping)
    (a_law_kept : PySem.W.nsIn K mainGlobals "_law_kept" = some (some (.ref fA_law_kept)))
    (F_law_kept : Fun K "_law_kept" "_law_kept" s_law_kept fA_law_kept fd_law_kept)
    (a_law_caught : PySem.W.nsIn K mainGlobals "_law_caught" = some (some (.ref fA_law_caught)))
    (F_law_caught : Fun K "_law_caught" "_law_caught" s_law_caught fA_law_caught fd_law_caught)
    (a_law : PySem.W.nsIn K mainGlobals "law" = some (some (.ref fA_law)))
    (F_law : Fun K "law" "law" s_law fA_law fd_law)
    (hcl : fd_law.code = .ref cl)
    (hPt : K.lookup Pt = none)
    (hcd : PySem.W.codeHdIn K cl Pt = true) :
    ∃ (cl : Addr) (fd : FuncData), (∀ (s : Shared) (v : Value), BindsTo s fd ⟨[v], []⟩ [("_law_script", v)]) ∧ K.lookup Pt = none ∧ PySem.W.CodeHd h cl Pt ∧ ∀ base : Heap, K.In base → base.Ns mainGlobals mg → TabB base mg cl Pt → FnG l.prog w K mg base CX0 15 fa fd ["_law_script"] (spT K (lamT Pt) pre_law) := by
  have e := hfa.symm.trans (PySem.W.mg_of X G a_law)
  cases e
  have T : Txt K mg := ⟨PySem.W.mg_none_of X G z_int, PySem.W.mg_none_of X G z_list, PySem.W.mg_none_of X G z_len, PySem.W.mg_none_of X G z_range, PySem.W.mg_none_of X G z_max, PySem.W.mg_none_of X G z_min, PySem.W.mg_none_of X G z_abs, PySem.W.mg_none_of X G z_repr⟩
  have e0 : ExcK K mg "InvalidWeb" (pick [c0, c1, c2, c3, c4, c5, c6, c7, c8, c9] 0) := ⟨PySem.W.mg_of X G a_c0, p_c0, ⟨_, _, _, _, PySem.F.excBase_ValueError, x_c0⟩, b_c0, t_c0⟩
  have e1 : ExcK K mg "InvalidPool" (pick [c0, c1, c2, c3, c4, c5, c6, c7, c8, c9] 1) := ⟨PySem.W.mg_of X G a_c1, p_c1, ⟨_, _, _, _, PySem.F.excBase_ValueError, x_c1⟩, b_c1, t_c1⟩
  have e2 : ExcK K mg "InvalidWord" (pick [c0, c1, c2, c3, c4, c5, c6, c7, c8, c9] 2) := ⟨PySem.W.mg_of X G a_c2, p_c2, ⟨_, _, _, _, PySem.F.excBase_ValueError, x_c2⟩, b_c2, t_c2⟩
  have e3 : ExcK K mg "InvalidRow" (pick [c0, c1, c2, c3, c4, c5, c6, c7, c8, c9] 3) := ⟨PySem.W.mg_of X G a_c3, p_c3, ⟨_, _, _, _, PySem.F.excBase_ValueError, x_c3⟩, b_c3, t_c3⟩
  have e4 : ExcK K mg "InvalidTask" (pick [c0, c1, c2, c3, c4, c5, c6, c7, c8, c9] 4) := ⟨PySem.W.mg_of X G a_c4, p_c4, ⟨_, _, _, _, PySem.F.excBase_ValueError, x_c4⟩, b_c4, t_c4⟩
  have e5 : ExcK K mg "InvalidRule" (pick [c0, c1, c2, c3, c4, c5, c6, c7, c8, c9] 5) := ⟨PySem.W.mg_of X G a_c5, p_c5, ⟨_, _, _, _, PySem.F.excBase_ValueError, x_c5⟩, b_c5, t_c5⟩
  have e6 : ExcK K mg "InvalidKind" (pick [c0, c1, c2, c3, c4, c5, c6, c7, c8, c9] 6) := ⟨PySem.W.mg_of X G a_c6, p_c6, ⟨_, _, _, _, PySem.F.excBase_ValueError, x_c6⟩, b_c6, t_c6⟩
  have e7 : ExcK K mg "InvalidMachine" (pick [c0, c1, c2, c3, c4, c5, c6, c7, c8, c9] 7) := ⟨PySem.W.mg_of X G a_c7, p_c7, ⟨_, _, _, _, PySem.F.excBase_ValueError, x_c7⟩, b_c7, t_c7⟩
  have e8 : ExcK K mg "InvalidName" (pick [c0, c1, c2, c3, c4, c5, c6, c7, c8, c9] 8) := ⟨PySem.W.mg_of X G a_c8, p_c8, ⟨_, _, _, _, PySem.F.excBase_ValueError, x_c8⟩, b_c8, t_c8⟩
  have e9 : ExcK K mg "InvalidOperation" (pick [c0, c1, c2, c3, c4, c5, c6, c7, c8, c9] 9) := ⟨PySem.W.mg_of X G a_c9, p_c9, ⟨_, _, _, _, PySem.F.excBase_ValueError, x_c9⟩, b_c9, t_c9⟩
  have exN := exAll_at hN
  have exK := exAll_at hK
  have exB := fun i hi => exAll_at hB i 0 hi (by decide)
  have exC := fun i hi => exAll_at hC i 0 hi (by decide)
  have B_ParseError_init := F_ParseError_init.bindsN (ps := ["self", "at"]) fun _ _ _ _ _ _ us hl => match us, hl with | [_, _], _ => rfl
  have X_k0 : XjC K k0 "ValueError.__init__" := .of (B := "ValueError") (newId := "ValueError.__new__") (bmB := bmVal) ⟨PySem.F.excBase_ValueError, stores_Val, i_k0, o_k0, d_k0, s_k0, b_k0, t_k0, p_k0⟩
  have xf0 : XfC K (pick [k0, k1, k2, k3, k4, k5] 0) := ⟨g_k0, h_k0, b_k0, d_k0⟩
  have m0 : mg "ParseError" = some (.ref (pick [k0, k1, k2, k3, k4, k5] 0)) := PySem.W.mg_of X G a_k0
  have B_InvalidNumber_init := F_InvalidNumber_init.bindsN (ps := ["self", "given"]) fun _ _ _ _ _ _ us hl => match us, hl with | [_, _], _ => rfl
  have X_k1 : XjC K k1 "IndexError.__init__" := .of (B := "IndexError") (newId := "IndexError.__new__") (bmB := bmIndex) ⟨PySem.F.excBase_IndexError, stores_Index, i_k1, o_k1, d_k1, s_k1, b_k1, t_k1, p_k1⟩
  have xf1 : XfC K (pick [k0, k1, k2, k3, k4, k5] 1) := ⟨g_k1, h_k1, b_k1, d_k1⟩
  have m1 : mg "InvalidNumber" = some (.ref (pick [k0, k1, k2, k3, k4, k5] 1)) := PySem.W.mg_of X G a_k1
  have B_UnknownName_init := F_UnknownName_init.bindsN (ps := ["self", "wanted"]) fun _ _ _ _ _ _ us hl => match us, hl with | [_, _], _ => rfl
  have X_k2 : XjC K k2 "KeyError.__init__" := XjC.key i_k2 o_k2 d_k2 s_k2 b_k2 t_k2 p_k2
  have xf2 : XfC K (pick [k0, k1, k2, k3, k4, k5] 2) := ⟨g_k2, h_k2, b_k2, d_k2⟩
  have m2 : mg "UnknownName" = some (.ref (pick [k0, k1, k2, k3, k4, k5] 2)) := PySem.W.mg_of X G a_k2
  have B_NothingToUndo_init := F_NothingToUndo_init.bindsN (ps := ["self", "many"]) fun _ _ _ _ _ _ us hl => match us, hl with | [_, _], _ => rfl
  have X_k3 : XjC K k3 "LookupError.__init__" := .of (B := "LookupError") (newId := "LookupError.__new__") (bmB := bmLook) ⟨PySem.F.excBase_LookupError, stores_Look, i_k3, o_k3, d_k3, s_k3, b_k3, t_k3, p_k3⟩
  have xf3 : XfC K (pick [k0, k1, k2, k3, k4, k5] 3) := ⟨g_k3, h_k3, b_k3, d_k3⟩
  have m3 : mg "NothingToUndo" = some (.ref (pick [k0, k1, k2, k3, k4, k5] 3)) := PySem.W.mg_of X G a_k3
  have B_TooMany_init := F_TooMany_init.bindsN (ps := ["self", "limit"]) fun _ _ _ _ _ _ us hl => match us, hl with | [_, _], _ => rfl
  have X_k4 : XjC K k4 "OverflowError.__init__" := .of (B := "OverflowError") (newId := "OverflowError.__new__") (bmB := bmOver) ⟨PySem.F.excBase_OverflowError, stores_Over, i_k4, o_k4, d_k4, s_k4, b_k4, t_k4, p_k4⟩
  have xf4 : XfC K (pick [k0, k1, k2, k3, k4, k5] 4) := ⟨g_k4, h_k4, b_k4, d_k4⟩
  have m4 : mg "TooMany" = some (.ref (pick [k0, k1, k2, k3, k4, k5] 4)) := PySem.W.mg_of X G a_k4
  have B_Refused_init := F_Refused_init.bindsN (ps := ["self", "claim"]) fun _ _ _ _ _ _ us hl => match us, hl with | [_, _], _ => rfl
  have X_k5 : XjC K k5 "ArithmeticError.__init__" := .of (B := "ArithmeticError") (newId := "ArithmeticError.__new__") (bmB := bmArith) ⟨PySem.F.excBase_ArithmeticError, stores_Arith, i_k5, o_k5, d_k5, s_k5, b_k5, t_k5, p_k5⟩
  have xf5 : XfC K (pick [k0, k1, k2, k3, k4, k5] 5) := ⟨g_k5, h_k5, b_k5, d_k5⟩
  have m5 : mg "Refused" = some (.ref (pick [k0, k1, k2, k3, k4, k5] 5)) := PySem.W.mg_of X G a_k5
  have B_law_pouch := F_law_pouch.binds (ps := ["_law_script", "_law_at"]) fun _ _ _ _ _ _ us hl => match us, hl with | [_, _], _ => rfl
  have B_law_coin := F_law_coin.binds (ps := ["_law_pouch_here", "_law_total"]) fun _ _ _ _ _ _ us hl => match us, hl with | [_, _], _ => rfl
  have B_law_any := F_law_any.binds (ps := ["_law_pouch_here", "_law_items"]) fun _ _ _ _ _ _ us hl => match us, hl with | [_, _], _ => rfl
  have B_law_plain := F_law_plain.binds (ps := ["_law_at"]) fun _ _ _ _ _ _ us hl => match us, hl with | [_], _ => rfl
  have B_law_own := F_law_own.binds (ps := ["_law_at"]) fun _ _ _ _ _ _ us hl => match us, hl with | [_], _ => rfl
  have B_law_keeping := F_law_keeping.binds (ps := ["_law_at", "_law_value"]) fun _ _ _ _ _ _ us hl => match us, hl with | [_, _], _ => rfl
  have B_law_kept := F_law_kept.binds (ps := ["_law_at", "_law_value"]) fun _ _ _ _ _ _ us hl => match us, hl with | [_, _], _ => rfl
  refine ⟨_, fd_law, fun s v => ?_, hPt, PySem.W.codeHd_of_K X hcd, fun base _ _ TBl => ?_⟩
  · obtain ⟨oc, od, kV, doc, pm, an, cdv, ct, osl, rfl, lk, hcd⟩ := F_law.ex
    exact .of_eq rfl
  have r0 : RaiseJ l.prog w K mg base "ParseError" (pick [k0, k1, k2, k3, k4, k5] 0) "at" := ⟨⟨_, _, _, _, X_k0, f_k0, y_k0, ok_ParseError_init F_ParseError_init X_k0 (PySem.W.mg_of X G aCb) gaCb rdCb vVCb w_k0, B_ParseError_init⟩, m0⟩
  have r1 : RaiseJ l.prog w K mg base "InvalidNumber" (pick [k0, k1, k2, k3, k4, k5] 1) "given" := ⟨⟨_, _, _, _, X_k1, f_k1, y_k1, ok_InvalidNumber_init F_InvalidNumber_init X_k1 (PySem.W.mg_none_of X G z_IndexError) vV_IndexError w_k1, B_InvalidNumber_init⟩, m1⟩
  have r2 : RaiseJ l.prog w K mg base "UnknownName" (pick [k0, k1, k2, k3, k4, k5] 2) "wanted" := ⟨⟨_, _, _, _, X_k2, f_k2, y_k2, ok_UnknownName_init F_UnknownName_init X_k2 (PySem.W.mg_none_of X G z_KeyError) vV_KeyError w_k2, B_UnknownName_init⟩, m2⟩
  have r3 : RaiseJ l.prog w K mg base "NothingToUndo" (pick [k0, k1, k2, k3, k4, k5] 3) "many" := ⟨⟨_, _, _, _, X_k3, f_k3, y_k3, ok_NothingToUndo_init F_NothingToUndo_init X_k3 (PySem.W.mg_none_of X G z_LookupError) vV_LookupError w_k3, B_NothingToUndo_init⟩, m3⟩
  have r4 : RaiseJ l.prog w K mg base "TooMany" (pick [k0, k1, k2, k3, k4, k5] 4) "limit" := ⟨⟨_, _, _, _, X_k4, f_k4, y_k4, ok_TooMany_init F_TooMany_init X_k4 (PySem.W.mg_none_of X G z_OverflowError) vV_OverflowError w_k4, B_TooMany_init⟩, m4⟩
  have r5 : RaiseJ l.prog w K mg base "Refused" (pick [k0, k1, k2, k3, k4, k5] 5) "claim" := ⟨⟨_, _, _, _, X_k5, f_k5, y_k5, ok_Refused_init F_Refused_init X_k5 (PySem.W.mg_none_of X G z_ArithmeticError) vV_ArithmeticError w_k5, B_Refused_init⟩, m5⟩
  have h_law_pouch : C8.Cal l.prog w K mg base 1 "_law_pouch" _ [] := ⟨⟨_, _, _, _, ok_law_pouch F_law_pouch T, PySem.W.mg_of X G a_law_pouch, F_law_pouch.kp, B_law_pouch, .nil⟩⟩
  have h_law_coin : C8.Cal l.prog w K mg base 1 "_law_coin" _ [] := ⟨⟨_, _, _, _, ok_law_coin F_law_coin T, PySem.W.mg_of X G a_law_coin, F_law_coin.kp, B_law_coin, .nil⟩⟩
  have h_law_any : C8.Cal l.prog w K mg base 2 "_law_any" _ [] := ⟨⟨_, _, _, _, ok_law_any F_law_any T h_law_coin, PySem.W.mg_of X G a_law_any, F_law_any.kp, B_law_any, .nil⟩⟩
  have h_law_plain : CalX l.prog w K mg base 2 "_law_plain" _ := ⟨⟨_, _, _, ok_law_plain (Cn := pick [c0, c1, c2, c3, c4, c5, c6, c7, c8, c9]) F_law_plain T e0 e1 e2 e3 e4 e5 e6 e7 e8 e9, PySem.W.mg_of X G a_law_plain, F_law_plain.kp, B_law_plain⟩⟩
  have h_law_own : C8.Cal l.prog w K mg base 5 "_law_own" _ [] := ⟨⟨_, _, _, _, ok_law_own (Cn := pick [c0, c1, c2, c3, c4, c5, c6, c7, c8, c9]) F_law_own T h_law_plain exN e0 e1 e2 e3 e4 e5 e6 e7 e8 e9, PySem.W.mg_of X G a_law_own, F_law_own.kp, B_law_own, .nil⟩⟩
  have h_law_keeping : CalX l.prog w K mg base 4 "_law_keeping" _ := ⟨⟨_, _, _, ok_law_keeping (Ck := pick [k0, k1, k2, k3, k4, k5]) F_law_keeping T r0 r1 r2 r3 r4 r5, PySem.W.mg_of X G a_law_keeping, F_law_keeping.kp, B_law_keeping⟩⟩
  have h_law_kept : C8.Cal l.prog w K mg base 7 "_law_kept" _ [] := ⟨⟨_, _, _, _, ok_law_kept (Ck := pick [k0, k1, k2, k3, k4, k5]) F_law_kept T h_law_keeping exK xf0 xf1 xf2 xf3 xf4 xf5 n_k0 n_k1 n_k2 n_k3 n_k4 n_k5 m0 m1 m2 m3 m4 m5, PySem.W.mg_of X G a_law_kept, F_law_kept.kp, B_law_kept, .nil⟩⟩
  exact ok_law (Cn := pick [c0, c1, c2, c3, c4, c5, c6, c7, c8, c9]) (Ck := pick [k0, k1, k2, k3, k4, k5]) F_law T hcl TBl F_law_caught (PySem.W.mg_of X G a_law_caught) (PySem.W.mg_of X G aCb) m1 m2 m3 m4 m5 exK exB exC h_law_pouch h_law_coin h_law_any h_law_own h_law_kept h_law_plain h_law_keeping
theorem walk {Pt : Addr} {l : PySem.W.OpenLaw} {q : Program} {loose : List Str} {XP : (Str → Option Value) → Heap → Prop} {YP : World → Heap → Prop} {d : DefRec} {K : Params → PySem.W.Frag} (hn : l.most = some 63) (hdf : d.params.defaults = [])
    (hY : ∀ (w : World) (h : Heap), YP w h → (K w.params).In h) (hT : ∀ (w : World) (h : Heap), YP w h → h.get? Pt = some { cls := .none, data := .fields #[] })
    (F : ∀ (w : World) (mg : Str → Option Value) (fa : Addr) (h : Heap), (K w.params).In h → h.Ns mainGlobals mg → mg d.name = some (.ref fa) →
      ∃ (cl : Addr) (fd : FuncData), (∀ (s : Shared) (u : Value), BindsTo s fd ⟨[u], []⟩ [("_law_script", u)]) ∧ (K w.params).lookup Pt = none ∧ PySem.W.CodeHd h cl Pt ∧ ∀ base : Heap, (K w.params).In base → base.Ns mainGlobals mg → TabB base mg cl Pt → FnG l.prog w (K w.params) mg base CX0 15 fa fd ["_law_script"] (spT (K w.params) (lamT Pt) pre_law)) :
    PySem.W.WalkO q loose XP YP l.row.toRowW d [] (fun f vs => PySem.call f vs) := by
  refine Att.attach_callB hn hdf fun w s0 s1 mg mb fa o pm cd doc a vs ns G Y _ _ _ hmg hobj hints hlen _ hg => ?_
  have KX := hY w _ Y
  obtain ⟨cl, fd, hb, nT, hcd, hF⟩ := F w mg fa _ KX G.T.g hmg
  have one : ∀ {Q : Addr × Addr → Prop}, Q (cl, Pt) → ∀ p ∈ [(cl, Pt)], Q p := fun h p hp => by rw [List.mem_singleton.mp hp]; exact h
  exact law_G (cs := [(cl, Pt)]) KX G.T.g G.T.b G.T.builtins G.T.nolimit hg (one (hT w _ Y)) (one nT) (one hcd) G.T.bmain hobj hints (Nat.le_trans hlen (by decide)) ⟨rfl, by decide, by decide⟩ (fun base K1 K2 TB => hF base K1 K2 (TB _ (.head _))) hb (fun H hH hS => law_sp hlen (hH _ (.head _)) hS) fun H e s' z => z
end K00

open PySem PySem.W PyProof.Rows
set_option Elab.async false
set_option maxRecDepth 100000 in
set_option maxHeartbeats 0 in
theorem PySem.Challenge.cw_poolmaps_k00_errors_keep_what_they_are_m_holds : PySem.Challenge.rw_poolmaps_k00_errors_keep_what_they_are_m.Holds := by
  w_on; o_law
  refine HdK00.done ?k1 ?hw ?hc
  case k1 => first | assumption | decide +kernel
  case hw => w_witness2
  k_fill
  refine K00.walk (l := PySem.Challenge.rw_poolmaps_k00_errors_keep_what_they_are_m) (Pt := 324) rfl HdK00.dfl (fun w h Y => PySem.W.km_in_of Y) (fun w h Y => PySem.W.km_tabs_of Y _ (.head _)) ?F
  case F =>
    intro w mg fa h KX G hmg0
    have hmg : mg ("law" : PySem.Str) = some (.ref fa) := by
      rw [← HdK00.nm]
      exact hmg0
    refine' K00.all_mk (Pt := 324) KX G hmg ?aCb ?gaCb ?rdCb ?vVCb ?z_int ?z_list ?z_len ?z_range ?z_max ?z_min ?z_abs ?z_repr ?z_IndexError ?z_KeyError ?z_LookupError ?z_OverflowError ?z_ArithmeticError ?vV_IndexError ?vV_KeyError ?vV_LookupError ?vV_OverflowError ?vV_ArithmeticError ?a_c0 ?p_c0 ?x_c0 ?b_c0 ?t_c0 ?a_c1 ?p_c1 ?x_c1 ?b_c1 ?t_c1 ?a_c2 ?p_c2 ?x_c2 ?b_c2 ?t_c2 ?a_c3 ?p_c3 ?x_c3 ?b_c3 ?t_c3 ?a_c4 ?p_c4 ?x_c4 ?b_c4 ?t_c4 ?a_c5 ?p_c5 ?x_c5 ?b_c5 ?t_c5 ?a_c6 ?p_c6 ?x_c6 ?b_c6 ?t_c6 ?a_c7 ?p_c7 ?x_c7 ?b_c7 ?t_c7 ?a_c8 ?p_c8 ?x_c8 ?b_c8 ?t_c8 ?a_c9 ?p_c9 ?x_c9 ?b_c9 ?t_c9 ?hN ?hK ?hB ?hC ?a_k0 ?p_k0 ?i_k0 ?o_k0 ?d_k0 ?s_k0 ?b_k0 ?t_k0 ?g_k0 ?h_k0 ?n_k0 ?w_k0 ?f_k0 ?y_k0 (K00.funD0_mk ?l_ParseError_init ?c_ParseError_init ?q_ParseError_init) ?a_k1 ?p_k1 ?i_k1 ?o_k1 ?d_k1 ?s_k1 ?b_k1 ?t_k1 ?g_k1 ?h_k1 ?n_k1 ?w_k1 ?f_k1 ?y_k1 (K00.funD0_mk ?l_InvalidNumber_init ?c_InvalidNumber_init ?q_InvalidNumber_init) ?a_k2 ?p_k2 ?i_k2 ?o_k2 ?d_k2 ?s_k2 ?b_k2 ?t_k2 ?g_k2 ?h_k2 ?n_k2 ?w_k2 ?f_k2 ?y_k2 (K00.funD0_mk ?l_UnknownName_init ?c_UnknownName_init ?q_UnknownName_init) ?a_k3 ?p_k3 ?i_k3 ?o_k3 ?d_k3 ?s_k3 ?b_k3 ?t_k3 ?g_k3 ?h_k3 ?n_k3 ?w_k3 ?f_k3 ?y_k3 (K00.funD0_mk ?l_NothingToUndo_init ?c_NothingToUndo_init ?q_NothingToUndo_init) ?a_k4 ?p_k4 ?i_k4 ?o_k4 ?d_k4 ?s_k4 ?b_k4 ?t_k4 ?g_k4 ?h_k4 ?n_k4 ?w_k4 ?f_k4 ?y_k4 (K00.funD0_mk ?l_TooMany_init ?c_TooMany_init ?q_TooMany_init) ?a_k5 ?p_k5 ?i_k5 ?o_k5 ?d_k5 ?s_k5 ?b_k5 ?t_k5 ?g_k5 ?h_k5 ?n_k5 ?w_k5 ?f_k5 ?y_k5 (K00.funD0_mk ?l_Refused_init ?c_Refused_init ?q_Refused_init) ?a_law_pouch (L2.fun_mk ?l_law_pouch ?c_law_pouch ?k_law_pouch) ?a_law_coin (L2.fun_mk ?l_law_coin ?c_law_coin ?k_law_coin) ?a_law_any (L2.fun_mk ?l_law_any ?c_law_any ?k_law_any) ?a_law_plain (L2.fun_mk ?l_law_plain ?c_law_plain ?k_law_plain) ?a_law_own (L2.fun_mk ?l_law_own ?c_law_own ?k_law_own) ?a_law_keeping (L2.fun_mk ?l_law_keeping ?c_law_keeping ?k_law_keeping) ?a_law_kept (L2.fun_mk ?l_law_kept ?c_law_kept ?k_law_kept) ?a_law_caught (L2.fun_mk ?l_law_caught ?c_law_caught ?k_law_caught) ?a_law (L2.fun_mk ?l_law ?c_law ?k_law) ?hcl ?hPt ?hcd
    (case aCb => k_is)
    (case gaCb => first | k_is | kernel_rfl | rfl)
    (case rdCb => first | k_is | kernel_rfl | rfl)
    (case vVCb => first | k_is | kernel_rfl | rfl)
    (case z_int => k_is)
    (case z_list => k_is)
    (case z_len => k_is)
    (case z_range => k_is)
    (case z_max => k_is)
    (case z_min => k_is)
    (case z_abs => k_is)
    (case z_repr => k_is)
    (case z_IndexError => k_is)
    (case z_KeyError => k_is)
    (case z_LookupError => k_is)
    (case z_OverflowError => k_is)
    (case z_ArithmeticError => k_is)
    (case vV_IndexError => first | k_is | kernel_rfl | rfl)
    (case vV_KeyError => first | k_is | kernel_rfl | rfl)
    (case vV_LookupError => first | k_is | kernel_rfl | rfl)
    (case vV_OverflowError => first | k_is | kernel_rfl | rfl)
    (case vV_ArithmeticError => first | k_is | kernel_rfl | rfl)
    (case a_c0 => k_is)
    (case p_c0 => k_is)
    (case x_c0 => k_exc)
    (case b_c0 => k_is)
    (case t_c0 => k_is)
    (case a_c1 => k_is)
    (case p_c1 => k_is)
    (case x_c1 => k_exc)
    (case b_c1 => k_is)
    (case t_c1 => k_is)
    (case a_c2 => k_is)
    (case p_c2 => k_is)
    (case x_c2 => k_exc)
    (case b_c2 => k_is)
    (case t_c2 => k_is)
    (case a_c3 => k_is)
    (case p_c3 => k_is)
    (case x_c3 => k_exc)
    (case b_c3 => k_is)
    (case t_c3 => k_is)
    (case a_c4 => k_is)
    (case p_c4 => k_is)
    (case x_c4 => k_exc)
    (case b_c4 => k_is)
    (case t_c4 => k_is)
    (case a_c5 => k_is)
    (case p_c5 => k_is)
    (case x_c5 => k_exc)
    (case b_c5 => k_is)
    (case t_c5 => k_is)
    (case a_c6 => k_is)
    (case p_c6 => k_is)
    (case x_c6 => k_exc)
    (case b_c6 => k_is)
    (case t_c6 => k_is)
    (case a_c7 => k_is)
    (case p_c7 => k_is)
    (case x_c7 => k_exc)
    (case b_c7 => k_is)
    (case t_c7 => k_is)
    (case a_c8 => k_is)
    (case p_c8 => k_is)
    (case x_c8 => k_exc)
    (case b_c8 => k_is)
    (case t_c8 => k_is)
    (case a_c9 => k_is)
    (case p_c9 => k_is)
    (case x_c9 => k_exc)
    (case b_c9 => k_is)
    (case t_c9 => k_is)
    (case hN => first | kernel_rfl | rfl)
    (case hK => first | kernel_rfl | rfl)
    (case hB => first | kernel_rfl | rfl)
    (case hC => first | kernel_rfl | rfl)
    (case a_k0 => k_is)
    (case p_k0 => k_is)
    (case i_k0 => first | kernel_rfl | rfl)
    (case o_k0 => first | kernel_rfl | rfl)
    (case d_k0 => k_is)
    (case s_k0 => k_is)
    (case b_k0 => k_is)
    (case t_k0 => k_is)
    (case g_k0 => k_is)
    (case h_k0 => k_is)
    (case n_k0 => k_is)
    (case w_k0 => k_is)
    (case f_k0 => k_is)
    (case y_k0 => k_is)
    (case l_ParseError_init => k_is)
    (case c_ParseError_init => k_is)
    (case q_ParseError_init => k_is)
    (case a_k1 => k_is)
    (case p_k1 => k_is)
    (case i_k1 => first | kernel_rfl | rfl)
    (case o_k1 => first | kernel_rfl | rfl)
    (case d_k1 => k_is)
    (case s_k1 => k_is)
    (case b_k1 => k_is)
    (case t_k1 => k_is)
    (case g_k1 => k_is)
    (case h_k1 => k_is)
    (case n_k1 => k_is)
    (case w_k1 => k_is)
    (case f_k1 => k_is)
    (case y_k1 => k_is)
    (case l_InvalidNumber_init => k_is)
    (case c_InvalidNumber_init => k_is)
    (case q_InvalidNumber_init => k_is)
    (case a_k2 => k_is)
    (case p_k2 => k_is)
    (case i_k2 => first | kernel_rfl | rfl)
    (case o_k2 => first | kernel_rfl | rfl)
    (case d_k2 => k_is)
    (case s_k2 => k_is)
    (case b_k2 => k_is)
    (case t_k2 => k_is)
    (case g_k2 => k_is)
    (case h_k2 => k_is)
    (case n_k2 => k_is)
    (case w_k2 => k_is)
    (case f_k2 => k_is)
    (case y_k2 => k_is)
    (case l_UnknownName_init => k_is)
    (case c_UnknownName_init => k_is)
    (case q_UnknownName_init => k_is)
    (case a_k3 => k_is)
    (case p_k3 => k_is)
    (case i_k3 => first | kernel_rfl | rfl)
    (case o_k3 => first | kernel_rfl | rfl)
    (case d_k3 => k_is)
    (case s_k3 => k_is)
    (case b_k3 => k_is)
    (case t_k3 => k_is)
    (case g_k3 => k_is)
    (case h_k3 => k_is)
    (case n_k3 => k_is)
    (case w_k3 => k_is)
    (case f_k3 => k_is)
    (case y_k3 => k_is)
    (case l_NothingToUndo_init => k_is)
    (case c_NothingToUndo_init => k_is)
    (case q_NothingToUndo_init => k_is)
    (case a_k4 => k_is)
    (case p_k4 => k_is)
    (case i_k4 => first | kernel_rfl | rfl)
    (case o_k4 => first | kernel_rfl | rfl)
    (case d_k4 => k_is)
    (case s_k4 => k_is)
    (case b_k4 => k_is)
    (case t_k4 => k_is)
    (case g_k4 => k_is)
    (case h_k4 => k_is)
    (case n_k4 => k_is)
    (case w_k4 => k_is)
    (case f_k4 => k_is)
    (case y_k4 => k_is)
    (case l_TooMany_init => k_is)
    (case c_TooMany_init => k_is)
    (case q_TooMany_init => k_is)
    (case a_k5 => k_is)
    (case p_k5 => k_is)
    (case i_k5 => first | kernel_rfl | rfl)
    (case o_k5 => first | kernel_rfl | rfl)
    (case d_k5 => k_is)
    (case s_k5 => k_is)
    (case b_k5 => k_is)
    (case t_k5 => k_is)
    (case g_k5 => k_is)
    (case h_k5 => k_is)
    (case n_k5 => k_is)
    (case w_k5 => k_is)
    (case f_k5 => k_is)
    (case y_k5 => k_is)
    (case l_Refused_init => k_is)
    (case c_Refused_init => k_is)
    (case q_Refused_init => k_is)
    (case a_law_pouch => k_is)
    (case l_law_pouch => k_is)
    (case c_law_pouch => k_is)
    (case k_law_pouch => k_is)
    (case a_law_coin => k_is)
    (case l_law_coin => k_is)
    (case c_law_coin => k_is)
    (case k_law_coin => k_is)
    (case a_law_any => k_is)
    (case l_law_any => k_is)
    (case c_law_any => k_is)
    (case k_law_any => k_is)
    (case a_law_plain => k_is)
    (case l_law_plain => k_is)
    (case c_law_plain => k_is)
    (case k_law_plain => k_is)
    (case a_law_own => k_is)
    (case l_law_own => k_is)
    (case c_law_own => k_is)
    (case k_law_own => k_is)
    (case a_law_keeping => k_is)
    (case l_law_keeping => k_is)
    (case c_law_keeping => k_is)
    (case k_law_keeping => k_is)
    (case a_law_kept => k_is)
    (case l_law_kept => k_is)
    (case c_law_kept => k_is)
    (case k_law_kept => k_is)
    (case a_law_caught => k_is)
    (case l_law_caught => k_is)
    (case c_law_caught => k_is)
    (case k_law_caught => k_is)
    (case a_law => k_is)
    (case l_law => k_is)
    (case c_law => k_is)
    (case k_law => k_is)
    (case hcl => rfl)
    (case hPt => first | kernel_rfl | rfl)
    (case hcd => first | kernel_rfl | rfl)
#print axioms PySem.Challenge.cw_poolmaps_k00_errors_keep_what_they_are_m_holds
