import PyProof.Rows.All
import Wide.All
import OpenK.AllK
import Wide.FinOn
import Lean
import PyProof.EqAt
import PyProof.EqKinds
import PyProof.TupleCall
import PyProof.ZipIter
import PyProof.Rows.ZipGen
import PyProof.Rows.SumAny
import PyProof.ConsumeWalk
import PyProof.EqLayable
import PyProof.ReprRoads
import PyProof.P3In
import PyProof.FitsBits
import PyProof.EnumStmt
import PyProof.Rows.EnumRows
import PyProof.ReprLen
import PyProof.Rows.SortShellK
import PyProof.Rows.SortWalk
import PyProof.MinMaxWalk
import PyProof.WalkInts
import PyProof.WalksMore
import PyProof.SeqI3
import PyProof.Rows.TupDisplay
import PyProof.CollectWalk
import PyProof.ListRange
import PyProof.AttrMissHeap
import PyProof.DictUpdate
import KE.KDictOf
import KE.KSortTup
import KE.KSortAsk
import PySem.Challenge.RW_bundleclocks_k40_what_sets_are_worth
theorem L2.sz1 : 1 ≤ PySem.sizeLine := by decide
theorem L2.sz2 : 2 ≤ PySem.sizeLine := by decide
theorem L2.sz3 : 3 ≤ PySem.sizeLine := by decide
theorem L2.sz4 : 4 ≤ PySem.sizeLine := by decide
theorem L2.sz5 : 5 ≤ PySem.sizeLine := by decide
theorem L2.sz6 : 6 ≤ PySem.sizeLine := by decide
theorem lmp {α β : Type _} {as : List α} (f : α → β) : (as.map f).length = as.length := List.length_map f
theorem gEq {α : Type _} {l : List α} {i : Nat} (h : i < l.length) : l[i]? = some l[i] := List.getElem?_eq_getElem h
set_option bootstrap.genMatcherCode false
set_option compiler.extract_closed false
set_option hygiene false
local macro_rules
 | `(tactic| omega) => `(tactic| first | lia | omega (config := {}))
set_option Elab.async false
set_option linter.all false
set_option maxRecDepth 100000
namespace L2
open PySem PySem.Spec PyProof.Rows
noncomputable abbrev Key := Sum Int Str
noncomputable def keyIs : Key → Value → Bool
 | .inl k, v => Value.isInt k v
 | .inr x, v => Value.isStrOf x v
noncomputable def keyH (w : World) : Key → Int
 | .inl k => hashInt k
 | .inr x => hashStr w x
theorem Zbo : ∀ {k : Key} {v : Value}, keyIs k v = true → (∃ i t, k = Sum.inl i ∧ v = Value.int i t) ∨ (∃ x t, k = Sum.inr x ∧ v = Value.str x t)
 | .inl i, v, h => by
  obtain ⟨t, e⟩ := Value.isInt_shape (k := i) (v := v) h
  exact .inl ⟨i, t, rfl, e⟩
 | .inr x, v, h => by
  obtain ⟨t, e⟩ := Value.isStrOf_shape (x := x) (v := v) h
  exact .inr ⟨x, t, rfl, e⟩
theorem Zmz (i : Int) (t : Tok) : keyIs (.inl i) (.int i t) = true := by simp [keyIs, Value.isInt]
theorem Zn0 (x : Str) (t : Tok) : keyIs (.inr x) (.str x t) = true := by simp [keyIs, Value.isStrOf]
theorem Zrp (a b : Int) : decide ((Sum.inl a : Key) = Sum.inl b) = (a == b) := by
 by_cases e : a = b
 ·subst e; simp
 ·have h : ¬ (Sum.inl a : Key) = Sum.inl b := fun q => e (Sum.inl.inj q)
  rw [decide_eq_false h]
  exact (beq_eq_false_iff_ne.mpr e).symm
theorem Zrs (a b : Str) : decide ((Sum.inr a : Key) = Sum.inr b) = decide (a = b) := by
 by_cases e : a = b
 ·subst e; simp
 ·have h : ¬ (Sum.inr a : Key) = Sum.inr b := fun q => e (Sum.inr.inj q)
  rw [decide_eq_false h, decide_eq_false e]
theorem Zrq (a : Int) (b : Str) : decide ((Sum.inl a : Key) = Sum.inr b) = false := decide_eq_false (fun q => nomatch q)
theorem Zrr (a : Str) (b : Int) : decide ((Sum.inr a : Key) = Sum.inl b) = false := decide_eq_false (fun q => nomatch q)
noncomputable def mixKind (prog : Program) (w : World) : PySem.KeyKind prog w Key where
 is := keyIs
 hash := keyH w
 inj := fun v a b ha hb => by
  rcases Zbo ha with ⟨i, t, rfl, rfl⟩ | ⟨x, t, rfl, rfl⟩
  ·rcases Zbo hb with ⟨j, u, rfl, e⟩ | ⟨y, u, rfl, e⟩
   ·injection e with e1 _; rw [e1]
   ·exact nomatch e
  ·rcases Zbo hb with ⟨j, u, rfl, e⟩ | ⟨y, u, rfl, e⟩
   ·exact nomatch e
   ·injection e with e1 _; rw [e1]
 byValue := fun k v h => by
  rcases Zbo h with ⟨i, t, rfl, rfl⟩ | ⟨x, t, rfl, rfl⟩ <;> rfl
 pyHash := fun hv h => by
  rcases Zbo hv with ⟨i, t, rfl, rfl⟩ | ⟨x, t, rfl, rfl⟩
  ·exact wpAny_pyHash_int h
  ·exact wpAny_pyHash_str h
 eqBool := fun hu hv h => by
  rcases Zbo hu with ⟨i, t, rfl, rfl⟩ | ⟨x, t, rfl, rfl⟩
  ·rcases Zbo hv with ⟨j, u, rfl, rfl⟩ | ⟨y, u, rfl, rfl⟩
   ·rw [Zrp] at h; exact wpAny_eqBool_int h
   ·rw [Zrq] at h; exact SeqAt.EqAt.int_str i t y u _ _ _ _ h
  ·rcases Zbo hv with ⟨j, u, rfl, rfl⟩ | ⟨y, u, rfl, rfl⟩
   ·rw [Zrr] at h; exact SeqAt.EqAt.str_int x t j u _ _ _ _ h
   ·rw [Zrs] at h; exact wpAny_eqBool_str h
 «strs» := fun k x t v h => by
  rcases Zbo h with ⟨i, u, rfl, e⟩ | ⟨y, u, rfl, e⟩
  ·exact nomatch e
  ·injection e with e1 _
   subst e1
   cases v <;> rfl
theorem Zjq (prog : Program) (w : World) (i : Int) (t : Tok) : (mixKind prog w).is (.inl i) (.int i t) = true := Zmz i t
theorem Zjr (prog : Program) (w : World) (x : Str) (t : Tok) : (mixKind prog w).is (.inr x) (.str x t) = true := Zn0 x t
end L2
namespace L2
open PySem PySem.Spec PyProof.Rows
inductive V where
 | non | bl (b : Bool) | int (i : Int) | str (x : Str) | byt (b : Array UInt8) | flt (b : UInt64) | ref (a : Addr) | ty (n : String)
 deriving DecidableEq
noncomputable def RelV : V → Value → Prop
 | .non, u => u = Value.none
 | .bl b, u => u = Value.bool b
 | .int i, u => ∃ t, u = Value.int i t
 | .str x, u => ∃ t, u = Value.str x t
 | .byt b, u => ∃ t, u = Value.bytes b t
 | .flt b, u => ∃ t, u = Value.float b t
 | .ref a, u => u = Value.ref a
 | .ty n, u => u = Value.type n
noncomputable abbrev Vals : List V → List Value → Prop := Paired RelV
theorem Vals.length {xs : List V} {us : List Value} (r : Vals xs us) : xs.length = us.length := Paired.length r
theorem Vals.get : ∀ {xs : List V} {us : List Value} {i : Nat} {x : V}, Vals xs us → xs[i]? = some x → ∃ u, us[i]? = some u ∧ RelV x u
 | _, _, _, _, .nil, e => by simp at e
 | _, _, 0, _, .cons r _, e => by simp at e; subst e; exact ⟨_, rfl, r⟩
 | _, _, i + 1, x, .cons _ t, e => by
  obtain ⟨u, h1, h2⟩ := Vals.get (i := i) (x := x) t (by simpa using e)
  exact ⟨u, by simpa using h1, h2⟩
theorem Vals.set {x : V} {u : Value} (r : RelV x u) : ∀ {xs : List V} {us : List Value} (i : Nat), Vals xs us → Vals (xs.set i x) (us.set i u)
 | _, _, _, .nil => .nil
 | _, _, 0, .cons _ t => .cons r t
 | _, _, i + 1, .cons q t => .cons q (Vals.set r i t)
theorem Vals.append : ∀ {xs ys : List V} {us ws : List Value}, Vals xs us → Vals ys ws → Vals (xs ++ ys) (us ++ ws)
 | _, _, _, _, .nil, s => s
 | _, _, _, _, .cons r t, s => .cons r (Vals.append t s)
theorem Vals.take : ∀ {xs : List V} {us : List Value} (n : Nat), Vals xs us → Vals (xs.take n) (us.take n)
 | _, _, 0, _ => .nil
 | _, _, _ + 1, .nil => .nil
 | _, _, n + 1, .cons r t => .cons r (Vals.take n t)
theorem Vals.drop : ∀ {xs : List V} {us : List Value} (n : Nat), Vals xs us → Vals (xs.drop n) (us.drop n)
 | _, _, 0, r => r
 | _, _, _ + 1, .nil => .nil
 | _, _, n + 1, .cons _ t => Vals.drop n t
noncomputable def RelO : Option V → Option Value → Prop
 | some v, some u => RelV v u
 | none, none => True
 | _, _ => False
noncomputable def KV {κ : Type} : List (κ × V) → List (κ × Value) → Prop := Paired fun (p : κ × V) (q : κ × Value) => p.1 = q.1 ∧ RelV p.2 q.2
noncomputable def kV : Key → V
 | .inl i => .int i
 | .inr x => .str x
inductive HO where
 /-- a list -/
 | lst (xs : List V)
 /-- a tuple (never changes) -/
 | tup (xs : List V)
 /-- a dict whose keys are ints and texts; one whose keys are tuples of ints and texts (the empty one is both) -/
 | dK (kvs : List (Key × V)) | dT (kvs : List (List Key × V))
 /-- a set of ints: its members, its size -/
 | set (S : Int → Bool) (n : Nat)
 /-- an instance of the class at C, its dict at dx, its attributes -/
 | ins (C dx : Addr) (fs : List (Str × V))
 /-- the dict of the instance at x -/
 | own (x : Addr)
 /-- the dict of an exception -/
 | xd (fs : List (Str × V))
 /-- a bound method, f of x -/
 | met (f x : Addr)
 /-- a range object lo, lo + 1, .. below hi -/
 | rng (lo hi : Int)
 /-- a thing that is known to the object (the script; a dict while a loop walks it): read, never written while it is so -/
 | frz (o : Obj) (u : HO)
 /-- a code object's table -/
 | tbl (ps : Array Value)
 /-- any other thing, by what is true of its one object (a def of one's own: SetO a S n := HO.ext fun h => ..) -/
 | ext (φ : Heap → Prop)
noncomputable abbrev Hp := Addr → Option HO
noncomputable def upd (H : Hp) (a : Addr) (o : HO) : Hp := fun b => if b = a then some o else H b
theorem Zax {H : Hp} {a : Addr} {o : HO} : upd H a o a = some o := by unfold upd; rw [if_pos rfl]
theorem Zah {H : Hp} {a b : Addr} {o : HO} (h : b ≠ a) : upd H a o b = H b := by unfold upd; rw [if_neg h]
theorem Zrv {H : Hp} {a b : Addr} {o u : HO} (h : H a = some o) (h' : H b = some u) (d : o ≠ u) : a ≠ b := by
 intro e; subst e; rw [h] at h'; exact d (Option.some.inj h')
theorem Zcg {H : Hp} {a b : Addr} {o : HO} (h : H a = some o) (h' : H b = none) : a ≠ b := by
 intro e; subst e; rw [h] at h'; cases h'
section
variable (P : Program) (w : World)
noncomputable def ObjOk (H : Hp) (h : Heap) (a : Addr) : HO → Prop
 | .lst xs => xs.length ≤ sizeLine ∧ ∃ (its : List Value) (n : Nat), Vals xs its ∧ h.get? a = some { cls := .type "list", data := .seq its.toArray n }
 | .tup xs => xs.length ≤ sizeLine ∧ ∃ its : List Value, Vals xs its ∧ IsTup h a its.toArray
 | .dK kvs => kvs.length ≤ sizeLine ∧ (a == sysModules) = false ∧ ∃ vs, KV kvs vs ∧ h.DictOf (mixKind P w) a vs
 | .dT kvs => kvs.length ≤ sizeLine ∧ (a == sysModules) = false ∧ ∃ xs : List (List Key × Addr × Value),
   Paired (fun (p : List Key × V) (q : List Key × Addr × Value) => p.1 = q.1 ∧ H q.2.1 = some (.tup (p.1.map kV)) ∧ RelV p.2 q.2.2) kvs xs ∧
   ∃ o es ep, h.get? a = some o ∧ o.ExactDict ∧ o.data = .dict es ep ∧ es.toList = xs.map (entryOfKey (tupleKind (mixKind P w))) ∧ (xs.map (·.1)).Nodup
 | .set S n => h.SetOf (intKind P w) a S n
 | .ins C dx fs => H dx = some (.own a) ∧ fs.length ≤ 1000 ∧ dx ≠ a ∧ h.get? a = some (PySem.W.instObj C dx) ∧
   ∃ mA, h.Ns1 dx mA ∧ (∀ f, RelO (fs.lookup f) (mA f)) ∧ PySem.Within mA (fs.map (·.1))
 | .own _ => ∃ o, h.get? a = some o
 | .xd fs => ∃ mA, h.Ns1 a mA ∧ ∀ f, RelO (fs.lookup f) (mA f)
 | .rng lo hi => ∃ t u v, h.get? a = some { cls := .type "range", data := .fields #[.int lo t, .int hi u, .int 1 v] }
 | .frz o u => h.get? a = some o ∧ ObjOk H h a u
 | .tbl ps => h.get? a = some { cls := .none, data := .fields ps }
 | .met f x => h.get? a = some (PySem.W.methodObj (.ref f) (.ref x))
 | .ext φ => φ h ∧ (∃ o, h.get? a = some o) ∧ ∀ h1 h2 : Heap, φ h1 → (∀ o, h1.get? a = some o → h2.get? a = some o) → φ h2
noncomputable def HOk (H : Hp) (h : Heap) : Prop := ∀ a o, H a = some o → ObjOk P w H h a o
end
section
variable {P : Program} {w : World} {H H' : Hp} {h h' : Heap} {a : Addr} {o : HO}
theorem ObjOk.lt (x : ObjOk P w H h a o) : a < h.objs.size := by
 cases o with
 | lst xs => obtain ⟨_, _, _, _, e⟩ := x; exact Heap.lt_size e
 | tup xs => obtain ⟨_, _, _, p⟩ := x; exact p.lt
 | dK kvs => obtain ⟨_, _, _, _, o, _, _, e, _⟩ := x; exact Heap.lt_size e
 | dT kvs => obtain ⟨_, _, _, _, o, _, _, e, _⟩ := x; exact Heap.lt_size e
 | set S n => obtain ⟨o, _, _, _, e, _⟩ := x; exact Heap.lt_size e
 | ins C dx fs => obtain ⟨_, _, _, e, _⟩ := x; exact Heap.lt_size e
 | own y => obtain ⟨_, e⟩ := x; exact Heap.lt_size e
 | xd fs => obtain ⟨_, ⟨_, _, _, e, _⟩, _⟩ := x; exact Heap.lt_size e
 | rng lo hi => obtain ⟨_, _, _, e⟩ := x; exact Heap.lt_size e
 | frz ob u => obtain ⟨e, _⟩ := x; exact Heap.lt_size e
 | tbl ps => exact Heap.lt_size (show h.get? a = some _ from x)
 | met f y => exact Heap.lt_size (show h.get? a = some _ from x)
 | ext φ => obtain ⟨_, ⟨_, e⟩, _⟩ := x; exact Heap.lt_size e
theorem Paired.mapP {α β : Type} {F G : α → β → Prop} : ∀ {l₁ : List α} {l₂ : List β}, Paired F l₁ l₂ → (∀ a b, F a b → G a b) → Paired G l₁ l₂
 | _, _, .nil, _ => .nil
 | _, _, .cons r t, f => .cons (f _ _ r) (Paired.mapP t f)
theorem ObjOk.stay (x : ObjOk P w H h a o) (k : ∀ b u, (b = a ∨ H b = some (.own a)) → h.get? b = some u → h'.get? b = some u)
  (ho : ∀ b, H b = some (.own a) → H' b = some (.own a)) (ht : ∀ b xs, H b = some (.tup xs) → H' b = some (.tup xs)) : ObjOk P w H' h' a o := by
 induction o with
 | lst xs => obtain ⟨z, its, n, r, e⟩ := x; exact ⟨z, its, n, r, k _ _ (.inl rfl) e⟩
 | tup xs => obtain ⟨z, its, r, ob, e, c⟩ := x; exact ⟨z, its, r, ob, k _ _ (.inl rfl) e, c⟩
 | dK kvs => obtain ⟨z, y, vs, r, ob, es, ep, e, c⟩ := x; exact ⟨z, y, vs, r, ob, es, ep, k _ _ (.inl rfl) e, c⟩
 | dT kvs =>
  obtain ⟨z, y, xs, r, ob, es, ep, e, c⟩ := x
  exact ⟨z, y, xs, Paired.mapP r fun p q z => ⟨z.1, ht _ _ z.2.1, z.2.2⟩, ob, es, ep, k _ _ (.inl rfl) e, c⟩
 | set S n => obtain ⟨ob, es, ep, t, e, c⟩ := x; exact ⟨ob, es, ep, t, k _ _ (.inl rfl) e, c⟩
 | ins C dx fs =>
  obtain ⟨d, z, ne, e, mA, ⟨od, es, ep, e2, c⟩, r⟩ := x
  exact ⟨ho _ d, z, ne, k _ _ (.inl rfl) e, mA, ⟨od, es, ep, k _ _ (.inr d) e2, c⟩, r⟩
 | own y => obtain ⟨ob, e⟩ := x; exact ⟨ob, k _ _ (.inl rfl) e⟩
 | xd fs => obtain ⟨mA, ⟨od, es, ep, e, c⟩, r⟩ := x; exact ⟨mA, ⟨od, es, ep, k _ _ (.inl rfl) e, c⟩, r⟩
 | rng lo hi => obtain ⟨t, u, v, e⟩ := x; exact ⟨t, u, v, k _ _ (.inl rfl) e⟩
 | frz ob u ih => obtain ⟨e, q⟩ := x; exact ⟨k _ _ (.inl rfl) e, ih q⟩
 | tbl ps =>
  have e : h.get? a = some { cls := .none, data := .fields ps } := x
  show h'.get? a = some { cls := .none, data := .fields ps }
  exact k a _ (.inl rfl) e
 | met f y =>
  have e : h.get? a = some (PySem.W.methodObj (.ref f) (.ref y)) := x
  show h'.get? a = some (PySem.W.methodObj (.ref f) (.ref y))
  exact k a _ (.inl rfl) e
 | ext φ => obtain ⟨p, ⟨o, e⟩, st⟩ := x; exact ⟨st _ _ p fun o q => k _ _ (.inl rfl) q, ⟨o, k _ _ (.inl rfl) e⟩, st⟩
theorem HOk.lt (x : HOk P w H h) (e : H a = some o) : a < h.objs.size := (x a o e).lt
theorem HOk.fresh (x : HOk P w H h) (e : h.objs.size ≤ a) : H a = none := by
 cases q : H a with
 | none => rfl
 | some u => exact absurd (Nat.lt_of_lt_of_le (x.lt q) e) (Nat.lt_irrefl _)
theorem HOk.kept (x : HOk P w H h) (k : ∀ b u, h.get? b = some u → h'.get? b = some u) : HOk P w H h' := fun a o e =>
 (x a o e).stay (fun b u _ q => k b u q) (fun _ q => q) fun _ _ q => q
theorem HOk.laid (x : HOk P w H h) (k : ∀ b u, h.get? b = some u → h'.get? b = some u) (hp : h.objs.size ≤ a) (new : ObjOk P w (upd H a o) h' a o) : HOk P w (upd H a o) h' := fun b u e => by
 have hn := x.fresh hp
 by_cases hb : b = a
 ·subst hb; rw [Zax] at e; cases e; exact new
 ·rw [Zah hb] at e
  exact (x b u e).stay (fun c v _ q => k c v q) (fun c q => by rw [Zah (Zcg q hn)]; exact q) fun c xs q => by rw [Zah (Zcg q hn)]; exact q
end
noncomputable def Rd (H : Hp) (a : Addr) (u : HO) : Prop := H a = some u ∨ ∃ o, H a = some (.frz o u)
theorem Rd.of {H : Hp} {a : Addr} {u : HO} (h : H a = some u) : Rd H a u := .inl h
theorem Rd.ok {P : Program} {w : World} {H : Hp} {h : Heap} {a : Addr} {u : HO} (r : Rd H a u) (x : HOk P w H h) : ObjOk P w H h a u := by
 rcases r with r | ⟨o, r⟩
 ·exact x a u r
 ·obtain ⟨_, q⟩ := x a _ r
  exact q
noncomputable def Mut : Option HO → Prop
 | some (.lst _) => True
 | some (.dK _) => True
 | some (.dT _) => True
 | some (.set _ _) => True
 | some (.ins _ _ _) => True
 | some (.ext _) => True
 | _ => False
section
variable {P : Program} {w : World} {H : Hp} {h h' : Heap} {x e : Addr} {o' : HO}
theorem HOk.write (ok : HOk P w H h) (mu : Mut (H x)) (he : e = x ∨ H e = some (.own x)) (k : ∀ b u, b ≠ e → h.get? b = some u → h'.get? b = some u) (heo : ∃ u, h'.get? e = some u)
  (new : ObjOk P w (upd H x o') h' x o') : HOk P w (upd H x o') h' := fun b u q => by
 have nown : ∀ c y, H c = some (.own y) → c ≠ x := fun c y r z => by subst z; rw [r] at mu; exact mu
 have ntup : ∀ c xs, H c = some (.tup xs) → c ≠ x := fun c xs r z => by subst z; rw [r] at mu; exact mu
 by_cases hb : b = x
 ·subst hb; rw [Zax] at q; cases q; exact new
 ·rw [Zah hb] at q
  by_cases hbe : b = e
  ·have q' : H b = some (.own x) := by
    rcases he with z | z
    ·exact absurd (hbe.trans z) hb
    ·rw [hbe]; exact z
   rw [q] at q'; cases q'
   obtain ⟨v, hv⟩ := heo
   exact ⟨v, by rw [hbe]; exact hv⟩
  ·refine (ok b u q).stay (fun c v hc r => k c v ?_ r) (fun c r => by rw [Zah (nown c b r)]; exact r) fun c xs r => by rw [Zah (ntup c xs r)]; exact r
   rcases hc with rfl | hc
   ·exact hbe
   ·rintro rfl
    rcases he with z | z
    ·exact nown c b hc z
    ·rw [hc] at z; cases z; exact hb rfl
end
structure Un (fs ex : List Addr) (H H' : Hp) (h h' : Heap) : Prop where
 keep : ∀ b o, h.get? b = some o → H b = none → b ∉ fs → b ∉ ex → h'.get? b = some o
 slot : ∀ b o, h.get? b = some o → H b = none → b ∈ fs → b ∉ ex → ∃ sl, h'.get? b = some { o with slots := sl }
 free : ∀ b o, h.get? b = some o → H b = none → b ∉ ex → H' b = none
 there : ∀ b o, h.get? b = some o → b ∉ ex → ∃ o', h'.get? b = some o'
 tups : ∀ b xs, H b = some (.tup xs) → H' b = some (.tup xs)
 frzs : ∀ b o u, H b = some (.frz o u) → H' b = some (.frz o u)
 tbls : ∀ b ps, H b = some (.tbl ps) → ∃ more, H' b = some (.tbl (ps ++ more))
section
variable {fs fs' ex ex' : List Addr} {H H1 H2 : Hp} {h h1 h2 h' : Heap} {a x e : Addr} {o : HO}
theorem Un.any (u : Un fs ex H H1 h h1) {b : Addr} {ob : Obj} (q : h.get? b = some ob) (n : H b = none) (hx : b ∉ ex) : ∃ sl, h1.get? b = some { ob with slots := sl } := by
 by_cases hb : b ∈ fs
 ·exact u.slot b ob q n hb hx
 ·exact ⟨ob.slots, u.keep b ob q n hb hx⟩
theorem Un.trans (a : Un fs ex H H1 h h1) (b : Un fs ex H1 H2 h1 h2) : Un fs ex H H2 h h2 where
 keep := fun c ob q n hc hx => b.keep c ob (a.keep c ob q n hc hx) (a.free c ob q n hx) hc hx
 slot := fun c ob q n hc hx => by
  obtain ⟨sl, e1⟩ := a.slot c ob q n hc hx
  obtain ⟨sl', e2⟩ := b.slot c _ e1 (a.free c ob q n hx) hc hx
  exact ⟨sl', e2⟩
 free := fun c ob q n hx => by
  obtain ⟨o', e1⟩ := a.there c ob q hx
  exact b.free c o' e1 (a.free c ob q n hx) hx
 there := fun c ob q hx => by
  obtain ⟨o', e1⟩ := a.there c ob q hx
  exact b.there c o' e1 hx
 tups := fun c xs q => b.tups c xs (a.tups c xs q)
 frzs := fun c ob xs q => b.frzs c ob xs (a.frzs c ob xs q)
 tbls := fun c ps q => by
  obtain ⟨m1, e1⟩ := a.tbls c ps q
  obtain ⟨m2, e2⟩ := b.tbls c _ e1
  exact ⟨m1 ++ m2, by rw [e2, Array.append_assoc]⟩
theorem Un.kept (k : ∀ b u, h.get? b = some u → h'.get? b = some u) : Un fs ex H H h h' :=
 ⟨fun b ob q _ _ _ => k b ob q, fun b ob q _ _ _ => ⟨ob.slots, k b ob q⟩, fun _ _ _ n _ => n, fun b ob q _ => ⟨ob, k b ob q⟩, fun _ _ q => q, fun _ _ _ q => q, fun _ ps q => ⟨#[], by rw [q]; simp⟩⟩
theorem Un.refl : Un fs ex H H h h := Un.kept fun _ _ q => q
theorem Un.laid (k : ∀ b u, h.get? b = some u → h'.get? b = some u) (hp : h.objs.size ≤ a) (hn : H a = none) : Un fs ex H (upd H a o) h h' where
 keep := fun b u q _ _ _ => k b u q
 slot := fun b u q _ _ _ => ⟨u.slots, k b u q⟩
 free := fun b u q n _ => by rw [Zah (Nat.ne_of_lt (Nat.lt_of_lt_of_le (Heap.lt_size q) hp))]; exact n
 there := fun b u q _ => ⟨u, k b u q⟩
 tups := fun b xs q => by rw [Zah (Zcg q hn)]; exact q
 frzs := fun b u xs q => by rw [Zah (Zcg q hn)]; exact q
 tbls := fun b ps q => ⟨#[], by rw [Zah (Zcg q hn), q]; simp⟩
theorem Un.write (mu : Mut (H x)) (he : e = x ∨ H e = some (.own x)) (k : ∀ b u, b ≠ e → h.get? b = some u → h'.get? b = some u) (heo : ∃ u, h'.get? e = some u) : Un fs ex H (upd H x o) h h' := by
 have hx : ∀ b, H b = none → b ≠ x := fun b n z => by subst z; rw [n] at mu; exact mu
 have hb : ∀ b, H b = none → b ≠ e := fun b n z => by
  subst z
  rcases he with r | r
  ·exact hx b n r
  ·rw [n] at r; cases r
 have hm : ∀ b u, H b = some u → ¬ Mut (some u) → b ≠ x := fun b u q nm z => by subst z; rw [q] at mu; exact nm mu
 refine ⟨fun b u q n _ _ => k b u (hb b n) q, fun b u q n _ _ => ⟨u.slots, k b u (hb b n) q⟩, fun b u q n _ => by rw [Zah (hx b n)]; exact n, fun b u q _ => ?_,
  fun b xs q => by rw [Zah (hm b _ q fun z => z)]; exact q, fun b u xs q => by rw [Zah (hm b _ q fun z => z)]; exact q, fun b ps q => ⟨#[], by rw [Zah (hm b _ q fun z => z), q]; simp⟩⟩
 by_cases hbe : b = e
 ·subst hbe; exact heo
 ·exact ⟨u, k b u hbe q⟩
end
noncomputable def trk (h : Heap) (H : Hp) : List Addr := (List.range h.objs.size).filter fun a => (H a).isSome
noncomputable def hidT (h : Heap) (H : Hp) : Heap := PySem.W.hideAll h (trk h H)
theorem Zmu (h : Heap) (H : Hp) : (hidT h H).objs.size = h.objs.size := PySem.W.hideAll_size _ _
theorem Zof {h : Heap} {H : Hp} {b : Addr} {o : Obj} (e : h.get? b = some o) (n : H b = none) : (hidT h H).get? b = some o :=
 PySem.W.hideAll_get _ e fun hm => by
  have q : (H b).isSome = true := (List.mem_filter.mp hm).2
  rw [n] at q; simp at q
theorem Zqc {h : Heap} {H : Hp} {b : Addr} {o : Obj} (e : (hidT h H).get? b = some o) : h.get? b = some o ∧ H b = none := by
 have e' : h.get? b = some o := PySem.W.of_hideAll (trk h H) e
 refine ⟨e', ?_⟩
 cases q : H b with
 | none => rfl
 | some x =>
  have hm : b ∈ trk h H := List.mem_filter.mpr ⟨List.mem_range.mpr (Heap.lt_size e'), by simp [q]⟩
  have z : (hidT h H).get? b = none := PySem.W.hideAll_none (trk h H) hm
  rw [z] at e; cases e
noncomputable def allNews (g h : Heap) (L : Addr) : List (Addr × Obj) := (List.range h.objs.size).filterMap fun a => if a = L ∨ (g.get? a).isSome = true then none else (h.get? a).map fun o => (a, o)
noncomputable def rest (g h : Heap) (L d : Addr) : List (Addr × Obj) := (allNews g h L).filter fun p => decide (p.1 ≠ d)
end L2
namespace L2
open PySem PySem.Spec PyProof.Rows
structure Mod (K : PySem.W.Frag) (mg : Str → Option Value) (base : Heap) : Prop where
 kin : K.In base
 glob : base.Ns mainGlobals mg
 blt : ∃ mb, base.Ns builtinsNs mb ∧ ∀ x : Str, x ≠ "__name__" → mb x = bootBuiltins x
 nolimit : base.NoLimit
structure Cx where
 prog : Program
 w : World
 K : PySem.W.Frag
 mg : Str → Option Value
 base : Heap
 A : Around
 N : List Str
 s₀ : Shared
 H₀ : Hp
 env : Env
 outer : List Env
 stack : List Env
 ex : List Addr
 fn : Str → Bool
 calm : Bool
 pn : List (Addr × Obj)
 xe : Value → Shared → Prop
noncomputable def frs (l : List Env) : List Addr := l.filterMap (·.frame)
noncomputable abbrev Cx.fs (X : Cx) : List Addr := frs X.outer
noncomputable def Vis (sc : Scope) (x : Str) : Prop := sc.names.lookup x = some .local ∨ sc.names.lookup x = some .cell ∨ sc.names.lookup x = some .free
noncomputable def Loc (sc : Scope) (x : Str) : Prop := sc.names.lookup x = some .local ∨ sc.names.lookup x = some .cell
noncomputable def Look (env : Env) (h : Heap) (m : Str → Option Value) (x : Str) (u : Value) : Prop :=
 (env.kindOf x = some .local ∧ m x = some u) ∨ ((env.kindOf x = some .cell ∨ env.kindOf x = some .free) ∧ ∃ c, env.cells.lookup x = some c ∧ h.IsCell c (some u))
structure Cx.Ok (X : Cx) : Prop where
 mod : Mod X.K X.mg X.base
 kind : X.env.scope.kind = .function
 glob : X.env.globals = mainGlobals
 blt : X.env.builtins = builtinsNs
 above : X.s₀.heap.objs.size ≤ X.env.locals
 inj : ∀ x y c, X.env.cells.lookup x = some c → X.env.cells.lookup y = some c → x = y
 has : ∀ x, (X.env.kindOf x = some .cell ∨ X.env.kindOf x = some .free) → ∃ c, X.env.cells.lookup x = some c
 cab : ∀ x c, X.fn x = true → X.env.cells.lookup x = some c → X.s₀.heap.objs.size ≤ c
 hd : X.calm = true → X.A.handled = none
 frames : X.A.frames = some X.stack
 stk : X.stack = X.outer ∨ (X.stack = X.env :: X.outer ∧ X.env.frame = some X.env.locals)
 exf : ∀ b ∈ X.ex, b ≠ X.env.locals ∧ ∀ x c, X.env.cells.lookup x = some c → c ≠ b
 bs : ∀ b o, X.base.get? b = some o → X.s₀.heap.get? b = some o ∧ X.H₀ b = none
 bsz : X.base.objs.size ≤ X.s₀.heap.objs.size
 noex : ∀ b o, X.base.get? b = some o → b ∉ X.ex
 exfs : ∀ b ∈ X.ex, b ∉ X.fs
 funs : X.s₀.heap.FunFrames X.base X.outer
 frf : ∀ b ∈ X.fs, X.H₀ b = none
structure Inv (X : Cx) (pins : List (Addr × Obj)) (σ : List (Option V)) (H : Hp) (s : Shared) : Prop where
 ok : X.Ok
 os : s.os = X.s₀.os
 bare : AllBare s.gens
 base : Un X.fs X.ex X.H₀ H X.s₀.heap s.heap
 loc : ∃ m, s.heap.Ns X.env.locals m ∧ ∀ (i : Nat) (x : Str) (v : V), X.N[i]? = some x → σ[i]? = some (some v) → Vis X.env.scope x → ∃ u, RelV v u ∧ Look X.env s.heap m x u
 cell : ∀ x c, X.env.cells.lookup x = some c → ∃ v, s.heap.IsCell c v
 free : H X.env.locals = none
 freeC : ∀ x c, X.env.cells.lookup x = some c → H c = none
 pin : ∀ p ∈ X.pn ++ pins, s.heap.get? p.1 = some p.2 ∧ H p.1 = none ∧ p.1 ≠ X.env.locals ∧ p.1 ∉ X.fs ∧ ∀ v, p.2.data ≠ .cell v
 hok : HOk X.prog X.w H s.heap
 len : σ.length = X.N.length
section
variable {X : Cx} {pins : List (Addr × Obj)} {σ : List (Option V)} {H H' : Hp} {s : Shared} {h' : Heap}
theorem Cx.Ok.nofr (ok : X.Ok) {b : Addr} {o : Obj} (e : X.base.get? b = some o) : b ∉ X.fs := fun hb => by
 have := (ok.funs.mem hb).1
 rw [e] at this; cases this
theorem Inv.bs (I : Inv X pins σ H s) : ∀ b o, X.base.get? b = some o → s.heap.get? b = some o ∧ H b = none := fun b o e =>
 ⟨I.base.keep b o (I.ok.bs b o e).1 (I.ok.bs b o e).2 (I.ok.nofr e) (I.ok.noex b o e), I.base.free b o (I.ok.bs b o e).1 (I.ok.bs b o e).2 (I.ok.noex b o e)⟩
theorem Inv.bk (I : Inv X pins σ H s) : ∀ b o, X.base.get? b = some o → s.heap.get? b = some o := fun b o e => (I.bs b o e).1
theorem Inv.mod (I : Inv X pins σ H s) : Mod X.K X.mg X.base := I.ok.mod
theorem Inv.kIn (I : Inv X pins σ H s) : X.K.In s.heap := I.ok.mod.kin.keeps I.bk
theorem Inv.nolimit (I : Inv X pins σ H s) : s.heap.NoLimit := I.ok.mod.nolimit.keeps I.bk
theorem Inv.lt (I : Inv X pins σ H s) : X.env.locals < s.heap.objs.size := let ⟨_, hn, _⟩ := I.loc; hn.lt
theorem Inv.sz (I : Inv X pins σ H s) : X.s₀.heap.objs.size ≤ s.heap.objs.size := Nat.le_trans I.ok.above (Nat.le_of_lt I.lt)
theorem Inv.nofs (I : Inv X pins σ H s) {a : Addr} (h : s.heap.objs.size ≤ a) : a ∉ X.fs := fun hb => by
 obtain ⟨_, o, ho, _⟩ := I.ok.funs.mem hb
 exact absurd (Nat.lt_of_lt_of_le (Heap.lt_size ho) (Nat.le_trans I.sz h)) (Nat.lt_irrefl _)
theorem Inv.cne (I : Inv X pins σ H s) : ∀ x c, X.env.cells.lookup x = some c → c ≠ X.env.locals := fun x c e z => by
 obtain ⟨v, o, ho, hd⟩ := I.cell x c e
 obtain ⟨m, ⟨o', es, ep, ho', hd', _⟩, _⟩ := I.loc
 rw [z, ho'] at ho; cases ho; rw [hd'] at hd; cases hd
theorem Inv.funs (I : Inv X pins σ H s) : s.heap.FunFrames X.base X.outer := by
 have all : ∀ (l : List Env), (∀ b ∈ frs l, b ∈ X.fs) → X.s₀.heap.FunFrames X.base l → s.heap.FunFrames X.base l := by
  intro l
  induction l with
  | nil => intro _ _; trivial
  | cons env r ih =>
   intro hs hl
   obtain ⟨hk, ⟨L, o, hf, hn, ho, hd⟩, hr⟩ := hl
   have hL : L ∈ X.fs := hs L (by unfold frs; rw [List.filterMap_cons, hf]; exact List.mem_cons_self)
   obtain ⟨sl, e⟩ := I.base.slot L o ho (I.ok.frf L hL) hL fun z => I.ok.exfs L z hL
   exact ⟨hk, ⟨L, _, hf, hn, e, hd⟩, ih (fun b hb => hs b (by unfold frs; rw [List.filterMap_cons, hf]; exact List.mem_cons_of_mem _ hb)) hr⟩
 exact all X.outer (fun _ hb => hb) I.ok.funs
theorem Inv.stack (I : Inv X pins σ H s) : s.heap.FunFrames X.base X.stack := by
 rcases I.ok.stk with e | ⟨e, hf⟩
 ·rw [e]; exact I.funs
 ·rw [e]
  obtain ⟨m, hn, _⟩ := I.loc
  refine .cons (by rw [I.ok.kind]; decide) hf hn ?_ I.funs
  exact Heap.get?_none_of_le (Nat.le_trans I.ok.bsz I.ok.above)
theorem Inv.stkSub (I : Inv X pins σ H s) : ∀ b ∈ frs X.stack, b ∈ X.env.locals :: X.fs := fun b hb => by
 rcases I.ok.stk with e | ⟨e, hf⟩
 ·rw [e] at hb; exact List.mem_cons_of_mem _ hb
 ·rw [e] at hb
  unfold frs at hb
  rw [List.filterMap_cons, hf] at hb
  exact hb
theorem Inv.stkFree (I : Inv X pins σ H s) : ∀ b ∈ frs X.stack, H b = none := fun b hb => by
 rcases List.mem_cons.mp (I.stkSub b hb) with e | hb
 ·rw [e]; exact I.free
 ·obtain ⟨_, o, ho, _⟩ := I.ok.funs.mem hb
  exact I.base.free b o ho (I.ok.frf b hb) fun z => I.ok.exfs b z hb
theorem Inv.step {g' : Array GenState} {t' : Nat} {d' : Drawn} {ch : List Addr} (I : Inv X pins σ H s)
  (hch : ∀ b ∈ ch, (b ∈ X.ex ∨ X.s₀.heap.objs.size ≤ b) ∧ b ≠ X.env.locals ∧ (∀ x c, X.env.cells.lookup x = some c → c ≠ b) ∧ ∀ p ∈ X.pn ++ pins, p.1 ≠ b)
  (keep : ∀ b o, b ≠ X.env.locals → b ∉ X.fs → b ∉ ch → s.heap.get? b = some o → H b = none → h'.get? b = some o)
  (slot : ∀ b o, b ≠ X.env.locals → b ∈ X.fs → b ∉ ch → s.heap.get? b = some o → H b = none → ∃ sl, h'.get? b = some { o with slots := sl }) (free : ∀ b o, b ∉ ch → s.heap.get? b = some o → H b = none → H' b = none)
  (there : ∀ b o, b ∉ ch → s.heap.get? b = some o → ∃ o', h'.get? b = some o')
  (tups : ∀ b xs, H b = some (.tup xs) → H' b = some (.tup xs)) (frzs : ∀ b o u, H b = some (.frz o u) → H' b = some (.frz o u)) (tbls : ∀ b ps, H b = some (.tbl ps) → ∃ more, H' b = some (.tbl (ps ++ more)))
  (ns : ∀ m, s.heap.Ns X.env.locals m → h'.Ns X.env.locals m) (hok : HOk X.prog X.w H' h') (hg : AllBare g') :
  Inv X pins σ H' { s with heap := h', gens := g', drawn := d', toks := t' } := by
 have neL : ∀ b o, X.s₀.heap.get? b = some o → b ≠ X.env.locals := fun b o e => Nat.ne_of_lt (Nat.lt_of_lt_of_le (Heap.lt_size e) I.ok.above)
 have neC : ∀ b o, X.s₀.heap.get? b = some o → b ∉ X.ex → b ∉ ch := fun b o e hx hb => by
  rcases (hch b hb).1 with z | z
  ·exact hx z
  ·exact absurd (Nat.lt_of_lt_of_le (Heap.lt_size e) z) (Nat.lt_irrefl _)
 have cellK : ∀ x c, X.env.cells.lookup x = some c → ∀ v, s.heap.IsCell c v → h'.IsCell c v := fun x c e v ⟨o, ho, hd⟩ => by
  have nch : c ∉ ch := fun z => (hch c z).2.2.1 x c e rfl
  by_cases hc : c ∈ X.fs
  ·obtain ⟨sl, q⟩ := slot c o (I.cne x c e) hc nch ho (I.freeC x c e)
   exact ⟨_, q, hd⟩
  ·exact ⟨o, keep c o (I.cne x c e) hc nch ho (I.freeC x c e), hd⟩
 refine ⟨I.ok, I.os, hg, ⟨fun b o e n hb hx => ?_, fun b o e n hb hx => ?_, fun b o e n hx => ?_, fun b o e hx => ?_, fun b xs e => tups b xs (I.base.tups b xs e), fun b o xs e => frzs b o xs (I.base.frzs b o xs e), fun b ps e => ?_⟩, ?_, fun x c e => ?_, ?_, fun x c e => ?_, fun p hp => ?_, hok, I.len⟩
 ·exact keep b o (neL b o e) hb (neC b o e hx) (I.base.keep b o e n hb hx) (I.base.free b o e n hx)
 ·obtain ⟨sl, e1⟩ := I.base.slot b o e n hb hx
  obtain ⟨sl', e2⟩ := slot b _ (neL b o e) hb (neC b o e hx) e1 (I.base.free b o e n hx)
  exact ⟨sl', e2⟩
 ·obtain ⟨o', e1⟩ := I.base.there b o e hx
  exact free b o' (neC b o e hx) e1 (I.base.free b o e n hx)
 ·obtain ⟨o', e1⟩ := I.base.there b o e hx
  exact there b o' (neC b o e hx) e1
 ·obtain ⟨m1, e1⟩ := I.base.tbls b ps e
  obtain ⟨m2, e2⟩ := tbls b _ e1
  exact ⟨m1 ++ m2, by rw [e2, Array.append_assoc]⟩
 ·obtain ⟨m, hn, hl⟩ := I.loc
  refine ⟨m, ns m hn, fun i x v e1 e2 e3 => ?_⟩
  obtain ⟨u, r, l⟩ := hl i x v e1 e2 e3
  refine ⟨u, r, ?_⟩
  rcases l with l | ⟨k, c, e, z⟩
  ·exact .inl l
  ·exact .inr ⟨k, c, e, cellK x c e _ z⟩
 ·obtain ⟨v, z⟩ := I.cell x c e
  exact ⟨v, cellK x c e v z⟩
 ·obtain ⟨m, ⟨o, _, _, ho, _⟩, _⟩ := I.loc
  exact free _ o (fun z => (hch _ z).2.1 rfl) ho I.free
 ·obtain ⟨v, o, ho, hd⟩ := I.cell x c e
  exact free c o (fun z => (hch c z).2.2.1 x c e rfl) ho (I.freeC x c e)
 ·obtain ⟨e, n, ne, nf, d⟩ := I.pin p hp
  have nch : p.1 ∉ ch := fun z => (hch p.1 z).2.2.2 p hp rfl
  exact ⟨keep p.1 p.2 ne nf nch e n, free p.1 p.2 nch e n, ne, nf, d⟩
theorem Inv.un {t' : Nat} (I : Inv X pins σ H s) (u : Un X.fs [] H H' s.heap h') (hok : HOk X.prog X.w H' h') : Inv X pins σ H' { s with heap := h', toks := t' } := by
 obtain ⟨m, ⟨o, es, ep, ho, r⟩, _⟩ := id I.loc
 obtain ⟨sl, hL⟩ := u.any ho I.free (by simp)
 exact I.step (g' := s.gens) (d' := s.drawn) (ch := []) (fun _ z => nomatch z) (fun b o _ hb _ e n => u.keep b o e n hb (by simp)) (fun b o _ hb _ e n => u.slot b o e n hb (by simp)) (fun b o _ e n => u.free b o e n (by simp)) (fun b o _ e => u.there b o e (by simp)) u.tups u.frzs u.tbls (fun m' hm => by
  obtain ⟨o', es', ep', ho', r'⟩ := hm
  rw [ho] at ho'; cases ho'
  exact ⟨_, es', ep', hL, r'⟩) hok I.bare
theorem Inv.call {g' : Array GenState} {t' : Nat} {d' : Drawn} {ch : List Addr} (I : Inv X pins σ H s) (u : Un (frs X.stack) ch H H' s.heap h') (hok : HOk X.prog X.w H' h') (hg : AllBare g')
  (hch : ∀ b ∈ ch, (b ∈ X.ex ∨ X.s₀.heap.objs.size ≤ b) ∧ b ≠ X.env.locals ∧ (∀ x c, X.env.cells.lookup x = some c → c ≠ b) ∧ ∀ p ∈ X.pn ++ pins, p.1 ≠ b) :
  Inv X pins σ H' { s with heap := h', gens := g', drawn := d', toks := t' } := by
 obtain ⟨m, ⟨o, es, ep, ho, r⟩, _⟩ := id I.loc
 obtain ⟨sl, hL⟩ := u.any ho I.free fun z => (hch _ z).2.1 rfl
 exact I.step (ch := ch) hch (fun b o hL hb hc e n => u.keep b o e n (fun z => (List.mem_cons.mp (I.stkSub b z)).elim hL hb) hc) (fun b o _ _ hc e n => u.any e n hc) (fun b o hc e n => u.free b o e n hc) (fun b o hc e => u.there b o e hc) u.tups u.frzs u.tbls (fun m' hm => by
  obtain ⟨o', es', ep', ho', r'⟩ := hm
  rw [ho] at ho'; cases ho'
  exact ⟨_, es', ep', hL, r'⟩) hok hg
theorem Inv.turned {t' : Nat} {it : Addr} (I : Inv X pins σ H s) (k : ∀ b o, b ≠ it → s.heap.get? b = some o → h'.get? b = some o) (hn : H it = none) (hL : it ≠ X.env.locals)
  (h1 : it ∈ X.ex ∨ X.s₀.heap.objs.size ≤ it) (h2 : ∀ x c, X.env.cells.lookup x = some c → c ≠ it) (h3 : ∀ p ∈ X.pn ++ pins, p.1 ≠ it) : Inv X pins σ H { s with heap := h', toks := t' } := by
 have nit : ∀ b u, H b = some u → b ≠ it := fun b u e z => by rw [z, hn] at e; cases e
 refine I.step (g' := s.gens) (d' := s.drawn) (ch := [it]) (fun b hb => ?_) (fun b o _ _ hc e _ => k b o (fun z => hc (by simp [z])) e) (fun b o _ _ hc e _ => ⟨o.slots, k b o (fun z => hc (by simp [z])) e⟩) (fun _ _ _ _ n => n)
  (fun b o hc e => ⟨o, k b o (fun z => hc (by simp [z])) e⟩) (fun _ _ e => e) (fun _ _ _ e => e) (fun b ps e => ⟨#[], by rw [e]; simp⟩) (fun m hm => ?_) (fun b u e => ?_) I.bare
 ·have e : b = it := by simpa using hb
  subst e
  exact ⟨h1, hL, h2, h3⟩
 ·obtain ⟨o, es, ep, ho, r⟩ := hm
  exact ⟨o, es, ep, k _ o (Ne.symm hL) ho, r⟩
 ·refine (I.hok b u e).stay (fun c v hc q => k c v ?_ q) (fun _ q => q) fun _ _ q => q
  rcases hc with z | z
  ·rw [z]; exact nit b u e
  ·exact nit c _ z
theorem Inv.tok (I : Inv X pins σ H s) (t : Nat) : Inv X pins σ H { s with toks := t } := I.un (h' := s.heap) (t' := t) Un.refl I.hok
theorem Inv.kept {t' : Nat} (I : Inv X pins σ H s) (k : ∀ b u, s.heap.get? b = some u → h'.get? b = some u) : Inv X pins σ H { s with heap := h', toks := t' } := I.un (Un.kept k) (I.hok.kept k)
theorem Inv.laid {a : Addr} {o : HO} {t' : Nat} (I : Inv X pins σ H s) (k : ∀ b u, s.heap.get? b = some u → h'.get? b = some u) (hp : s.heap.objs.size ≤ a) (new : ObjOk X.prog X.w (upd H a o) h' a o) :
  Inv X pins σ (upd H a o) { s with heap := h', toks := t' } := I.un (Un.laid k hp (I.hok.fresh hp)) (I.hok.laid k hp new)
theorem Inv.write {x e : Addr} {o : HO} {t' : Nat} (I : Inv X pins σ H s) (mu : Mut (H x)) (he : e = x ∨ H e = some (.own x)) (k : ∀ b u, b ≠ e → s.heap.get? b = some u → h'.get? b = some u) (heo : ∃ u, h'.get? e = some u)
  (new : ObjOk X.prog X.w (upd H x o) h' x o) : Inv X pins σ (upd H x o) { s with heap := h', toks := t' } := I.un (Un.write mu he k heo) (I.hok.write mu he k heo new)
theorem Inv.pins_of {pins' : List (Addr × Obj)} (I : Inv X pins σ H s) (h : ∀ p ∈ pins', s.heap.get? p.1 = some p.2 ∧ H p.1 = none ∧ p.1 ≠ X.env.locals ∧ p.1 ∉ X.fs ∧ ∀ v, p.2.data ≠ .cell v) : Inv X pins' σ H s :=
 ⟨I.ok, I.os, I.bare, I.base, I.loc, I.cell, I.free, I.freeC, fun p hp => (List.mem_append.mp hp).elim (fun z => I.pin p (List.mem_append_left _ z)) (h p), I.hok, I.len⟩
theorem Zkp {N : List Str} (hN : N.Nodup) {i j : Nat} {x : Str} (a : N[i]? = some x) (b : N[j]? = some x) : i = j := by
 obtain ⟨h1, e1⟩ := List.getElem?_eq_some_iff.mp a
 obtain ⟨h2, e2⟩ := List.getElem?_eq_some_iff.mp b
 exact (List.getElem_inj hN).mp (e1.trans e2.symm)
theorem Zfn {M : Model} {A : Around} {E : Value → Shared → Prop} {i : Nat} {x : Str} {v : V} {u : Value} {Q : Unit → Shared → Prop} (I : Inv X pins σ H s) (hN : X.N.Nodup) (hi : X.N[i]? = some x) (hx : Loc X.env.scope x) (r : RelV v u)
  (h : ∀ s', Inv X pins (σ.set i (some v)) H s' → (∃ a, Heap.SameBut a s.heap s'.heap ∧ (a = X.env.locals ∨ X.env.cells.lookup x = some a)) → Q () s') (hf : X.fn x = true ∨ X.env.scope.names.lookup x = some .local := by first | exact .inl rfl | exact .inr rfl | assumption) : wpAny M A (storeName X.env x u) Q E s := by
 obtain ⟨m, hn, hl⟩ := id I.loc
 have hcls : (X.env.scope.kind == .class || (X.env.scope.kind == .module && X.env.locals != X.env.globals)) = false := by rw [I.ok.kind]; rfl
 have hiσ : i < σ.length := by rw [I.len]; exact (List.getElem?_eq_some_iff.mp hi).1
 have cne := I.cne
 have tracked : ∀ {a : Addr} {h' : Heap}, (∃ o, s.heap.get? a = some o ∧ H a = none) → Heap.SameBut a s.heap h' → HOk X.prog X.w H h' := fun {a h'} ha hs b ob e => by
  obtain ⟨_, _, hfree⟩ := ha
  refine (I.hok b ob e).stay (fun c w' hc q => (hs.2 c ?_).trans q) (fun _ q => q) fun _ _ q => q
  rintro rfl
  rcases hc with rfl | hc
  ·rw [hfree] at e; cases e
  ·rw [hfree] at hc; cases hc
 rcases hx with hk | hk
 ·refine wpAny_storeName_local hk hn (fun h' hn' hs => ?_) hcls
  obtain ⟨oL, _, _, hoL, _⟩ := id hn
  refine h _ ⟨I.ok, I.os, I.bare, ⟨fun b o e n hb hx => ?_, fun b o e n hb hx => ?_, I.base.free, fun b o e hx => ?_, I.base.tups, I.base.frzs, I.base.tbls⟩, ⟨_, hn', fun j y v' e1 e2 e3 => ?_⟩, fun y c e => ?_, I.free, I.freeC, fun p hp => ?_, tracked ⟨oL, hoL, I.free⟩ hs, by simpa using I.len⟩ ⟨_, hs, .inl rfl⟩
  ·exact (hs.2 b (Nat.ne_of_lt (Nat.lt_of_lt_of_le (Heap.lt_size e) I.ok.above))).trans (I.base.keep b o e n hb hx)
  ·obtain ⟨sl, e1⟩ := I.base.slot b o e n hb hx
   exact ⟨sl, (hs.2 b (Nat.ne_of_lt (Nat.lt_of_lt_of_le (Heap.lt_size e) I.ok.above))).trans e1⟩
  ·obtain ⟨o', e1⟩ := I.base.there b o e hx
   exact ⟨o', (hs.2 b (Nat.ne_of_lt (Nat.lt_of_lt_of_le (Heap.lt_size e) I.ok.above))).trans e1⟩
  ·by_cases hj : j = i
   ·subst hj
    rw [hi] at e1; cases e1
    rw [List.getElem?_set_self hiσ] at e2
    cases e2
    exact ⟨u, r, .inl ⟨hk, by simp⟩⟩
   ·rw [List.getElem?_set_ne (Ne.symm hj)] at e2
    obtain ⟨u', r', q⟩ := hl j y v' e1 e2 e3
    refine ⟨u', r', ?_⟩
    rcases q with ⟨k, e⟩ | ⟨k, c, e, z⟩
    ·refine .inl ⟨k, ?_⟩
     have : y ≠ x := fun e => hj (Zkp hN e1 (e ▸ hi))
     simp [this, e]
    ·exact .inr ⟨k, c, e, z.sameBut hs (cne y c e)⟩
  ·obtain ⟨w', z⟩ := I.cell y c e
   exact ⟨w', z.sameBut hs (cne y c e)⟩
  ·obtain ⟨e, n, ne, nf, d⟩ := I.pin p hp
   exact ⟨(hs.2 p.1 ne).trans e, n, ne, nf, d⟩
 ·have hfn : X.fn x = true := by
   rcases hf with z | z
   ·exact z
   ·rw [z] at hk; cases hk
  obtain ⟨c, hc⟩ := I.ok.has x (.inl hk)
  obtain ⟨w', z⟩ := I.cell x c hc
  refine wpAny_storeName_cell I.ok.kind hk hc z (fun h' hc' hs => ?_)
  obtain ⟨oc, hoc, hocd⟩ := id z
  refine h { s with heap := h' } ⟨I.ok, I.os, I.bare, ⟨fun b o e n hb hx => ?_, fun b o e n hb hx => ?_, I.base.free, fun b o e hx => ?_, I.base.tups, I.base.frzs, I.base.tbls⟩, ⟨m, hn.sameBut hs (Ne.symm (cne x c hc)), fun j y v' e1 e2 e3 => ?_⟩, fun y c' e => ?_, I.free, I.freeC, fun p hp => ?_, tracked ⟨oc, hoc, I.freeC x c hc⟩ hs, by simpa using I.len⟩ ⟨c, hs, .inr hc⟩
  ·exact (hs.2 b (Nat.ne_of_lt (Nat.lt_of_lt_of_le (Heap.lt_size e) (I.ok.cab x c hfn hc)))).trans (I.base.keep b o e n hb hx)
  ·obtain ⟨sl, e1⟩ := I.base.slot b o e n hb hx
   exact ⟨sl, (hs.2 b (Nat.ne_of_lt (Nat.lt_of_lt_of_le (Heap.lt_size e) (I.ok.cab x c hfn hc)))).trans e1⟩
  ·obtain ⟨o', e1⟩ := I.base.there b o e hx
   exact ⟨o', (hs.2 b (Nat.ne_of_lt (Nat.lt_of_lt_of_le (Heap.lt_size e) (I.ok.cab x c hfn hc)))).trans e1⟩
  ·by_cases hj : j = i
   ·subst hj
    rw [hi] at e1; cases e1
    rw [List.getElem?_set_self hiσ] at e2
    cases e2
    exact ⟨u, r, .inr ⟨.inl hk, c, hc, hc'⟩⟩
   ·rw [List.getElem?_set_ne (Ne.symm hj)] at e2
    obtain ⟨u', r', q⟩ := hl j y v' e1 e2 e3
    refine ⟨u', r', ?_⟩
    rcases q with q | ⟨k, c', e, z'⟩
    ·exact .inl q
    ·refine .inr ⟨k, c', e, z'.sameBut hs ?_⟩
     rintro rfl
     exact hj (Zkp hN e1 (I.ok.inj _ _ _ e hc ▸ hi))
  ·by_cases hcc : c' = c
   ·subst hcc; exact ⟨_, hc'⟩
   ·obtain ⟨w2, z2⟩ := I.cell y c' e
    exact ⟨w2, z2.sameBut hs hcc⟩
  ·obtain ⟨e, n, ne, nf, d⟩ := I.pin p hp
   refine ⟨(hs.2 p.1 ?_).trans e, n, ne, nf, d⟩
   intro q
   rw [q, hoc] at e
   have q' : oc = p.2 := Option.some.inj e
   exact d w' (by rw [← q']; exact hocd)
theorem Zl1 {M : Model} {A : Around} {E : Value → Shared → Prop} {i : Nat} {x : Str} {v : V} {u : Value} {Q : Unit → Shared → Prop} (I : Inv X pins σ H s) (hN : X.N.Nodup) (hi : X.N[i]? = some x) (hx : Loc X.env.scope x) (r : RelV v u)
  (h : ∀ s', Inv X pins (σ.set i (some v)) H s' → Q () s') (hf : X.fn x = true ∨ X.env.scope.names.lookup x = some .local := by first | exact .inl rfl | exact .inr rfl | assumption) : wpAny M A (storeName X.env x u) Q E s :=
 Zfn I hN hi hx r (fun s' I' _ => h s' I') hf
theorem Inv.call' {s' : Shared} {ch : List Addr} (I : Inv X pins σ H s) (ho : s'.os = s.os) (u : Un (frs X.stack) ch H H' s.heap s'.heap) (hok : HOk X.prog X.w H' s'.heap) (hg : AllBare s'.gens)
  (hch : ∀ b ∈ ch, (b ∈ X.ex ∨ X.s₀.heap.objs.size ≤ b) ∧ b ≠ X.env.locals ∧ (∀ x c, X.env.cells.lookup x = some c → c ≠ b) ∧ ∀ p ∈ X.pn ++ pins, p.1 ≠ b) : Inv X pins σ H' s' := by
 obtain ⟨h', g', d', t', o'⟩ := s'
 have e : o' = s.os := ho
 subst e
 exact I.call (g' := g') (t' := t') (d' := d') u hok hg hch
end
noncomputable abbrev XK := Value → Option Addr → Hp → Prop
noncomputable abbrev St := List (Option V)
noncomputable abbrev VK := V → Hp → Prop
noncomputable abbrev TE := St → Hp → VK → Prop
noncomputable abbrev TT := St → Hp → (Bool → Hp → Prop) → Prop
noncomputable abbrev TA := St → Hp → (List V → Hp → Prop) → Prop
structure Ends where
 nx : St → Hp → Prop
 rt : VK
 bk : St → Hp → Prop := fun _ _ => False
 ct : St → Hp → Prop := fun _ _ => False
noncomputable abbrev TS := Ends → St → Hp → Prop
noncomputable def EP (X : Cx) (pins : List (Addr × Obj)) (σ : St) (Q : VK) (u : Value) (s' : Shared) : Prop := ∃ v H', Inv X pins σ H' s' ∧ RelV v u ∧ Q v H'
noncomputable def TP (X : Cx) (pins : List (Addr × Obj)) (σ : St) (Q : Bool → Hp → Prop) (b : Bool) (s' : Shared) : Prop := ∃ H', Inv X pins σ H' s' ∧ Q b H'
noncomputable def AP (X : Cx) (pins : List (Addr × Obj)) (σ : St) (Q : List V → Hp → Prop) (us : List Value) (s' : Shared) : Prop := ∃ vs H', Inv X pins σ H' s' ∧ Vals vs us ∧ Q vs H'
noncomputable def SP (X : Cx) (pins : List (Addr × Obj)) (D : Ends) (f : Flow) (s' : Shared) : Prop :=
 match f with
 | .next => ∃ σ' H', Inv X pins σ' H' s' ∧ D.nx σ' H'
 | .brk => ∃ σ' H', Inv X pins σ' H' s' ∧ D.bk σ' H'
 | .cont => ∃ σ' H', Inv X pins σ' H' s' ∧ D.ct σ' H'
 | .ret u => ∃ v σ' H', Inv X pins σ' H' s' ∧ RelV v u ∧ D.rt v H'
noncomputable def PE (X : Cx) (e : Expr) (t : TE) : Prop :=
 ∀ (pins : List (Addr × Obj)) (s : Shared) (σ : St) (H : Hp) (Q : VK), Inv X pins σ H s → t σ H Q → wpAny (model X.prog X.w) X.A (eval e X.env) (EP X pins σ Q) X.xe s
noncomputable def PT (X : Cx) (e : Expr) (t : TT) : Prop :=
 ∀ (pins : List (Addr × Obj)) (s : Shared) (σ : St) (H : Hp) (Q : Bool → Hp → Prop), Inv X pins σ H s → t σ H Q → wpAny (model X.prog X.w) X.A (isTrue e X.env (eval e X.env)) (TP X pins σ Q) X.xe s
noncomputable def PW (X : Cx) (e : Expr) (t : TT) : Prop :=
 ∀ (whole : Sem Value) (pins : List (Addr × Obj)) (s : Shared) (σ : St) (H : Hp) (Q : Bool → Hp → Prop), Inv X pins σ H s → t σ H Q → wpAny (model X.prog X.w) X.A (isTrue e X.env whole) (TP X pins σ Q) X.xe s
theorem PW.pt {X : Cx} {e : Expr} {t : TT} (h : PW X e t) : PT X e t := h _
noncomputable def PA (X : Cx) (es : List Expr) (t : TA) : Prop :=
 ∀ (pos : Pos) (pins : List (Addr × Obj)) (s : Shared) (σ : St) (H : Hp) (Q : List V → Hp → Prop), Inv X pins σ H s → t σ H Q → wpAny (model X.prog X.w) X.A (spliced (backTo pos (starEach es X.env))) (AP X pins σ Q) X.xe s
noncomputable def PS (X : Cx) (st : Stmt) (t : TS) : Prop :=
 ∀ (pins : List (Addr × Obj)) (s : Shared) (σ : St) (H : Hp) (D : Ends), Inv X pins σ H s → t D σ H → wpAny (model X.prog X.w) X.A (exec st X.env) (SP X pins D) X.xe s
noncomputable def PSs (X : Cx) (st : List Stmt) (t : TS) : Prop :=
 ∀ (pins : List (Addr × Obj)) (s : Shared) (σ : St) (H : Hp) (D : Ends), Inv X pins σ H s → t D σ H → wpAny (model X.prog X.w) X.A (execs st X.env) (SP X pins D) X.xe s
theorem thn {α : Type} {t : Sem α} {Q Q' : α → Shared → Prop} {M : Model} {A : Around} {E : Value → Shared → Prop} {s : Shared} (h : wpAny M A t Q E s) (hQ : ∀ a s, Q a s → Q' a s) : wpAny M A t Q' E s := wpAny_mono h hQ fun _ _ x => x
end L2
namespace L2
open PySem PySem.Spec PyProof.Rows
section
variable {X : Cx}
noncomputable def tVar (i : Nat) : TE := fun σ H Q => ∃ v, σ[i]? = some (some v) ∧ Q v H
noncomputable def tC (v : V) : TE := fun _ H Q => Q v H
theorem Znd {i : Nat} {x : Str} {pos : Pos} (hN : X.N[i]? = some x) (hv : Vis X.env.scope x) (hd : (x == ("__debug__" : Str)) = false := by decide) (hcd : (x == ("__classdict__" : Str)) = false := by decide) : PE X (.Name x pos) (tVar i) := by
 intro pins s σ H Q I h
 obtain ⟨v, e, h⟩ := h
 obtain ⟨m, hn, hl⟩ := I.loc
 obtain ⟨u, r, l⟩ := hl i x v hN e hv
 have fin : EP X pins σ Q u s := ⟨v, H, I, r, h⟩
 rcases l with ⟨hk, hm⟩ | ⟨hk, c, hc, hcell⟩
 ·exact wpAny_Name (wpAny_loadName_local I.ok.kind hk hn hm fin) hd
 ·rcases hk with hk | hk
  ·exact wpAny_Name (wpAny_loadName_cell I.ok.kind hk hc hcell fin) hd
  ·exact wpAny_Name (wpAny_loadName_free I.ok.kind hk hc hcell fin hcd) hd
theorem Zs5 {i j pos} : PE X (.Constant (.int i) j pos) (tC (.int i)) := fun _ _ _ H _ I h => wpAny_Constant_int ⟨.int i, H, I.tok _, ⟨_, rfl⟩, h⟩
theorem Zsz {b j pos} : PE X (.Constant (.bool b) j pos) (tC (.bl b)) := fun _ _ _ H _ I h => Constant_bool ⟨.bl b, H, I, rfl, h⟩
noncomputable def Gl (X : Cx) (x : Str) : Prop := X.env.kindOf x = some .globalImplicit
theorem Zq8 {E : Value → Shared → Prop} {pins : List (Addr × Obj)} {s : Shared} {σ : St} {H : Hp} {x : Str} {u : Value} {pos : Pos} {Q : Value → Shared → Prop} (I : Inv X pins σ H s) (hg : Gl X x) (hm : X.mg x = some u) (h : Q u s)
  (hd : (x == ("__debug__" : Str)) = false := by decide) : wpAny (model X.prog X.w) X.A (eval (.Name x pos) X.env) Q E s :=
 Calls.Name_function_global I.ok.kind hg (Calls.loadGlobal_global (by rw [I.ok.glob]; exact I.mod.glob.keeps I.bk) hm h) hd
theorem Zej {E : Value → Shared → Prop} {pins : List (Addr × Obj)} {s : Shared} {σ : St} {H : Hp} {x : Str} {u : Value} {pos : Pos} {Q : Value → Shared → Prop} (I : Inv X pins σ H s) (hg : Gl X x) (hm : X.mg x = none) (hv : bootBuiltins x = some u) (h : Q u s)
  (hn : x ≠ "__name__" := by decide) (hd : (x == ("__debug__" : Str)) = false := by decide) : wpAny (model X.prog X.w) X.A (eval (.Name x pos) X.env) Q E s := by
 obtain ⟨mb, h1, h2⟩ := I.mod.blt
 exact Calls.Name_function_global I.ok.kind hg (Calls.loadGlobal_builtin (by rw [I.ok.glob]; exact I.mod.glob.keeps I.bk) hm (by rw [I.ok.blt]; exact h1.keeps I.bk) ((h2 x hn).trans hv) h) hd
variable {a b : Expr} {ta tb : TE} {pos : Pos}
noncomputable def tB (t : TE) : TT := fun σ H Q => t σ H fun x H1 => ∃ c, x = .bl c ∧ Q c H1
theorem Zsi {e : Expr} {t : TE} (h : PE X e t) (he : ∀ whole, isTrue e X.env whole = (do let v ← whole; standAt e.pos; holding [v] (truthy v)) := by intro _; rfl) : PT X e (tB t) := by
 intro pins s σ H Q I hw
 refine isTrue_plain (thn (h pins s σ H _ I hw) fun v s1 ⟨x, H1, I1, r1, q1⟩ => ?_) (he _)
 obtain ⟨d, rfl, q⟩ := q1
 cases r1
 exact wpAny_truthy_bool ⟨H1, I1, q⟩
variable {tA tB' : TT} {rest : List Expr}
noncomputable def tIf (t : TT) (ta tb : TE) : TE := fun σ H Q => t σ H fun c H1 => if c = true then ta σ H1 Q else tb σ H1 Q
theorem Zot {c : Expr} (hc : PT X c tA) (ha : PE X a ta) (hb : PE X b tb) : PE X (.IfExp c a b pos) (tIf tA ta tb) := by
 intro pins s σ H Q I h
 refine wpAny_IfExp (thn (hc pins s σ H _ I h) fun d s1 ⟨H1, I1, q1⟩ => ?_)
 cases d with
 | true => exact ha pins s1 σ H1 Q I1 q1
 | false => exact hb pins s1 σ H1 Q I1 q1
end
end L2
namespace L2
open PySem PySem.Spec PyProof.Rows
noncomputable def SqL (K : PySem.W.Frag) (H : Hp) (a : Addr) (xs : List V) : Prop :=
 Rd H a (.lst xs) ∨
  ∃ (o : Obj) (its : Array Value) (n : Nat), K.lookup a = some o ∧ o.cls = .type "list" ∧ o.dict = none ∧ o.data = .seq its n ∧ its.size ≤ sizeLine ∧ Vals xs its.toList
noncomputable def SqT (K : PySem.W.Frag) (H : Hp) (a : Addr) (xs : List V) : Prop :=
 Rd H a (.tup xs) ∨
  ∃ (o : Obj) (its : Array Value) (n : Nat), K.lookup a = some o ∧ o.cls = .type "tuple" ∧ o.data = .seq its n ∧ its.size ≤ sizeLine ∧ Vals xs its.toList
noncomputable def absV : Value → Option V
 | .none => some .non
 | .bool b => some (.bl b)
 | .int i _ => some (.int i)
 | .str x _ => some (.str x)
 | .bytes b _ => some (.byt b)
 | .float b _ => some (.flt b)
 | .ref a => some (.ref a)
 | .type n => some (.ty n)
 | _ => none
theorem RelV.abs {x : V} {u : Value} (r : RelV x u) : absV u = some x := by
 cases x with
 | non => cases r; rfl
 | bl _ => cases r; rfl
 | int _ => obtain ⟨t, rfl⟩ := r; rfl
 | str _ => obtain ⟨t, rfl⟩ := r; rfl
 | byt _ => obtain ⟨t, rfl⟩ := r; rfl
 | flt _ => obtain ⟨t, rfl⟩ := r; rfl
 | ref _ => cases r; rfl
 | ty _ => cases r; rfl
theorem RelV.inj {x y : V} {u : Value} (r : RelV x u) (q : RelV y u) : x = y := Option.some.inj (r.abs.symm.trans q.abs)
theorem Vals.inj : ∀ {xs ys : List V} {us : List Value}, Vals xs us → Vals ys us → xs = ys
 | _, _, _, .nil, .nil => rfl
 | _, _, _, .cons r t, .cons r' t' => by rw [r.inj r', Vals.inj t t']
section
variable {X : Cx} {pins : List (Addr × Obj)} {σ : St} {H : Hp} {s : Shared} {a : Addr} {xs ys : List V}
theorem SqL.of {K : PySem.W.Frag} (h : H a = some (.lst xs)) : SqL K H a xs := .inl (.inl h)
theorem SqT.of {K : PySem.W.Frag} (h : H a = some (.tup xs)) : SqT K H a xs := .inl (.inl h)
theorem Inv.list (I : Inv X pins σ H s) (h : SqL X.K H a xs) : ∃ its : List Value, Vals xs its ∧ PlainL s.heap a its.toArray ∧ xs.length ≤ sizeLine := by
 rcases h with h | ⟨o, its, n, hk, hc, hd, hs, hz, r⟩
 ·obtain ⟨z, its, n, r, e⟩ := h.ok I.hok
  exact ⟨its, r, ⟨_, n, e, rfl, rfl, rfl⟩, z⟩
 ·refine ⟨its.toList, r, ⟨o, n, I.kIn a o hk, hc, hd, by simpa using hs⟩, ?_⟩
  have e := r.length
  simp only [Array.length_toList] at e
  omega
theorem Inv.tuple (I : Inv X pins σ H s) (h : SqT X.K H a xs) : ∃ its : List Value, Vals xs its ∧ IsTup s.heap a its.toArray ∧ xs.length ≤ sizeLine := by
 rcases h with h | ⟨o, its, n, hk, hc, hs, hz, r⟩
 ·obtain ⟨z, its, r, p⟩ := h.ok I.hok
  exact ⟨its, r, p, z⟩
 ·refine ⟨its.toList, r, ⟨o, I.kIn a o hk, hc, n, by simpa using hs⟩, ?_⟩
  have e := r.length
  simp only [Array.length_toList] at e
  omega
theorem Inv.list_inj (I : Inv X pins σ H s) (h : SqL X.K H a xs) (h' : SqL X.K H a ys) : xs = ys := by
 obtain ⟨its, r, ⟨o, n, e, _, _, d⟩, _⟩ := I.list h
 obtain ⟨its', r', ⟨o', n', e', _, _, d'⟩, _⟩ := I.list h'
 rw [e] at e'; cases e'
 rw [d] at d'
 injection d' with d1 _
 have : its = its' := by simpa using congrArg Array.toList d1
 subst this
 exact r.inj r'
theorem Inv.tuple_inj (I : Inv X pins σ H s) (h : SqT X.K H a xs) (h' : SqT X.K H a ys) : xs = ys := by
 obtain ⟨its, r, ⟨o, e, _, n, d⟩, _⟩ := I.tuple h
 obtain ⟨its', r', ⟨o', e', _, n', d'⟩, _⟩ := I.tuple h'
 rw [e] at e'; cases e'
 rw [d] at d'
 injection d' with d1 _
 have : its = its' := by simpa using congrArg Array.toList d1
 subst this
 exact r.inj r'
end
noncomputable abbrev Cx.wish (X : Cx) (E : Value → Shared → Prop) : Cx := { X with xe := E }
noncomputable abbrev Cx.nox (X : Cx) : Cx := X.wish fun _ _ => False
theorem Cx.Ok.wish {X : Cx} (ok : X.Ok) (E : Value → Shared → Prop) : (X.wish E).Ok :=
 ⟨ok.mod, ok.kind, ok.glob, ok.blt, ok.above, ok.inj, ok.has, ok.cab, ok.hd, ok.frames, ok.stk, ok.exf, ok.bs, ok.bsz, ok.noex, ok.exfs, ok.funs, ok.frf⟩
theorem Cx.Ok.unwish {X : Cx} {E : Value → Shared → Prop} (ok : (X.wish E).Ok) : X.Ok :=
 ⟨ok.mod, ok.kind, ok.glob, ok.blt, ok.above, ok.inj, ok.has, ok.cab, ok.hd, ok.frames, ok.stk, ok.exf, ok.bs, ok.bsz, ok.noex, ok.exfs, ok.funs, ok.frf⟩
section
variable {X : Cx} {pins : List (Addr × Obj)} {σ : St} {H : Hp} {s : Shared} {E : Value → Shared → Prop}
theorem Inv.wish (I : Inv X pins σ H s) (E : Value → Shared → Prop) : Inv (X.wish E) pins σ H s := ⟨I.ok.wish E, I.os, I.bare, I.base, I.loc, I.cell, I.free, I.freeC, I.pin, I.hok, I.len⟩
theorem Inv.unwish (I : Inv (X.wish E) pins σ H s) : Inv X pins σ H s := ⟨I.ok.unwish, I.os, I.bare, I.base, I.loc, I.cell, I.free, I.freeC, I.pin, I.hok, I.len⟩
theorem SP.unwish {D : Ends} {f : Flow} {s' : Shared} (h : SP (X.wish E) pins D f s') : SP X pins D f s' := by
 cases f with
 | next => obtain ⟨σ', H', I, q⟩ := h; exact ⟨σ', H', I.unwish, q⟩
 | brk => obtain ⟨σ', H', I, q⟩ := h; exact ⟨σ', H', I.unwish, q⟩
 | cont => obtain ⟨σ', H', I, q⟩ := h; exact ⟨σ', H', I.unwish, q⟩
 | ret u => obtain ⟨v, σ', H', I, r, q⟩ := h; exact ⟨v, σ', H', I.unwish, r, q⟩
theorem PE.nox {e : Expr} {t : TE} (h : PE X.nox e t) : PE X e t := fun pins s σ H Q I hw =>
 wpAny_mono (h pins s σ H Q (I.wish _) hw) (fun _ _ ⟨v, H', I', r, q⟩ => ⟨v, H', I'.unwish, r, q⟩) fun _ _ z => False.elim z
theorem PT.nox {e : Expr} {t : TT} (h : PT X.nox e t) : PT X e t := fun pins s σ H Q I hw =>
 wpAny_mono (h pins s σ H Q (I.wish _) hw) (fun _ _ ⟨H', I', q⟩ => ⟨H', I'.unwish, q⟩) fun _ _ z => False.elim z
theorem PSs.nox {st : List Stmt} {t : TS} (h : PSs X.nox st t) : PSs X st t := fun pins s σ H D I hw =>
 wpAny_mono (h pins s σ H D (I.wish _) hw) (fun _ _ q => q.unwish) fun _ _ z => False.elim z
end
section
variable {X : Cx} {st : Stmt} {rest : List Stmt} {t u : TS} {e : Expr} {te : TE} {pos : Pos}
noncomputable def tNext : TS := fun D σ H => D.nx σ H
noncomputable def tSeq (t u : TS) : TS := fun D σ H => t { D with nx := u D } σ H
theorem Zqu : PSs X [] tNext := fun _ _ σ H _ I h => wpAny_execs_nil ⟨σ, H, I, h⟩
theorem Zox (h1 : PS X st t) (h2 : PSs X rest u) : PSs X (st :: rest) (tSeq t u) := by
 intro pins s σ H D I h
 refine wpAny_execs_cons (thn (h1 pins s σ H { D with nx := u D } I h) fun f s1 q => ?_)
 cases f with
 | next =>
  obtain ⟨σ', H', I', q⟩ := q
  exact h2 pins s1 σ' H' D I' q
 | ret v => exact q
 | brk => exact q
 | cont => exact q
theorem Zqv (h1 : PS X st t) : PSs X [st] t := by
 intro pins s σ H D I h
 refine wpAny_execs_cons (thn (h1 pins s σ H D I h) fun f s1 q => ?_)
 cases f with
 | next => exact wpAny_execs_nil q
 | ret v => exact q
 | brk => exact q
 | cont => exact q
theorem Inv.quiet {pins : List (Addr × Obj)} {σ : St} {H : Hp} {s : Shared} (I : Inv X pins σ H s) : interactive X.env = false := by simp [interactive, I.ok.kind]
noncomputable def tDrop (te : TE) : TS := fun D σ H => te σ H fun _ H1 => D.nx σ H1
theorem Zqt (he : PE X e te) (hs : swapsWith e none pos.line X.env = pure false := by rfl) : PS X (.Expr e pos) (tDrop te) := by
 intro pins s σ H D I h
 exact wpAny_Expr_any (thn (he pins s σ H _ I h) fun v s1 ⟨x, H1, I1, r1, q1⟩ => ⟨σ, H1, I1, q1⟩) I.quiet hs
noncomputable def tRet (te : TE) : TS := fun D σ H => te σ H D.rt
theorem Zsf (he : PE X e te) : PS X (.Return (some e) pos) (tRet te) := by
 intro pins s σ H D I h
 exact wpAny_Return_some (thn (he pins s σ H _ I h) fun v s1 ⟨x, H1, I1, r1, q1⟩ => ⟨x, σ, H1, I1, r1, q1⟩)
noncomputable def tIfS (c : TT) (t u : TS) : TS := fun D σ H => c σ H fun b H1 => if b = true then t D σ H1 else u D σ H1
theorem Zt4 {c : Expr} {a b : List Stmt} {tc : TT} (hc : PT X c tc) (ha : PSs X a t) (hb : PSs X b u) : PS X (.If c a b pos) (tIfS tc t u) := by
 intro pins s σ H D I h
 refine wpAny_If (thn (hc pins s σ H _ I h) fun d s1 ⟨H1, I1, q1⟩ => ?_)
 cases d with
 | true => exact ha pins s1 σ H1 D I1 q1
 | false => exact hb pins s1 σ H1 D I1 q1
end
noncomputable abbrev TG := V → St → Hp → (St → Hp → Prop) → Prop
noncomputable abbrev TGs := List V → St → Hp → (St → Hp → Prop) → Prop
noncomputable def PG (X : Cx) (target : Expr) (t : TG) : Prop :=
 ∀ (pins : List (Addr × Obj)) (s : Shared) (σ : St) (H : Hp) (v : V) (u : Value) (Q : St → Hp → Prop), Inv X pins σ H s → RelV v u → t v σ H Q →
  wpAny (model X.prog X.w) X.A (assign target X.env u) (fun _ s' => ∃ σ' H', Inv X pins σ' H' s' ∧ Q σ' H') X.xe s
noncomputable def PGs (X : Cx) (ts : List Expr) (t : TGs) : Prop :=
 ∀ (pins : List (Addr × Obj)) (s : Shared) (σ : St) (H : Hp) (vs : List V) (us : List Value) (Q : St → Hp → Prop), Inv X pins σ H s → Vals vs us → t vs σ H Q →
  wpAny (model X.prog X.w) X.A (assignInOrder ((assignEach ts X.env).map (·.2)) us) (fun _ s' => ∃ σ' H', Inv X pins σ' H' s' ∧ Q σ' H') X.xe s
noncomputable abbrev TSet := V → V → V → Hp → (Hp → Prop) → Prop
noncomputable def PSet (X : Cx) (t : TSet) : Prop :=
 ∀ (pins : List (Addr × Obj)) (s : Shared) (σ : St) (H : Hp) (o i v : V) (ov iv u : Value) (Q : Hp → Prop), Inv X pins σ H s → RelV o ov → RelV i iv → RelV v u → t o i v H Q →
  wpAny (model X.prog X.w) X.A (setItem ov iv u) (fun _ s' => ∃ H', Inv X pins σ H' s' ∧ Q H') X.xe s
section
variable {X : Cx} {pos : Pos}
noncomputable def gName (i : Nat) : TG := fun v σ H Q => Q (σ.set i (some v)) H
theorem Zjx {i : Nat} {x : Str} (hN : X.N.Nodup) (hi : X.N[i]? = some x) (hx : Loc X.env.scope x) (hf : X.fn x = true ∨ X.env.scope.names.lookup x = some .local := by first | exact .inl rfl | exact .inr rfl | assumption) : PG X (.Name x pos) (gName i) := by
 intro pins s σ H v u Q I r h
 exact wpAny_assign_Name (Zl1 I hN hi hx r (fun s' I' => ⟨_, H, I', h⟩) hf)
noncomputable def gNil : TGs := fun vs σ H Q => vs = [] ∧ Q σ H
noncomputable def gCons (t : TG) (u : TGs) : TGs := fun vs σ H Q => ∃ v r, vs = v :: r ∧ t v σ H fun σ' H' => u r σ' H' Q
theorem Zqk : PGs X [] gNil := by
 intro pins s σ H vs us Q I r h
 obtain ⟨e, h⟩ := h
 subst e
 cases r
 exact assignInOrder_nil ⟨σ, H, I, h⟩
theorem Zov {e : Expr} {es : List Expr} {t : TG} {u : TGs} (h1 : PG X e t) (h2 : PGs X es u)
  (hs : (assignEach (e :: es) X.env).map (·.2) = assign e X.env :: (assignEach es X.env).map (·.2) := by rfl) : PGs X (e :: es) (gCons t u) := by
 intro pins s σ H vs us Q I r h
 obtain ⟨v, vr, e1, h⟩ := h
 subst e1
 cases r with
 | cons r rr =>
  rw [hs]
  refine assignInOrder_cons (thn (h1 pins s σ H _ _ _ I r h) fun _ s1 ⟨σ1, H1, I1, q1⟩ => ?_)
  exact h2 pins s1 σ1 H1 _ _ Q I1 rr q1
noncomputable def gTup (K : PySem.W.Frag) (n : Nat) (t : TGs) : TG := fun v σ H Q => ∃ a xs, v = .ref a ∧ SqT K H a xs ∧ xs.length = n ∧ t xs σ H Q
theorem Zsa {es : List Expr} {k : Nat} {t : TGs} {n : Nat} (hc : X.calm = true) (h : PGs X es t)
  (hn : (assignEach es X.env).length = n := by rfl) (hst : (assignEach es X.env).findIdx? (·.1) = none := by rfl) : PG X (.Tuple es k pos) (gTup X.K n t) := by
 intro pins s σ H v u Q I r hw
 obtain ⟨a, xs, e1, hq, hl, hw⟩ := hw
 subst e1
 cases r
 obtain ⟨its, rv, ht, hz⟩ := I.tuple hq
 refine assign_Tuple_tuple (I.ok.hd hc) ht (by simp [hn, ← hl, rv.length]) hst fun h' hx => ?_
 have I1 : Inv X pins σ H { s with heap := h' } := I.kept (t' := s.toks) fun b o e => hx b o (Nat.ne_of_lt (Heap.lt_size e)) e
 exact h pins _ σ H xs _ Q I1 (by simpa using rv) hw
noncomputable def gSub (to ti : TE) (t : TSet) : TG := fun v σ H Q => to σ H fun o H1 => ti σ H1 fun i H2 => t o i v H2 fun H3 => Q σ H3
theorem Zs9 {o i : Expr} {to ti : TE} {t : TSet} (ho : PE X o to) (hi : PE X i ti) (hs : PSet X t)
  (ha : ∀ v, assign (.Subscript o i pos) X.env v = (do
   let ov ← holding [v] (eval o X.env)
   let iv ← holding [v, ov] (eval i X.env)
   standAt pos
   holding [v, ov, iv] (setItem ov iv v)
   release [v, ov, iv] []) := by intro _; rfl) : PG X (.Subscript o i pos) (gSub to ti t) := by
 intro pins s σ H v u Q I r h
 rw [ha]
 refine wpAny_bind (wpAny_holding (thn (ho pins s σ H _ I h) fun ov s1 ⟨x, H1, I1, r1, q1⟩ => ?_))
 refine wpAny_bind (wpAny_holding (thn (hi pins s1 σ H1 _ I1 q1) fun iv s2 ⟨y, H2, I2, r2, q2⟩ => ?_))
 refine wpAny_bind (wpAny_standAt (wpAny_bind (wpAny_holding (thn (hs pins s2 σ H2 x y v ov iv u _ I2 r1 r2 r q2) fun _ s3 ⟨H3, I3, q3⟩ => ?_))))
 exact wpAny_release ⟨σ, H3, I3, q3⟩
noncomputable def tAsg (te : TE) (g : TG) : TS := fun D σ H => te σ H fun x H1 => g x σ H1 D.nx
theorem Zsd {tg e : Expr} {te : TE} {g : TG} (he : PE X e te) (hg : PG X tg g) (hs : swapsWithSole [tg] e pos.line X.env = pure false := by rfl) (hw : swappedStores [tg] e X.env = pure none := by rfl)
  (h1 : (assignEach [tg] X.env).map (·.2) = [assign tg X.env] := by rfl) : PS X (.Assign [tg] e pos) (tAsg te g) := by
 intro pins s σ H D I h
 refine wpAny_Assign_stores (thn (he pins s σ H _ I h) fun v s1 ⟨x, H1, I1, r1, q1⟩ => ?_) hs hw
 rw [h1]
 exact thn (hg pins s1 σ H1 x v _ I1 r1 q1) fun _ s2 q => q
theorem Zsg {i : Nat} {x : Str} {e : Expr} {te : TE} {pos' : Pos} (hN : X.N.Nodup) (hi : X.N[i]? = some x) (hx : Loc X.env.scope x) (he : PE X e te) (hs : swapsWith e (some (.Name x pos')) pos.line X.env = pure false := by rfl) (hf : X.fn x = true ∨ X.env.scope.names.lookup x = some .local := by first | exact .inl rfl | exact .inr rfl | assumption) :
  PS X (.Assign [.Name x pos'] e pos) (tAsg te (gName i)) := by
 intro pins s σ H D I h
 refine wpAny_Assign_Name (thn (he pins s σ H _ I h) fun v s1 ⟨y, H1, I1, r1, q1⟩ => ?_) hs
 exact Zl1 I1 hN hi hx r1 (fun s2 I2 => ⟨_, H1, I2, q1⟩) hf
end
section
variable {X : Cx} {pos : Pos}
end
structure It where
 go : Nat → Hp → Prop
 yld : Nat → Hp → V → Hp → Prop
 stop : Nat → Hp → Prop
noncomputable def FpOk (X : Cx) (pins : List (Addr × Obj)) (H : Hp) (b : Addr) : Prop :=
 H b = none ∧ b ≠ X.env.locals ∧ b ∉ X.fs ∧ (b ∈ X.ex ∨ X.s₀.heap.objs.size ≤ b) ∧ (∀ x c, X.env.cells.lookup x = some c → c ≠ b) ∧ ∀ p ∈ X.pn ++ pins, p.1 ≠ b
theorem Inv.fpOk {X : Cx} {pins : List (Addr × Obj)} {σ : St} {H H' : Hp} {s : Shared} {b : Addr} (I : Inv X pins σ H s) (hb : s.heap.objs.size ≤ b) (hn : H' b = none) : FpOk X pins H' b := by
 refine ⟨hn, Nat.ne_of_gt (Nat.lt_of_lt_of_le I.lt hb), I.nofs hb, .inr (Nat.le_trans I.sz hb), fun x c e z => ?_, fun p hp z => ?_⟩
 ·obtain ⟨v, q⟩ := I.cell x c e
  exact absurd (Nat.lt_of_lt_of_le q.lt (by rw [z]; exact hb)) (Nat.lt_irrefl _)
 ·exact absurd (Nat.lt_of_lt_of_le (Heap.lt_size (I.pin p hp).1) (by rw [z]; exact hb)) (Nat.lt_irrefl _)
structure Turn (P : Program) (w : World) (K : PySem.W.Frag) (tg : Expr) (J : It) (fp : List Addr) (it : Addr) (tn : Nat → Heap → Prop) : Prop where
 mem : it ∈ fp
 obj : ∀ i h, tn i h → ∀ b ∈ fp, ∃ o, h.get? b = some o ∧ ∀ v, o.data ≠ .cell v
 keep : ∀ i h h', tn i h → (∀ b ∈ fp, ∀ o, h.get? b = some o → h'.get? b = some o) → tn i h'
 item : ∀ (X : Cx), X.prog = P → X.w = w → X.K = K → X.calm = true → ∀ (i : Nat) (pins : List (Addr × Obj)) (s : Shared) (σ : St) (H : Hp) (E : Value → Shared → Prop), Inv X pins σ H s → (∀ b ∈ fp, FpOk X pins H b) → tn i s.heap → J.go i H →
  wpAny (model P w) X.A (pyNext (.ref it)) (fun r s1 => ∃ u, r = some u ∧
   wpAny (model P w) X.A (letOwnedTupleGo tg (.ref it) u) (fun _ s2 => ∃ x H', Inv X pins σ H' s2 ∧ RelV x u ∧ J.yld i H x H' ∧ tn (i + 1) s2.heap ∧ ∀ b ∈ fp, H' b = none) E s1) E s
 done : ∀ (X : Cx), X.prog = P → X.w = w → X.K = K → X.calm = true → ∀ (i : Nat) (pins : List (Addr × Obj)) (s : Shared) (σ : St) (H : Hp) (E : Value → Shared → Prop), Inv X pins σ H s → (∀ b ∈ fp, FpOk X pins H b) → tn i s.heap → J.stop i H →
  wpAny (model P w) X.A (pyNext (.ref it)) (fun r s1 => r = none ∧ Inv X pins σ H s1) E s
 self : ∀ (A : Around) (i : Nat) (s : Shared) (Q : Value → Shared → Prop) (E : Value → Shared → Prop), tn i s.heap → Q (.ref it) s → wpAny (model P w) A (pyIter (.ref it)) Q E s
noncomputable abbrev TI := St → Hp → (It → Hp → Prop) → Prop
noncomputable def PIE (X : Cx) (pins : List (Addr × Obj)) (σ : St) (tg : Expr) (R : It → Hp → Prop) (itv : Value) (s2 : Shared) : Prop :=
 ∃ (it : Addr) (fp : List Addr) (tn : Nat → Heap → Prop) (J : It) (H' : Hp), itv = .ref it ∧ Inv X pins σ H' s2 ∧ Turn X.prog X.w X.K tg J fp it tn ∧ tn 0 s2.heap ∧ (∀ b ∈ fp, FpOk X pins H' b) ∧ R J H'
noncomputable def PI (X : Cx) (tg iter : Expr) (wi : TI) : Prop :=
 ∀ (pins : List (Addr × Obj)) (s : Shared) (σ : St) (H : Hp) (R : It → Hp → Prop), Inv X pins σ H s → wi σ H R →
  wpAny (model X.prog X.w) X.A (eval iter X.env) (fun v s1 => wpAny (model X.prog X.w) X.A (pyIter v) (PIE X pins σ tg R) X.xe s1) X.xe s
theorem Zms {M : Model} {A : Around} {E : Value → Shared → Prop} {s : Shared} {tg : Expr} {it : Addr} {u : Value} {o : Obj} {n : String} {vs : Array Value} {Q : Unit → Shared → Prop} (ho : s.heap.get? it = some o) (hc : o.cls = .type n) (hd : o.data = .fields vs)
  (hn : ["enumerate", "zip", "dict_itemiterator", "dict_reverseitemiterator", "odict_iterator", "itertools.zip_longest", "itertools.pairwise"].contains n = false) (hQ : Q () s) : wpAny M A (letOwnedTupleGo tg (.ref it) u) Q E s := by
 unfold letOwnedTupleGo
 cases tg <;> first
  | exact wpAny_pure hQ
  | (cases u <;> first
    | exact wpAny_pure hQ
    | (refine wpAny_bind (wpAny_load ho ?_)
       rw [hc, hd]
       show wpAny M A (if (["enumerate", "zip", "dict_itemiterator", "dict_reverseitemiterator", "odict_iterator", "itertools.zip_longest", "itertools.pairwise"].contains n && vs[0]? == some (rawInt _)) = true then _ else _) Q E s
       rw [if_neg (by intro h; rw [hn, Bool.false_and] at h; cases h)]
       exact wpAny_pure hQ))
noncomputable def Itl (K : PySem.W.Frag) (a : Addr) : It :=
 ⟨fun i H => ∃ xs x, SqL K H a xs ∧ xs[i]? = some x, fun i H x H' => H' = H ∧ ∀ xs, SqL K H a xs → xs[i]? = some x, fun i H => ∃ xs, SqL K H a xs ∧ xs.length ≤ i⟩
noncomputable def Itt (K : PySem.W.Frag) (a : Addr) : It :=
 ⟨fun i H => ∃ xs x, SqT K H a xs ∧ xs[i]? = some x, fun i H x H' => H' = H ∧ ∀ xs, SqT K H a xs → xs[i]? = some x, fun i H => ∃ xs, SqT K H a xs ∧ xs.length ≤ i⟩
noncomputable def Itr (lo : Int) (n : Nat) : It := ⟨fun i _ => i < n, fun i H x H' => H' = H ∧ x = .int (lo + i), fun i _ => n ≤ i⟩
theorem Znz {P : Program} {w : World} {K : PySem.W.Frag} {tg : Expr} (a it : Addr) : Turn P w K tg (Itl K a) [it] it (fun i h => h.IsListIter it a i) where
 mem := by simp
 obj := fun i h st b hb => by
  have e : b = it := by simpa using hb
  subst e
  obtain ⟨o, e, c, d⟩ := st
  exact ⟨o, e, fun v z => by rw [d] at z; cases z⟩
 keep := fun i h h' st k => st.at fun o e => k it (by simp) o e
 item := by
  intro X hP hw hK hc i pins s σ H E I hf st hg
  subst hP hw hK
  obtain ⟨xs, x, hq, hx⟩ := hg
  obtain ⟨its, rv, p, hz⟩ := I.list hq
  obtain ⟨u, hu, ru⟩ := rv.get hx
  obtain ⟨f0, f1, f2, f3, f4, f5⟩ := hf it (by simp)
  refine wpAny_pyNext_list_item st p.isList (x := u) (by simpa using hu) fun h' st' sb => ?_
  have I1 : Inv X pins σ H { s with heap := h' } := I.turned (t' := s.toks) (fun b o hb e => (sb.2 b hb).trans e) f0 f1 f3 f4 f5
  obtain ⟨o, e, c, d⟩ := id st'
  exact ⟨u, rfl, Zms (s := { s with heap := h' }) e c d (by decide) ⟨x, H, I1, ru, ⟨rfl, fun ys hy => by rw [I.list_inj hy hq]; exact hx⟩, st', fun b hb => (hf b hb).1⟩⟩
 done := by
  intro X hP hw hK hc i pins s σ H E I hf st hg
  subst hP hw hK
  obtain ⟨xs, hq, hx⟩ := hg
  obtain ⟨its, rv, p, hz⟩ := I.list hq
  obtain ⟨f0, f1, f2, f3, f4, f5⟩ := hf it (by simp)
  have hl := rv.length
  exact wpAny_pyNext_list_end (I.ok.hd hc) st p.isList (by simp; omega) fun h' eb => ⟨rfl, I.turned (t' := s.toks) (fun b o hb e => eb b o hb e) f0 f1 f3 f4 f5⟩
 self := fun _ _ _ _ _ st h => wpAny_pyIter_listiter st h
theorem Zm8 {P : Program} {w : World} {K : PySem.W.Frag} {tg : Expr} (a it : Addr) : Turn P w K tg (Itt K a) [it] it (fun i h => h.IsTupleIter it a i) where
 mem := by simp
 obj := fun i h st b hb => by
  have e : b = it := by simpa using hb
  subst e
  obtain ⟨o, e, c, d⟩ := st
  exact ⟨o, e, fun v z => by rw [d] at z; cases z⟩
 keep := fun i h h' st k => st.at fun o e => k it (by simp) o e
 item := by
  intro X hP hw hK hc i pins s σ H E I hf st hg
  subst hP hw hK
  obtain ⟨xs, x, hq, hx⟩ := hg
  obtain ⟨its, rv, p, hz⟩ := I.tuple hq
  obtain ⟨u, hu, ru⟩ := rv.get hx
  obtain ⟨f0, f1, f2, f3, f4, f5⟩ := hf it (by simp)
  refine wpAny_pyNext_tuple_item st (show s.heap.IsTuple a its.toArray from p) (x := u) (by simpa using hu) fun h' st' sb => ?_
  have I1 : Inv X pins σ H { s with heap := h' } := I.turned (t' := s.toks) (fun b o hb e => (sb.2 b hb).trans e) f0 f1 f3 f4 f5
  obtain ⟨o, e, c, d⟩ := id st'
  exact ⟨u, rfl, Zms (s := { s with heap := h' }) e c d (by decide) ⟨x, H, I1, ru, ⟨rfl, fun ys hy => by rw [I.tuple_inj hy hq]; exact hx⟩, st', fun b hb => (hf b hb).1⟩⟩
 done := by
  intro X hP hw hK hc i pins s σ H E I hf st hg
  subst hP hw hK
  obtain ⟨xs, hq, hx⟩ := hg
  obtain ⟨its, rv, p, hz⟩ := I.tuple hq
  obtain ⟨f0, f1, f2, f3, f4, f5⟩ := hf it (by simp)
  have hl := rv.length
  exact wpAny_pyNext_tuple_end (I.ok.hd hc) st (show s.heap.IsTuple a its.toArray from p) (by simp; omega) fun h' eb => ⟨rfl, I.turned (t' := s.toks) (fun b o hb e => eb b o hb e) f0 f1 f3 f4 f5⟩
 self := fun _ _ _ _ _ st h => wpAny_pyIter_tupleiter st h
theorem Zm7 {P : Program} {w : World} {K : PySem.W.Frag} {tg : Expr} (it : Addr) (lo : Int) (n : Nat) : Turn P w K tg (Itr lo n) [it] it (fun i h => IsRangeIter h it (lo + (i : Nat) * 1) ((n : Int) - (i : Nat)) 1) where
 mem := by simp
 obj := fun i h st b hb => by
  have e : b = it := by simpa using hb
  subst e
  exact ⟨_, st, fun v z => by
   have z' : Data.fields _ = Data.cell v := z
   cases z'⟩
 keep := fun i h h' st k => k it (by simp) _ st
 item := by
  intro X hP hw hK hc i pins s σ H E I hf st hg
  subst hP hw hK
  obtain ⟨f0, f1, f2, f3, f4, f5⟩ := hf it (by simp)
  have W := Walks.range (prog := X.prog) (w := X.w) (I.ok.hd hc) it lo 1 n
  refine W.item i s _ _ hg st fun v h' tk hv st' kk => ?_
  obtain ⟨t, rfl⟩ := hv
  have I1 : Inv X pins σ H { s with heap := h', toks := tk } := I.turned (fun b o hb e => kk b o (by simpa using hb) e) f0 f1 f3 f4 f5
  refine ⟨_, rfl, Zms (s := { s with heap := h', toks := tk }) (n := "range_iterator") st' rfl rfl (by decide) ⟨.int (lo + i), H, I1, ⟨t, ?_⟩, ⟨rfl, rfl⟩, st', fun b hb => (hf b hb).1⟩⟩
  rw [Int.mul_one]
 done := by
  intro X hP hw hK hc i pins s σ H E I hf st hg
  subst hP hw hK
  obtain ⟨f0, f1, f2, f3, f4, f5⟩ := hf it (by simp)
  exact wpAny_pyNext_range_end (I.ok.hd hc) st (by have : n ≤ i := hg; omega) fun h' eb => ⟨rfl, I.turned (t' := s.toks) (fun b o hb e => eb b o hb e) f0 f1 f3 f4 f5⟩
 self := fun _ _ _ _ _ st h => wpAny_pyIter_rangeiter st h
end L2
namespace L2
open PySem PySem.Spec PyProof.Rows
section
variable {X : Cx} {tg : Expr}
noncomputable def iList (K : PySem.W.Frag) (tl : TE) : TI := fun σ H R => tl σ H fun x H1 => ∃ a, x = .ref a ∧ (∃ xs, SqL K H1 a xs) ∧ R (Itl K a) H1
noncomputable def iTup (K : PySem.W.Frag) (tl : TE) : TI := fun σ H R => tl σ H fun x H1 => ∃ a, x = .ref a ∧ (∃ xs, SqT K H1 a xs) ∧ R (Itt K a) H1
theorem Zqm {l : Expr} {tl : TE} (hl : PE X l tl) : PI X tg l (iList X.K tl) := by
 intro pins s σ H R I h
 refine thn (hl pins s σ H _ I h) fun v s1 ⟨x, H1, I1, r1, q1⟩ => ?_
 obtain ⟨a, e, ⟨xs, hq⟩, q⟩ := q1
 subst e
 cases r1
 obtain ⟨its, rv, p, hz⟩ := I1.list hq
 refine wpAny_pyIter_list p.isList ?_
 refine ⟨s1.heap.objs.size, [s1.heap.objs.size], _, _, H1, rfl, I1.kept (t' := s1.toks) fun b o e => Heap.get?_push_of_some _ e, Znz a _, ⟨_, Heap.get?_push_size _ rfl, rfl, rfl⟩, fun b hb => ?_, q⟩
 have e : b = s1.heap.objs.size := by simpa using hb
 subst e
 exact I1.fpOk (Nat.le_refl _) (I1.hok.fresh (Nat.le_refl _))
theorem Zsb {l : Expr} {tl : TE} (hl : PE X l tl) : PI X tg l (iTup X.K tl) := by
 intro pins s σ H R I h
 refine thn (hl pins s σ H _ I h) fun v s1 ⟨x, H1, I1, r1, q1⟩ => ?_
 obtain ⟨a, e, ⟨xs, hq⟩, q⟩ := q1
 subst e
 cases r1
 obtain ⟨its, rv, p, hz⟩ := I1.tuple hq
 refine wpAny_pyIter_tuple (show s1.heap.IsTuple a its.toArray from p) ?_
 refine ⟨s1.heap.objs.size, [s1.heap.objs.size], _, _, H1, rfl, I1.kept (t' := s1.toks) fun b o e => Heap.get?_push_of_some _ e, Zm8 a _, ⟨_, Heap.get?_push_size _ rfl, rfl, rfl⟩, fun b hb => ?_, q⟩
 have e : b = s1.heap.objs.size := by simpa using hb
 subst e
 exact I1.fpOk (Nat.le_refl _) (I1.hok.fresh (Nat.le_refl _))
theorem Zoy {pins : List (Addr × Obj)} {σ : St} {H : Hp} {s : Shared} {R : It → Hp → Prop} {E : Value → Shared → Prop} {lo hi : Int} {t u v : Tok} {tk : Nat} (I : Inv X pins σ H s) (h1 : -(2 ^ 62) ≤ lo) (h2 : lo < 2 ^ 62) (h3 : -(2 ^ 62) ≤ hi) (h4 : hi < 2 ^ 62)
  (q : R (Itr lo (hi - lo).toNat) H) : wpAny (model X.prog X.w) X.A (pyIter (.ref s.heap.objs.size)) (PIE X pins σ tg R) E { s with heap := s.heap.push { cls := .type "range", data := .fields #[.int lo t, .int hi u, .int 1 v] }, toks := tk } := by
 refine wpAny_pyIter_range (IsRange.new ..) (small_one h1 h2 h3 h4) ?_
 have I1 : Inv X pins σ H { s with heap := s.heap.push { cls := .type "range", data := .fields #[.int lo t, .int hi u, .int 1 v] }, toks := tk } := I.kept fun b o e => Heap.get?_push_of_some _ e
 refine ⟨(s.heap.push { cls := .type "range", data := .fields #[.int lo t, .int hi u, .int 1 v] }).objs.size, [(s.heap.push { cls := .type "range", data := .fields #[.int lo t, .int hi u, .int 1 v] }).objs.size], _, _, H, rfl,
  I1.kept (t' := tk) fun b o e => Heap.get?_push_of_some _ e, Zm7 _ lo (hi - lo).toNat, ?_, fun b hb => ?_, q⟩
 ·have e1 : lo + ((0 : Nat) : Int) * 1 = lo := by simp
  have e2 : (((hi - lo).toNat : Nat) : Int) - ((0 : Nat) : Int) = Builtin.Range.rangeSize lo hi 1 := by rw [rangeSize_one]; split <;> omega
  show IsRangeIter _ _ (lo + ((0 : Nat) : Int) * 1) ((((hi - lo).toNat : Nat) : Int) - ((0 : Nat) : Int)) 1
  rw [e1, e2]
  exact Heap.get?_push_size _ rfl
 ·have e : b = (s.heap.push { cls := .type "range", data := .fields #[.int lo t, .int hi u, .int 1 v] }).objs.size := by simpa using hb
  subst e
  exact I1.fpOk (Nat.le_refl _) (I1.hok.fresh (Nat.le_refl _))
noncomputable def iRng1 (ta : TA) : TI := fun σ H R => ta σ H fun vs H1 => ∃ j : Int, vs = [.int j] ∧ -(2 ^ 62) ≤ j ∧ j < 2 ^ 62 ∧ R (Itr 0 j.toNat) H1
theorem Zne {a : Expr} {ta : TA} {p pos : Pos} (hg : Gl X "range") (hm : X.mg "range" = none) (ha : PA X [a] ta) (hs : starEach [a] X.env = [(false, eval a X.env)] := by rfl) : PI X tg (.Call (.Name "range" p) [a] [] pos) (iRng1 ta) := by
 intro pins s σ H R I h
 refine Call_ (Zej I hg hm boot_range (PyProof.Rows.callWith_type1 (thn (ha pos pins s σ H _ I h) fun us s1 ⟨vs, H1, I1, r1, q1⟩ => ?_) hs rfl))
 obtain ⟨j, e, q1, q2, q⟩ := q1
 subst e
 cases r1 with
 | cons r rr =>
  cases rr
  obtain ⟨t, rfl⟩ := r
  exact call_range_1 (Zoy I1 (by omega) (by omega) q1 q2 (by simpa using q))
noncomputable def tFor (wi : TI) (g : TG) (tb : TS) : TS := fun D σ H => wi σ H fun J H1 => ∃ W : Nat → Nat → St → Hp → Prop, (∃ m, W 0 m σ H1) ∧ ∀ i m σ H, W i m σ H →
 (J.stop i H ∧ D.nx σ H) ∨ (J.go i H ∧ ∃ N : St → Hp → Prop, (∀ σ' H', N σ' H' → ∃ m', m' < m ∧ W (i + 1) m' σ' H') ∧ ∀ x H', J.yld i H x H' → g x σ H' fun σ2 H2 => tb { D with nx := N, ct := N, bk := D.nx } σ2 H2)
noncomputable def pinsAt (fp : List Addr) (h : Heap) : List (Addr × Obj) := fp.filterMap fun b => (h.get? b).map fun o => (b, o)
theorem Zcn {fp : List Addr} {h : Heap} {b : Addr} {o : Obj} (hb : b ∈ fp) (e : h.get? b = some o) : (b, o) ∈ pinsAt fp h := List.mem_filterMap.mpr ⟨b, hb, by rw [e]; rfl⟩
theorem Ziq {fp : List Addr} {h : Heap} {p : Addr × Obj} (hp : p ∈ pinsAt fp h) : p.1 ∈ fp ∧ h.get? p.1 = some p.2 := by
 obtain ⟨b, hb, e⟩ := List.mem_filterMap.mp hp
 cases q : h.get? b with
 | none => rw [q] at e; cases e
 | some o =>
  rw [q] at e
  have e' : (b, o) = p := Option.some.inj e
  subst e'
  exact ⟨hb, q⟩
theorem Inv.pinned {pins : List (Addr × Obj)} {σ : St} {H : Hp} {s : Shared} {fp : List Addr} (I : Inv X pins σ H s) (hf : ∀ b ∈ fp, FpOk X pins H b) (ho : ∀ b ∈ fp, ∃ o, s.heap.get? b = some o ∧ ∀ v, o.data ≠ .cell v) : Inv X (pins ++ pinsAt fp s.heap) σ H s :=
 I.pins_of fun p hp => (List.mem_append.mp hp).elim (fun z => I.pin p (List.mem_append_right _ z)) fun z => by
  obtain ⟨hb, e⟩ := Ziq z
  obtain ⟨f0, f1, f2, _⟩ := hf p.1 hb
  obtain ⟨o, e', d⟩ := ho p.1 hb
  rw [e] at e'; cases e'
  exact ⟨e, f0, f1, f2, d⟩
theorem Inv.unpinned {pins pl : List (Addr × Obj)} {σ : St} {H : Hp} {s : Shared} (I : Inv X (pins ++ pl) σ H s) : Inv X pins σ H s := I.pins_of fun p hp => I.pin p (List.mem_append_right _ (List.mem_append_left _ hp))
theorem Zse {iter : Expr} {body : List Stmt} {wi : TI} {g : TG} {tb : TS} {pos : Pos} (hp : PassesOwn (model X.prog X.w) X.A X.env X.xe) (hc : X.calm = true) (hi : PI X tg iter wi) (hg : PG X tg g) (hb : PSs X body tb)
  (hs : ∀ x, foldedSetIterable iter X.env x = pure x := by intro _; rfl) : PS X (.For tg iter body [] pos) (tFor wi g tb) := by
 intro pins s σ H D I h
 refine wpAny_For (thn (hi pins s σ H _ I h) fun v s1 h1 => thn h1 fun itv s2 h2 => ?_) hs
 obtain ⟨it, fp, tn, J, H2, e, I2, T, st2, f2, W, ⟨m0, w0⟩, turn⟩ := h2
 subst e
 -- what stays true of the iterator's objects through the loop
 have stat : ∀ {H' : Hp}, (∀ b ∈ fp, H' b = none) → ∀ b ∈ fp, FpOk X pins H' b := fun hn b hb => ⟨hn b hb, (f2 b hb).2⟩
 refine codeAny_forLoop_any (fun n s' => ∃ i σ' H', Inv X pins σ' H' s' ∧ tn i s'.heap ∧ (∀ b ∈ fp, H' b = none) ∧ W i n σ' H') ?_ m0 ⟨0, σ, H2, I2, st2, fun b hb => (f2 b hb).1, w0⟩
 rintro n s3 ⟨i, σ3, H3, I3, st3, fr3, w3⟩
 rcases turn i n σ3 H3 w3 with ⟨stop, qn⟩ | ⟨go, N, hN, step⟩
 ·refine wpAny_passesOwn hp (thn (T.done X rfl rfl rfl hc i pins s3 σ3 H3 X.xe I3 (stat fr3) st3 stop) fun r s4 ⟨hr, I4⟩ => ?_)
  subst hr
  exact wpAny_execs_nil ⟨σ3, H3, I4, qn⟩
 ·refine wpAny_passesOwn hp (thn (T.item X rfl rfl rfl hc i pins s3 σ3 H3 X.xe I3 (stat fr3) st3 go) fun r s4 ⟨u, hr, h4⟩ => ?_)
  subst hr
  refine wpAny_passesOwn hp (thn h4 fun _ s5 ⟨x, H5, I5, r5, y5, st5, fr5⟩ => ?_)
  have I5' := I5.pinned (stat fr5) (T.obj _ _ st5)
  refine wpAny_passesOwn hp (thn (hg _ s5 σ3 H5 x u _ I5' r5 (step x H5 y5)) fun _ s6 ⟨σ6, H6, I6, q6⟩ => ?_)
  refine wpAny_passesOwn hp (thn (hb _ s6 σ6 H6 _ I6 q6) fun f s7 q7 => ?_)
  have again : ∀ {σ7 : St} {H7 : Hp}, Inv X (pins ++ pinsAt fp s5.heap) σ7 H7 s7 → N σ7 H7 → ∃ m, m < n ∧ ∃ i σ' H', Inv X pins σ' H' s7 ∧ tn i s7.heap ∧ (∀ b ∈ fp, H' b = none) ∧ W i m σ' H' := fun {σ7 H7} I7 n7 => by
   obtain ⟨m', hm, w7⟩ := hN σ7 H7 n7
   refine ⟨m', hm, i + 1, σ7, H7, I7.unpinned, T.keep _ _ _ st5 fun b hb o e => (I7.pin (b, o) (List.mem_append_right _ (List.mem_append_right _ (Zcn hb e)))).1, fun b hb => ?_, w7⟩
   obtain ⟨o, e, d⟩ := T.obj _ _ st5 b hb
   exact (I7.pin (b, o) (List.mem_append_right _ (List.mem_append_right _ (Zcn hb e)))).2.1
  cases f with
  | next => obtain ⟨σ7, H7, I7, n7⟩ := q7; exact again I7 n7
  | cont => obtain ⟨σ7, H7, I7, n7⟩ := q7; exact again I7 n7
  | brk => obtain ⟨σ7, H7, I7, q7⟩ := q7; exact ⟨σ7, H7, I7.unpinned, q7⟩
  | ret v => obtain ⟨x7, σ7, H7, I7, r7, q7⟩ := q7; exact ⟨x7, σ7, H7, I7.unpinned, r7, q7⟩
end
end L2
namespace L2
open PySem PySem.Spec PyProof.Rows
noncomputable abbrev R2 := V → V → Hp → VK → Prop
noncomputable def OpR (X : Cx) (f : Value → Value → Sem Value) (r : R2) : Prop :=
 ∀ (pins : List (Addr × Obj)) (s : Shared) (σ : St) (H : Hp) (x y : V) (v u : Value) (Q : VK), Inv X pins σ H s → RelV x v → RelV y u → r x y H Q →
  wpAny (model X.prog X.w) X.A (f v u) (EP X pins σ Q) X.xe s
noncomputable def UnR (X : Cx) (f : Value → Sem Value) (r : V → Hp → VK → Prop) : Prop :=
 ∀ (pins : List (Addr × Obj)) (s : Shared) (σ : St) (H : Hp) (x : V) (v : Value) (Q : VK), Inv X pins σ H s → RelV x v → r x H Q →
  wpAny (model X.prog X.w) X.A (f v) (EP X pins σ Q) X.xe s
noncomputable def CallR (X : Cx) (f : Value) (r : List V → Hp → VK → Prop) : Prop :=
 ∀ (pins : List (Addr × Obj)) (s : Shared) (σ : St) (H : Hp) (xs : List V) (us : List Value) (Q : VK), Inv X pins σ H s → Vals xs us → r xs H Q →
  wpAny (model X.prog X.w) X.A (call f us) (EP X pins σ Q) X.xe s
noncomputable def tOp (r : R2) (ta tb : TE) : TE := fun σ H Q => ta σ H fun x H1 => tb σ H1 fun y H2 => r x y H2 Q
noncomputable def tUn (r : V → Hp → VK → Prop) (ta : TE) : TE := fun σ H Q => ta σ H fun x H1 => r x H1 Q
noncomputable def rI (C : Int → Int → Prop) (g : Int → Int → V) : R2 := fun x y H Q => ∃ i j, x = .int i ∧ y = .int j ∧ C i j ∧ Q (g i j) H
noncomputable def rI0 (g : Int → Int → V) : R2 := fun x y H Q => ∃ i j, x = .int i ∧ y = .int j ∧ Q (g i j) H
noncomputable def rU (g : Int → V) : V → Hp → VK → Prop := fun x H Q => ∃ i, x = .int i ∧ Q (g i) H
section
variable {X : Cx} {a b c : Expr} {ta tb tc : TE} {pos : Pos}
theorem binT (ha : PE X a ta) (hb : PE X b tb) {pins : List (Addr × Obj)} {s : Shared} {σ : St} {H : Hp} {R : V → V → Hp → Prop} (I : Inv X pins σ H s)
  (h : ta σ H fun x H1 => tb σ H1 fun y H2 => R x y H2) {Q : Value → Shared → Prop} {f : Value → Value → Sem Value}
  (hf : ∀ v u s2 x y H2, Inv X pins σ H2 s2 → RelV x v → RelV y u → R x y H2 → wpAny (model X.prog X.w) X.A (f v u) Q X.xe s2) :
  wpAny (model X.prog X.w) X.A (eval a X.env) (fun v s₁ => wpAny (model X.prog X.w) X.A (eval b X.env) (fun u s₂ => wpAny (model X.prog X.w) X.A (f v u) Q X.xe s₂) X.xe s₁) X.xe s := by
 refine thn (ha pins s σ H _ I h) fun v s1 ⟨x, H1, I1, r1, q1⟩ => ?_
 refine thn (hb pins s1 σ H1 _ I1 q1) fun u s2 ⟨y, H2, I2, r2, q2⟩ => ?_
 exact hf v u s2 x y H2 I2 r1 r2 q2
theorem Zt2 {op : Operator} {r : R2} (ho : OpR X (binaryOp op) r) (ha : PE X a ta) (hb : PE X b tb) : PE X (.BinOp a op b pos) (tOp r ta tb) := by
 intro pins s σ H Q I h
 exact wpAny_BinOp (binT ha hb I h fun v u s2 x y H2 I2 rx ry q => ho pins s2 σ H2 x y v u Q I2 rx ry q)
theorem Zt3 {op : UnaryOp} {r : V → Hp → VK → Prop} (ho : UnR X (unaryOp op) r) (ha : PE X a ta) : PE X (.UnaryOp op a pos) (tUn r ta) := by
 intro pins s σ H Q I h
 exact UnaryOp_ (thn (ha pins s σ H _ I h) fun v s1 ⟨x, H1, I1, r1, q1⟩ => ho pins s1 σ H1 x v Q I1 r1 q1)
theorem opI {f : Value → Value → Sem Value} {C : Int → Int → Prop} {g : Int → Int → Int}
  (rule : ∀ (i j : Int) (t u : Tok) (s : Shared) (Q : Value → Shared → Prop) (E : Value → Shared → Prop), C i j → Q (.int (g i j) s.toks) { s with toks := s.toks + 1 } → wpAny (model X.prog X.w) X.A (f (.int i t) (.int j u)) Q E s) :
  OpR X f (rI C fun i j => .int (g i j)) := by
 intro pins s σ H x y v u Q I rx ry h
 obtain ⟨i, j, rfl, rfl, hc, q⟩ := h
 obtain ⟨t, rfl⟩ := rx
 obtain ⟨t', rfl⟩ := ry
 exact rule i j t t' s _ _ hc ⟨.int (g i j), H, I.tok _, ⟨_, rfl⟩, q⟩
theorem opI0 {f : Value → Value → Sem Value} {g : Int → Int → Int}
  (rule : ∀ (i j : Int) (t u : Tok) (s : Shared) (Q : Value → Shared → Prop) (E : Value → Shared → Prop), Q (.int (g i j) s.toks) { s with toks := s.toks + 1 } → wpAny (model X.prog X.w) X.A (f (.int i t) (.int j u)) Q E s) :
  OpR X f (rI0 fun i j => .int (g i j)) := by
 intro pins s σ H x y v u Q I rx ry h
 obtain ⟨i, j, rfl, rfl, q⟩ := h
 obtain ⟨t, rfl⟩ := rx
 obtain ⟨t', rfl⟩ := ry
 exact rule i j t t' s _ _ ⟨.int (g i j), H, I.tok _, ⟨_, rfl⟩, q⟩
theorem opB0 {f : Value → Value → Sem Value} {g : Int → Int → Bool}
  (rule : ∀ (i j : Int) (t u : Tok) (s : Shared) (Q : Value → Shared → Prop) (E : Value → Shared → Prop), Q (.bool (g i j)) s → wpAny (model X.prog X.w) X.A (f (.int i t) (.int j u)) Q E s) :
  OpR X f (rI0 fun i j => .bl (g i j)) := by
 intro pins s σ H x y v u Q I rx ry h
 obtain ⟨i, j, rfl, rfl, q⟩ := h
 obtain ⟨t, rfl⟩ := rx
 obtain ⟨t', rfl⟩ := ry
 exact rule i j t t' s _ _ ⟨.bl (g i j), H, I, rfl, q⟩
noncomputable def CDiv (i j : Int) : Prop := 0 < j ∧ j < 1073741824
noncomputable def CMul (i j : Int) : Prop := (-(2 ^ 64) < i ∧ i < 2 ^ 64) ∨ (-(2 ^ 64) < j ∧ j < 2 ^ 64)
theorem CMul.ok {i j : Int} (h : CMul i j) : IntMulOk i j := by
 rcases h with ⟨h1, h2⟩ | ⟨h1, h2⟩
 ·exact .of_left (intBits_le_64 h1 h2)
 ·exact .of_right (intBits_le_64 h1 h2)
theorem Zcb : OpR X (binaryOp .Add) (rI0 fun i j => .int (i + j)) := opI0 fun _ _ _ _ _ _ _ q => add_int q
theorem Zna : OpR X (binaryOp .Sub) (rI0 fun i j => .int (i - j)) := opI0 fun _ _ _ _ _ _ _ q => sub_int q
theorem Zjv : OpR X (binaryOp .FloorDiv) (rI CDiv fun i j => .int (i / j)) := opI fun i j _ _ _ _ _ hc q => by
 have h1 : (0 : Int) < j := hc.1
 have h2 : j < 1073741824 := hc.2
 exact floordiv_int (by omega) (by rw [Int.fdiv_eq_ediv_of_nonneg i (by omega)]; exact q) (.inl (PyProof.noPylong_small (by omega)))
theorem Zfm : OpR X (binaryOp .Mod) (rI (fun _ j => 0 < j) fun i j => .int (i % j)) := opI fun i j _ _ _ _ _ hc q => by
 have h1 : (0 : Int) < j := hc
 exact mod_int' (by omega) (by rw [Int.fmod_eq_emod_of_nonneg i (by omega)]; exact q)
theorem unI {f : Value → Sem Value} {g : Int → Int}
  (rule : ∀ (i : Int) (t : Tok) (s : Shared) (Q : Value → Shared → Prop) (E : Value → Shared → Prop), Q (.int (g i) s.toks) { s with toks := s.toks + 1 } → wpAny (model X.prog X.w) X.A (f (.int i t)) Q E s) :
  UnR X f (rU fun i => .int (g i)) := by
 intro pins s σ H x v Q I rx h
 obtain ⟨i, rfl, q⟩ := h
 obtain ⟨t, rfl⟩ := rx
 exact rule i t s _ _ ⟨.int (g i), H, I.tok _, ⟨_, rfl⟩, q⟩
theorem Ziz : UnR X (unaryOp .USub) (rU fun i => .int (-i)) := unI fun _ _ _ _ _ q => neg_int q
end
noncomputable def scal : V → V → Bool
 | .non, .non => true | .non, .int _ => true | .int _, .non => true | .non, .bl _ => true | .bl _, .non => true | .non, .str _ => true | .str _, .non => true
 | .int _, .int _ => true | .bl _, .bl _ => true | .str _, .str _ => true | .byt _, .byt _ => true
 | .int _, .str _ => true | .str _, .int _ => true | .bl _, .str _ => true | .str _, .bl _ => true
 | _, _ => false
noncomputable def rEq : R2 := fun x y H Q => scal x y = true ∧ Q (.bl (decide (x = y))) H
noncomputable def rNe : R2 := fun x y H Q => scal x y = true ∧ Q (.bl (!decide (x = y))) H
theorem Zmp {i j : Int} : decide (V.int i = V.int j) = (i == j) := by
 rw [Bool.eq_iff_iff]
 simp
theorem Zpo {i j : Bool} : decide (V.bl i = V.bl j) = (i == j) := by
 rw [Bool.eq_iff_iff]
 simp
theorem Zmq {i j : Str} : decide (V.str i = V.str j) = (i == j) := by
 rw [Bool.eq_iff_iff]
 simp
theorem Zmo {i j : Array UInt8} : decide (V.byt i = V.byt j) = (i.toList == j.toList) := by
 rw [Bool.eq_iff_iff]
 cases i
 cases j
 simp
section
variable {X : Cx} {a b c : Expr} {ta tb tc : TE} {pos : Pos}
theorem Zbf {pins : List (Addr × Obj)} {σ : St} {H : Hp} {s : Shared} {Q : VK} {k k' : Bool} (I : Inv X pins σ H s) (q : Q (.bl k) H) (e : k = k') : EP X pins σ Q (.bool k') s := by
 subst e
 exact ⟨.bl k, H, I, rfl, q⟩
theorem Zn9 : OpR X (compareOp .Eq) rEq := by
 intro pins s σ H x y v u Q I rx ry h
 obtain ⟨hs, q⟩ := h
 cases x with
 | non =>
  cases rx
  cases y with
  | non => cases ry; exact PySem.EqNone.eq_none_none (Zbf I q (by simp))
  | bl j => cases ry; exact PySem.EqNone.eq_none_bool (Zbf I q (by simp))
  | int j => obtain ⟨t', rfl⟩ := ry; exact PySem.EqNone.eq_none_int (Zbf I q (by simp))
  | str j => obtain ⟨t', rfl⟩ := ry; exact PySem.EqNone.eq_none_str (Zbf I q (by simp))
  | _ => exact absurd (show false = true from hs) Bool.false_ne_true
 | bl i =>
  cases rx
  cases y with
  | non => cases ry; exact PySem.EqNone.eq_bool_none (Zbf I q (by simp))
  | bl j => cases ry; exact eq_bool (Zbf I q Zpo)
  | str j => obtain ⟨t', rfl⟩ := ry; exact PySem.EqMixed.eq_bool_str (Zbf I q (by simp))
  | _ => exact absurd (show false = true from hs) Bool.false_ne_true
 | int i =>
  obtain ⟨t, rfl⟩ := rx
  cases y with
  | non => cases ry; exact PySem.EqNone.eq_int_none (Zbf I q (by simp))
  | int j => obtain ⟨t', rfl⟩ := ry; exact eq_int (Zbf I q Zmp)
  | str j => obtain ⟨t', rfl⟩ := ry; exact PySem.EqMixed.eq_int_str (Zbf I q (by simp))
  | _ => exact absurd (show false = true from hs) Bool.false_ne_true
 | str i =>
  obtain ⟨t, rfl⟩ := rx
  cases y with
  | non => cases ry; exact PySem.EqNone.eq_str_none (Zbf I q (by simp))
  | bl j => cases ry; exact PySem.EqMixed.eq_str_bool (Zbf I q (by simp))
  | int j => obtain ⟨t', rfl⟩ := ry; exact PySem.EqMixed.eq_str_int (Zbf I q (by simp))
  | str j => obtain ⟨t', rfl⟩ := ry; exact eq_str (Zbf I q Zmq)
  | _ => exact absurd (show false = true from hs) Bool.false_ne_true
 | byt i =>
  obtain ⟨t, rfl⟩ := rx
  cases y with
  | byt j => obtain ⟨t', rfl⟩ := ry; exact PySem.W.eq_bytes (Zbf I q Zmo)
  | _ => exact absurd (show false = true from hs) Bool.false_ne_true
 | _ => cases y <;> exact absurd (show false = true from hs) Bool.false_ne_true
theorem Zs0 : OpR X (compareOp .NotEq) rNe := by
 intro pins s σ H x y v u Q I rx ry h
 obtain ⟨hs, q⟩ := h
 cases x with
 | non =>
  cases rx
  cases y with
  | non => cases ry; exact PySem.EqNone.ne_none_none (Zbf I q (by simp))
  | bl j => cases ry; exact PySem.EqNone.ne_none_bool (Zbf I q (by simp))
  | int j => obtain ⟨t', rfl⟩ := ry; exact PySem.EqNone.ne_none_int (Zbf I q (by simp))
  | str j => obtain ⟨t', rfl⟩ := ry; exact PySem.EqNone.ne_none_str (Zbf I q (by simp))
  | _ => exact absurd (show false = true from hs) Bool.false_ne_true
 | bl i =>
  cases rx
  cases y with
  | non => cases ry; exact PySem.EqNone.ne_bool_none (Zbf I q (by simp))
  | bl j => cases ry; exact ne_bool (Zbf I q (congrArg not Zpo))
  | str j => obtain ⟨t', rfl⟩ := ry; exact PySem.EqMixed.ne_bool_str (Zbf I q (by simp))
  | _ => exact absurd (show false = true from hs) Bool.false_ne_true
 | int i =>
  obtain ⟨t, rfl⟩ := rx
  cases y with
  | non => cases ry; exact PySem.EqNone.ne_int_none (Zbf I q (by simp))
  | int j => obtain ⟨t', rfl⟩ := ry; exact ne_int (Zbf I q (congrArg not Zmp))
  | str j => obtain ⟨t', rfl⟩ := ry; exact PySem.EqMixed.ne_int_str (Zbf I q (by simp))
  | _ => exact absurd (show false = true from hs) Bool.false_ne_true
 | str i =>
  obtain ⟨t, rfl⟩ := rx
  cases y with
  | non => cases ry; exact PySem.EqNone.ne_str_none (Zbf I q (by simp))
  | bl j => cases ry; exact PySem.EqMixed.ne_str_bool (Zbf I q (by simp))
  | int j => obtain ⟨t', rfl⟩ := ry; exact PySem.EqMixed.ne_str_int (Zbf I q (by simp))
  | str j => obtain ⟨t', rfl⟩ := ry; exact ne_str (Zbf I q (congrArg not Zmq))
  | _ => exact absurd (show false = true from hs) Bool.false_ne_true
 | byt i =>
  obtain ⟨t, rfl⟩ := rx
  cases y with
  | byt j => obtain ⟨t', rfl⟩ := ry; exact PySem.W.ne_bytes (Zbf I q (congrArg not Zmo))
  | _ => exact absurd (show false = true from hs) Bool.false_ne_true
 | _ => cases y <;> exact absurd (show false = true from hs) Bool.false_ne_true
theorem Zqe : OpR X (compareOp .Lt) (rI0 fun i j => .bl (decide (i < j))) := opB0 fun _ _ _ _ _ _ _ q => lt_int q
theorem Zrz : OpR X (compareOp .LtE) (rI0 fun i j => .bl (decide (i ≤ j))) := opB0 fun _ _ _ _ _ _ _ q => le_int q
theorem Zrx : OpR X (compareOp .Gt) (rI0 fun i j => .bl (decide (j < i))) := opB0 fun _ _ _ _ _ _ _ q => gt_int q
theorem nomark (b : Expr) {op : CmpOp} (h : op ≠ .In := by decide) (h2 : op ≠ .NotIn := by decide) : behindInMarks op b = false := by
 have e1 : (op == CmpOp.In) = false := by cases op <;> first | rfl | exact absurd rfl h
 have e2 : (op == CmpOp.NotIn) = false := by cases op <;> first | rfl | exact absurd rfl h2
 cases b <;> simp [behindInMarks, e1, e2]
theorem Zqh {op : CmpOp} {r : R2} (ho : OpR X (compareOp op) r) (ha : PE X a ta) (hb : PE X b tb) (hm : behindInMarks op b = false) : PE X (.Compare a [op] [b] pos) (tOp r ta tb) := by
 intro pins s σ H Q I h
 exact wpAny_Compare1 (binT ha hb I h fun v u s2 x y H2 I2 rx ry q => ho pins s2 σ H2 x y v u Q I2 rx ry q) hm
noncomputable def tTest (t : TE) : TT := fun σ H Q => t σ H fun x H' => ∃ k, x = .bl k ∧ Q k H'
theorem Zqw {op : CmpOp} {r : R2} (ho : OpR X (compareOp op) r) (ha : PE X a ta) (hb : PE X b tb) (hm : behindInMarks op b = false) : PT X (.Compare a [op] [b] pos) (tTest (tOp r ta tb)) := by
 intro pins s σ H Q I h
 refine wpAny_isTrue_Compare1 (thn (ha pins s σ H _ I h) fun v s1 ⟨x, H1, I1, r1, q1⟩ => thn (hb pins s1 σ H1 _ I1 q1) fun u s2 ⟨y, H2, I2, r2, q2⟩ =>
  thn (ho pins s2 σ H2 x y v u _ I2 r1 r2 q2) fun c s3 ⟨z, H3, I3, r3, k, e, q3⟩ => ?_) hm
 subst e
 cases r3
 exact wpAny_truthy_bool ⟨H3, I3, q3⟩
theorem line63 : (sizeLine : Nat) < 2 ^ 63 := by rw [sizeLine_eq]; decide
theorem vals1 {x : V} {us : List Value} (r : Vals [x] us) : ∃ u, us = [u] ∧ RelV x u := by
 cases r with
 | cons r1 r2 => cases r2; exact ⟨_, rfl, r1⟩
theorem vals2 {x y : V} {us : List Value} (r : Vals [x, y] us) : ∃ u w', us = [u, w'] ∧ RelV x u ∧ RelV y w' := by
 cases r with
 | cons r1 r2 =>
  cases r2 with
  | cons r3 r4 => cases r4; exact ⟨_, _, rfl, r1, r3⟩
theorem Zo8 : CallR X (.builtin "abs") (fun xs H Q => ∃ i, xs = [.int i] ∧ Q (.int (if i < 0 then -i else i)) H) := by
 intro pins s σ H xs us Q I r h
 obtain ⟨i, rfl, q⟩ := h
 obtain ⟨u, rfl, t, rfl⟩ := vals1 r
 exact call_abs_int fun u tk => ⟨.int (if i < 0 then -i else i), H, I.tok _, ⟨_, rfl⟩, q⟩
theorem Zmd (hc : X.calm = true) : CallR X (.builtin "max") (fun xs H Q => ∃ i j, xs = [.int i, .int j] ∧ Q (.int (if j > i then j else i)) H) := by
 intro pins s σ H xs us Q I r h
 obtain ⟨i, j, rfl, q⟩ := h
 obtain ⟨u, w', rfl, ⟨t, rfl⟩, ⟨t', rfl⟩⟩ := vals2 r
 refine max_two_ints (I.ok.hd hc) fun h' tk k => ⟨_, H, I.kept k, ?_, q⟩
 by_cases hj : j > i
 ·rw [if_pos hj, if_pos hj]; exact ⟨_, rfl⟩
 ·rw [if_neg hj, if_neg hj]; exact ⟨_, rfl⟩
theorem Zi2 (hc : X.calm = true) : CallR X (.builtin "min") (fun xs H Q => ∃ i j, xs = [.int i, .int j] ∧ Q (.int (if j < i then j else i)) H) := by
 intro pins s σ H xs us Q I r h
 obtain ⟨i, j, rfl, q⟩ := h
 obtain ⟨u, w', rfl, ⟨t, rfl⟩, ⟨t', rfl⟩⟩ := vals2 r
 refine min_two_ints (I.ok.hd hc) fun h' tk k => ⟨_, H, I.kept k, ?_, q⟩
 by_cases hj : j < i
 ·rw [if_pos hj, if_pos hj]; exact ⟨_, rfl⟩
 ·rw [if_neg hj, if_neg hj]; exact ⟨_, rfl⟩
theorem Zmc : CallR X (.type "int") (fun xs H Q => (∃ i, xs = [.int i] ∧ Q (.int i) H) ∨ ∃ k, xs = [.bl k] ∧ Q (.int (if k then 1 else 0)) H) := by
 intro pins s σ H xs us Q I r h
 rcases h with ⟨i, rfl, q⟩ | ⟨k, rfl, q⟩
 ·obtain ⟨u, rfl, t, rfl⟩ := vals1 r
  exact call_int_int ⟨.int i, H, I, ⟨_, rfl⟩, q⟩
 ·obtain ⟨u, rfl, r1⟩ := vals1 r
  cases r1
  exact call_int_bool ⟨.int (if k then 1 else 0), H, I.tok _, ⟨_, rfl⟩, q⟩
end
end L2
namespace L2
open PySem PySem.Spec PyProof.Rows
structure ObjM (h : Heap) (x dx C : Addr) (mA : Str → Option Value) : Prop where
 obj : h.get? x = some (PySem.W.instObj C dx)
 ns : h.Ns1 dx mA
 ne : dx ≠ x
theorem Zn3 {h : Heap} {dx : Addr} {mA : Str → Option Value} (n : h.Ns1 dx mA) : ∃ od, h.get? dx = some od ∧ ∀ name, PySem.W.lookIn name od = some (mA name) := by
 obtain ⟨o, es, ep, ho, hd, hk, _, hm⟩ := n
 refine ⟨o, ho, fun name => ?_⟩
 have e := hm name
 unfold nsFind findBy at e
 rw [← Array.find?_toList] at e
 unfold PySem.W.lookIn
 rw [hd]
 dsimp only
 split
 ·rename_i y q
  rw [q] at e
  exact congrArg some e
 ·rename_i q
  rw [q] at e
  have a : es.toList.any (·.refKey) = false := by
   rw [List.any_eq_false]
   intro y hy
   obtain ⟨z, t, hkey⟩ := hk y (Array.mem_toList_iff.mp hy)
   simp [DictEntry.refKey, hkey]
  have a' : ¬ es.toList.any (·.refKey) = true := by rw [a]; exact Bool.false_ne_true
  rw [if_neg a']
  exact congrArg some e
theorem ObjM.look {h : Heap} {x dx C : Addr} {mA : Str → Option Value} (I : ObjM h x dx C mA) : ∃ od, PySem.W.InstAt h x (PySem.W.instObj C dx) C (some od) ∧ ∀ name, PySem.W.lookIn name od = some (mA name) :=
 let ⟨od, ho, hl⟩ := Zn3 I.ns
 ⟨od, ⟨I.obj, rfl, rfl, ho⟩, hl⟩
section
variable {prog : Program} {w : World} {A : Around} {E : Value → Shared → Prop} {s : Shared} {K : PySem.W.Frag} {x dx C f : Addr} {mA : Str → Option Value} {name : Str} {v : Value}
theorem Zk3 {ns : List Str} {Q : Unit → Shared → Prop} (X : K.In s.heap) (I : ObjM s.heap x dx C mA)
  (hs : PySem.W.findIn K (.ref C) "__setattr__" = some (some (.builtin "object.__setattr__"))) (hp : PySem.W.plainOver K C = true) (ht : PySem.W.takerIn K C name = some none) (hh : PySem.W.hasDictIn K C = true)
  (hw : PySem.Within mA ns) (hsz : ns.length ≤ sizeLine)
  (h : ∀ h', ObjM h' x dx C (fun y => if y = name then some v else mA y) → Heap.SameBut dx s.heap h' → Q () { s with heap := h', toks := s.toks + 2 }) :
  wpAny (model prog w) A (setAttr (.ref x) name v) Q E s := by
 obtain ⟨od, J, hl⟩ := I.look
 refine PySem.W.set_plain X J hs (PySem.W.osa_open (s := { s with toks := s.toks + 1 }) (r := none) X J hp ht fun b => ?_)
 obtain ⟨cd, hc, hd'⟩ := PySem.W.any_some hh
 have hx : s.heap.get? x = some ⟨.ref C, some dx, .plain, #[]⟩ := I.obj
 refine wpAny_bind (wpAny_pure (wpAny_bind (wpAny_bind (wpAny_loadPart hx (wpAny_bind (PySem.W.Looks.here (s := { s with toks := s.toks + 1 }) (PySem.W.looks_clsIn X hc) ?_))))))
 rw [hd']
 refine wpAny_pure (a := some dx) (wpAny_bind (wpAny_pure (wpAny_bind ?_)))
 refine wpAny_nsSet1 (s := { s with toks := s.toks + 1 }) I.ns fun h' hn2 hs2 => ?_
 obtain ⟨oD, esD, epD, hoD, hdD, hcD⟩ := hn2.count (PySem.Within.cons name v hw)
 refine wpAny_bind (wpAny_lookBehind hoD (by rw [hdD]; exact pastItsLine_dict (Nat.le_trans hcD (by rw [List.length_cons]; omega))) ?_)
 exact wpAny_pure (h _ ⟨(hs2.2 _ (Ne.symm I.ne)).trans I.obj, hn2, I.ne⟩ hs2)
end
theorem RelO.some_of {v : V} {o : Option Value} (r : RelO (some v) o) : ∃ u, o = some u ∧ RelV v u := by
 cases o with
 | none => exact (show False from r).elim
 | some u => exact ⟨u, rfl, r⟩
section
variable {P : Program} {w : World} {H H' : Hp} {h h' : Heap} {a C dx : Addr} {fs fs' : List (Str × V)}
end
structure Cls (K : PySem.W.Frag) (C : Addr) : Prop where
 pg : PySem.W.plainGet K C Str.empty = true
 hd : PySem.W.hasDictIn K C = true
 po : PySem.W.plainOver K C = true
 sa : PySem.W.findIn K (.ref C) "__setattr__" = some (some (.builtin "object.__setattr__"))
theorem Cls.get {K : PySem.W.Frag} {C : Addr} (c : Cls K C) (f : Str) : PySem.W.plainGet K C f = true := c.pg
section
variable {X : Cx} {pins : List (Addr × Obj)} {σ : St} {H : Hp} {s : Shared} {a C dx : Addr} {fs : List (Str × V)} {f : Str} {v : V} {A : Around} {E : Value → Shared → Prop}
end
section
variable {X : Cx} {o e value : Expr} {f : Str} {pos pos' tpos : Pos} {ta tv : TE}
end
section
variable {X : Cx} {pins : List (Addr × Obj)} {σ : St} {H : Hp} {s : Shared} {A : Around} {E : Value → Shared → Prop} {Q : Value → Shared → Prop} {c : Value} {b : Bool}
inductive TyOf (K : PySem.W.Frag) (H : Hp) : V → Value → Prop where
 | non : TyOf K H .non (.type "NoneType")
 | bl (x : Bool) : TyOf K H (.bl x) (.type "bool")
 | int (i : Int) : TyOf K H (.int i) (.type "int")
 | str (x : Str) : TyOf K H (.str x) (.type "str")
 | flt (x : UInt64) : TyOf K H (.flt x) (.type "float")
 | lst {a : Addr} {xs : List V} (e : H a = some (.lst xs)) : TyOf K H (.ref a) (.type "list")
 | frz {a : Addr} {o : Obj} {xs : List V} (e : H a = some (.frz o (.lst xs))) : TyOf K H (.ref a) (.type "list")
 | tup {a : Addr} {xs : List V} (e : H a = some (.tup xs)) : TyOf K H (.ref a) (.type "tuple")
 | dK {a : Addr} {kvs : List (Key × V)} (e : H a = some (.dK kvs)) : TyOf K H (.ref a) (.type "dict")
 | dT {a : Addr} {kvs : List (List Key × V)} (e : H a = some (.dT kvs)) : TyOf K H (.ref a) (.type "dict")
 | ins {a C dx : Addr} {fs : List (Str × V)} (e : H a = some (.ins C dx fs)) (cl : Cls K C) (ha : PySem.W.findIn K (.ref C) "__class__" = some (some (.builtin "object.__class__")))
   (hn : PySem.W.specialIn K (.builtin "object.__class__") "__get__" = some (some (.builtin "getset_descriptor.__get__"))) (htk : PySem.W.takesIn K (.builtin "object.__class__") = some true)
   (hm : PySem.W.mroIn K C (.type "object") = some true) : TyOf K H (.ref a) (.ref C)
end
end L2
namespace L2
open PySem PySem.Spec PyProof.Rows
structure Room (k : Nat) (A : Around) : Prop where
 hd : A.handled = none
 dp : A.depth + 3 * k + 5 < recursionLimit
 un : A.units + 16 * k + 200 < cLine
 gd : A.guards = some []
theorem Room.mono {j k : Nat} {A : Around} (r : Room k A) (h : j ≤ k) : Room j A := ⟨r.hd, by have := r.dp; omega, by have := r.un; omega, r.gd⟩
theorem Room.deeper {k : Nat} {A : Around} (r : Room (k + 1) A) (env : Env) : Room k (A.deeper env) :=
 ⟨r.hd, by have := r.dp; show A.depth + 1 + 3 * k + 5 < _; omega, by have := r.un; show A.units + 3 + 16 * k + 200 < _; omega, r.gd⟩
theorem Room.depth {k : Nat} {A : Around} (r : Room k A) : A.depth < recursionLimit := by have := r.dp; omega
theorem Room.units {k : Nat} {A : Around} (r : Room k A) : A.units + 64 < cLine := by have := r.un; omega
noncomputable def tNil : TA := fun _ H Q => Q [] H
noncomputable def tCons (ta : TE) (tr : TA) : TA := fun σ H Q => ta σ H fun x H1 => tr σ H1 fun xs H2 => Q (x :: xs) H2
section
variable {X : Cx} {e : Expr} {es : List Expr} {te : TE} {t : TA} {pos : Pos}
theorem Zs3 : PA X [] tNil := fun _ _ _ _ H Q I h => Calls.spliced_nil ⟨[], H, I, .nil, h⟩
theorem Zqf (ha : PE X e te) (hr : PA X es t) (hs : starEach (e :: es) X.env = (false, eval e X.env) :: starEach es X.env := by rfl) : PA X (e :: es) (tCons te t) := by
 intro pos pins s σ H Q I h
 rw [hs]
 show wpAny _ _ (spliced ((false, eval e X.env) :: backTo pos (starEach es X.env))) _ _ s
 refine Calls.spliced_cons (thn (ha pins s σ H _ I h) fun u s1 ⟨x, H1, I1, r1, q1⟩ => ?_)
 exact thn (hr pos pins s1 σ H1 _ I1 q1) fun us s2 ⟨xs, H2, I2, r2, q2⟩ => ⟨x :: xs, H2, I2, .cons r1 r2, q2⟩
noncomputable def tTup (t : TA) : TE := fun σ H Q => t σ H fun xs H1 => xs.length ≤ sizeLine ∧ ∀ p, H1 p = none → Q (.ref p) (upd H1 p (.tup xs))
noncomputable def tLst (t : TA) : TE := fun σ H Q => t σ H fun xs H1 => xs.length ≤ sizeLine ∧ ∀ p, H1 p = none → Q (.ref p) (upd H1 p (.lst xs))
theorem Zs8 {x1} (h : PA X es t) : PE X (.Tuple es x1 pos) (tTup t) := by
 intro pins s σ H Q I hq
 refine wpAny_Tuple_spliced (thn (h pos pins s σ H _ I hq) fun us s1 ⟨xs, H1, I1, r, z, q⟩ => ⟨by rw [← r.length]; exact z, ?_⟩)
 have hf : H1 s1.heap.objs.size = none := I1.hok.fresh (Nat.le_refl _)
 refine ⟨.ref s1.heap.objs.size, upd H1 s1.heap.objs.size (.tup xs), I1.laid (t' := s1.toks) (fun b u e => Heap.get?_push_of_some _ e) (Nat.le_refl _) ?_, rfl, q _ hf⟩
 exact ⟨z, us, r, ⟨_, Heap.get?_push_size _ rfl, rfl, _, rfl⟩⟩
theorem Zs6 (h : PA X es t) : PE X (.List es pos) (tLst t) := by
 intro pins s σ H Q I hq
 refine wpAny_List_spliced (thn (h pos pins s σ H _ I hq) fun us s1 ⟨xs, H1, I1, r, z, q⟩ => ⟨by rw [← r.length]; exact z, ?_⟩)
 have hf : H1 s1.heap.objs.size = none := I1.hok.fresh (Nat.le_refl _)
 refine ⟨.ref s1.heap.objs.size, upd H1 s1.heap.objs.size (.lst xs), I1.laid (t' := s1.toks) (fun b u e => Heap.get?_push_of_some _ e) (Nat.le_refl _) ?_, rfl, q _ hf⟩
 exact ⟨z, us, 0, r, Heap.get?_push_size _ rfl⟩
end
noncomputable abbrev Sp := List V → Hp → VK → XK → Prop
noncomputable abbrev CXT := List Env → Hp → Shared → XK → Value → Shared → Prop
structure Env0 (P : Program) (w : World) (K : PySem.W.Frag) (mg : Str → Option Value) (base : Heap) (A : Around) (outer : List Env) (s : Shared) (H : Hp) : Prop where
 frames : A.frames = some outer
 mod : Mod K mg base
 bs : ∀ b o, base.get? b = some o → s.heap.get? b = some o ∧ H b = none
 bsz : base.objs.size ≤ s.heap.objs.size
 funs : s.heap.FunFrames base outer
 frf : ∀ b ∈ frs outer, H b = none
 hok : HOk P w H s.heap
 bare : AllBare s.gens
noncomputable def CE (outer : List Env) (P : Program) (w : World) (H : Hp) (s : Shared) (Q : VK) (u : Value) (s' : Shared) : Prop :=
 ∃ v H', s'.os = s.os ∧ AllBare s'.gens ∧ Un (frs outer) [] H H' s.heap s'.heap ∧ HOk P w H' s'.heap ∧ RelV v u ∧ Q v H'
noncomputable def CR (CX : CXT) (outer : List Env) (P : Program) (w : World) (H : Hp) (s : Shared) (Q : VK) (E : XK) (r : Result) (s' : Shared) : Prop :=
 match r with
 | .ok (.ret u) => CE outer P w H s Q u s'
 | .ok _ => False
 | .error e => CX outer H s E e s'
structure FnOk (P : Program) (w : World) (K : PySem.W.Frag) (mg : Str → Option Value) (base : Heap) (CX : CXT) (k : Nat) (f : Addr) (fd : FuncData) (ps : List Str) (sp : Sp) : Prop where
 len : ∀ vs H Q E, sp vs H Q E → vs.length = ps.length
 run : ∀ (A : Around) (outer : List Env) (s : Shared) (H : Hp) (args : Args) (us : List Value) (vs : List V) (Q : VK) (E : XK), Room k A → Env0 P w K mg base A outer s H → BindsTo s fd args (ps.zip us) → Vals vs us → sp vs H Q E →
  codeAny (model P w) A (.call (.ref f) args) (CR CX outer P w H s Q E) s
theorem FnOk.imp {P : Program} {w : World} {K : PySem.W.Frag} {mg : Str → Option Value} {base : Heap} {CX : CXT} {k : Nat} {f : Addr} {fd : FuncData} {ps : List Str} {sp sp' : Sp} (F : FnOk P w K mg base CX k f fd ps sp)
  (h : ∀ vs H Q E, sp' vs H Q E → sp vs H Q E) : FnOk P w K mg base CX k f fd ps sp' :=
 ⟨fun vs H Q E q => F.len vs H Q E (h _ _ _ _ q), fun A outer s H args us vs Q E hr he hb hv hs => F.run A outer s H args us vs Q E hr he hb hv (h _ _ _ _ hs)⟩
section
variable {X : Cx} {pins : List (Addr × Obj)} {σ : St} {H : Hp} {s s' : Shared}
theorem Inv.env0 (I : Inv X pins σ H s) : Env0 X.prog X.w X.K X.mg X.base X.A X.stack s H :=
 ⟨I.ok.frames, I.ok.mod, I.bs, Nat.le_trans I.ok.bsz I.sz, I.stack, I.stkFree, I.hok, I.bare⟩
theorem Inv.after {Q : VK} {u : Value} (I : Inv X pins σ H s) (h : CE X.stack X.prog X.w H s Q u s') : EP X pins σ Q u s' := by
 obtain ⟨v, H', os, bare, un, hok, r, q⟩ := h
 obtain ⟨hh, g, d, t, os'⟩ := s'
 obtain rfl : os' = s.os := os
 exact ⟨v, H', I.call (h' := hh) (g' := g) (d' := d) (t' := t) (ch := []) un hok bare (fun b z => absurd z (by simp)), r, q⟩
end
noncomputable def tCall (sp : Sp) (dvs : List V) (E : XK) (t : TA) : TE := fun σ H Q => t σ H fun vs H1 => sp (vs ++ dvs) H1 Q E
noncomputable def Binds (K : PySem.W.Frag) (fd : FuncData) (ps : List Str) (ds : List Value) : Prop :=
 ∀ (s : Shared) (us : List Value), K.In s.heap → (us ++ ds).length = ps.length → BindsTo s fd ⟨us, []⟩ (ps.zip (us ++ ds))
theorem Binds.all {K : PySem.W.Frag} {fd : FuncData} {ps : List Str} (h : ∀ us : List Value, us.length = ps.length → bindArgs fd ⟨us, []⟩ = pure (ps.zip us)) : Binds K fd ps [] := fun s us _ hl => by
 rw [List.append_nil] at hl ⊢
 exact .of_eq (h us hl)
noncomputable def Passes (CX : CXT) (X : Cx) (E : XK) : Prop := ∀ (pins : List (Addr × Obj)) (σ : St) (H : Hp) (s : Shared) (e : Value) (s' : Shared), Inv X pins σ H s → CX X.stack H s E e s' → X.xe e s'
section
variable {X : Cx} {CX : CXT} {k : Nat} {f C : Addr} {fd : FuncData} {ps : List Str} {sp : Sp} {dvs : List V} {ds : List Value} {E : XK} {x m : Str} {p pos apos : Pos} {e o : Expr} {es : List Expr} {ta : TE} {t : TA}
theorem Zsr {pins : List (Addr × Obj)} {σ : St} {H : Hp} {s : Shared} {Q : VK} {us : List Value} {vs : List V} (F : FnOk X.prog X.w X.K X.mg X.base CX k f fd ps sp) (hr : Room k X.A) (hb : Binds X.K fd ps ds) (hd : Vals dvs ds) (hx : Passes CX X E)
  (I : Inv X pins σ H s) (r : Vals vs us) (h : sp (vs ++ dvs) H Q E) : wpAny (model X.prog X.w) X.A (call (.ref f) us) (EP X pins σ Q) X.xe s := by
 have r2 : Vals (vs ++ dvs) (us ++ ds) := r.append hd
 have hl : (us ++ ds).length = ps.length := by rw [← r2.length]; exact F.len _ _ _ _ h
 refine wpAny_call (codeAny_mono (F.run X.A X.stack s H ⟨us, []⟩ (us ++ ds) (vs ++ dvs) Q E hr I.env0 (hb s us I.kIn hl) r2 h) fun r s' hq => ?_)
 cases r with
 | error e => exact hx pins σ H s e s' I hq
 | ok fl =>
  cases fl with
  | ret u => exact I.after hq
  | next => exact False.elim hq
  | brk => exact False.elim hq
  | cont => exact False.elim hq
theorem Zqg (F : FnOk X.prog X.w X.K X.mg X.base CX k f fd ps sp) (hr : Room k X.A) (hg : Gl X x) (hm : X.mg x = some (.ref f)) (hk : PySem.W.keepIn X.K (.ref f) = true) (hb : Binds X.K fd ps ds) (hd : Vals dvs ds) (hx : Passes CX X E)
  (ha : PA X (e :: es) t) (hdb : (x == ("__debug__" : Str)) = false := by decide) (he : starEach (e :: es) X.env = (false, eval e X.env) :: starEach es X.env := by rfl) (hpl : (backTo pos (starEach es X.env)).any (·.1) = false := by rfl) :
  PE X (.Call (.Name x p) (e :: es) [] pos) (tCall sp dvs E t) := by
 intro pins s σ H Q I h
 refine wpAny_Call_Name_kw (Zq8 I hg hm ?_ hdb)
 refine PySem.W.callWith_K (h₀ := X.base) I.ok.mod.kin hk (thn (ha pos pins s σ H _ I h) fun us s1 ⟨vs, H1, I1, r, q⟩ => ⟨I1.kIn, ?_⟩) he hpl
 exact Zsr F hr hb hd hx I1 r q
end
noncomputable def PK (X : Cx) (kws : List Keyword) (t : TA) : Prop :=
 ∀ (pos : Pos) (pins : List (Addr × Obj)) (s : Shared) (σ : St) (H : Hp) (Q : List V → Hp → Prop), Inv X pins σ H s → t σ H Q → wpAny (model X.prog X.w) X.A (evalAll ((backToKw pos (keywordEach kws X.env)).map (·.2))) (AP X pins σ Q) X.xe s
section
variable {X : Cx} {CX : CXT} {k : Nat} {f C : Addr} {fd : FuncData} {ps ks : List Str} {sp : Sp} {E : XK} {x m : Str} {p pos apos kpos : Pos} {e o : Expr} {es : List Expr} {kws : List Keyword} {te ta : TE} {t tk : TA} {nm : Option Str}
variable {g : List Value → List Value → List Value} {gV : List V → List V → List V}
end
structure FnScope (N P : List Str) (sc : Scope) : Prop where
 kind : sc.kind = .function
 co : sc.isCoroutine = false
 gen : sc.isGenerator = false
 nd : N.Nodup
 pre : N.take P.length = P
 par : ∀ x ∈ P, sc.names.lookup x = some .local ∨ sc.names.lookup x = some .cell
 nofree : ∀ y ∈ sc.names, y.2 ≠ .free
theorem Zhz {kindOf : Str → Option NameKind} {x : Str} : ∀ {binds : List (Str × Value)} {m : Str → Option Value}, (∀ v, (x, v) ∉ binds) → bindL kindOf binds m x = m x
 | [], _, _ => rfl
 | (n, v) :: r, m, h => by
  unfold bindL
  rw [Zhz fun w hw => h w (List.mem_cons_of_mem _ hw)]
  split
  ·have : x ≠ n := by rintro rfl; exact h v List.mem_cons_self
   simp [this]
  ·rfl
theorem Zhx {kindOf : Str → Option NameKind} {x : Str} : ∀ {binds : List (Str × Value)} {m : Str → Option Value}, (∀ v, (x, v) ∉ binds) → bindC kindOf binds m x = m x
 | [], _, _ => rfl
 | (n, v) :: r, m, h => by
  unfold bindC
  rw [Zhx fun w hw => h w (List.mem_cons_of_mem _ hw)]
  split
  ·rfl
  ·have : x ≠ n := by rintro rfl; exact h v List.mem_cons_self
   simp [this]
theorem Zhy {kindOf : Str → Option NameKind} {x : Str} {v : Value} : ∀ {P : List Str} {vs : List Value} {i : Nat} {m : Str → Option Value}, P.Nodup → P[i]? = some x → vs[i]? = some v → kindOf x = some .local →
  bindL kindOf (P.zip vs) m x = some v
 | [], _, _, _, _, h, _, _ => by simp at h
 | _ :: _, [], _, _, _, _, h, _ => by simp at h
 | p :: P, w :: vs, 0, m, nd, h1, h2, hk => by
  simp at h1 h2; subst h1; subst h2
  show bindL kindOf ((p, w) :: P.zip vs) m p = _
  unfold bindL
  rw [Zhz fun v hv => (List.nodup_cons.mp nd).1 (List.of_mem_zip hv).1, if_pos hk]
  simp
 | p :: P, w :: vs, i + 1, m, nd, h1, h2, hk => by
  show bindL kindOf ((p, w) :: P.zip vs) m x = _
  unfold bindL
  exact Zhy (i := i) (List.nodup_cons.mp nd).2 (by simpa using h1) (by simpa using h2) hk
theorem Zhw {kindOf : Str → Option NameKind} {x : Str} {v : Value} : ∀ {P : List Str} {vs : List Value} {i : Nat} {m : Str → Option Value}, P.Nodup → P[i]? = some x → vs[i]? = some v → kindOf x ≠ some .local →
  bindC kindOf (P.zip vs) m x = some v
 | [], _, _, _, _, h, _, _ => by simp at h
 | _ :: _, [], _, _, _, _, h, _ => by simp at h
 | p :: P, w :: vs, 0, m, nd, h1, h2, hk => by
  simp at h1 h2; subst h1; subst h2
  show bindC kindOf ((p, w) :: P.zip vs) m p = _
  unfold bindC
  rw [Zhx fun v hv => (List.nodup_cons.mp nd).1 (List.of_mem_zip hv).1, if_neg hk]
  simp
 | p :: P, w :: vs, i + 1, m, nd, h1, h2, hk => by
  show bindC kindOf ((p, w) :: P.zip vs) m x = _
  unfold bindC
  exact Zhw (i := i) (List.nodup_cons.mp nd).2 (by simpa using h1) (by simpa using h2) hk
noncomputable def start (N : List Str) (vs : List V) : St := vs.map some ++ List.replicate (N.length - vs.length) none
noncomputable def cxOf (CX : CXT) (P : Program) (w : World) (K : PySem.W.Frag) (mg : Str → Option Value) (base : Heap) (N : List Str) (qual : Str) (scope : Scope) (f : Addr) (cd : Value) (A : Around) (outer : List Env) (s : Shared) (H : Hp) (E : XK) : Cx where
 prog := P
 w := w
 K := K
 mg := mg
 base := base
 A := A.deeper (envOfC qual scope s.heap.objs.size f cd)
 N := N
 s₀ := s
 H₀ := H
 env := envOfC qual scope s.heap.objs.size f cd
 outer := outer
 stack := envOfC qual scope s.heap.objs.size f cd :: outer
 ex := []
 calm := true
 fn := fun _ => true
 pn := []
 xe := fun e s' => wpAny (model P w) (A.deeper (envOfC qual scope s.heap.objs.size f cd)) (leaving (envOfC qual scope s.heap.objs.size f cd) e) (fun _ s'' => CX outer H s E e s'') (fun e' s'' => CX outer H s E e' s'') s'
theorem Zk9 {sc : Scope} {n : Nat} {x : Str} (h : sc.names.lookup x = some .cell) : ∃ c, (cellsFrom n sc.names []).lookup x = some c := by
 have q := PySem.W.cellsFrom_some sc.names n [] (.inl h)
 exact Option.isSome_iff_exists.mp q
theorem Zmx {CX : CXT} {P : Program} {w : World} {K : PySem.W.Frag} {mg : Str → Option Value} {base : Heap} {N ps : List Str} {qual : Str} {scope : Scope} {f : Addr} {cd : Value} {A : Around} {outer : List Env} {s s1 : Shared} {H : Hp} {E : XK} {us : List Value} {vs : List V}
  (S : FnScope N ps scope) (hd : A.handled = none) (e0 : Env0 P w K mg base A outer s H) (hl : vs.length = ps.length) (r : Vals vs us)
  (x : InCallC s s.heap.objs.size (bindL (envOfC qual scope s.heap.objs.size f cd).kindOf (ps.zip us) fun _ => none) (cellsFrom (s.heap.objs.size + 1) scope.names []) (bindC (envOfC qual scope s.heap.objs.size f cd).kindOf (ps.zip us) fun _ => none) s1) :
  Inv (cxOf CX P w K mg base N qual scope f cd A outer s H E) [] (start N vs) H s1 := by
 have hpl : ps.length ≤ N.length := by have := congrArg List.length S.pre; rw [List.length_take] at this; omega
 obtain ⟨h1, tk, rfl, hk⟩ := x.done
 have noA : ∀ b : Addr, b ∉ (cxOf CX P w K mg base N qual scope f cd A outer s H E).ex := fun b z => absurd (show b ∈ ([] : List Addr) from z) (by simp)
 refine ⟨⟨e0.mod, S.kind, rfl, rfl, Nat.le_refl _, fun y z c h1 h2 => ?_, fun y hy => ?_, fun y c _ h => ?_, fun _ => hd, Around.frames_deeper e0.frames, .inr ⟨rfl, rfl⟩, fun b z => absurd z (noA b), e0.bs, e0.bsz, fun b _ _ => noA b, fun b z => absurd z (noA b), e0.funs, e0.frf⟩,
  rfl, e0.bare, Un.kept hk, ⟨_, x.toInCall.ns, fun i y v h1 h2 h3 => ?_⟩, fun y c h => ⟨_, x.cell y c h⟩, e0.hok.fresh (Nat.le_refl _), fun y c h => ?_, fun p hp => absurd (show p ∈ ([] : List (Addr × Obj)) from hp) (by simp), e0.hok.kept hk, ?_⟩
 ·exact name_of_addr x.apart (PySem.mem_of_lookup h1) (PySem.mem_of_lookup h2)
 ·have hy : scope.names.lookup y = some .cell ∨ scope.names.lookup y = some .free := hy
  rcases hy with hy | hy
  ·exact Zk9 hy
  ·exact absurd rfl (S.nofree _ (PySem.mem_of_lookup hy))
 ·exact Nat.le_of_lt (x.above y c (PySem.mem_of_lookup h))
 ·have hi : i < vs.length := by
   unfold start at h2
   by_cases hi : i < vs.length
   ·exact hi
   ·rw [List.getElem?_append_right (by simpa using hi)] at h2
    rw [List.getElem?_replicate] at h2
    split at h2 <;> cases h2
  have ha : vs[i]? = some v := by
   unfold start at h2
   rw [List.getElem?_append_left (by simpa using hi), List.getElem?_map] at h2
   cases e : vs[i]? with
   | none => rw [e] at h2; cases h2
   | some a => rw [e] at h2; cases h2; rfl
  obtain ⟨u, hu, rv⟩ := r.get ha
  have hp : ps[i]? = some y := by
   rw [← S.pre, List.getElem?_take_of_lt (by omega)]; exact h1
  have ndP : ps.Nodup := by rw [← S.pre]; exact S.nd.sublist (List.take_sublist _ _)
  refine ⟨u, rv, ?_⟩
  rcases S.par y (List.mem_of_getElem? hp) with k | k
  ·exact .inl ⟨k, Zhy ndP hp hu k⟩
  ·obtain ⟨c, e⟩ := Zk9 (n := s.heap.objs.size + 1) k
   refine .inr ⟨.inl k, c, e, ?_⟩
   have q := x.cell y c e
   rw [Zhw ndP hp hu (by show scope.names.lookup y ≠ _; rw [k]; decide)] at q
   exact q
 ·exact e0.hok.fresh (Nat.le_of_lt (x.above y c (PySem.mem_of_lookup h)))
 ·unfold start
  show _ = N.length
  rw [List.length_append, lmp, List.length_replicate]
  omega
theorem Zrn {CX : CXT} {P : Program} {w : World} {K : PySem.W.Frag} {mg : Str → Option Value} {base : Heap} {k : Nat} {f : Addr} {name qual : Str} {params : Arguments} {body : List Stmt} {scope : Scope} {dV kV doc pm cdv ct oc : Value} {an od : Option Addr}
  {osl : Array (Option Value)} {N ps : List Str} {sp : Sp} (lk : K.lookup f = some ⟨oc, od, .func (PySem.W.fnOf name qual params body scope dV kV doc pm an cdv ct), osl⟩) (hcd : PySem.W.codeIn K cdv qual = true) (S : FnScope N ps scope)
  (len : ∀ vs H Q E, sp vs H Q E → vs.length = ps.length)
  (hbody : ∀ (A : Around) (outer : List Env) (s : Shared) (H : Hp) (vs : List V) (Q : VK) (E : XK), Room k (A.deeper (envOfC qual scope s.heap.objs.size f cdv)) → sp vs H Q E →
   ∃ t, PSs (cxOf CX P w K mg base N qual scope f cdv A outer s H E) body t ∧ t { nx := fun _ H' => Q .non H', rt := Q } (start N vs) H) :
  FnOk P w K mg base CX (k + 1) f (PySem.W.fnOf name qual params body scope dV kV doc pm an cdv ct) ps sp := by
 refine ⟨len, fun A outer s H args us vs Q E hr e0 hb r hsp => ?_⟩
 have hl := len _ _ _ _ hsp
 have KX : K.In s.heap := e0.mod.kin.keeps fun b o e => (e0.bs b o e).1
 have lim : s.heap.NoLimit := e0.mod.nolimit.keeps fun b o e => (e0.bs b o e).1
 have hkind : ∀ y ∈ ps.zip us, scope.names.lookup y.1 = some .local ∨ (scope.names.lookup y.1 = some .cell ∧ ((cellsFrom (s.heap.objs.size + 1) scope.names []).lookup y.1).isSome = true) := fun ⟨n, v⟩ hy => by
  rcases S.par n (List.of_mem_zip hy).1 with q | q
  ·exact .inl q
  ·exact .inr ⟨q, PySem.W.cellsFrom_some _ _ _ (.inl q)⟩
 refine codeAny_call_function hr.depth (KX _ _ lk) rfl S.co S.gen rfl (PySem.W.codeRec_of KX hcd) (hb _ _ _ _ ?_)
 refine wpAny_newFunctionEnv_cells S.kind hkind fun env he s1 x => ?_
 subst he
 refine ⟨lim.keeps x.toInCall.keep, codeAny_func ?_⟩
 obtain ⟨t, ht, hq⟩ := hbody A outer s H vs Q E (hr.deeper _) hsp
 have I : Inv (cxOf CX P w K mg base N qual scope f cdv A outer s H E) [] (start N vs) H s1 := Zmx S hr.hd e0 hl r x
 refine wpAny_mono (ht [] s1 (start N vs) H _ I hq) (fun fl s' hs => ?_) fun e s' hs => hs
 have fin : ∀ {σ' : St} {H' : Hp} {v : V} {u : Value}, Inv (cxOf CX P w K mg base N qual scope f cdv A outer s H E) [] σ' H' s' → RelV v u → Q v H' → CE outer P w H s Q u s' :=
  fun {σ' H' v u} J rv q => ⟨v, H', J.os, J.bare, J.base, J.hok, rv, q⟩
 cases fl with
 | ret u =>
  obtain ⟨v, σ', H', J, rv, q⟩ := hs
  exact fin J rv q
 | next =>
  obtain ⟨σ', H', J, q⟩ := hs
  exact fin (v := V.non) (u := Value.none) J rfl q
 | brk =>
  obtain ⟨_, _, _, q⟩ := hs
  exact False.elim q
 | cont =>
  obtain ⟨_, _, _, q⟩ := hs
  exact False.elim q
end L2
namespace L2
open PySem PySem.Spec PyProof.Rows
section
variable {X : Cx} {x : Str} {p pos : Pos} {e : Expr} {es : List Expr} {t : TA} {id T : String} {r : List V → Hp → VK → Prop}
noncomputable def tCB (r : List V → Hp → VK → Prop) (t : TA) : TE := fun σ H Q => t σ H fun vs H1 => r vs H1 Q
theorem Zoq (hc : CallR X (.builtin id) r) (hg : Gl X x) (hm : X.mg x = none) (hv : bootBuiltins x = some (.builtin id)) (ha : PA X (e :: es) t) (hn : x ≠ "__name__" := by decide) (hdb : (x == ("__debug__" : Str)) = false := by decide)
  (he : starEach (e :: es) X.env = (false, eval e X.env) :: starEach es X.env := by rfl) (hpl : (backTo pos (starEach es X.env)).any (·.1) = false := by rfl) : PE X (.Call (.Name x p) (e :: es) [] pos) (tCB r t) := by
 intro pins s σ H Q I h
 refine wpAny_Call_Name_kw (Zej I hg hm hv ?_ hn hdb)
 exact PyProof.Rows.callWith_builtin1 (thn (ha pos pins s σ H _ I h) fun us s1 ⟨vs, H1, I1, r1, q1⟩ => hc pins s1 σ H1 vs us Q I1 r1 q1) he hpl
theorem Znb (hc : CallR X (.type T) r) (hg : Gl X x) (hm : X.mg x = none) (hv : bootBuiltins x = some (.type T)) (ha : PA X (e :: es) t) (hn : x ≠ "__name__" := by decide) (hdb : (x == ("__debug__" : Str)) = false := by decide)
  (he : starEach (e :: es) X.env = (false, eval e X.env) :: starEach es X.env := by rfl) (hpl : (backTo pos (starEach es X.env)).any (·.1) = false := by rfl) : PE X (.Call (.Name x p) (e :: es) [] pos) (tCB r t) := by
 intro pins s σ H Q I h
 refine wpAny_Call_Name_kw (Zej I hg hm hv ?_ hn hdb)
 exact PyProof.Rows.callWith_type1 (thn (ha pos pins s σ H _ I h) fun us s1 ⟨vs, H1, I1, r1, q1⟩ => hc pins s1 σ H1 vs us Q I1 r1 q1) he hpl
end
end L2
namespace HT
open PySem PyProof.Rows
noncomputable def lexLt : List Int → List Int → Bool
 | [], [] => false
 | [], _ :: _ => true
 | _ :: _, [] => false
 | x :: xs, y :: ys => if x = y then lexLt xs ys else decide (x < y)
theorem Zlv (x y : Int) (xs ys : List Int) : lexLt (x :: xs) (y :: ys) = if x = y then lexLt xs ys else decide (x < y) := rfl
theorem Zh5 : lexLt [] [] = false := rfl
theorem Zg0 (y : Int) (ys : List Int) : lexLt [] (y :: ys) = true := rfl
theorem Zfz (x : Int) (xs : List Int) : lexLt (x :: xs) [] = false := rfl
theorem Zod (A : Around) (s : Shared) (a : Int) (t : Tok) (c : Int) (u : Tok) : ∃ e, SeqAt.EqAt A s (.int a t) (.int c u) e ∧ (e = true ↔ a = c) :=
 ⟨(a == c), SeqAt.EqAt.int_int a t c u, by simp⟩
theorem Zoz (A : Around) (s : Shared) (a : Int) (t : Tok) (c : Int) (u : Tok) (prog : Program) (w : World) (E : Value → Shared → Prop) (Q : Value → Shared → Prop) (h : Q (.bool (decide (a < c))) s) :
  wpAny (model prog w) A (richCompare .Lt (.int a t) (.int c u)) Q E s :=
 (PyProof.Rows.lt_int h : wpAny (model prog w) A (compareOp .Lt (.int a t) (.int c u)) Q E s)
section
open PySem.SeqAt
open PySem.AutoSeq1 (wpAny_loadPart')
open PySem.MeetsSeq PySem.MeetsSeq2 PySem.MeetsSeq3
theorem Zho (l b : Addr) (items items2 : Array Value) (n n2 : Nat) (dd dd2 : Option Addr) (sl sl2 : Array (Option Value)) (ns ms : List Int) (hi : IntsAre items.toList ns) (hj : IntsAre items2.toList ms) :
  Meets (Builtin.«tuple.__lt__» ⟨[.ref l, .ref b], []⟩)
   (fun _ R s => s.heap.get? l = some { cls := .type "tuple", dict := dd, data := .seq items n, slots := sl } ∧ s.heap.get? b = some { cls := .type "tuple", dict := dd2, data := .seq items2 n2, slots := sl2 } ∧
    R (.ok (.ret (.bool (lexLt ns ms)))) s) :=
 .of_wp fun prog w A R s h => by
  obtain ⟨hp, g, d, tk, os⟩ := s; obtain ⟨hl, hb, h⟩ := h
  have f2 := AutoSeq1.sub_tuple_tuple
  have z1 : items.size = ns.length := by rw [← hi.length]; simp
  have z2 : items2.size = ms.length := by rw [← hj.length]; simp
  wp_walk using wpAny_loadPart' hl, wpAny_loadPart' hb, wpAny_forIn_list _ (fun rest b s' => b.1 = none ∧ s' = ⟨hp, g, d, tk, os⟩ ∧ ∃ (vs ws : List Value) (ns' ms' : List Int), rest = vs.zip ws ∧
   IntsAre vs ns' ∧ IntsAre ws ms' ∧ ns'.length + items2.size = ms'.length + items.size ∧ R (.ok (.ret (.bool (lexLt ns' ms')))) ⟨hp, g, d, tk, os⟩) _
  case turn =>
   rintro ⟨y, x⟩ rest b s' ⟨hb', rfl, vs, ws, ns', ms', hz, hvi, hwi, hlen, hR⟩
   cases hvi with
   | nil => rw [List.zip_nil_left] at hz; cases hz
   | cons a t hvi' =>
    cases hwi with
    | nil => rw [List.zip_nil_right] at hz; cases hz
    | cons c u hwi' =>
     rw [List.zip_cons_cons] at hz
     injection hz with hyx hrest
     injection hyx with hy hx
     subst hy hx
     rw [Zlv] at hR
     simp only [List.length_cons] at hlen
     obtain ⟨e, he, hiff⟩ := Zod A.in1 ⟨hp, g, d, tk, os⟩ a t c u
     refine wpAny_bind (he prog w _ _ ?_)
     cases e with
     | true =>
      rw [if_pos (hiff.mp rfl)] at hR
      wp_walk
      exact ⟨rfl, rfl, _, _, _, _, hrest, hvi', hwi', by omega, hR⟩
     | false =>
      rw [if_neg (fun q => absurd (hiff.mpr q) Bool.false_ne_true)] at hR
      have hri := Zoz A.in1 ⟨hp, g, d, tk, os⟩ a t c u prog w
      wp_walk using hri
      exact ⟨_, rfl, by simpa using hR⟩
  case fin =>
   rintro ⟨b1, b2⟩ s' ⟨hb', rfl, vs, ws, ns', ms', hz, hvi, hwi, hlen, hR⟩
   simp only at hb'
   subst hb'
   have hv : lexLt ns' ms' = decide (items.size < items2.size) := by
    cases hvi with
    | nil =>
     cases hwi with
     | nil =>
      simp only [List.length_nil] at hlen
      rw [Zh5]
      exact (decide_eq_false (by omega)).symm
     | cons c u hw =>
      simp only [List.length_nil, List.length_cons] at hlen
      rw [Zg0]
      exact (decide_eq_true (by omega)).symm
    | cons a t hv =>
     cases hwi with
     | nil =>
      simp only [List.length_nil, List.length_cons] at hlen
      rw [Zfz]
      exact (decide_eq_false (by omega)).symm
     | cons c u hw =>
      rw [List.zip_cons_cons] at hz
      cases hz
   rw [hv] at hR
   wp_walk
   exact ⟨_, rfl, by simpa [Builtin.Tuple.tupleCompareSizes] using hR⟩
  case h =>
   exact ⟨rfl, rfl, items.toList, items2.toList, ns, ms, rfl, hi, hj, by omega, h⟩
end
section
variable {prog : Program} {w : World} {A : Around} {E : Value → Shared → Prop} {s : Shared}
theorem lt_tupInts {l b : Addr} {items items2 : Array Value} {ns ms : List Int} {Q : Value → Shared → Prop} (hl : IsTup s.heap l items) (hb : IsTup s.heap b items2) (hi : IntsAre items.toList ns) (hj : IntsAre items2.toList ms)
  (hu : A.units < cLine) (h : Q (.bool (lexLt ns ms)) s) : wpAny (model prog w) A (compareOp .Lt (.ref l) (.ref b)) Q E s := by
 obtain ⟨⟨cls, dd, data, sl⟩, ho, hc, n, hd⟩ := id hl
 obtain ⟨⟨cls2, dd2, data2, sl2⟩, ho2, hc2, n2, hd2⟩ := id hb
 simp only at hc hd hc2 hd2
 subst hc hd hc2 hd2
 exact richCompare_meets_room (op := .Lt) ⟨_, ho, rfl⟩ ⟨_, ho2, rfl⟩ PySem.F.slot_tuple_lt PySem.F.entry_tuple_lt (PySem.F.args_tuple_lt_2 _ _) (Zho l b items items2 n n2 dd dd2 sl sl2 ns ms hi hj)
  ⟨ho, ho2, show Value.bool (lexLt ns ms) ≠ Value.notImplemented ∧ Q (.bool (lexLt ns ms)) s from ⟨(fun x => nomatch x), h⟩⟩ hu
theorem cat_tup {t b : Addr} {vs ws : List Value} {Q : Value → Shared → Prop} (ht : IsTup s.heap t vs.toArray) (hb : IsTup s.heap b ws.toArray) (hv : vs ≠ [])
  (h1 : ws = [] → Q (.ref t) s) (h2 : ws ≠ [] → Q (.ref s.heap.objs.size) { s with heap := s.heap.push { cls := .type "tuple", data := .seq (vs ++ ws).toArray } })
  (hsz : vs.length + ws.length ≤ sizeLine) : wpAny (model prog w) A (binaryOp .Add (.ref t) (.ref b)) Q E s := by
 obtain ⟨⟨cls, dd, data, sl⟩, ho, hc, n, hd⟩ := id ht
 obtain ⟨⟨cls2, dd2, data2, sl2⟩, ho2, hc2, n2, hd2⟩ := id hb
 simp only at hc hd hc2 hd2
 subst hc hd hc2 hd2
 have e : vs.toArray ++ ws.toArray = (vs ++ ws).toArray := by simp
 by_cases hw : ws = []
 ·exact concat_meets ⟨_, ho, rfl⟩ ⟨_, ho2, rfl⟩ noFill_tuple_add seq_tuple_add PySem.F.slot_tuple_add PySem.F.entry_tuple_add (PySem.F.args_tuple_add_2 _ _)
   (tuple_addW1 t b vs.toArray ws.toArray n n2 dd dd2 sl sl2 (by simpa using hv) (by simp [hw])) ⟨ho, ho2, h1 hw⟩
 ·refine concat_meets ⟨_, ho, rfl⟩ ⟨_, ho2, rfl⟩ noFill_tuple_add seq_tuple_add PySem.F.slot_tuple_add PySem.F.entry_tuple_add (PySem.F.args_tuple_add_2 _ _)
   (tuple_addW2 t b vs.toArray ws.toArray n n2 dd dd2 sl sl2 (by simpa using hv) (by simpa using hw) (by rw [List.size_toArray, List.size_toArray]; exact hsz)) ⟨ho, ho2, ?_⟩
  rw [e]
  exact h2 hw
noncomputable def sIx (n d : Nat) : Option Int → Nat
 | none => d
 | some v => if v < 0 then (v + (n : Int)).toNat else min v.toNat n
theorem sIx_none (n d : Nat) : sIx n d none = d := rfl
theorem sIx_nat (n d k : Nat) : sIx n d (some (k : Int)) = min k n := by
 show (if (k : Int) < 0 then ((k : Int) + (n : Int)).toNat else min (k : Int).toNat n) = min k n
 rw [if_neg (by omega), Int.toNat_natCast]
theorem Zss (n d : Nat) (hd : d ≤ n) (o : Option Int) : sIx n d o ≤ n := by
 cases o with
 | none => exact hd
 | some v =>
  show (if v < 0 then (v + (n : Int)).toNat else min v.toNat n) ≤ n
  by_cases hv : v < 0
  ·rw [if_pos hv]; omega
  ·rw [if_neg hv]; exact Nat.min_le_right _ _
theorem Zmh (v : Int) (n d : Nat) : (if v < 0 then max (v + (n : Int)) 0 else min v (n : Int)) = ((sIx n d (some v) : Nat) : Int) := by
 show (if v < 0 then max (v + (n : Int)) 0 else min v (n : Int)) = (((if v < 0 then (v + (n : Int)).toNat else min v.toNat n) : Nat) : Int)
 by_cases hv : v < 0
 ·simp only [if_pos hv]; omega
 ·simp only [if_neg hv]; omega
theorem Zl7 (lo hi : Option Int) (n : Nat) : Builtin.Slice.sliceAdjust lo hi 1 (n : Int) = (((sIx n 0 lo : Nat) : Int), ((sIx n n hi : Nat) : Int)) := by
 have h1 : ¬ ((1 : Int) < 0) := by omega
 unfold Builtin.Slice.sliceAdjust
 simp only [h1, if_false]
 refine Prod.ext ?_ ?_
 ·cases lo with
  | none => rfl
  | some v => exact Zmh v n 0
 ·cases hi with
  | none => rfl
  | some v => exact Zmh v n n
theorem Zm3 (i j : Nat) : Builtin.Slice.slicePlaces (i : Int) (j : Int) 1 = j - i := by
 unfold Builtin.Slice.slicePlaces
 have h1 : (1 : Int) > 0 := by omega
 simp only [h1, if_true, Int.ediv_one]
 split <;> omega
theorem Zgh {v : Value} {o : Option Int} {Q : Option Int → Shared → Prop} (p : IsPart v o) (h : Q o s) : wpAny (model prog w) A (Builtin.Slice.slicePartIndex v) Q E s := by
 cases p with
 | none => exact slicePart_none h
 | int i t => exact slicePart_int h
theorem Zdj {sl : Addr} {vl vu : Value} {lo hi : Option Int} {n : Nat} {Q : Int × Int × Nat → Shared → Prop} (hs : s.heap.IsSliceOf sl vl vu .none) (pl : IsPart vl lo) (pu : IsPart vu hi)
  (h : Q (((sIx n 0 lo : Nat) : Int), 1, sIx n n hi - sIx n 0 lo) s) : wpAny (model prog w) A (Builtin.Slice.sliceApplied (.ref sl) (pure (n : Int))) Q E s := by
 obtain ⟨os, hos, hcs, hds⟩ := id hs
 unfold Builtin.Slice.sliceApplied Builtin.Slice.sliceFields
 refine wpAny_bind (wpAny_bind (wpAny_field hos hds (x := vl) rfl (wpAny_bind (wpAny_field hos hds (x := vu) rfl (wpAny_bind (wpAny_field hos hds (x := .none) rfl (wpAny_pure ?_)))))))
 refine wpAny_bind (slicePart_none ?_)
 show wpAny _ _ (if ((1 : Int) == 0) = true then _ else _) _ _ s
 rw [if_neg (by decide)]
 refine wpAny_bind (Zgh pl (wpAny_bind (Zgh pu (wpAny_bind (wpAny_pure ?_)))))
 show wpAny _ _ (match Builtin.Slice.sliceAdjust lo hi 1 (n : Int) with | (lo, hi) => pure (lo, (1 : Int), Builtin.Slice.slicePlaces lo hi 1)) _ _ s
 rw [Zl7 lo hi n]
 show wpAny _ _ (pure (((sIx n 0 lo : Nat) : Int), (1 : Int), Builtin.Slice.slicePlaces ((sIx n 0 lo : Nat) : Int) ((sIx n n hi : Nat) : Int) 1)) _ _ s
 rw [Zm3]
 exact wpAny_pure h
theorem Zow (xs : Array Value) (i k : Nat) : ((List.range k).filterMap fun (m : Nat) => xs[((i : Int) + (m : Int) * 1).toNat]?).toArray = ((xs.toList.drop i).take k).toArray := by
 have e : (fun (m : Nat) => xs[((i : Int) + (m : Int) * 1).toNat]?) = fun m => xs[i + m]? := by
  funext m
  have : ((i : Int) + (m : Int) * 1).toNat = i + m := by omega
  rw [this]
 rw [e]
 have := pick_run xs i k
 rw [List.filterMap_map] at this
 have e2 : ((fun x => xs[x]?) ∘ fun x => i + x) = fun m => xs[i + m]? := rfl
 rw [e2] at this
 rw [this]
theorem getItem_tuple_cut {t sl : Addr} {items : Array Value} {vl vu : Value} {lo hi : Option Int} {Q : Value → Shared → Prop} (ht : IsTup s.heap t items) (hs : s.heap.IsSliceOf sl vl vu .none) (pl : IsPart vl lo) (pu : IsPart vu hi)
  (hw : ¬ (sIx items.size 0 lo = 0 ∧ sIx items.size items.size hi = items.size))
  (h : Q (.ref s.heap.objs.size) { s with heap := s.heap.push { cls := .type "tuple", data := .seq ((items.toList.drop (sIx items.size 0 lo)).take (sIx items.size items.size hi - sIx items.size 0 lo)).toArray } })
  (hsz : items.size ≤ sizeLine) : wpAny (model prog w) A (getItem (.ref t) (.ref sl)) Q E s := by
 have htake : sizeOk (.seq ((items.toList.drop (sIx items.size 0 lo)).take (sIx items.size items.size hi - sIx items.size 0 lo)).toArray) := by
  show ((items.toList.drop (sIx items.size 0 lo)).take (sIx items.size items.size hi - sIx items.size 0 lo)).toArray.size ≤ sizeLine
  rw [List.size_toArray, List.length_take, List.length_drop, Array.length_toList]
  omega
 have hj : sIx items.size items.size hi ≤ items.size := Zss _ _ (Nat.le_refl _) hi
 obtain ⟨os, hos, hcs, hds⟩ := id hs
 have hTs : s.TypeIs (.ref sl) "slice" := ⟨os, hos, hcs⟩
 unfold getItem
 try with_reducible refine wpAny_holding ?_
 first | refine wpAny_bind (wpAny_pure ?_) | skip
 refine wpAny_bind (wpAny_sequenceKey ht.typeIs (by decide) ?_)
 refine wpAny_bind (wpAny_callSpecial?_slot (name := Str.ofString "__getitem__") ht.typeIs PyProof.Rows.slot_tuple_getitem
  (wpAny_call_entry PyProof.Rows.slot_tuple_getitem ht.typeIs entry_tuple_getitem ?_ (args_tuple_getitem _ _)))
 show wpAny _ _ (Builtin.Tuple.tupleItemsOf (.ref t) >>= _) _ _ s
 refine wpAny_bind (tupleItemsOf_ ht ?_)
 refine wpAny_bind (wpAny_typeOf hTs ?_)
 rw [if_pos (by decide)]
 refine wpAny_bind (Zdj hs pl pu ?_)
 have hno : ¬ ((((sIx items.size 0 lo : Nat) : Int) == 0 && (1 : Int) == 1 && (sIx items.size items.size hi - sIx items.size 0 lo) == items.size) = true) := by
  intro q
  rw [Bool.and_eq_true, Bool.and_eq_true] at q
  have q1 : ((sIx items.size 0 lo : Nat) : Int) = 0 := eq_of_beq q.1.1
  have q2 : sIx items.size items.size hi - sIx items.size 0 lo = items.size := eq_of_beq q.2
  exact hw ⟨by omega, by omega⟩
 show wpAny _ _ (if (((sIx items.size 0 lo : Nat) : Int) == 0 && (1 : Int) == 1 && (sIx items.size items.size hi - sIx items.size 0 lo) == items.size) = true then _ else _) _ _ s
 rw [if_neg hno, Zow]
 first
  | exact wpAny_bind (m := Builtin.Tuple.tupleExact _) (wpAny_newObj_type (wpAny_pure ⟨_, rfl, wpAny_pure h⟩) htake)
  | exact wpAny_bind (m := Builtin.Tuple.tupleExact _) (wpAny_newObj_type (wpAny_bind (wpAny_pure (wpAny_pure ⟨_, rfl, wpAny_pure h⟩))) htake)
  | exact wpAny_bind (wpAny_bind (m := Builtin.Tuple.tupleExact _) (wpAny_newObj_type (wpAny_pure (wpAny_pure ⟨_, rfl, wpAny_pure h⟩)) htake))
  | exact wpAny_bind (wpAny_bind (m := Builtin.Tuple.tupleExact _) (wpAny_newObj_type (wpAny_pure ⟨_, rfl, wpAny_pure h⟩) htake))
end
end HT
namespace L2
open PySem PySem.Spec PyProof.Rows
noncomputable abbrev TO := St → Hp → (Option Int → Hp → Prop) → Prop
noncomputable def PO (X : Cx) (e : Option Expr) (t : TO) : Prop :=
 ∀ (pins : List (Addr × Obj)) (s : Shared) (σ : St) (H : Hp) (Q : Option Int → Hp → Prop), Inv X pins σ H s → t σ H Q →
  wpAny (model X.prog X.w) X.A (evalPart e X.env) (fun u s' => ∃ o H', Inv X pins σ H' s' ∧ IsPart u o ∧ Q o H') X.xe s
noncomputable def tNoPart : TO := fun _ H Q => Q none H
noncomputable def tPart (t : TE) : TO := fun σ H Q => t σ H fun x H1 => ∃ i, x = .int i ∧ Q (some i) H1
theorem Zex {ns : List Int} : ∀ {us : List Value}, Vals (ns.map V.int) us → IntsAre us ns := by
 induction ns with
 | nil => intro us r; rw [List.map_nil] at r; cases r; exact .nil
 | cons n ns ih =>
  intro us r
  rw [List.map_cons] at r
  cases r with
  | cons r1 r2 =>
   obtain ⟨t, e⟩ := r1
   subst e
   exact .cons n t (ih r2)
section
variable {X : Cx} {e : Expr} {te : TE} {lo hi : Option Expr} {tl th : TO} {pos p2 : Pos}
theorem Zqq : PO X none tNoPart := by
 intro pins s σ H Q I h
 rw [evalPart_none]
 exact wpAny_pure ⟨none, H, I, .none, h⟩
theorem Zqr (h : PE X e te) : PO X (some e) (tPart te) := by
 intro pins s σ H Q I hw
 rw [evalPart_some]
 refine thn (h pins s σ H _ I hw) fun u s1 ⟨x, H1, I1, r1, q1⟩ => ?_
 obtain ⟨i, rfl, q⟩ := q1
 obtain ⟨t, rfl⟩ := r1
 exact ⟨some i, H1, I1, .int i t, q⟩
noncomputable def SlR (X : Cx) (r : V → Option Int → Option Int → Hp → VK → Prop) : Prop :=
 ∀ (pins : List (Addr × Obj)) (s : Shared) (σ : St) (H : Hp) (x : V) (v vl vu : Value) (lo hi : Option Int) (sl : Addr) (Q : VK), Inv X pins σ H s → RelV x v → s.heap.IsSliceOf sl vl vu .none → IsPart vl lo → IsPart vu hi → r x lo hi H Q →
  ∃ T id, typeLookup (.type T) "__getitem__" = pure (some (.builtin id)) ∧ s.TypeIs v T ∧ wpAny (model X.prog X.w) X.A (getItem v (.ref sl)) (EP X pins σ Q) X.xe s
noncomputable def tSl (r : V → Option Int → Option Int → Hp → VK → Prop) (te : TE) (tl th : TO) : TE := fun σ H Q => te σ H fun x H1 => tl σ H1 fun l H2 => th σ H2 fun u H3 => r x l u H3 Q
theorem Zou {r : V → Option Int → Option Int → Hp → VK → Prop} (hr : SlR X r) (he : PE X e te) (hl : PO X lo tl) (hu : PO X hi th) : PE X (.Subscript e (.Slice lo hi none p2) pos) (tSl r te tl th) := by
 intro pins s σ H Q I h
 refine Subscript_ (thn (he pins s σ H _ I h) fun v s1 ⟨x, H1, I1, r1, q1⟩ => ?_)
 refine wpAny_Slice (thn (hl pins s1 σ H1 _ I1 q1) fun vl s2 ⟨l, H2, I2, pl, q2⟩ => thn (hu pins s2 σ H2 _ I2 q2) fun vu s3 ⟨u, H3, I3, pu, q3⟩ => ?_)
 rw [evalPart_none]
 refine wpAny_pure ?_
 have I4 : Inv X pins σ H3 { s3 with heap := s3.heap.push { cls := .type "slice", data := .fields #[vl, vu, .none] } } := I3.kept (t' := s3.toks) fun b ob q => Heap.get?_push_of_some _ q
 obtain ⟨T, id, hT, ht, hg⟩ := hr pins { s3 with heap := s3.heap.push { cls := .type "slice", data := .fields #[vl, vu, .none] } } σ H3 x v vl vu l u s3.heap.objs.size Q I4 r1 (Heap.IsSliceOf.new ..) pl pu q3
 show wpAny (model X.prog X.w) X.A (subscriptTail e (.Slice lo hi none p2) v (.ref s3.heap.objs.size)) (EP X pins σ Q) X.xe { s3 with heap := s3.heap.push { cls := .type "slice", data := .fields #[vl, vu, .none] } }
 exact tail_any (ops := [.ref s3.heap.objs.size, v]) ht hT hg (by with_unfolding_all rfl)
noncomputable def cutV (xs : List V) (lo hi : Option Int) : List V := (xs.drop (HT.sIx xs.length 0 lo)).take (HT.sIx xs.length xs.length hi - HT.sIx xs.length 0 lo)
theorem Zf9 (xs : List V) (lo hi : Option Int) : (cutV xs lo hi).length ≤ xs.length := by
 unfold cutV
 rw [List.length_take, List.length_drop]
 omega
noncomputable def rSlT (K : PySem.W.Frag) : V → Option Int → Option Int → Hp → VK → Prop := fun x lo hi H Q => ∃ a xs, x = .ref a ∧ SqT K H a xs ∧
 ¬ (HT.sIx xs.length 0 lo = 0 ∧ HT.sIx xs.length xs.length hi = xs.length) ∧ ∀ p, H p = none → Q (.ref p) (upd H p (.tup (cutV xs lo hi)))
theorem Zst : SlR X (rSlT X.K) := by
 intro pins s σ H x v vl vu lo hi sl Q I rx hs pl pu h
 obtain ⟨a, xs, rfl, hx, hw, q⟩ := h
 cases rx
 obtain ⟨its, r, ht, hz⟩ := I.tuple hx
 have hlen : its.toArray.size = xs.length := by rw [List.size_toArray]; exact r.length.symm
 refine ⟨"tuple", _, PyProof.Rows.slot_tuple_getitem.lookup, ht.typeIs, ?_⟩
 refine HT.getItem_tuple_cut ht hs pl pu (by rw [hlen]; exact hw) ?_ (by rw [hlen]; exact hz)
 rw [hlen]
 refine ⟨.ref s.heap.objs.size, _, I.laid (t' := s.toks) (o := .tup (cutV xs lo hi)) (fun b ob q => Heap.get?_push_of_some _ q) (Nat.le_refl _) ?_, rfl, q _ (I.hok.fresh (Nat.le_refl _))⟩
 exact ⟨Nat.le_trans (Zf9 xs lo hi) hz, _, (r.drop (HT.sIx xs.length 0 lo)).take (HT.sIx xs.length xs.length hi - HT.sIx xs.length 0 lo), IsTup.new _ _⟩
end
end L2
namespace L2
open PySem PySem.Spec PyProof.Rows
noncomputable def ixN (n : Nat) (i : Int) : Option Nat := if 0 ≤ i then (if i < n then some i.toNat else none) else if -(n : Int) ≤ i then some (i + n).toNat else none
noncomputable def atI {α : Type} (xs : List α) (i : Int) : Option α := (ixN xs.length i).bind fun j => xs[j]?
theorem Zmy {n : Nat} {i : Int} {j : Nat} (h : ixN n i = some j) : seqIndex? i n = some j ∧ j < n ∧ -(n : Int) ≤ i ∧ i < n := by
 unfold ixN at h
 by_cases h0 : 0 ≤ i
 ·rw [if_pos h0] at h
  by_cases h1 : i < n
  ·rw [if_pos h1] at h
   have e : i.toNat = j := Option.some.inj h
   exact ⟨by rw [seqIndex_of h0 h1, e], by omega, by omega, h1⟩
  ·rw [if_neg h1] at h; cases h
 ·rw [if_neg h0] at h
  by_cases h1 : -(n : Int) ≤ i
  ·rw [if_pos h1] at h
   have e : (i + n).toNat = j := Option.some.inj h
   exact ⟨by rw [seqIndex_neg (by omega) h1, e], by omega, h1, by omega⟩
  ·rw [if_neg h1] at h; cases h
theorem Zmb {α : Type} {xs : List α} {i : Int} {v : α} (h : atI xs i = some v) : ∃ j, seqIndex? i xs.length = some j ∧ xs[j]? = some v ∧ j < xs.length ∧ -(xs.length : Int) ≤ i ∧ i < xs.length := by
 unfold atI at h
 cases e : ixN xs.length i with
 | none => rw [e] at h; cases h
 | some j =>
  rw [e] at h
  obtain ⟨h1, h2, h3, h4⟩ := Zmy e
  exact ⟨j, h1, h, h2, h3, h4⟩
theorem Zcv {α : Type} {xs : List α} {j : Nat} {v : α} (h : xs[j]? = some v) : atI xs (j : Int) = some v := by
 have hj : j < xs.length := (List.getElem?_eq_some_iff.mp h).1
 have e : ixN xs.length (j : Int) = some j := by
  unfold ixN
  rw [if_pos (by omega), if_pos (by omega)]; simp
 unfold atI; rw [e]; exact h
theorem Zgj {α : Type} (xs : List α) (v : α) : atI (xs ++ [v]) (-1) = some v := by
 have hl : (xs ++ [v]).length = xs.length + 1 := by simp
 have e : ixN (xs ++ [v]).length (-1) = some xs.length := by
  unfold ixN
  rw [hl, if_neg (by decide), if_pos (by omega)]
  congr 1
  omega
 unfold atI
 rw [e]
 show (xs ++ [v])[xs.length]? = some v
 simp
noncomputable def PlainIx (b : Expr) : Prop := ∀ o i, subscripted b false o i = operate [o, i] (getItem o i)
noncomputable def IxR (X : Cx) (r : R2) : Prop :=
 ∀ (value slice : Expr) (pins : List (Addr × Obj)) (s : Shared) (σ : St) (H : Hp) (x y : V) (v u : Value) (Q : VK), Inv X pins σ H s → RelV x v → RelV y u → r x y H Q →
  subscripted slice false v u = operate [v, u] (getItem v u) → wpAny (model X.prog X.w) X.A (subscriptTail value slice v u) (EP X pins σ Q) X.xe s
noncomputable def MtR (X : Cx) (id : String) (r : V → List V → Hp → VK → Prop) : Prop :=
 ∀ (pins : List (Addr × Obj)) (s : Shared) (σ : St) (H : Hp) (x : V) (xs : List V) (v : Value) (us : List Value) (Q : VK), Inv X pins σ H s → RelV x v → Vals xs us → r x xs H Q →
  wpAny (model X.prog X.w) X.A (call (.builtin id) (v :: us)) (EP X pins σ Q) X.xe s
section
variable {X : Cx} {a b : Expr} {ta tb : TE} {pos : Pos}
theorem Zt1 {r : R2} (hr : IxR X r) (ha : PE X a ta) (hb : PE X b tb) (hs : PlainIx b) : PE X (.Subscript a b pos) (tOp r ta tb) := by
 intro pins s σ H Q I h
 exact Subscript_ (binT ha hb I h fun v u s2 x y H2 I2 rx ry q => hr a b pins s2 σ H2 x y v u Q I2 rx ry q (hs _ _))
noncomputable def rIxL (K : PySem.W.Frag) : R2 := fun x y H Q => ∃ p xs i v, x = .ref p ∧ y = .int i ∧ SqL K H p xs ∧ atI xs i = some v ∧ Q v H
noncomputable def rIxT (K : PySem.W.Frag) : R2 := fun x y H Q => ∃ p xs i v, x = .ref p ∧ y = .int i ∧ SqT K H p xs ∧ atI xs i = some v ∧ Q v H
theorem Zbv : IxR X (rIxL X.K) := by
 intro value slice pins s σ H x y v u Q I rx ry h hs
 obtain ⟨p, xs, i, z, rfl, rfl, hq, he, q⟩ := h
 cases rx
 obtain ⟨t, rfl⟩ := ry
 obtain ⟨its, r, pl, hz⟩ := I.list hq
 obtain ⟨j, h1, h2, h3, h4, h5⟩ := Zmb he
 obtain ⟨w, ew, rw'⟩ := r.get h2
 have hl := r.length
 have hn := line63
 have fin : EP X pins σ Q w s := ⟨z, H, I, rw', q⟩
 by_cases h0 : 0 ≤ i
 ·have hj : i.toNat = j := by
   rw [seqIndex_of h0 h5] at h1
   exact Option.some.inj h1
  exact item_listR pl.isList h0 (by omega) (by rw [hj]; simpa using ew) fin hs
 ·have hj : (i + (its.toArray.size : Int)).toNat = j := by
   rw [seqIndex_neg (by omega) h4] at h1
   rw [List.size_toArray, ← hl]
   exact Option.some.inj h1
  exact subscriptTail_builtinR (x := w) pl.isList.typeIs slot_list_getitem.lookup
   (wpAny_getItem_list_neg (Q := fun r s' => r = w ∧ EP X pins σ Q r s') pl.isList (by omega) (by rw [List.size_toArray] <;> omega) (by omega) (by rw [hj]; simpa using ew) ⟨rfl, fin⟩) hs
theorem Zim : IxR X (rIxT X.K) := by
 intro value slice pins s σ H x y v u Q I rx ry h hs
 obtain ⟨p, xs, i, z, rfl, rfl, hq, he, q⟩ := h
 cases rx
 obtain ⟨t, rfl⟩ := ry
 obtain ⟨its, r, pl, hz⟩ := I.tuple hq
 obtain ⟨j, h1, h2, h3, h4, h5⟩ := Zmb he
 obtain ⟨w, ew, rw'⟩ := r.get h2
 have hl := r.length
 have hn := line63
 have fin : EP X pins σ Q w s := ⟨z, H, I, rw', q⟩
 exact subscriptTail_builtinR (x := w) pl.typeIs slot_tuple_getitem.lookup
  (getItem_tuple (j := j) (Q := fun r s' => r = w ∧ EP X pins σ Q r s') pl (by omega) (by omega) (by rw [List.size_toArray, ← hl]; exact h1) (by simpa using ew) ⟨rfl, fin⟩) hs
theorem Zlw (its : List Value) (n j : Nat) (u : Value) : Obj.mapSeq (·.setIfInBounds j u) { cls := .type "list", data := .seq its.toArray n } = { cls := .type "list", data := .seq (its.set j u).toArray n } := by
 simp [Obj.mapSeq]
theorem Inv.lst {pins : List (Addr × Obj)} {σ : St} {H : Hp} {s : Shared} {p : Addr} {xs : List V} (I : Inv X pins σ H s) (h : H p = some (.lst xs)) :
  ∃ (its : List Value) (n : Nat), Vals xs its ∧ s.heap.get? p = some { cls := .type "list", data := .seq its.toArray n } ∧ xs.length ≤ sizeLine := by
 obtain ⟨z, its, n, r, e⟩ := I.hok p _ h
 exact ⟨its, n, r, e, z⟩
theorem Inv.lstUpd {pins : List (Addr × Obj)} {σ : St} {H : Hp} {s : Shared} {p : Addr} {xs ys : List V} {its its' : List Value} {n n' : Nat} {f : Obj → Obj} (I : Inv X pins σ H s) (h : H p = some (.lst xs))
  (ho : s.heap.get? p = some { cls := .type "list", data := .seq its.toArray n }) (hf : f { cls := .type "list", data := .seq its.toArray n } = { cls := .type "list", data := .seq its'.toArray n' }) (r : Vals ys its') (hz : ys.length ≤ sizeLine) (t : Nat) :
  Inv X pins σ (upd H p (.lst ys)) { s with heap := s.heap.update p f, toks := t } := by
 have e : (s.heap.update p f).get? p = some { cls := .type "list", data := .seq its'.toArray n' } := by
  rw [Heap.get?_update_self f ho (by rw [hf] <;> rfl), hf]
 refine I.write (x := p) (e := p) (by rw [h]; trivial) (.inl rfl) (fun b u hb q => (Heap.get?_update_other _ _ (Ne.symm hb)).trans q) ⟨_, e⟩ ?_
 exact ⟨hz, its', n', r, e⟩
noncomputable def rSetL : V → V → V → Hp → (Hp → Prop) → Prop := fun o i v H Q => ∃ p xs k j, o = .ref p ∧ i = .int k ∧ H p = some (.lst xs) ∧ ixN xs.length k = some j ∧ Q (upd H p (.lst (xs.set j v)))
theorem Zkz : PSet X rSetL := by
 intro pins s σ H o i v ov iv u Q I ro ri rv h
 obtain ⟨p, xs, k, j, rfl, rfl, hp, hj, q⟩ := h
 cases ro
 obtain ⟨t, rfl⟩ := ri
 obtain ⟨its, n, r, ho, hz⟩ := I.lst hp
 obtain ⟨h1, h2, h3, h4⟩ := Zmy hj
 have hl := r.length
 have hn := line63
 have I' : Inv X pins σ (upd H p (.lst (xs.set j v))) { s with heap := s.heap.update p (Obj.mapSeq (·.setIfInBounds j u)) } :=
  I.lstUpd hp ho (Zlw its n j u) (r.set rv j) (by rw [List.length_set]; exact hz) s.toks
 by_cases h0 : 0 ≤ k
 ·have hk : k.toNat = j := by
   rw [seqIndex_of h0 h4] at h1
   exact Option.some.inj h1
  exact PySem.W.ki_setAt ho h0 (by omega) (by rw [List.size_toArray, ← hl]; exact h4) (by rw [hk]; exact ⟨_, I', q⟩)
 ·have hk : (k + (its.toArray.size : Int)).toNat = j := by
   rw [seqIndex_neg (by omega) h3] at h1
   rw [List.size_toArray, ← hl]
   exact Option.some.inj h1
  exact PySem.W.ki_setBack ho (by omega) (by rw [List.size_toArray, ← hl]; exact h3) (by omega) (by rw [hk]; exact ⟨_, I', q⟩)
theorem Zix (lo hi : Option Int) (n : Nat) : (sliceBounds lo hi none n).1 = ((HT.sIx n 0 lo : Nat) : Int) ∧ (sliceBounds lo hi none n).2.1 = ((HT.sIx n n hi : Nat) : Int) ∧ (sliceBounds lo hi none n).2.2 = 1 := by
 refine ⟨?_, ?_, rfl⟩
 ·cases lo with
  | none => simp [sliceBounds, HT.sIx]
  | some i =>
   simp only [sliceBounds, HT.sIx, Option.getD_none, show (1 : Int) > 0 by decide, if_true]
   by_cases h : i < 0
   ·simp only [h, if_true] <;> omega
   ·simp only [h, if_false] <;> omega
 ·cases hi with
  | none => simp [sliceBounds, HT.sIx]
  | some i =>
   simp only [sliceBounds, HT.sIx, Option.getD_none, show (1 : Int) > 0 by decide, if_true]
   by_cases h : i < 0
   ·simp only [h, if_true] <;> omega
   ·simp only [h, if_false] <;> omega
theorem Zhk (its : List Value) (lo hi : Option Int) : slicePick its.toArray lo hi none = ((its.drop (HT.sIx its.length 0 lo)).take (HT.sIx its.length its.length hi - HT.sIx its.length 0 lo)).toArray := by
 obtain ⟨h1, h2, h3⟩ := Zix lo hi its.toArray.size
 unfold slicePick
 rw [h1, h2, h3]
 simp only [sliceRange_one, pick_run, List.size_toArray] <;> rfl
noncomputable def rSlL (K : PySem.W.Frag) : V → Option Int → Option Int → Hp → VK → Prop := fun x lo hi H Q => ∃ a xs, x = .ref a ∧ SqL K H a xs ∧ ∀ p, H p = none → Q (.ref p) (upd H p (.lst (cutV xs lo hi)))
theorem Zr6 : SlR X (rSlL X.K) := by
 intro pins s σ H x v vl vu lo hi sl Q I rx hs pl pu h
 obtain ⟨a, xs, rfl, hx, q⟩ := h
 cases rx
 obtain ⟨its, r, ht, hz⟩ := I.list hx
 have hlen := r.length
 refine ⟨"list", _, slot_list_getitem.lookup, ht.isList.typeIs, ?_⟩
 refine wpAny_getItem_list_slice ht.isList hs pl pu .none (by simp) ?_ (by rw [List.size_toArray] <;> omega)
 rw [Zhk, ← hlen]
 refine ⟨.ref s.heap.objs.size, _, I.laid (t' := s.toks) (o := .lst (cutV xs lo hi)) (fun b ob q => Heap.get?_push_of_some _ q) (Nat.le_refl _) ?_, rfl, q _ (I.hok.fresh (Nat.le_refl _))⟩
 exact ⟨Nat.le_trans (Zf9 xs lo hi) hz, _, 0, (r.drop (HT.sIx xs.length 0 lo)).take (HT.sIx xs.length xs.length hi - HT.sIx xs.length 0 lo), Heap.get?_push_size _ rfl⟩
theorem Zb4 : CallR X (.builtin "len") (fun xs H Q => ∃ p ys, xs = [.ref p] ∧ (SqL X.K H p ys ∨ SqT X.K H p ys) ∧ Q (.int ys.length) H) := by
 intro pins s σ H xs us Q I r h
 obtain ⟨p, ys, rfl, hq, q⟩ := h
 obtain ⟨u, rfl, rx⟩ := vals1 r
 cases rx
 have hn := line63
 rcases hq with hq | hq
 ·obtain ⟨its, r', pl, hz⟩ := I.list hq
  have hlen := r'.length
  exact Calls.call_len_list pl.isList (by simp only [List.size_toArray] <;> omega) ⟨.int ys.length, H, I.tok _, ⟨s.toks + 1, by rw [List.size_toArray, hlen]⟩, q⟩
 ·obtain ⟨its, r', pl, hz⟩ := I.tuple hq
  have hlen := r'.length
  exact len_tuple pl (by simp only [List.size_toArray] <;> omega) ⟨.int ys.length, H, I.tok _, ⟨s.toks + 1, by rw [List.size_toArray, hlen]⟩, q⟩
theorem Zaj : CallR X (.type "tuple") (fun xs H Q => ∃ p ys, xs = [.ref p] ∧ ((SqL X.K H p ys ∧ ∀ l, H l = none → Q (.ref l) (upd H l (.tup ys))) ∨ (SqT X.K H p ys ∧ Q (.ref p) H))) := by
 intro pins s σ H xs us Q I r h
 obtain ⟨p, ys, rfl, h⟩ := h
 obtain ⟨u, rfl, rx⟩ := vals1 r
 cases rx
 rcases h with ⟨hq, q⟩ | ⟨hq, q⟩
 ·obtain ⟨its, r', pl, hz⟩ := I.list hq
  have hlen := r'.length
  refine call_tuple_list pl.isList (fun h' kp => ?_) (by simp only [List.size_toArray] <;> omega)
  have I1 : Inv X pins σ H { s with heap := h' } := I.kept (t' := s.toks) kp
  have I2 : Inv X pins σ (upd H h'.objs.size (.tup ys)) { s with heap := h'.push { cls := .type "tuple", data := .seq its.toArray } } :=
   I1.laid (t' := s.toks) (fun b o e => Heap.get?_push_of_some _ e) (Nat.le_refl _) (show ObjOk X.prog X.w _ _ _ (.tup ys) from ⟨hz, its, r', IsTup.new _ _⟩)
  exact ⟨.ref h'.objs.size, _, I2, rfl, q _ (I1.hok.fresh (Nat.le_refl _))⟩
 ·obtain ⟨its, r', pl, hz⟩ := I.tuple hq
  exact call_tuple_same pl ⟨.ref p, H, I, rfl, q⟩
noncomputable def tyV (K : PySem.W.Frag) (T : String) (x : V) (H : Hp) : Prop := match x with
 | .str _ => T = "str"
 | .int _ => T = "int"
 | .ref p => (T = "list" ∧ ∃ xs, SqL K H p xs) ∨ (T = "tuple" ∧ ∃ o, K.lookup p = some o ∧ o.cls = .type "tuple" ∧ o.dict = none) ∨
   (T = "dict" ∧ ((∃ kvs, H p = some (.dK kvs)) ∨ ∃ kvs, H p = some (.dT kvs))) ∨ (T = "set" ∧ ∃ S n, H p = some (.set S n))
 | _ => False
theorem Zsu {pins : List (Addr × Obj)} {σ : St} {H : Hp} {s : Shared} {T : String} {x : V} {v : Value} (I : Inv X pins σ H s) (r : RelV x v) (ty : tyV X.K T x H) :
  s.TypeIs v T ∧ ∀ a, v = .ref a → ∃ ob, s.heap.get? a = some ob ∧ ob.dict = none := by
 cases x with
 | str z =>
  obtain ⟨t, rfl⟩ := r
  cases (show T = "str" from ty)
  exact ⟨typeIs_str s z t, fun _ e => nomatch e⟩
 | int i =>
  obtain ⟨t, rfl⟩ := r
  cases (show T = "int" from ty)
  exact ⟨typeIs_int s i t, fun _ e => nomatch e⟩
 | ref p =>
  cases r
  rcases ty with ⟨rfl, xs, hq⟩ | ⟨rfl, o, hk, hc, hd⟩ | ⟨rfl, hk⟩ | ⟨rfl, S, n, hk⟩
  ·obtain ⟨its, _, pl, _⟩ := I.list hq
   refine ⟨pl.isList.typeIs, fun a e => ?_⟩
   cases e
   obtain ⟨o, n, e, c, hd, _⟩ := pl
   exact ⟨o, e, hd⟩
  ·refine ⟨⟨o, I.kIn p o hk, hc⟩, fun a e => ?_⟩
   cases e
   exact ⟨o, I.kIn _ o hk, hd⟩
  ·have z : ∃ o, s.heap.get? p = some o ∧ o.ExactDict := by
    rcases hk with ⟨kvs, hk⟩ | ⟨kvs, hk⟩
    ·obtain ⟨_, _, _, _, o, _, _, e, ex, _⟩ := I.hok p _ hk
     exact ⟨o, e, ex⟩
    ·obtain ⟨_, _, _, _, o, _, _, e, ex, _⟩ := I.hok p _ hk
     exact ⟨o, e, ex⟩
   obtain ⟨o, e, ex⟩ := z
   refine ⟨⟨o, e, ex.1⟩, fun a e2 => ?_⟩
   cases e2
   exact ⟨o, e, ex.2.1⟩
  ·obtain ⟨o, _, _, _, e, ex, _⟩ := I.hok p _ hk
   refine ⟨⟨o, e, ex.1⟩, fun a e2 => ?_⟩
   cases e2
   exact ⟨o, e, ex.2.1⟩
 | _ => exact False.elim ty
noncomputable def tBM (K : PySem.W.Frag) (T : String) (r : V → List V → Hp → VK → Prop) (to : TE) (t : TA) : TE := fun σ H Q => to σ H fun x H1 => tyV K T x H1 ∧ t σ H1 fun xs H2 => r x xs H2 Q
variable {o e : Expr} {es : List Expr} {to : TE} {t : TA} {name : Str} {apos cpos : Pos} {T id : String} {r : V → List V → Hp → VK → Prop}
theorem Zt0 (pa : PlainAttrs T) (slot : Slot T name id) (hty : typeOf (.builtin id) = pure (.type "method_descriptor")) (hm : MtR X id r) (ho : PE X o to) (ha : PA X (e :: es) t)
  (hbase : attributeBase o name X.env (eval o X.env) = eval o X.env := by rfl)
  (hfew : ((backTo cpos (starEach (e :: es) X.env)).all (fun x => !x.1) && (backToKw cpos (keywordEach [] X.env)).all (fun x => x.1.isSome)
   && decide ((e :: es).length + ([] : List Keyword).length + (if ([] : List Keyword).isEmpty then 0 else 1) < 30)) = true := by rfl)
  (hline : (apos.endLine == cpos.line) = true := by rfl) (hs : starEach (e :: es) X.env = (false, eval e X.env) :: starEach es X.env := by rfl) (hplain : (backTo cpos (starEach es X.env)).any (·.1) = false := by rfl) :
  PE X (.Call (.Attribute o name apos) (e :: es) [] cpos) (tBM X.K T r to t) := by
 intro pins s σ H Q I h
 refine wpAny_Call_method_late hbase hfew hline rfl (thn (ho pins s σ H _ I h) fun v s1 ⟨x, H1, I1, r1, ty, q1⟩ => ?_)
 obtain ⟨h1, h2⟩ := Zsu I1 r1 ty
 refine ⟨T, id, pa, slot, hty, h1, h2, ?_⟩
 have hA := ha cpos pins s1 σ H1 _ I1 q1
 rw [hs] at hA ⊢
 refine Calls.callWith_builtin (by show (false || (backTo cpos (starEach es X.env)).any (·.1)) = false; rw [hplain] <;> rfl) (Calls.evalArgs_plain ?_)
 exact thn hA fun us s2 ⟨vs, H2, I2, r2, q2⟩ => hm pins s2 σ H2 x vs v us Q I2 r1 r2 q2
end
end L2
namespace L2
open PySem PySem.Spec PyProof.Rows
noncomputable def MtM (X : Cx) (id : String) (r : V → List V → Hp → VK → Prop) : Prop :=
 ∀ (pins : List (Addr × Obj)) (s : Shared) (σ : St) (H : Hp) (x : V) (xs : List V) (v : Value) (us : List Value) (Q : VK), Inv X pins σ H s → RelV x v → Vals xs us → r x xs H Q →
  wpAny (model X.prog X.w) X.A (call (.builtin id) (v :: us)) (EP X pins σ Q) X.xe s
theorem Vals.one : ∀ {x : V} {us : List Value}, Vals [x] us → ∃ u, us = [u] ∧ RelV x u
 | _, _, .cons r .nil => ⟨_, rfl, r⟩
theorem Vals.two : ∀ {x y : V} {us : List Value}, Vals [x, y] us → ∃ u v, us = [u, v] ∧ RelV x u ∧ RelV y v
 | _, _, _, .cons r (.cons q .nil) => ⟨_, _, rfl, r, q⟩
theorem Vals.reverse {xs : List V} {us : List Value} (h : Vals xs us) : Vals xs.reverse us.reverse := by
 induction h with
 | nil => exact .nil
 | cons r t ih => rw [List.reverse_cons, List.reverse_cons]; exact Vals.append ih (.cons r .nil)
section
variable {X : Cx} {pins : List (Addr × Obj)} {σ : St} {H : Hp} {s : Shared} {l b : Addr} {xs ys zs : List V}
theorem Inv.lset {its its' : List Value} {n : Nat} {f : Array Value → Array Value} {t' : Nat} (I : Inv X pins σ H s) (hH : H l = some (.lst xs))
  (e : s.heap.get? l = some { cls := .type "list", data := .seq its.toArray n }) (hf : f its.toArray = its'.toArray) (hv : Vals ys its') (hz : ys.length ≤ sizeLine) :
  Inv X pins σ (upd H l (.lst ys)) { s with heap := s.heap.update l (Obj.mapSeq f), toks := t' } := by
 have q := PySem.IsL.update e f
 rw [hf] at q
 refine I.write (x := l) (e := l) (by rw [hH]; exact trivial) (.inl rfl) (fun b' u hb hu => (Heap.get?_update_other s.heap (Obj.mapSeq f) (Ne.symm hb)).trans hu) ⟨_, q⟩ ?_
 exact ⟨hz, its', _, hv, q⟩
theorem Inv.lnew {its : List Value} {t' : Nat} (I : Inv X pins σ H s) (hv : Vals ys its) (hz : ys.length ≤ sizeLine) :
  Inv X pins σ (upd H s.heap.objs.size (.lst ys)) { s with heap := s.heap.push { cls := .type "list", data := .seq its.toArray }, toks := t' } :=
 I.laid (fun _ _ q => Heap.get?_push_of_some _ q) (Nat.le_refl _) ⟨hz, its, 0, hv, Heap.get?_push_size _ rfl⟩
theorem Inv.fresh (I : Inv X pins σ H s) : H s.heap.objs.size = none := I.hok.fresh (Nat.le_refl _)
theorem Inv.lstM (I : Inv X pins σ H s) (hH : H l = some (.lst xs)) : xs.length ≤ sizeLine ∧ ∃ (its : List Value) (n : Nat), Vals xs its ∧ xs.length = its.length ∧ s.heap.get? l = some { cls := .type "list", data := .seq its.toArray n } := by
 obtain ⟨z, its, n, r, e⟩ := I.hok l _ hH
 exact ⟨z, its, n, r, r.length, e⟩
theorem notLongL {n : Nat} (h : n ≤ sizeLine) : Builtin.List.listTooLong n = false := by
 unfold Builtin.List.listTooLong
 exact decide_eq_false (by omega)
end
section
variable {X : Cx}
noncomputable def rAppend : V → List V → Hp → VK → Prop := fun x vs H Q => ∃ l xs y, x = .ref l ∧ vs = [y] ∧ H l = some (.lst xs) ∧ xs.length < sizeLine ∧ Q .non (upd H l (.lst (xs ++ [y])))
theorem Zd2 : MtM X "list.append" rAppend := by
 intro pins s σ H x vs v us Q I rx rv h
 obtain ⟨l, xs, y, rfl, rfl, hH, hz, q⟩ := h
 cases rx
 obtain ⟨u, rfl, ru⟩ := rv.one
 obtain ⟨z, its, n, r, hl, e⟩ := I.lstM hH
 refine call_meets F.slot_list_append ⟨_, e, rfl⟩ F.entry_list_append (F.args_list_append_2 _ _) (PySem.list_append l its.toArray n u (by rw [List.size_toArray]; omega)) ⟨e, ?_⟩
 refine ⟨.non, _, I.lset (its' := its ++ [u]) hH e (by simp) (r.append (.cons ru .nil)) ?_, rfl, q⟩
 rw [List.length_append, List.length_singleton]
 omega
noncomputable def rExtend : V → List V → Hp → VK → Prop := fun x vs H Q => ∃ l b xs zs, x = .ref l ∧ vs = [.ref b] ∧ H l = some (.lst xs) ∧ H b = some (.lst zs) ∧ xs.length + zs.length ≤ sizeLine ∧ Q .non (upd H l (.lst (xs ++ zs)))
theorem Zn6 : MtM X "list.extend" rExtend := by
 intro pins s σ H x vs v us Q I rx rv h
 obtain ⟨l, b, xs, zs, rfl, rfl, hH, hB, hz, q⟩ := h
 cases rx
 obtain ⟨u, rfl, ru⟩ := rv.one
 cases ru
 obtain ⟨z, its, n, r, hl, e⟩ := I.lstM hH
 obtain ⟨z2, its2, n2, r2, hl2, e2⟩ := I.lstM hB
 have hsz : its.toArray.size + its2.toArray.size ≤ sizeLine := by rw [List.size_toArray, List.size_toArray]; omega
 have hlong : ¬ (!its.toArray.isEmpty && Builtin.List.listTooLong (its.toArray.size + its2.toArray.size)) = true := by
  rw [notLongL hsz, Bool.and_false]
  exact Bool.false_ne_true
 refine call_meets F.slot_list_extend ⟨_, e, rfl⟩ F.entry_list_extend (F.args_list_extend_2 _ _)
  (AutoSeq1.list_extend_list_list_0 l its.toArray n b its2.toArray n2 hlong (by rw [List.size_toArray]; omega) (by omega)) ⟨e, e2, ?_⟩
 refine ⟨.non, _, I.lset (its' := its ++ its2) hH e (by simp) (r.append r2) ?_, rfl, q⟩
 rw [List.length_append]
 omega
noncomputable def rCat : R2 := fun x y H Q => ∃ l b xs zs, x = .ref l ∧ y = .ref b ∧ H l = some (.lst xs) ∧ H b = some (.lst zs) ∧ xs.length + zs.length ≤ sizeLine ∧ ∀ p, H p = none → Q (.ref p) (upd H p (.lst (xs ++ zs)))
theorem Zkq : OpR X (binaryOp .Add) rCat := by
 intro pins s σ H x y v u Q I rx ry h
 obtain ⟨l, b, xs, zs, rfl, rfl, hH, hB, hz, q⟩ := h
 cases rx
 cases ry
 obtain ⟨z, its, n, r, hl, e⟩ := I.lstM hH
 obtain ⟨z2, its2, n2, r2, hl2, e2⟩ := I.lstM hB
 refine PySem.P.add_list e e2 ?_ (by rw [List.size_toArray, List.size_toArray]; omega)
 have ea : its.toArray ++ its2.toArray = (its ++ its2).toArray := by simp
 rw [ea]
 exact ⟨.ref _, _, I.lnew (t' := s.toks) (r.append r2) (by rw [List.length_append]; omega), rfl, q _ I.fresh⟩
end
section
variable {prog : Program} {w : World} {A : Around} {E : Value → Shared → Prop} {s : Shared}
set_option maxRecDepth 100000 in
end
section
variable {X : Cx}
end
end L2
namespace Att
open PySem PySem.W PySem.Calls PyProof.Rows
theorem Zff {P : Params} {h : Heap} : ∀ (ns : List Int) (vs : List Value), WellAll P h vs (ns.map WData.int) → IntsAre vs ns := by
 intro ns
 induction ns with
 | nil =>
  intro vs w
  rw [List.map_nil] at w
  cases w
  exact .nil
 | cons n ns ih =>
  intro vs w
  rw [List.map_cons] at w
  cases w with
  | cons a b =>
   cases a
   exact .cons _ _ (ih _ b)
theorem Znt {l : OpenLaw} {n : Nat} (hn : l.most = some n) {P : Params} {h : Heap} {args : List WData} {vals : List Value}
  (hpre : l.row.toRowW.claim.pre args = true) (hwl : WellAll P h vals args) :
  ∃ a vs ns, vals = [Value.ref a] ∧ args = [WData.list (ns.map WData.int)] ∧ h.get? a = some { cls := .type "list", data := .seq vs.toArray } ∧ IntsAre vs ns ∧ ns.length ≤ n := by
 have hsh : WShape.hasAll [] args [.list .int] = true := (pre_splitW hpre).1
 have hc : l.pre.holds [] { args := args } = true := (pre_splitW hpre).2
 obtain ⟨d, r, rfl, h1, h2⟩ := hasAllW_cons hsh
 obtain rfl := hasAllW_nil h2
 obtain ⟨xs, rfl, h3⟩ := hasW_list h1
 obtain ⟨ns, rfl⟩ := items_int h3
 have hlen : ns.length ≤ n := by
  unfold OpenLaw.pre at hc
  have h4 : (WTm.not (.lt (.lit (.int (n : Int))) (.len (.arg 0)))).holds [] { args := [.list (ns.map .int)] } = true := by
   have h4 := (holds_andW hc).1
   rw [hn] at h4
   exact h4
  have h5 := condW_of h4 (w_not (w_lt w_lit (w_len_list (w_arg rfl))))
  rw [lmp] at h5
  refine Nat.le_of_not_lt fun q => ?_
  have q' : (n : Int) < ((ns.length : Nat) : Int) := by omega
  first
   | (rw [decide_eq_true q'] at h5; exact absurd h5 (by decide))
   | (simp at h5; omega)
 cases hwl with
 | cons w1 w2 =>
  cases w2
  cases w1 with
  | list ho hall => exact ⟨_, _, ns, rfl, rfl, ho, Zff ns _ hall, hlen⟩
theorem Zng (l : OpenLaw) (args : List WData) : l.row.toRowW.claim.post args (.bool true) args = true :=
 postW_of (r := l.row.toRowW) (X := (true == true))
  (show WShape.has [] (.bool true) .bool = true by first | rfl | decide | simp [WShape.has, WShape.arms, WShape.armsAll])
  (show (WTm.eq .res (.lit (.bool true))).value [] { args := args, res := some (.bool true), after := args } = some (.bool (true == true)) from w_eq_bool (w_res rfl) w_lit) rfl
theorem attach_call {l : OpenLaw} {n : Nat} {q : Program} {loose : List Str} {XP : (Str → Option Value) → Heap → Prop} {YP : World → Heap → Prop} {d : DefRec}
  (hn : l.most = some n) (hdf : d.params.defaults = [])
  (call : ∀ (w : World) (s₀ s₁ : Shared) (mg mb : Str → Option Value) (fa : Addr) (o : Obj) (pm cd doc : Value) (a : Addr) (vs : List Value) (ns : List Int),
   Ground q loose [] XP w s₀ mg mb s₁.heap → YP w s₁.heap →
   s₁.heap.get? fa = some o → o.data = .func (docDef d.name d.params d.body d.scope pm cd doc) → s₁.heap.CodeRec cd d.name → mg d.name = some (.ref fa) →
   s₁.heap.get? a = some { cls := .type "list", data := .seq vs.toArray } → IntsAre vs ns → ns.length ≤ n → s₁.gens = #[] →
   codeAny (model l.prog w) callerA (.call (.ref fa) ⟨[.ref a], []⟩) (fun r s' => r = .ok (.ret (.bool true)) ∧ OldK s₁.heap s'.heap ∧ s'.os = s₁.os ∧ AllBare s'.gens) s₁) :
  WalkO q loose XP YP l.row.toRowW d [] (fun f vs => PySem.call f vs) := by
 intro w s₀ s₁ mg mb G Y fa o pm cd doc dV kV ho hd hcd hD hmg hg args vals as hpre hlay hrd hwl hlo
 obtain rfl : dV = .none := Dflts.none hD hdf
 obtain rfl : kV = .none := Dflts.noKw hD
 obtain ⟨a, vs, ns, rfl, rfl, hobj, hints, hlen⟩ := Znt hn hpre hwl
 refine enter_call (codeAny_mono (call w s₀ s₁ mg mb fa o pm cd doc a vs ns G Y ho (fd_plain hd) hcd hmg hobj hints hlen hg) fun r s' hq => ?_)
 obtain ⟨rfl, h2, h3, h4⟩ := hq
 exact ⟨.inl ⟨.bool true, .bool true, [], rfl, fun _ => rfl, .bool true, Zng l _, fun _ => ⟨List.Pairwise.nil, fun _ hm => (nomatch hm)⟩⟩, h2, h3, h4⟩
section
variable {prog : Program} {w : World} {A : Around} {E : Value → Shared → Prop} {s : Shared} {K : Frag}
end
end Att
namespace L2
open PySem PySem.Spec PyProof.Rows
theorem Zfo : ∀ {vs : List Value} {ns : List Int}, IntsAre vs ns → Vals (ns.map V.int) vs
 | _, _, .nil => .nil
 | _, _, .cons n t h => .cons ⟨t, rfl⟩ (Zfo h)
noncomputable def Only (H : Hp) : Prop := ∀ b, H b = none ∨ ∃ o xs, H b = some (.frz o (.lst xs))
theorem Zoj {P : Program} {w : World} {K : PySem.W.Frag} {mg mb : Str → Option Value} {CX : CXT} {k : Nat} {fa a : Addr} {fd : FuncData} {x : Str} {sp : Sp} {s₁ : Shared} {vs : List Value} {ns : List Int}
  (KX : K.In s₁.heap) (hns : s₁.heap.Ns mainGlobals mg) (hb : s₁.heap.Ns builtinsNs mb) (hbb : ∀ x : Str, x ≠ "__name__" → mb x = bootBuiltins x) (hlim : s₁.heap.NoLimit) (hg : s₁.gens = #[])
  (ha : s₁.heap.get? a = some { cls := .type "list", data := .seq vs.toArray }) (hi : IntsAre vs ns) (hl : ns.length ≤ sizeLine) (hr : Room k callerA)
  (F : ∀ base : Heap, K.In base → base.Ns mainGlobals mg → FnOk P w K mg base CX k fa fd [x] sp) (hbind : ∀ (s : Shared) (u : Value), BindsTo s fd ⟨[u], []⟩ [(x, u)])
  (hsp : ∀ H : Hp, Only H → SqL K H a (ns.map V.int) → sp [.ref a] H (fun v _ => v = .bl true) fun _ _ _ => False)
  (hCX : ∀ H e s', CX [] H s₁ (fun _ _ _ => False) e s' → False) :
  codeAny (model P w) callerA (.call (.ref fa) ⟨[.ref a], []⟩) (fun r s' => r = .ok (.ret (.bool true)) ∧ OldK s₁.heap s'.heap ∧ s'.os = s₁.os ∧ AllBare s'.gens) s₁ := by
 have rv := Zfo hi
 have lenV := hi.length
 -- from an abstract heap in which nothing but the script may be tracked
 have core : ∀ H : Hp, Only H → SqL K H a (ns.map V.int) → HOk P w H s₁.heap → (∀ b, H b ≠ none → b = a) → (H a ≠ none → K.lookup a = none) →
   codeAny (model P w) callerA (.call (.ref fa) ⟨[.ref a], []⟩) (fun r s' => r = .ok (.ret (.bool true)) ∧ OldK s₁.heap s'.heap ∧ s'.os = s₁.os ∧ AllBare s'.gens) s₁ := by
  intro H hO hS hok hA hK
  have base_of : ∀ {b : Addr} {o : Obj}, s₁.heap.get? b = some o → H b = none → (hidT s₁.heap H).get? b = some o := fun e n => Zof e n
  have noA : ∀ {b : Addr} {o : Obj} {es : Array DictEntry} {ep : Nat}, s₁.heap.get? b = some o → o.data = .dict es ep → H b = none := fun {b o es ep} e d => by
   cases q : H b with
   | none => rfl
   | some u =>
    have e' : b = a := hA b (by rw [q]; simp)
    subst e'
    rw [ha] at e; cases e
    have d' : Data.seq vs.toArray _ = Data.dict es ep := d
    cases d'
  have nsK : ∀ {b : Addr} {m : Str → Option Value}, s₁.heap.Ns b m → (hidT s₁.heap H).Ns b m := fun {b m} ⟨o, es, ep, e, d, r⟩ => ⟨o, es, ep, base_of e (noA e d), d, r⟩
  have hKb : K.In (hidT s₁.heap H) := fun b o e => base_of (KX b o e) (by
   cases q : H b with
   | none => rfl
   | some u =>
    have e' : b = a := hA b (by rw [q]; simp)
    subst e'
    rw [hK (by rw [q]; simp)] at e; cases e)
  have hM : Mod K mg (hidT s₁.heap H) := ⟨hKb, nsK hns, ⟨mb, nsK hb, hbb⟩, let ⟨mc, h1, h2⟩ := hlim; ⟨mc, nsK h1, h2⟩⟩
  have e0 : Env0 P w K mg (hidT s₁.heap H) callerA [] s₁ H := ⟨rfl, hM, fun b o e => Zqc e, Nat.le_of_eq (Zmu _ _), trivial, fun b hb => absurd (show b ∈ ([] : List Addr) from hb) (by simp), hok, .of_eq hg⟩
  refine codeAny_mono ((F _ hKb (nsK hns)).run callerA [] s₁ H ⟨[.ref a], []⟩ [.ref a] [.ref a] _ _ hr e0 (hbind s₁ (.ref a)) (.cons rfl .nil) (hsp H hO hS)) fun r s' h => ?_
  cases r with
  | error e => exact (hCX H e s' h).elim
  | ok fl =>
   cases fl with
   | next => exact False.elim h
   | brk => exact False.elim h
   | cont => exact False.elim h
   | ret u =>
    obtain ⟨v, H', os, bare, un, hok', r', q⟩ := h
    have q' : v = .bl true := q
    subst q'
    obtain rfl : u = Value.bool true := r'
    refine ⟨rfl, OldK.of_keep fun b o e => ?_, os, bare⟩
    cases q : H b with
    | none => exact un.keep b o e q (by intro z; exact absurd (show b ∈ ([] : List Addr) from z) (by simp)) (by simp)
    | some u =>
     rcases hO b with z | ⟨ob, xs, z⟩
     ·rw [q] at z; cases z
     ·have z2 := un.frzs b ob _ z
      obtain ⟨e1, _⟩ := hok b _ z
      obtain ⟨e2, _⟩ := hok' b _ z2
      rw [e] at e1; cases e1
      exact e2
 cases hk : K.lookup a with
 | some o =>
  -- the script is one of the module's own objects
  have e := KX a o hk
  rw [ha] at e
  cases e
  refine core (fun _ => none) (fun _ => .inl rfl) (.inr ⟨_, vs.toArray, _, hk, rfl, rfl, rfl, by rw [List.size_toArray, lenV]; exact hl, by simpa using rv⟩) (fun b u z => by have z' : (none : Option HO) = some u := z; cases z') (fun b z => absurd rfl z) fun z => absurd rfl z
 | none =>
  refine core (fun b => if b = a then some (.frz { cls := .type "list", data := .seq vs.toArray } (.lst (ns.map V.int))) else none) (fun b => ?_) (.inl (.inr ⟨{ cls := .type "list", data := .seq vs.toArray }, if_pos rfl⟩)) (fun b u z => ?_) (fun b z => ?_) fun _ => hk
  ·by_cases hb : b = a
   ·exact .inr ⟨_, _, if_pos hb⟩
   ·exact .inl (if_neg hb)
  ·by_cases hb : b = a
   ·have z' := (if_pos hb).symm.trans z
    cases z'
    subst hb
    exact ⟨ha, by rw [lmp]; exact hl, vs, _, rv, ha⟩
   ·have z' := (if_neg hb).symm.trans z
    cases z'
  ·by_cases hb : b = a
   ·exact hb
   ·exact absurd (if_neg hb) z
end L2
namespace L2
open PySem PySem.Spec PyProof.Rows
theorem Zre {l : PySem.W.OpenLaw} {n k : Nat} {q : Program} {loose : List Str} {XP : (Str → Option Value) → Heap → Prop} {YP : World → Heap → Prop} {d : DefRec} {K : Params → PySem.W.Frag} {CX : World → CXT} {sp : World → Sp} {x : Str}
  (hn : l.most = some n) (hn2 : n ≤ sizeLine) (hdf : d.params.defaults = []) (hr : Room k callerA)
  (hY : ∀ (w : World) (h : Heap), YP w h → (K w.params).In h)
  (F : ∀ (w : World) (mg : Str → Option Value) (fa : Addr) (h : Heap), (K w.params).In h → h.Ns mainGlobals mg → mg d.name = some (.ref fa) →
   ∃ fd : FuncData, (∀ (s : Shared) (u : Value), BindsTo s fd ⟨[u], []⟩ [(x, u)]) ∧
    ∀ base : Heap, (K w.params).In base → base.Ns mainGlobals mg → FnOk l.prog w (K w.params) mg base (CX w) k fa fd [x] (sp w))
  (hsp : ∀ (w : World) (H : Hp) (a : Addr) (ns : List Int), ns.length ≤ n → Only H → SqL (K w.params) H a (ns.map V.int) → sp w [.ref a] H (fun v _ => v = .bl true) fun _ _ _ => False)
  (hCX : ∀ (w : World) (H : Hp) (s : Shared) (e : Value) (s' : Shared), CX w [] H s (fun _ _ _ => False) e s' → False) :
  PySem.W.WalkO q loose XP YP l.row.toRowW d [] (fun f vs => PySem.call f vs) := by
 refine Att.attach_call hn hdf fun w s₀ s₁ mg mb fa o pm cd doc a vs ns G Y ho hd hcd hmg hobj hints hlen hg => ?_
 have KX := hY w _ Y
 obtain ⟨fd, hb, hF⟩ := F w mg fa _ KX G.T.g hmg
 exact Zoj KX G.T.g G.T.b G.T.builtins G.T.nolimit hg hobj hints (Nat.le_trans hlen hn2) hr hF hb (fun H hO hS => hsp w H a ns hlen hO hS) fun H e s' => hCX w H s₁ e s'
end L2
namespace L2
open PySem PySem.Spec PyProof.Rows
noncomputable def defArgs (s : Stmt) : Arguments := match s with
 | .FunctionDef _ a _ _ _ _ _ _ _ _ => a
 | _ => { posonlyargs := [], args := [], vararg := none, kwonlyargs := [], kw_defaults := [], kwarg := none, defaults := [] }
noncomputable def defBody (s : Stmt) : List Stmt := match s with
 | .FunctionDef _ _ b _ _ _ _ _ _ _ => b
 | _ => []
noncomputable def defScope (s : Stmt) : Scope := match s with
 | .FunctionDef _ _ _ _ _ _ sc _ _ _ => sc
 | _ => { kind := .function, names := [], isGenerator := false, isCoroutine := false }
noncomputable abbrev CX0 : CXT := fun _ _ _ _ _ _ => False
noncomputable abbrev E0 : XK := fun _ _ _ => False
theorem pass0 {X : Cx} : Passes CX0 X E0 := fun _ _ _ _ _ _ _ h => h.elim
structure Fun (K : PySem.W.Frag) (x qual : Str) (st : Stmt) (f : Addr) (fd : FuncData) : Prop where
 ex : ∃ (oc : Value) (od : Option Addr) (kV doc pm : Value) (an : Option Addr) (cdv ct : Value) (osl : Array (Option Value)),
  fd = PySem.W.fnOf x qual (defArgs st) (defBody st) (defScope st) .none kV doc pm an cdv ct ∧ K.lookup f = some ⟨oc, od, .func fd, osl⟩ ∧ PySem.W.codeIn K cdv qual = true
 kp : PySem.W.keepIn K (.ref f) = true
section
variable {P : Program} {w : World} {K : PySem.W.Frag} {mg : Str → Option Value} {base : Heap}
theorem Fun.ok {x qual : Str} {st : Stmt} {f : Addr} {fd : FuncData} {N ps : List Str} {k : Nat} {sp : Sp} (F : Fun K x qual st f fd) (S : FnScope N ps (defScope st)) (len : ∀ vs H Q E, sp vs H Q E → vs.length = ps.length)
  (hbody : ∀ (cdv : Value) (A : Around) (outer : List Env) (s : Shared) (H : Hp) (vs : List V) (Q : VK) (E : XK), Room k (A.deeper (envOfC qual (defScope st) s.heap.objs.size f cdv)) → sp vs H Q E →
   ∃ t, PSs (cxOf CX0 P w K mg base N qual (defScope st) f cdv A outer s H E).nox (defBody st) t ∧ t { nx := fun _ H' => Q .non H', rt := Q } (start N vs) H) : FnOk P w K mg base CX0 (k + 1) f fd ps sp := by
 obtain ⟨oc, od, kV, doc, pm, an, cdv, ct, osl, rfl, lk, hcd⟩ := F.ex
 refine Zrn lk hcd S len fun A outer s H vs Q E hr hsp => ?_
 obtain ⟨t, h, q⟩ := hbody cdv A outer s H vs Q E hr hsp
 exact ⟨t, h.nox, q⟩
theorem Fun.binds {x qual : Str} {st : Stmt} {f : Addr} {fd : FuncData} {ps : List Str} (F : Fun K x qual st f fd)
  (h : ∀ (kV doc pm : Value) (an : Option Addr) (cdv ct : Value) (us : List Value), us.length = ps.length → bindArgs (PySem.W.fnOf x qual (defArgs st) (defBody st) (defScope st) .none kV doc pm an cdv ct) ⟨us, []⟩ = pure (ps.zip us)) : Binds K fd ps [] := by
 obtain ⟨oc, od, kV, doc, pm, an, cdv, ct, osl, rfl, lk, hcd⟩ := F.ex
 exact .all (h kV doc pm an cdv ct)
theorem Zc4 {x qual : Str} {st : Stmt} {f : Addr} {oc : Value} {od an : Option Addr} {osl : Array (Option Value)} {kV doc pm cdv ct : Value} (l : K.lookup f = some ⟨oc, od, .func (PySem.W.fnOf x qual (defArgs st) (defBody st) (defScope st) .none kV doc pm an cdv ct), osl⟩)
  (c : PySem.W.codeIn K cdv qual = true) (k : PySem.W.keepIn K (.ref f) = true) : Fun K x qual st f (PySem.W.fnOf x qual (defArgs st) (defBody st) (defScope st) .none kV doc pm an cdv ct) := ⟨⟨oc, od, kV, doc, pm, an, cdv, ct, osl, rfl, l, c⟩, k⟩
end
theorem Zje {A : Around} {k : Nat} (hr : Room k A) : A.units + 1 < cLine := Nat.lt_of_le_of_lt (Nat.add_le_add_left (by decide : 1 ≤ 64) _) hr.units
section
variable {X : Cx}
theorem pv (i : Nat) {x : Str} {pos : Pos} (hN : X.N[i]? = some x := by rfl) (hv : Vis X.env.scope x := by first | exact Or.inl rfl | exact Or.inr (Or.inl rfl) | exact Or.inr (Or.inr rfl)) (hd : (x == ("__debug__" : Str)) = false := by decide)
  (hcd : (x == ("__classdict__" : Str)) = false := by decide) : PE X (.Name x pos) (tVar i) := Znd hN hv hd hcd
end
theorem ite2 {c A B : Prop} [Decidable c] (h1 : c → A) (h2 : ¬ c → B) : if c then A else B := by
 by_cases h : c
 ·rw [if_pos h]
  exact h1 h
 ·rw [if_neg h]
  exact h2 h
noncomputable def Same (H H' : Hp) : Prop := ∀ b o, H b = some o → H' b = some o
theorem Same.refl (H : Hp) : Same H H := fun _ _ h => h
theorem Same.trans {H H1 H2 : Hp} (a : Same H H1) (b : Same H1 H2) : Same H H2 := fun c o h => b c o (a c o h)
theorem Same.free {H H' : Hp} (e : Same H H') {l : Addr} (h : H' l = Option.none) : H l = Option.none := by
 cases q : H l with
 | none => rfl
 | some o =>
  rw [e l o q] at h
  cases h
theorem Same.seq {K : PySem.W.Frag} {H H' : Hp} {a : Addr} {xs : List V} (e : Same H H') (h : SqL K H a xs) : SqL K H' a xs := by
 rcases h with (h | ⟨o, h⟩) | h
 ·exact .inl (.inl (e _ _ h))
 ·exact .inl (.inr ⟨o, e _ _ h⟩)
 ·exact .inr h
end L2
set_option maxHeartbeats 4000000
namespace L2
open PySem PySem.Spec PyProof.Rows
noncomputable abbrev lstO (us : List Value) : Obj := { cls := .type "list", data := .seq us.toArray us.length }
noncomputable def cxComp (X : Cx) (Nc : List Str) (scope : Scope) (cs : List (Str × Addr)) (C : Addr) (s : Shared) (H : Hp) (fp : List Addr) : Cx where
 prog := X.prog
 w := X.w
 K := X.K
 mg := X.mg
 base := X.base
 A := X.A
 N := Nc
 s₀ := s
 H₀ := H
 env := compEnvC scope cs C X.env
 outer := X.stack
 stack := X.stack
 ex := fp
 fn := fun x => scope.names.lookup x == some .cell
 calm := X.calm
 pn := []
 xe := fun _ _ => False
noncomputable def clOf (cells : List (Str × Addr)) : List (Str × NameKind) → List (Str × Addr) → List (Str × Addr)
 | [], acc => acc
 | (n, k) :: r, acc => if k == .free then clOf cells r ((n, (cells.lookup n).getD 0) :: acc) else clOf cells r acc
theorem Zdz (cells : List (Str × Addr)) : ∀ (names : List (Str × NameKind)) (acc : List (Str × Addr)), clOf cells names acc = clOf cells names [] ++ acc
 | [], acc => rfl
 | (n, k) :: r, acc => by
  unfold clOf
  split
  ·rw [Zdz cells r (_ :: acc), Zdz cells r [_], List.append_assoc]; rfl
  ·exact Zdz cells r acc
theorem Zdp {env : Env} : ∀ (names : List (Str × NameKind)) (acc : List (Str × Addr)), (∀ p ∈ names, p.2 = .free → ∃ c, env.cells.lookup p.1 = some c) →
  (forIn names acc fun (p : Str × NameKind) (cs : List (Str × Addr)) => (if p.2 == .free then (do let c ← cellOf env p.1; pure (ForInStep.yield ((p.1, c) :: cs))) else pure (ForInStep.yield cs) : Sem _)) = pure (clOf env.cells names acc)
 | [], acc, _ => rfl
 | (n, k) :: r, acc, h => by
  rw [List.forIn_cons]
  have hr : ∀ p ∈ r, p.2 = .free → ∃ c, env.cells.lookup p.1 = some c := fun p hp => h p (List.mem_cons_of_mem _ hp)
  unfold clOf
  by_cases hk : k = .free
  ·subst hk
   obtain ⟨c, hc⟩ := h (n, .free) List.mem_cons_self rfl
   have hc' : env.cells.lookup n = some c := hc
   simp only [beq_self_eq_true, if_true, cellOf, hc', pure_bind, Option.getD_some]
   exact Zdp r _ hr
  ·have hb : (k == NameKind.free) = false := by simpa using hk
   simp only [hb, Bool.false_eq_true, if_false, pure_bind]
   exact Zdp r _ hr
theorem Zef {scope : Scope} {env : Env} (h : ∀ p ∈ scope.names, p.2 = .free → ∃ c, env.cells.lookup p.1 = some c) : closureFor scope env = pure (clOf env.cells scope.names []) := by
 have e : closureFor scope env = (forIn scope.names [] fun (p : Str × NameKind) (cs : List (Str × Addr)) => (if p.2 == .free then (do let c ← cellOf env p.1; pure (ForInStep.yield ((p.1, c) :: cs))) else pure (ForInStep.yield cs) : Sem _)) := by
  simp only [closureFor]
  rw [bind_pure]
 rw [e]; exact Zdp _ _ h
theorem Zcr {cells : List (Str × Addr)} : ∀ {names : List (Str × NameKind)} {x : Str} {c : Addr}, (∀ p ∈ names, p.2 = .free → ∃ c, cells.lookup p.1 = some c) → (x, c) ∈ clOf cells names [] → (x, .free) ∈ names ∧ cells.lookup x = some c
 | [], _, _, _, h => nomatch h
 | (n, k) :: r, x, c, hf, h => by
  have hr : ∀ p ∈ r, p.2 = .free → ∃ c, cells.lookup p.1 = some c := fun p hp => hf p (List.mem_cons_of_mem _ hp)
  unfold clOf at h
  by_cases hk : k = .free
  ·subst hk
   obtain ⟨c0, hc⟩ := hf (n, .free) List.mem_cons_self rfl
   have hc' : cells.lookup n = some c0 := hc
   rw [if_pos (by simp), Zdz, hc'] at h
   rcases List.mem_append.mp h with h | h
   ·obtain ⟨a, b⟩ := Zcr hr h
    exact ⟨List.mem_cons_of_mem _ a, b⟩
   ·have e : (x, c) = (n, c0) := by simpa using h
    cases e
    exact ⟨List.mem_cons_self, hc'⟩
  ·rw [if_neg (by simpa using hk)] at h
   obtain ⟨a, b⟩ := Zcr hr h
   exact ⟨List.mem_cons_of_mem _ a, b⟩
theorem Zgn {cells : List (Str × Addr)} : ∀ {names : List (Str × NameKind)} {x : Str}, (x, .free) ∈ names → ∃ c, (x, c) ∈ clOf cells names []
 | [], _, h => nomatch h
 | (n, k) :: r, x, h => by
  unfold clOf
  rcases List.mem_cons.mp h with e | h
  ·cases e
   rw [if_pos (by simp), Zdz]
   exact ⟨_, List.mem_append_right _ List.mem_cons_self⟩
  ·obtain ⟨c, hc⟩ := Zgn (cells := cells) h
   split
   ·rw [Zdz]; exact ⟨c, List.mem_append_left _ hc⟩
   ·exact ⟨c, hc⟩
theorem Zc7 {α : Type} : ∀ {l : List (Str × α)} {x : Str} {c : α}, (x, c) ∈ l → ∃ c', l.lookup x = some c'
 | [], _, _, h => nomatch h
 | (k, v) :: r, x, c, h => by
  rw [List.lookup_cons]
  cases hb : x == k with
  | true => exact ⟨v, rfl⟩
  | false =>
   rcases List.mem_cons.mp h with e | h
   ·cases e; simp at hb
   ·exact Zc7 h
theorem Zbp {α : Type} : ∀ {l r : List (Str × α)} {x : Str} {c : α}, (l ++ r).lookup x = some c → l.lookup x = some c ∨ (l.lookup x = none ∧ r.lookup x = some c)
 | [], r, x, c, h => .inr ⟨rfl, h⟩
 | (k, v) :: l, r, x, c, h => by
  rw [List.cons_append, List.lookup_cons] at h
  rw [List.lookup_cons]
  cases hb : x == k with
  | true => rw [hb] at h; exact .inl h
  | false => rw [hb] at h; exact Zbp h
theorem Zaq : ∀ (names : List (Str × NameKind)) (n : Nat) (acc : List (Str × Addr)), cellsFrom n names acc = cellsFrom n names [] ++ acc
 | [], _, _ => rfl
 | (x, k) :: r, n, acc => by
  unfold cellsFrom
  split
  ·rw [Zaq r (n + 1) (_ :: acc), Zaq r (n + 1) [_], List.append_assoc]; rfl
  ·exact Zaq r n acc
theorem Zcl : ∀ {names : List (Str × NameKind)} {n : Nat} {x : Str} {c : Addr}, (x, c) ∈ cellsFrom n names [] → (x, .cell) ∈ names
 | [], _, _, _, h => nomatch h
 | (y, k) :: r, n, x, c, h => by
  unfold cellsFrom at h
  by_cases hk : k = .cell
  ·subst hk
   rw [if_pos (by simp), Zaq] at h
   rcases List.mem_append.mp h with h | h
   ·exact List.mem_cons_of_mem _ (Zcl h)
   ·have e : (x, c) = (y, n) := by simpa using h
    cases e
    exact List.mem_cons_self
  ·rw [if_neg (by simpa using hk)] at h
   exact List.mem_cons_of_mem _ (Zcl h)
theorem Zcj {env : Env} : ∀ {names : List (Str × NameKind)} {x : Str},
  (names.map fun (p : Str × NameKind) => if (p.2 == NameKind.free && env.scope.kind == .function && env.kindOf p.1 == some .cell) then (p.1, NameKind.cell) else (p.1, p.2)).lookup x =
   (names.lookup x).map fun k => if (k == NameKind.free && env.scope.kind == .function && env.kindOf x == some .cell) then .cell else k
 | [], _ => rfl
 | (n, k) :: r, x => by
  have ih := @Zcj env r x
  rw [List.map_cons]
  by_cases hc : (k == NameKind.free && env.scope.kind == .function && env.kindOf n == some .cell) = true
  ·rw [if_pos hc]
   cases hx : x == n with
   | true =>
    have e : x = n := by simpa using hx
    subst e
    rw [List.lookup_cons, List.lookup_cons, hx]
    simp only [Option.map_some, if_pos hc]
   | false => rw [List.lookup_cons, List.lookup_cons, hx]; exact ih
  ·rw [if_neg hc]
   cases hx : x == n with
   | true =>
    have e : x = n := by simpa using hx
    subst e
    rw [List.lookup_cons, List.lookup_cons, hx]
    simp only [Option.map_some, if_neg hc]
   | false => rw [List.lookup_cons, List.lookup_cons, hx]; exact ih
theorem Zdl {M : Model} {A : Around} {E : Value → Shared → Prop} {s : Shared} {scope : Scope} {cl : List (Str × Addr)} {env : Env} {Q : Env → Shared → Prop}
  (hQ : Q (newEnv scope s.heap.objs.size env.globals (cellsFrom (s.heap.objs.size + 1) scope.names cl) env.qual none .none (some env) builtinsNs) { s with heap := pushCells (s.heap.push { cls := .type "dict", data := .dict #[] }) scope.names }) :
  wpAny M A (newFunctionEnv scope env.globals cl [] env.qual none .none (some env)) Q E s := by
 simp only [newFunctionEnv, Option.isSome_some, if_true]
 refine wpAny_bind (wpAny_alloc ?_)
 refine wpAny_bind (wpAny_layCells _ (fun name kind cells => by cases hkc : kind == NameKind.cell <;> simp [hkc]) _ _ _ _ ?_)
 rw [show ({ s with heap := s.heap.push { cls := .type "dict", data := .dict #[] } } : Shared).heap.objs.size = s.heap.objs.size + 1 from Heap.size_push ..]
 refine wpAny_bind ?_
 rw [List.forIn_nil]
 exact wpAny_pure (wpAny_pure hQ)
noncomputable def capOk (X : Cx) (Nc : List Str) (cap : List (Option Nat)) (scope : Scope) : Bool :=
 (scope.names.all fun p => (p.2 != .free || (X.env.scope.names.lookup p.1 == some .cell || X.env.scope.names.lookup p.1 == some .free)) && (scope.names.lookup p.1 == some p.2)) &&
 (Nc.length == cap.length) &&
 ((Nc.zip cap).all fun p => match p.2 with | none => true | some j => (X.N[j]? == some p.1) && (scope.names.lookup p.1 == some .free))
noncomputable def capt (cap : List (Option Nat)) (σ : St) : St := cap.map fun o => o.bind fun j => (σ[j]?).join
structure CapOk (X : Cx) (Nc : List Str) (cap : List (Option Nat)) (scope : Scope) : Prop where
 free : ∀ p ∈ scope.names, p.2 = .free → X.env.kindOf p.1 = some .cell ∨ X.env.kindOf p.1 = some .free
 look : ∀ p ∈ scope.names, scope.names.lookup p.1 = some p.2
 len : Nc.length = cap.length
 take : ∀ (i : Nat) (x : Str) (j : Nat), Nc[i]? = some x → cap[i]? = some (some j) → X.N[j]? = some x ∧ scope.names.lookup x = some .free
theorem CapOk.of {X : Cx} {Nc : List Str} {cap : List (Option Nat)} {scope : Scope} (h : capOk X Nc cap scope = true) : CapOk X Nc cap scope := by
 unfold capOk at h
 simp only [Bool.and_eq_true] at h
 obtain ⟨⟨h1, h2⟩, h3⟩ := h
 rw [List.all_eq_true] at h1 h3
 refine ⟨fun p hp hf => ?_, fun p hp => ?_, by simpa using h2, fun i x j e1 e2 => ?_⟩
 ·have q := h1 p hp
  simp only [Bool.and_eq_true, Bool.or_eq_true] at q
  rcases q.1 with q | q | q
  ·rw [hf] at q; simp at q
  ·exact .inl (beq_iff_eq.mp q)
  ·exact .inr (beq_iff_eq.mp q)
 ·have q := h1 p hp
  simp only [Bool.and_eq_true] at q
  simpa using q.2
 ·have q := h3 (x, some j) (by
   refine List.mem_of_getElem? (i := i) ?_
   rw [List.getElem?_zip_eq_some]
   exact ⟨e1, e2⟩)
  simp only [Bool.and_eq_true] at q
  exact ⟨by simpa using q.1, by simpa using q.2⟩
theorem Inv.track {X : Cx} {pins : List (Addr × Obj)} {σ : St} {H : Hp} {s : Shared} {D : Addr} {o : HO} (I : Inv X pins σ H s) (f : FpOk X pins H D) (new : ObjOk X.prog X.w (upd H D o) s.heap D o) : Inv X pins σ (upd H D o) s := by
 obtain ⟨f0, f1, f2, f3, f4, f5⟩ := f
 have ne : ∀ b u, H b = some u → b ≠ D := fun b u e z => by rw [z, f0] at e; cases e
 exact I.step (g' := s.gens) (d' := s.drawn) (t' := s.toks) (h' := s.heap) (ch := [D]) (fun b hb => by
   have e : b = D := by simpa using hb
   subst e
   exact ⟨f3, f1, f4, f5⟩) (fun b o _ _ _ e _ => e) (fun b o _ _ _ e _ => ⟨o.slots, e⟩) (fun b o hc _ n => by rw [Zah (fun z => hc (by simp [z]))]; exact n) (fun b o _ e => ⟨o, e⟩)
  (fun b xs e => by rw [Zah (ne b _ e)]; exact e) (fun b o u e => by rw [Zah (ne b _ e)]; exact e) (fun b ps e => ⟨#[], by rw [Zah (ne b _ e), e]; simp⟩) (fun m hm => hm)
  (fun b u e => by
   by_cases hb : b = D
   ·subst hb; rw [Zax] at e; cases e; exact new
   ·rw [Zah hb] at e
    exact (I.hok b u e).stay (fun c v _ q => q) (fun c q => by rw [Zah (ne c _ q)]; exact q) fun c xs q => by rw [Zah (ne c _ q)]; exact q) I.bare
theorem Zlj {X : Cx} {pins : List (Addr × Obj)} {σ : St} {H : Hp} {s : Shared} {fp : List Addr} {Nc : List Str} {cap : List (Option Nat)} {scope : Scope} (I : Inv X pins σ H s) (hf : ∀ b ∈ fp, FpOk X pins H b) (hlt : ∀ b ∈ fp, b < s.heap.objs.size)
  (ok : CapOk X Nc cap scope) (hk : scope.kind = .function) :
  Inv (cxComp X Nc scope (cellsFrom (s.heap.objs.size + 2) scope.names (clOf X.env.cells scope.names [])) (s.heap.objs.size + 1) s H fp) [] (capt cap σ) H
   { s with heap := pushCells ((s.heap.push (lstO [])).push { cls := .type "dict", data := .dict #[] }) scope.names } ∧
  (pushCells ((s.heap.push (lstO [])).push { cls := .type "dict", data := .dict #[] }) scope.names).get? s.heap.objs.size = some (lstO []) := by
 generalize hh1 : (s.heap.push (lstO [])) = h1
 have z1 : h1.objs.size = s.heap.objs.size + 1 := by rw [← hh1, Heap.size_push]
 generalize hh2 : (h1.push { cls := .type "dict", data := .dict #[] }) = h2
 have z2 : h2.objs.size = s.heap.objs.size + 2 := by rw [← hh2, Heap.size_push, z1]
 have up : ∀ b o, s.heap.get? b = some o → (pushCells h2 scope.names).get? b = some o := fun b o e => pushCells_keeps _ _ b o (by rw [← hh2, ← hh1]; exact Heap.get?_push_of_some _ (Heap.get?_push_of_some _ e))
 have hD : (pushCells h2 scope.names).get? s.heap.objs.size = some (lstO []) := pushCells_keeps _ _ _ _ (by rw [← hh2, ← hh1]; exact Heap.get?_push_of_some _ (Heap.get?_push_size _ rfl))
 refine ⟨?_, hD⟩
 have hns : (pushCells h2 scope.names).Ns (s.heap.objs.size + 1) (fun _ => none) := by
  have q := Heap.Ns.new h1 (.type "dict")
  rw [hh2, z1] at q
  exact q.keeps fun b o e => pushCells_keeps _ _ b o e
 have okc := cellsFrom_ok scope.names h2 (s.heap.objs.size + 2) [] ⟨fun _ _ hm => (nomatch hm), List.Pairwise.nil⟩ (by rw [z2]; exact Nat.le_refl _)
 rw [z2] at okc
 have hcl : ∀ p ∈ scope.names, p.2 = .free → ∃ c, X.env.cells.lookup p.1 = some c := fun p hp e => I.ok.has p.1 (ok.free p hp e)
 -- a name of the block's cells: its own, or one that is taken
 have cse : ∀ x c, (cellsFrom (s.heap.objs.size + 2) scope.names (clOf X.env.cells scope.names [])).lookup x = some c →
   ((x, c) ∈ cellsFrom (s.heap.objs.size + 2) scope.names [] ∧ scope.names.lookup x = some .cell ∧ s.heap.objs.size + 2 ≤ c) ∨ (scope.names.lookup x = some .free ∧ X.env.cells.lookup x = some c ∧ c < s.heap.objs.size) := fun x c e => by
  rw [Zaq] at e
  rcases Zbp e with e | ⟨_, e⟩
  ·have m := PySem.mem_of_lookup e
   exact .inl ⟨m, ok.look _ (Zcl m), (okc.empty x c m).2⟩
  ·obtain ⟨a, b⟩ := Zcr hcl (PySem.mem_of_lookup e)
   obtain ⟨v, q⟩ := I.cell x c b
   exact .inr ⟨ok.look _ a, b, q.lt⟩
 have kn : ∀ x, (compEnvC scope (cellsFrom (s.heap.objs.size + 2) scope.names (clOf X.env.cells scope.names [])) (s.heap.objs.size + 1) X.env).kindOf x = (scope.names.lookup x).map fun k => if (k == NameKind.free && X.env.scope.kind == .function && X.env.kindOf x == some .cell) then .cell else k := fun x => Zcj
 have has : ∀ x, scope.names.lookup x = some .cell ∨ scope.names.lookup x = some .free → ∃ c, (cellsFrom (s.heap.objs.size + 2) scope.names (clOf X.env.cells scope.names [])).lookup x = some c := fun x h => by
  rw [Zaq]
  rcases h with h | h
  ·obtain ⟨c, hc⟩ := Option.isSome_iff_exists.mp (PySem.W.cellsFrom_some scope.names (s.heap.objs.size + 2) [] (.inl h))
   exact Zc7 (List.mem_append_left _ (PySem.mem_of_lookup hc))
  ·obtain ⟨c, hc⟩ := Zgn (cells := X.env.cells) (PySem.mem_of_lookup h)
   exact Zc7 (List.mem_append_right _ hc)
 have kfree : ∀ x, scope.names.lookup x = some .free → (compEnvC scope (cellsFrom (s.heap.objs.size + 2) scope.names (clOf X.env.cells scope.names [])) (s.heap.objs.size + 1) X.env).kindOf x = some .cell ∨ (compEnvC scope (cellsFrom (s.heap.objs.size + 2) scope.names (clOf X.env.cells scope.names [])) (s.heap.objs.size + 1) X.env).kindOf x = some .free := fun x h => by
  rw [kn x, h]
  simp only [Option.map_some]
  split
  ·exact .inl rfl
  ·exact .inr rfl
 refine ⟨⟨I.ok.mod, hk, I.ok.glob, I.ok.blt, Nat.le_succ _, fun x y c h1 h2 => ?_, fun x h => ?_, fun x c h1 h2 => ?_, I.ok.hd, I.ok.frames, .inl rfl, fun b hb => ⟨Nat.ne_of_lt (Nat.lt_succ_of_lt (hlt b hb)), fun x c e => ?_⟩, I.bs, Nat.le_trans I.ok.bsz I.sz, fun b o e hb => ?_, fun b hb hm => ?_, I.stack, I.stkFree⟩,
  rfl, I.bare, Un.kept up, ⟨fun _ => none, hns, fun i x v e1 e2 e3 => ?_⟩, fun x c e => ?_, I.hok.fresh (Nat.le_succ _), fun x c e => ?_, fun p hp => absurd (show p ∈ ([] : List (Addr × Obj)) from hp) (by simp), I.hok.kept up, ?_⟩
 ·rcases cse x c h1 with ⟨m1, _, l1⟩ | ⟨_, b1, l1⟩ <;> rcases cse y c h2 with ⟨m2, _, l2⟩ | ⟨_, b2, l2⟩
  ·exact name_of_addr okc.apart m1 m2
  ·exact absurd (Nat.lt_of_lt_of_le l2 (Nat.le_trans (Nat.le_add_right _ 2) l1)) (Nat.lt_irrefl _)
  ·exact absurd (Nat.lt_of_lt_of_le l1 (Nat.le_trans (Nat.le_add_right _ 2) l2)) (Nat.lt_irrefl _)
  ·exact I.ok.inj x y c b1 b2
 ·refine has x ?_
  have h' : (compEnvC scope (cellsFrom (s.heap.objs.size + 2) scope.names (clOf X.env.cells scope.names [])) (s.heap.objs.size + 1) X.env).kindOf x = some .cell ∨ (compEnvC scope (cellsFrom (s.heap.objs.size + 2) scope.names (clOf X.env.cells scope.names [])) (s.heap.objs.size + 1) X.env).kindOf x = some .free := h
  rw [kn x] at h'
  cases q : scope.names.lookup x with
  | none => rw [q] at h'; rcases h' with h' | h' <;> cases h'
  | some k =>
   rw [q] at h'
   simp only [Option.map_some] at h'
   cases k <;> simp_all
 ·have h1' : (scope.names.lookup x == some NameKind.cell) = true := h1
  rcases cse x c h2 with ⟨_, _, l⟩ | ⟨q, _, _⟩
  ·exact Nat.le_trans (Nat.le_add_right _ 2) l
  ·rw [q] at h1'; cases h1'
 ·rcases cse x c e with ⟨_, _, l⟩ | ⟨_, q, _⟩
  ·have h3 := hlt b hb
   exact fun z => absurd (Nat.lt_of_lt_of_le h3 (Nat.le_trans (Nat.le_add_right _ 2) (z ▸ l))) (Nat.lt_irrefl _)
  ·exact (hf b hb).2.2.2.2.1 x c q
 ·rcases (hf b hb).2.2.2.1 with z | z
  ·exact I.ok.noex b o e z
  ·exact absurd (Nat.lt_of_lt_of_le (Nat.lt_of_lt_of_le (Heap.lt_size e) I.ok.bsz) z) (Nat.lt_irrefl _)
 ·rcases List.mem_cons.mp (I.stkSub b hm) with z | z
  ·exact (hf b hb).2.1 z
  ·exact (hf b hb).2.2.1 z
 ·-- the names that are taken
  have e2' : (cap[i]?).map (fun o => o.bind fun j => (σ[j]?).join) = some (some v) := by
   have : (capt cap σ)[i]? = some (some v) := e2
   unfold capt at this
   rwa [List.getElem?_map] at this
  cases q : cap[i]? with
  | none => rw [q] at e2'; cases e2'
  | some o =>
   rw [q] at e2'
   cases o with
   | none => cases e2'
   | some j =>
    obtain ⟨n1, n2⟩ := ok.take i x j e1 q
    have hj : σ[j]? = some (some v) := by
     have w : (σ[j]?).join = some v := Option.some.inj e2'
     cases r : σ[j]? with
     | none => rw [r] at w; cases w
     | some o => rw [r] at w; rw [show o = some v from w]
    have vis : Vis X.env.scope x := by
     rcases ok.free _ (PySem.mem_of_lookup n2) rfl with z | z
     ·exact .inr (.inl z)
     ·exact .inr (.inr z)
    obtain ⟨m, hn, hl⟩ := I.loc
    obtain ⟨u, ru, lk⟩ := hl j x v n1 hj vis
    refine ⟨u, ru, .inr ⟨kfree x n2, ?_⟩⟩
    obtain ⟨c, hc⟩ := has x (.inr n2)
    rcases cse x c hc with ⟨_, w, _⟩ | ⟨_, w, _⟩
    ·rw [n2] at w; cases w
    ·rcases lk with ⟨k, _⟩ | ⟨_, c', w', ic⟩
     ·rcases ok.free _ (PySem.mem_of_lookup n2) rfl with z | z <;> (have z' : X.env.kindOf x = _ := z; rw [k] at z'; cases z')
     ·rw [w] at w'; cases w'
      obtain ⟨oc, ho, hd⟩ := ic
      exact ⟨c, hc, oc, up _ _ ho, hd⟩
 ·rcases cse x c e with ⟨m, _, _⟩ | ⟨_, q, _⟩
  ·exact ⟨_, (okc.empty x c m).1⟩
  ·obtain ⟨v, oc, ho, hd⟩ := I.cell x c q
   exact ⟨v, oc, up _ _ ho, hd⟩
 ·rcases cse x c e with ⟨m, _, l⟩ | ⟨_, q, _⟩
  ·exact I.hok.fresh (Nat.le_trans (Nat.le_add_right _ 2) l)
  ·exact I.freeC x c q
 ·show (capt cap σ).length = Nc.length
  unfold capt
  rw [lmp, ok.len]
end L2
namespace L2
open PySem PySem.Spec PyProof.Rows
noncomputable def AccOk (Y : Cx) (pins : List (Addr × Obj)) (D : Addr) (ys : List V) (H : Hp) (s : Shared) : Prop := FpOk Y pins H D ∧ ys.length ≤ sizeLine ∧ ∃ us, Vals ys us ∧ s.heap.get? D = some (lstO us)
noncomputable abbrev LK := List V → St → Hp → Prop
noncomputable abbrev TL := List V → St → Hp → LK → Prop
noncomputable def LP (Y : Cx) (pins : List (Addr × Obj)) (D : Addr) (Q : LK) (s' : Shared) : Prop := ∃ ys σ H, Inv Y pins σ H s' ∧ AccOk Y pins D ys H s' ∧ Q ys σ H
noncomputable def PL (Y : Cx) (body : Value → Sem Unit) (t : TL) : Prop :=
 ∀ (D : Addr) (pins : List (Addr × Obj)) (s : Shared) (σ : St) (H : Hp) (ys : List V) (Q : LK), Inv Y pins σ H s → AccOk Y pins D ys H s → t ys σ H Q →
  wpAny (model Y.prog Y.w) Y.A (body (.ref D)) (fun _ s' => LP Y pins D Q s') Y.xe s
noncomputable def testsOf (ifs : List Expr) (env : Env) : Sem Bool := forIn ifs true fun c r => if r = true then do let ok ← isTrue c env (eval c env); pure (ForInStep.yield ok) else pure (ForInStep.yield r)
noncomputable def PTs (Y : Cx) (ifs : List Expr) (t : TT) : Prop :=
 ∀ (pins : List (Addr × Obj)) (s : Shared) (σ : St) (H : Hp) (Q : Bool → Hp → Prop), Inv Y pins σ H s → t σ H Q → wpAny (model Y.prog Y.w) Y.A (testsOf ifs Y.env) (TP Y pins σ Q) Y.xe s
noncomputable def tYes : TT := fun _ H Q => Q true H
section
variable {Y : Cx}
theorem Zk1 : PTs Y [] tYes := fun pins s σ H Q I h => wpAny_pure ⟨H, I, h⟩
theorem Zqy {c : Expr} {t : TT} (h : PT Y c t) : PTs Y [c] t := fun pins s σ H Q I hw => wpAny_tests_one (h pins s σ H Q I hw)
theorem AccOk.pin {pins : List (Addr × Obj)} {D : Addr} {ys : List V} {σ : St} {H : Hp} {s : Shared} {us : List Value} (I : Inv Y pins σ H s) (f : FpOk Y pins H D) (e : s.heap.get? D = some (lstO us)) : Inv Y (pins ++ [(D, lstO us)]) σ H s :=
 I.pins_of fun p hp => (List.mem_append.mp hp).elim (fun z => I.pin p (List.mem_append_right _ z)) fun z => by
  have z' : p = (D, lstO us) := by simpa using z
  subst z'
  exact ⟨e, f.1, f.2.1, f.2.2.1, fun v q => by cases q⟩
noncomputable def tEmit (te : TE) : TL := fun ys σ H Q => ys.length < sizeLine ∧ te σ H fun v H' => Q (ys ++ [v]) σ H'
noncomputable def emit (elt : Expr) (env : Env) (acc : Value) : Sem Unit := eval elt env >>= fun x => call (.builtin "list.append") [acc, x] >>= fun _ => pure ()
theorem Zjy {elt : Expr} {te : TE} (he : PE Y elt te) : PL Y (emit elt Y.env) (tEmit te) := by
 rintro D pins s σ H ys Q I ⟨f, hz, us, r, e⟩ ⟨hl, h⟩
 have I' := AccOk.pin (ys := ys) I f e
 refine wpAny_bind (thn (he _ s σ H _ I' h) fun u s1 ⟨v, H1, I1, rv, q⟩ => ?_)
 obtain ⟨p1, p2, p3, p4, p5⟩ := I1.pin (D, lstO us) (by simp)
 have hlen := r.length
 refine wpAny_bind (append_at (hsz := by rw [List.size_toArray]; omega) p1 fun h' sb hD => wpAny_pure ⟨ys ++ [v], σ, H1, ?_, ⟨⟨p2, f.2⟩, ?_, us ++ [u], r.append (.cons rv .nil), ?_⟩, q⟩)
 ·exact I1.unpinned.turned (t' := s1.toks) (fun b o hb e => sb.extBut b o hb e) p2 f.2.1 f.2.2.2.1 f.2.2.2.2.1 f.2.2.2.2.2
 ·rw [List.length_append, List.length_singleton]; omega
 ·show h'.get? D = _
  rw [hD]
  show some ({ cls := .type "list", data := .seq (us.toArray.push u) (us.length + 1) } : Obj) = some { cls := .type "list", data := .seq (us ++ [u]).toArray (us ++ [u]).length }
  rw [List.length_append, List.length_singleton, List.push_toArray]
noncomputable def turnOf (tg iter : Expr) (ifs : List Expr) (body : Value → Sem Unit) (c : Code) (it acc : Value) (env : Env) : Sem Fin :=
 standAt iter.pos >>= fun _ => pyNext it >>= fun r => match r with
  | none => pure (.done .next)
  | some v => letOwnedTupleGo tg it v >>= fun _ => assign tg env v >>= fun _ => testsOf ifs env >>= fun ok => if ok = true then (body acc >>= fun _ => again c) else again c
noncomputable def LTurn (J : It) (g : TG) (tt : TT) (tb : TL) (Q : LK) (W : Nat → List V → Nat → St → Hp → Prop) : Prop := ∀ i ys m σ H, W i ys m σ H →
 (J.stop i H ∧ Q ys σ H) ∨ (J.go i H ∧ ∃ N : LK, (∀ ys' σ' H', N ys' σ' H' → ∃ m', m' < m ∧ W (i + 1) ys' m' σ' H') ∧ ∀ x H', J.yld i H x H' → g x σ H' fun σ2 H2 => tt σ2 H2 fun b H3 => if b = true then tb ys σ2 H3 N else N ys σ2 H3)
theorem Zi4 {tg iter : Expr} {ifs : List Expr} {elt : Expr} {gens : List Comprehension} {scope : Scope} {pos : Pos} {d : Nat} {body : Value → Sem Unit} {g : TG} {tt : TT} {tb : TL} {J : It} {fp : List Addr} {it : Addr} {tn : Nat → Heap → Prop} {D : Addr} {Q : LK}
  {R : Result → Shared → Prop} {W : Nat → List V → Nat → St → Hp → Prop} {pins : List (Addr × Obj)} {s : Shared} {σ : St} {H : Hp} {ys : List V} {m : Nat}
  (hx : ∀ v s, Y.xe v s → False) (hc : Y.calm = true) (T : Turn Y.prog Y.w Y.K tg J fp it tn) (hg : PG Y tg g) (ht : PTs Y ifs tt) (hb : PL Y body tb)
  (hturn : compTurn (.ListComp elt gens scope pos) d (.ref it) (.ref D) Y.env = turnOf tg iter ifs body (.compLoop (.ListComp elt gens scope pos) d (.ref it) (.ref D) Y.env) (.ref it) (.ref D) Y.env)
  (I : Inv Y pins σ H s) (a : AccOk Y pins D ys H s) (st : tn 0 s.heap) (hf : ∀ b ∈ fp, FpOk Y pins H b) (hD : D ∉ fp) (w0 : W 0 ys m σ H) (turn : LTurn J g tt tb Q W) (hR : ∀ s', LP Y pins D Q s' → R (.ok .next) s') :
  codeAny (model Y.prog Y.w) Y.A (.compLoop (.ListComp elt gens scope pos) d (.ref it) (.ref D) Y.env) R s := by
 refine codeAny_loop rfl (fun n s' => ∃ i ys σ' H', Inv Y pins σ' H' s' ∧ AccOk Y pins D ys H' s' ∧ tn i s'.heap ∧ (∀ b ∈ fp, H' b = none) ∧ W i ys n σ' H') ?_ m ⟨0, ys, σ, H, I, a, st, fun b hb => (hf b hb).1, w0⟩
 rintro n s3 ⟨i, ys3, σ3, H3, I3, ⟨f3, hz3, us, r3, e3⟩, st3, fr3, w3⟩
 show wpAny _ Y.A ((compTurn (.ListComp elt gens scope pos) d (.ref it) (.ref D) Y.env).onRaise (fun x => do noteFrame x Y.env; theTreesLotGoes x)) _ _ s3
 refine wpAny_noted ?_
 rw [hturn]
 have I3' := AccOk.pin (ys := ys3) I3 f3 e3
 -- the iterator's records are apart from D
 have stat : ∀ {H' : Hp}, (∀ b ∈ fp, H' b = none) → ∀ b ∈ fp, FpOk Y (pins ++ [(D, lstO us)]) H' b := fun hn b hb => by
  obtain ⟨_, q1, q2, q3, q4, q5⟩ := hf b hb
  refine ⟨hn b hb, q1, q2, q3, q4, fun p hp => ?_⟩
  rcases List.mem_append.mp hp with z | z
  ·exact q5 p (List.mem_append_left _ z)
  ·rcases List.mem_append.mp z with z | z
   ·exact q5 p (List.mem_append_right _ z)
   ·have z' : p = (D, lstO us) := by simpa using z
    subst z'
    exact fun y => hD ((show D = b from y).symm ▸ hb)
 have no : ∀ {α : Type} {t : Sem α} {Q1 Q2 : α → Shared → Prop} {E : Value → Shared → Prop} {s' : Shared}, wpAny (model Y.prog Y.w) Y.A t Q1 Y.xe s' → (∀ a s, Q1 a s → Q2 a s) → wpAny (model Y.prog Y.w) Y.A t Q2 E s' := fun h q => wpAny_mono h q fun v s x => (hx v s x).elim
 rcases turn i ys3 n σ3 H3 w3 with ⟨stop, qn⟩ | ⟨go, N, hN, step⟩
 ·refine wpAny_bind (wpAny_standAt (wpAny_bind (no (T.done Y rfl rfl rfl hc i _ s3 σ3 H3 Y.xe I3' (stat fr3) st3 stop) fun r s4 ⟨hr, I4⟩ => ?_)))
  subst hr
  obtain ⟨p1, p2, _⟩ := I4.pin (D, lstO us) (by simp)
  exact wpAny_pure (hR _ ⟨ys3, σ3, H3, I4.unpinned, ⟨f3, hz3, us, r3, p1⟩, qn⟩)
 ·refine wpAny_bind (wpAny_standAt (wpAny_bind (no (T.item Y rfl rfl rfl hc i _ s3 σ3 H3 Y.xe I3' (stat fr3) st3 go) fun r s4 ⟨u, hr, h4⟩ => ?_)))
  subst hr
  refine wpAny_bind (no h4 fun _ s5 ⟨x, H5, I5, r5, y5, st5, fr5⟩ => ?_)
  have I5' := I5.pinned (stat fr5) (T.obj _ _ st5)
  refine wpAny_bind (no (hg _ s5 σ3 H5 x u _ I5' r5 (step x H5 y5)) fun _ s6 ⟨σ6, H6, I6, q6⟩ => ?_)
  refine wpAny_bind (no (ht _ s6 σ6 H6 _ I6 q6) fun ok s7 ⟨H7, I7, q7⟩ => ?_)
  have pD := I7.pin (D, lstO us) (by simp)
  have I7' : Inv Y (pins ++ pinsAt fp s5.heap) σ6 H7 s7 := I7.pins_of fun p hp => by
   rcases List.mem_append.mp hp with z | z
   ·exact I7.pin p (List.mem_append_right _ (List.mem_append_left _ (List.mem_append_left _ z)))
   ·exact I7.pin p (List.mem_append_right _ (List.mem_append_right _ z))
  have a7 : AccOk Y (pins ++ pinsAt fp s5.heap) D ys3 H7 s7 := by
   refine ⟨⟨pD.2.1, f3.2.1, f3.2.2.1, f3.2.2.2.1, f3.2.2.2.2.1, fun p hp => ?_⟩, hz3, us, r3, pD.1⟩
   rcases List.mem_append.mp hp with z | z
   ·exact f3.2.2.2.2.2 p (List.mem_append_left _ z)
   ·rcases List.mem_append.mp z with z | z
    ·exact f3.2.2.2.2.2 p (List.mem_append_right _ z)
    ·exact fun y => hD (y ▸ (Ziq z).1)
  have fin : ∀ {ys8 : List V} {σ8 : St} {H8 : Hp} {s8 : Shared}, Inv Y (pins ++ pinsAt fp s5.heap) σ8 H8 s8 → AccOk Y (pins ++ pinsAt fp s5.heap) D ys8 H8 s8 → (∃ m', m' < n ∧ W (i + 1) ys8 m' σ8 H8) →
    ∃ m, m < n ∧ ∃ i ys σ' H', Inv Y pins σ' H' s8 ∧ AccOk Y pins D ys H' s8 ∧ tn i s8.heap ∧ (∀ b ∈ fp, H' b = none) ∧ W i ys m σ' H' := fun {ys8 σ8 H8 s8} I8 a8 ⟨m', hm, w8⟩ => by
   refine ⟨m', hm, i + 1, ys8, σ8, H8, I8.unpinned, ⟨⟨a8.1.1, f3.2⟩, a8.2⟩, T.keep _ _ _ st5 fun b hb o e => (I8.pin (b, o) (List.mem_append_right _ (List.mem_append_right _ (Zcn hb e)))).1, fun b hb => ?_, w8⟩
   obtain ⟨o, e, _⟩ := T.obj _ _ st5 b hb
   exact (I8.pin (b, o) (List.mem_append_right _ (List.mem_append_right _ (Zcn hb e)))).2.1
  cases ok with
  | true =>
   rw [if_pos rfl] at q7 ⊢
   refine wpAny_bind (no (hb D _ s7 σ6 H7 ys3 _ I7' a7 q7) fun _ s8 ⟨ys8, σ8, H8, I8, a8, q8⟩ => ?_)
   exact wpAny_pure ⟨rfl, fin I8 a8 (hN _ _ _ q8)⟩
  | false =>
   rw [if_neg Bool.false_ne_true] at q7 ⊢
   exact wpAny_pure ⟨rfl, fin I7' a7 (hN _ _ _ q7)⟩
theorem Zez {elt tg iter : Expr} {ifs : List Expr} {gens : List Comprehension} {scope : Scope} {pos : Pos} {d : Nat} {it acc : Value} {env : Env} {R : Result → Shared → Prop} {prog : Program} {w : World} {A : Around} {s : Shared} (hd : gens[d]? = some ⟨tg, iter, ifs, 0⟩)
  (h0 : codeAny (model prog w) A (.compLoop (.ListComp elt gens scope pos) d it acc env) R s)
  (h : wpAny (model prog w) A (pyIter it) (fun it' s' => codeAny (model prog w) A (.compLoop (.ListComp elt gens scope pos) d it' acc env) R s') (notedBy (model prog w) A env fun x s' => R (.error x) s') s) :
  codeAny (model prog w) A (.compStart (.ListComp elt gens scope pos) d it acc env) R s := by
 refine codeAny_of_tree ?_
 show wpAny _ _ ((compStart (.ListComp elt gens scope pos) d it acc env).onRaise (fun x => do noteFrame x env; standAt theWindowsPlace)) _ _ s
 refine wpAny_notedAt ?_
 unfold compStart
 simp only [clausesOf, hd, Option.elim]
 show wpAny _ _ (ask >>= _) _ _ s
 refine wpAny_bind (wpAny_askSetting (wpAny_ite ?_))
 split
 ·first
   | exact wpAny_bind (wpAny_pure (wpAny_pure (And.intro rfl h0)))
   | exact wpAny_pure (And.intro rfl h0)
 ·first
   | exact wpAny_bind (wpAny_rule (wpAny_bind (wpAny_standAt (wpAny_bind (wpAny_mono h (fun it' s' h' => wpAny_pure (And.intro rfl h')) fun _ _ x => x)))))
   | (refine wpAny_bind (wpAny_rule ?_); show wpAny _ _ (standAt iter.pos >>= _) _ _ s; exact wpAny_bind (wpAny_standAt (wpAny_bind (wpAny_mono h (fun it' s' h' => wpAny_pure (And.intro rfl h')) fun _ _ x => x))))
noncomputable def tLoop (wi : TI) (g : TG) (tt : TT) (tb : TL) : TL := fun ys σ H Q => wi σ H fun J H1 => ∃ W : Nat → List V → Nat → St → Hp → Prop, (∃ m, W 0 ys m σ H1) ∧ LTurn J g tt tb Q W
noncomputable def nest (elt : Expr) (gens : List Comprehension) (scope : Scope) (pos : Pos) (d : Nat) (iter : Expr) (env : Env) (acc : Value) : Sem Unit :=
 eval iter env >>= fun x => standAt iter.pos >>= fun _ => foldedSetIterable iter env x >>= fun x => holding [x] (pyIter x) >>= fun it => runOwn (.compStart (.ListComp elt gens scope pos) d it acc env) env >>= fun _ => pure ()
theorem Zqp {elt tg iter : Expr} {ifs : List Expr} {gens : List Comprehension} {scope : Scope} {pos : Pos} {d : Nat} {body : Value → Sem Unit} {wi : TI} {g : TG} {tt : TT} {tb : TL}
  (hx : ∀ v s, Y.xe v s → False) (hc : Y.calm = true) (hi : PI Y tg iter wi) (hg : PG Y tg g) (ht : PTs Y ifs tt) (hb : PL Y body tb) (hd : gens[d]? = some ⟨tg, iter, ifs, 0⟩)
  (hturn : ∀ it acc, compTurn (.ListComp elt gens scope pos) d it acc Y.env = turnOf tg iter ifs body (.compLoop (.ListComp elt gens scope pos) d it acc Y.env) it acc Y.env)
  (hs : ∀ x, foldedSetIterable iter Y.env x = pure x) : PL Y (nest elt gens scope pos d iter Y.env) (tLoop wi g tt tb) := by
 rintro D pins s σ H ys Q I ⟨f, hz, us, r, e⟩ h
 have I' := AccOk.pin (ys := ys) I f e
 refine wpAny_bind (thn (hi _ s σ H _ I' h) fun v s1 h1 => ?_)
 refine wpAny_bind (wpAny_standAt (wpAny_bind (wpAny_of_eq (hs v) (wpAny_bind (wpAny_holding (thn h1 fun itv s2 h2 => ?_))))))
 obtain ⟨it, fp, tn, J, H2, e2, I2, T, st2, f2, W, ⟨m0, w0⟩, turn⟩ := h2
 subst e2
 obtain ⟨p1, p2, _⟩ := I2.pin (D, lstO us) (by simp)
 have hD : D ∉ fp := fun hb => (f2 D hb).2.2.2.2.2 (D, lstO us) (by simp) rfl
 have fo : ∀ b ∈ fp, FpOk Y pins H2 b := fun b hb => by
  obtain ⟨q0, q1, q2, q3, q4, q5⟩ := f2 b hb
  exact ⟨q0, q1, q2, q3, q4, fun p hp => q5 p (by
   rcases List.mem_append.mp hp with z | z
   ·exact List.mem_append_left _ z
   ·exact List.mem_append_right _ (List.mem_append_left _ z))⟩
 have loop : codeAny (model Y.prog Y.w) Y.A (.compLoop (.ListComp elt gens scope pos) d (.ref it) (.ref D) Y.env) (fun r s' => match r with
   | .ok f => wpAny (model Y.prog Y.w) Y.A (pure () : Sem Unit) (fun _ s' => LP Y pins D Q s') Y.xe s'
   | .error e => cameBackBy (model Y.prog Y.w) Y.A Y.env Y.xe e s') s2 :=
  Zi4 hx hc T hg ht hb (hturn _ _) I2.unpinned ⟨⟨p2, f.2⟩, hz, us, r, p1⟩ st2 fo hD w0 turn fun s' q => wpAny_pure q
 refine wpAny_bind (wpAny_runOwn ?_)
 rw [Around.mark_none]
 exact Zez hd loop (T.self _ 0 s2 _ _ st2 loop)
end
section
variable {X : Cx}
noncomputable def tComp (wi : TI) (cap : List (Option Nat)) (g : TG) (tt : TT) (tb : TL) : TE := fun σ H Q => wi σ H fun J H1 => ∃ W : Nat → List V → Nat → St → Hp → Prop, (∃ m, W 0 [] m (capt cap σ) H1) ∧ LTurn J g tt tb (fun ys _ H' => ∀ p, H' p = none → Q (.ref p) (upd H' p (.lst ys))) W
theorem Zf8 {elt tg iter : Expr} {ifs : List Expr} {rest : List Comprehension} {scope : Scope} {pos p0 : Pos} {Nc : List Str} {cap : List (Option Nat)} {body : Env → Value → Sem Unit} {wi : TI} {g : TG} {tt : TT} {tb : TL} {use : Option (Value → Sem Unit)} {Q : Value → Shared → Prop}
  {pins : List (Addr × Obj)} {s : Shared} {σ : St} {H : Hp} {P : VK}
  (hk : scope.kind = .function) (hc : X.calm = true) (hi : PI X tg iter wi) (ok : capOk X Nc cap scope = true)
  (hg : ∀ cs C s H fp, PG (cxComp X Nc scope cs C s H fp) tg g) (ht : ∀ cs C s H fp, PTs (cxComp X Nc scope cs C s H fp) ifs tt) (hb : ∀ cs C s H fp, PL (cxComp X Nc scope cs C s H fp) (body (compEnvC scope cs C X.env)) tb)
  (hturn : ∀ it acc env, compTurn (.ListComp elt (⟨tg, iter, ifs, 0⟩ :: rest) scope pos) 0 it acc env = turnOf tg iter ifs (body env) (.compLoop (.ListComp elt (⟨tg, iter, ifs, 0⟩ :: rest) scope pos) 0 it acc env) it acc env)
  (hs : ∀ x, foldedSetIterable iter X.env x = pure x) (I : Inv X pins σ H s) (h : tComp wi cap g tt tb σ H P)
  (hend : ∀ (D C : Addr) (H' : Hp) (s' : Shared), Inv X pins σ H' s' → FpOk X pins H' D → FpOk X pins H' C → C ≠ D → (∃ m, s'.heap.Ns C m) → (∃ ys us, Vals ys us ∧ ys.length ≤ sizeLine ∧ s'.heap.get? D = some (lstO us) ∧ P (.ref D) (upd H' D (.lst ys))) →
   compPost (model X.prog X.w) X.A X.xe use Q (.ref D) C (.ok .next) s') :
  wpAny (model X.prog X.w) X.A (comprehension (.ListComp elt (⟨tg, iter, ifs, 0⟩ :: rest) scope pos) scope X.env p0 (newList []) false (eval iter X.env) use) Q X.xe s := by
 have okc := CapOk.of ok
 have hcl : ∀ p ∈ scope.names, p.2 = .free → ∃ c, X.env.cells.lookup p.1 = some c := fun p hp e => I.ok.has p.1 (okc.free p hp e)
 refine wpAny_comprehension_free rfl hs (Zef hcl) hk (fun p hp e => by rw [okc.look p hp, e]) (thn (hi pins s σ H _ I h) fun v s1 h1 => thn h1 fun itv s2 h2 => ?_)
 obtain ⟨it, fp, tn, J, H2, e2, I2, T, st2, f2, W, ⟨m0, w0⟩, turn⟩ := h2
 subst e2
 refine wpAny_newObj_type (Zdl ?_)
 dsimp only
 have z : (s2.heap.push { cls := .type "list", dict := none, data := .seq ([] : List Value).toArray }).objs.size = s2.heap.objs.size + 1 := Heap.size_push ..
 rw [z]
 have hlt : ∀ b ∈ fp, b < s2.heap.objs.size := fun b hb => by obtain ⟨o, e, _⟩ := T.obj _ _ st2 b hb; exact Heap.lt_size e
 obtain ⟨J3, hD⟩ := Zlj I2 f2 hlt okc hk
 generalize hcs : cellsFrom (s2.heap.objs.size + 2) scope.names (clOf X.env.cells scope.names []) = cs at J3
 generalize hY : cxComp X Nc scope cs (s2.heap.objs.size + 1) s2 H2 fp = Y at J3
 have up : ∀ b o, s2.heap.get? b = some o → (pushCells ((s2.heap.push (lstO [])).push { cls := .type "dict", data := .dict #[] }) scope.names).get? b = some o := fun b o e => pushCells_keeps _ _ b o (Heap.get?_push_of_some _ (Heap.get?_push_of_some _ e))
 have st3 : tn 0 (pushCells ((s2.heap.push (lstO [])).push { cls := .type "dict", data := .dict #[] }) scope.names) := T.keep _ _ _ st2 fun b _ o e => up b o e
 -- the new list's place
 have fD : FpOk X pins H2 s2.heap.objs.size := I2.fpOk (Nat.le_refl _) (I2.hok.fresh (Nat.le_refl _))
 have fC : FpOk X pins H2 (s2.heap.objs.size + 1) := I2.fpOk (Nat.le_succ _) (I2.hok.fresh (Nat.le_succ _))
 have cse : ∀ x c, cs.lookup x = some c → c < s2.heap.objs.size ∨ s2.heap.objs.size + 2 ≤ c := fun x c e => by
  rw [← hcs, Zaq] at e
  have okz := cellsFrom_ok scope.names ((s2.heap.push (lstO [])).push { cls := .type "dict", data := .dict #[] }) (s2.heap.objs.size + 2) [] ⟨fun _ _ hm => (nomatch hm), List.Pairwise.nil⟩ (by rw [Heap.size_push, Heap.size_push]; exact Nat.le_refl _)
  rw [Heap.size_push, Heap.size_push] at okz
  rcases Zbp e with e | ⟨_, e⟩
  ·exact .inr (okz.empty x c (PySem.mem_of_lookup e)).2
  ·obtain ⟨_, b⟩ := Zcr hcl (PySem.mem_of_lookup e)
   obtain ⟨v, q⟩ := I2.cell x c b
   exact .inl q.lt
 have fDY : FpOk Y [] H2 s2.heap.objs.size := by
  rw [← hY]
  refine ⟨fD.1, Nat.ne_of_lt (Nat.lt_succ_self _), fun hm => ?_, .inr (Nat.le_refl _), fun x c e q => ?_, fun p hp => absurd (show p ∈ ([] : List (Addr × Obj)) from hp) (by simp)⟩
  ·rcases List.mem_cons.mp (I2.stkSub _ hm) with q | q
   ·exact fD.2.1 q
   ·exact fD.2.2.1 q
  ·rcases cse x c e with l | l
   ·rw [q] at l; exact absurd l (Nat.lt_irrefl _)
   ·rw [q] at l; exact absurd (Nat.lt_of_lt_of_le (Nat.lt_succ_of_lt (Nat.lt_succ_self _)) l) (Nat.lt_irrefl _)
 have fpY : ∀ b ∈ fp, FpOk Y [] H2 b := fun b hb => by
  rw [← hY]
  obtain ⟨q0, q1, q2, q3, q4, q5⟩ := f2 b hb
  have hb' := hlt b hb
  refine ⟨q0, Nat.ne_of_lt (Nat.lt_succ_of_lt hb'), fun hm => ?_, .inl hb, fun x c e q => ?_, fun p hp => absurd (show p ∈ ([] : List (Addr × Obj)) from hp) (by simp)⟩
  ·rcases List.mem_cons.mp (I2.stkSub _ hm) with q | q
   ·exact q1 q
   ·exact q2 q
  ·rw [← hcs, Zaq] at e
   rcases cse x c (by rw [← hcs, Zaq]; exact e) with l | l
   ·rcases Zbp e with e | ⟨_, e⟩
    ·have okz := cellsFrom_ok scope.names ((s2.heap.push (lstO [])).push { cls := .type "dict", data := .dict #[] }) (s2.heap.objs.size + 2) [] ⟨fun _ _ hm => (nomatch hm), List.Pairwise.nil⟩ (by rw [Heap.size_push, Heap.size_push]; exact Nat.le_refl _)
     rw [Heap.size_push, Heap.size_push] at okz
     have l2 := (okz.empty x c (PySem.mem_of_lookup e)).2
     exact absurd (Nat.lt_of_lt_of_le l (Nat.le_trans (Nat.le_add_right _ 2) l2)) (Nat.lt_irrefl _)
    ·obtain ⟨_, b2⟩ := Zcr hcl (PySem.mem_of_lookup e)
     exact q4 x c b2 q
   ·rw [q] at l; exact absurd (Nat.lt_of_lt_of_le hb' (Nat.le_trans (Nat.le_add_right _ 2) l)) (Nat.lt_irrefl _)
 have hYe : Y.env = compEnvC scope cs (s2.heap.objs.size + 1) X.env := by rw [← hY]; rfl
 have fin : ∀ s', LP Y [] s2.heap.objs.size (fun ys _ H' => ∀ p, H' p = none → P (.ref p) (upd H' p (.lst ys))) s' → compPost (model X.prog X.w) X.A X.xe use Q (.ref s2.heap.objs.size) (s2.heap.objs.size + 1) (.ok .next) s' := by
  rintro s' ⟨ys, σ', H', J', ⟨fD', hz, us, rv, eD⟩, q⟩
  have ub : Un (frs X.stack) fp H2 H' s2.heap s'.heap := by have b := J'.base; rw [← hY] at b; exact b
  have os : s'.os = s2.os := by have b := J'.os; rw [← hY] at b; exact b
  have hokX : HOk X.prog X.w H' s'.heap := by have b := J'.hok; rw [← hY] at b; exact b
  have hCn : H' (s2.heap.objs.size + 1) = none := by have b := J'.free; rw [← hY] at b; exact b
  have hns : ∃ m, s'.heap.Ns (s2.heap.objs.size + 1) m := by obtain ⟨m, b, _⟩ := J'.loc; rw [← hY] at b; exact ⟨m, b⟩
  have IX : Inv X pins σ H' s' := I2.call' os ub hokX J'.bare fun b hb => by
   obtain ⟨q0, q1, q2, q3, q4, q5⟩ := f2 b hb
   exact ⟨q3, q1, q4, q5⟩
  exact hend _ _ H' s' IX ⟨fD'.1, fD.2⟩ ⟨hCn, fC.2⟩ (Nat.ne_of_gt (Nat.lt_succ_self _)) hns ⟨ys, us, rv, hz, eD, q _ fD'.1⟩
 have loop : codeAny (model X.prog X.w) X.A (.compLoop (.ListComp elt (⟨tg, iter, ifs, 0⟩ :: rest) scope pos) 0 (.ref it) (.ref s2.heap.objs.size) (compEnvC scope cs (s2.heap.objs.size + 1) X.env)) (compPost (model X.prog X.w) X.A X.xe use Q (.ref s2.heap.objs.size) (s2.heap.objs.size + 1))
   { s2 with heap := pushCells ((s2.heap.push (lstO [])).push { cls := .type "dict", data := .dict #[] }) scope.names } := by
  subst hY
  exact Zi4 (Y := cxComp X Nc scope cs (s2.heap.objs.size + 1) s2 H2 fp) (fun _ _ f => f) hc T (hg _ _ _ _ _) (ht _ _ _ _ _) (hb _ _ _ _ _) (hturn _ _ _) J3 ⟨fDY, Nat.zero_le _, [], .nil, hD⟩ st3 fpY (fun hm => absurd (hlt _ hm) (Nat.lt_irrefl _)) w0 turn fin
 exact Zez rfl loop (T.self _ 0 _ _ _ st3 loop)
theorem Zgq {pins : List (Addr × Obj)} {σ : St} {H' : Hp} {s' : Shared} {D C : Addr} {P : VK} (I : Inv X pins σ H' s') (fD : FpOk X pins H' D) (fC : FpOk X pins H' C) (ne : C ≠ D)
  (q : ∃ ys us, Vals ys us ∧ ys.length ≤ sizeLine ∧ s'.heap.get? D = some (lstO us) ∧ P (.ref D) (upd H' D (.lst ys))) : ∃ H1, Inv X pins σ H1 s' ∧ P (.ref D) H1 ∧ FpOk X pins H1 C := by
 obtain ⟨ys, us, rv, hz, eD, q⟩ := q
 exact ⟨_, I.track (o := .lst ys) fD ⟨hz, us, _, rv, eD⟩, q, by rw [Zah ne]; exact fC.1, fC.2⟩
theorem Zqi {elt tg iter : Expr} {ifs : List Expr} {scope : Scope} {pos : Pos} {Nc : List Str} {cap : List (Option Nat)} {wi : TI} {g : TG} {tt : TT} {te : TE}
  (hc : X.calm = true) (hi : PI X tg iter wi) (ok : capOk X Nc cap scope = true) (hg : ∀ cs C s H fp, PG (cxComp X Nc scope cs C s H fp) tg g) (ht : ∀ cs C s H fp, PTs (cxComp X Nc scope cs C s H fp) ifs tt)
  (he : ∀ cs C s H fp, PE (cxComp X Nc scope cs C s H fp) elt te) (hk : scope.kind = .function := by rfl) (hs : ∀ x, foldedSetIterable iter X.env x = pure x := by intro _; rfl) :
  PE X (.ListComp elt [⟨tg, iter, ifs, 0⟩] scope pos) (tComp wi cap g tt (tEmit te)) := by
 intro pins s σ H P I h
 rw [eval_ListComp]
 refine Zf8 (body := fun env => emit elt env) hk hc hi ok hg ht (fun cs C s H fp => Zjy (he cs C s H fp)) (fun it acc env => ?_) hs I h fun D C H' s' I' fD fC ne hn q => ?_
 ·rw [compTurn_list]
  unfold turnOf testsOf emit
  congr 1
 ·obtain ⟨H1, I1, q1, f1⟩ := Zgq I' fD fC ne q
  obtain ⟨m, hm⟩ := hn
  exact ⟨m, hm, fun h'' sb => ⟨.ref D, H1, I1.turned (t' := s'.toks) (fun b o hb e => sb.extBut b o hb e) f1.1 f1.2.1 f1.2.2.2.1 f1.2.2.2.2.1 f1.2.2.2.2.2, rfl, q1⟩⟩
theorem Zi3 (elt tg iter tg2 iter2 : Expr) (scope : Scope) (pos : Pos) (it acc : Value) (env : Env) :
  compTurn (.ListComp elt [⟨tg, iter, [], 0⟩, ⟨tg2, iter2, [], 0⟩] scope pos) 0 it acc env = (do
   standAt iter.pos
   match ← pyNext it with
   | none => pure (.done .next)
   | some v =>
    letOwnedTupleGo tg it v
    assign tg env v
    let mut ok := true
    for c in ([] : List Expr) do
     if ok then ok ← isTrue c env (eval c env)
    if ok then
     let x ← eval iter2 env
     standAt iter2.pos
     let x ← foldedSetIterable iter2 env x
     let _ ← runOwn (.compStart (.ListComp elt [⟨tg, iter, [], 0⟩, ⟨tg2, iter2, [], 0⟩] scope pos) 1 (← holding [x] (pyIter x)) acc env) env
    again (.compLoop (.ListComp elt [⟨tg, iter, [], 0⟩, ⟨tg2, iter2, [], 0⟩] scope pos) 0 it acc env)) := by rfl
theorem Zm4 {i : Nat} {x : Str} {elt tg iter : Expr} {ifs : List Expr} {scope : Scope} {pos pos' spos : Pos} {Nc : List Str} {cap : List (Option Nat)} {wi : TI} {g : TG} {tt : TT} {te : TE}
  (hN : X.N.Nodup) (hx : X.N[i]? = some x) (hl : Loc X.env.scope x)
  (hc : X.calm = true) (hi : PI X tg iter wi) (ok : capOk X Nc cap scope = true) (hg : ∀ cs C s H fp, PG (cxComp X Nc scope cs C s H fp) tg g) (ht : ∀ cs C s H fp, PTs (cxComp X Nc scope cs C s H fp) ifs tt)
  (he : ∀ cs C s H fp, PE (cxComp X Nc scope cs C s H fp) elt te) (hsw : swapsWith (.ListComp elt [⟨tg, iter, ifs, 0⟩] scope pos) (some (.Name x pos')) spos.line X.env = pure true := by rfl)
  (hk : scope.kind = .function := by rfl) (hs : ∀ x, foldedSetIterable iter X.env x = pure x := by intro _; rfl)
  (hf : X.fn x = true ∨ X.env.scope.names.lookup x = some .local := by first | exact .inl rfl | exact .inr rfl | assumption) :
  PS X (.Assign [.Name x pos'] (.ListComp elt [⟨tg, iter, ifs, 0⟩] scope pos) spos) (tAsg (tComp wi cap g tt (tEmit te)) (gName i)) := by
 intro pins s σ H D I h
 rw [exec_Assign_Name_used _ _ _ _ hsw]
 refine wpAny_bind (wpAny_standAt (wpAny_bind ?_))
 show wpAny _ X.A (do let _ ← comprehension (.ListComp elt [⟨tg, iter, ifs, 0⟩] scope pos) scope X.env _ (newList []) false (eval iter X.env) (some (assign (.Name x pos') X.env))) _ _ s
 refine wpAny_bind (thn (Zf8 (use := some (assign (.Name x pos') X.env)) (Q := fun _ s' => SP X pins D .next s') (body := fun env => emit elt env) hk hc hi ok hg ht (fun cs C s H fp => Zjy (he cs C s H fp)) (fun it acc env => ?_) hs I h fun L C H' s' I' fD fC ne hn q => ?_) fun _ s' q => wpAny_pure (wpAny_pure q))
 ·rw [compTurn_list]
  unfold turnOf testsOf emit
  congr 1
 ·obtain ⟨H1, I1, q1, f1⟩ := Zgq (P := fun v H => gName i v σ H D.nx) I' fD fC ne q
  obtain ⟨m, hm⟩ := hn
  show wpAny _ X.A (assign (.Name x pos') X.env (.ref L)) _ _ _
  refine wpAny_assign_Name (Zfn I1 hN hx hl (v := .ref L) rfl (fun s2 I2 ⟨a, sb, ha⟩ => ?_) hf)
  have ca : C ≠ a := by
   rcases ha with z | z
   ·rw [z]; exact f1.2.1
   ·exact fun y => f1.2.2.2.2.1 x a z y.symm
  exact ⟨m, hm.sameBut sb ca, fun h'' sb2 => ⟨_, H1, I2.turned (t' := s2.toks) (fun b o hb e => sb2.extBut b o hb e) f1.1 f1.2.1 f1.2.2.2.1 f1.2.2.2.2.1 f1.2.2.2.2.2, q1⟩⟩
end
end L2
namespace L2
open PySem PySem.Spec PyProof.Rows
noncomputable def SIt (t : Bool) (h : Heap) (i l : Addr) (k : Nat) : Prop := match t with | true => h.IsTupleIter i l k | false => h.IsListIter i l k
noncomputable def SAt (t : Bool) (h : Heap) (l : Addr) (xs : Array Value) : Prop := match t with | true => h.IsTuple l xs | false => h.IsList l xs
noncomputable def sItO (t : Bool) (l : Addr) : Obj := { cls := .type (if t then "tuple_iterator" else "list_iterator"), data := .fields #[.ref l, .int 0 0] }
theorem SIt.obj {t : Bool} {h : Heap} {i l : Addr} {k : Nat} (x : SIt t h i l k) : ∃ o, h.get? i = some o ∧ ∀ v, o.data ≠ .cell v := by
 cases t <;> (obtain ⟨o, e, c, d⟩ := x; exact ⟨o, e, fun v z => by rw [d] at z; cases z⟩)
theorem SIt.at {t : Bool} {h h' : Heap} {i l : Addr} {k : Nat} (x : SIt t h i l k) (q : ∀ o, h.get? i = some o → h'.get? i = some o) : SIt t h' i l k := by
 cases t
 ·exact Heap.IsListIter.at x q
 ·exact Heap.IsTupleIter.at x q
theorem SAt.at {t : Bool} {h h' : Heap} {l : Addr} {xs : Array Value} (x : SAt t h l xs) (q : ∀ o, h.get? l = some o → h'.get? l = some o) : SAt t h' l xs := by
 cases t <;> (obtain ⟨o, e, c, d⟩ := x; exact ⟨o, q o e, c, d⟩)
theorem SAt.lt {t : Bool} {h : Heap} {l : Addr} {xs : Array Value} (x : SAt t h l xs) : l < h.objs.size := by
 cases t <;> (obtain ⟨o, e, c, d⟩ := x; exact Heap.lt_size e)
section
variable {prog : Program} {w : World} {A : Around} {E : Value → Shared → Prop} {s : Shared}
theorem Zlz {it l : Addr} {i : Nat} {items : Array Value} {x : Value} {Q : Value → Shared → Prop} (hit : s.heap.IsTupleIter it l i) (hl : s.heap.IsTuple l items) (hx : items[i]? = some x)
  (hQ : ∀ h', h'.IsTupleIter it l (i + 1) → Heap.SameBut it s.heap h' → Q x { s with heap := h' }) : wpAny (model prog w) A (Builtin.SmallTypes.nextOf (.ref it)) Q E s := by
 obtain ⟨o, ho, hc, hd⟩ := id hit
 obtain ⟨ol, hol, _, nl, hdl⟩ := hl
 unfold Builtin.SmallTypes.nextOf
 refine wpAny_bind (wpAny_callSpecial?_slot (name := Str.ofString "__next__") hit.typeIs F.slot_tuple_iterator_next (wpAny_call_entry F.slot_tuple_iterator_next hit.typeIs F.entry_tuple_iterator_next ?_ (F.args_tuple_iterator_next_1 _)))
 show wpAny _ _ (field (.ref it) 0 >>= _) _ _ s; refine wpAny_bind (wpAny_field ho hd (x := .ref l) rfl ?_)
 show wpAny _ _ (if (Value.ref l == Value.none) = true then _ else _) _ _ s; rw [if_neg (show ¬ ((Value.ref l == Value.none) = true) from Bool.false_ne_true)]
 show wpAny _ _ (field (.ref it) 1 >>= _) _ _ s; refine wpAny_bind (wpAny_field ho hd (x := .int i 0) rfl ?_)
 show wpAny _ _ (seqItems? (.ref l) >>= _) _ _ s; refine wpAny_bind (wpAny_seqItems hol hdl ?_)
 simp only [Int.toNat_natCast, hx]
 refine wpAny_bind (wpAny_setField ho hd (by simp) (wpAny_pure ⟨x, rfl, wpAny_pure (hQ _ ?_ (Heap.SameBut.update ..))⟩))
 exact ⟨_, Heap.get?_update_self _ ho (Obj.isFreed_of_fields (Obj.data_mapFields hd _)), (Obj.cls_mapFields ..).trans hc, by rw [Obj.data_mapFields hd]; simp [rawInt]⟩
theorem Zn7 {it l : Addr} {i : Nat} {items : Array Value} {Q : Value → Shared → Prop} (hh : A.handled = none) (hit : s.heap.IsTupleIter it l i) (hl : s.heap.IsTuple l items) (hx : items[i]? = none)
  (hE : ∀ h' e, Heap.ExtBut it s.heap h' → (∃ o, h'.get? e = some o ∧ o.cls = .type "StopIteration") → E (.ref e) { s with heap := h' }) : wpAny (model prog w) A (Builtin.SmallTypes.nextOf (.ref it)) Q E s := by
 obtain ⟨o, ho, hc, hd⟩ := id hit
 obtain ⟨ol, hol, _, nl, hdl⟩ := hl
 unfold Builtin.SmallTypes.nextOf
 refine wpAny_bind (wpAny_callSpecial?_slot (name := Str.ofString "__next__") hit.typeIs F.slot_tuple_iterator_next (wpAny_call_entry F.slot_tuple_iterator_next hit.typeIs F.entry_tuple_iterator_next ?_ (F.args_tuple_iterator_next_1 _)))
 show wpAny _ _ (field (.ref it) 0 >>= _) _ _ s; refine wpAny_bind (wpAny_field ho hd (x := .ref l) rfl ?_)
 show wpAny _ _ (if (Value.ref l == Value.none) = true then _ else _) _ _ s; rw [if_neg (show ¬ ((Value.ref l == Value.none) = true) from Bool.false_ne_true)]
 show wpAny _ _ (field (.ref it) 1 >>= _) _ _ s; refine wpAny_bind (wpAny_field ho hd (x := .int i 0) rfl ?_)
 show wpAny _ _ (seqItems? (.ref l) >>= _) _ _ s; refine wpAny_bind (wpAny_seqItems hol hdl ?_)
 simp only [Int.toNat_natCast, hx]
 refine wpAny_bind (wpAny_rule (wpAny_bind (wpAny_setField ho hd (by simp) ?_)))
 show wpAny _ _ (newExc (.type "StopIteration") [] >>= _) _ _ _; refine wpAny_bind ?_
 simp only [newExc, newTuple]
 refine wpAny_bind (wpAny_newObj_type ?_ (by size_fits))
 refine wpAny_bind (m := firstArgMember _ _) (wpAny_of_eq (a := Value.none) (by first | rfl | (simp only [firstArgMember]; rfl)) ?_)
 refine wpAny_newObj_type ?_ (by size_fits)
 simp only [raiseNew]
 refine wpAny_bind (wpAny_handled ?_)
 first | rw [show A.in1.handled = none from hh] | rw [hh]
 exact wpAny_bind (wpAny_pure (wpAny_throw (hE _ _ (((Heap.SameBut.update ..).extBut.push _).push _) ⟨_, Heap.get?_push_size _ rfl, rfl⟩)))
theorem Ze1 {t : Bool} {it l : Addr} {i : Nat} {items : Array Value} {x : Value} {Q : Value → Shared → Prop} (hit : SIt t s.heap it l i) (hl : SAt t s.heap l items) (hx : items[i]? = some x)
  (hQ : ∀ h', SIt t h' it l (i + 1) → Heap.SameBut it s.heap h' → Q x { s with heap := h' }) : wpAny (model prog w) A (Builtin.SmallTypes.nextOf (.ref it)) Q E s := by
 cases t
 ·exact wpAny_nextOf_list_item hit hl hx hQ
 ·exact Zlz hit hl hx hQ
theorem Zfl {t : Bool} {it l : Addr} {i : Nat} {items : Array Value} {Q : Value → Shared → Prop} (hh : A.handled = none) (hit : SIt t s.heap it l i) (hl : SAt t s.heap l items) (hx : items[i]? = none)
  (hE : ∀ h' e, Heap.ExtBut it s.heap h' → (∃ o, h'.get? e = some o ∧ o.cls = .type "StopIteration") → E (.ref e) { s with heap := h' }) : wpAny (model prog w) A (Builtin.SmallTypes.nextOf (.ref it)) Q E s := by
 cases t
 ·exact wpAny_nextOf_list_end hh hit hl hx hE
 ·exact Zn7 hh hit hl hx hE
theorem iterS {t : Bool} {l : Addr} {items : Array Value} {Q : Value → Shared → Prop} (hl : SAt t s.heap l items) (h : Q (.ref s.heap.objs.size) { s with heap := s.heap.push (sItO t l) }) : wpAny (model prog w) A (pyIter (.ref l)) Q E s := by
 cases t
 ·exact wpAny_pyIter_list hl h
 ·exact wpAny_pyIter_tuple hl h
theorem Zo4 {t1 t2 : Bool} {z TI TO i1 i2 l1 l2 : Addr} {k1 k2 : Nat} {xs ys : Array Value} {x y a b : Value} {Q : Option Value → Shared → Prop} (D : ZipApart z TI TO i1 i2 l1 l2)
  (hz : IsZip s.heap z TI TO .none) (hTI : IsPair s.heap TI (.ref i1) (.ref i2)) (hTO : IsPair s.heap TO a b) (h1 : SIt t1 s.heap i1 l1 k1) (h2 : SIt t2 s.heap i2 l2 k2) (hl1 : SAt t1 s.heap l1 xs) (hl2 : SAt t2 s.heap l2 ys) (hx : xs[k1]? = some x) (hy : ys[k2]? = some y)
  (hQ : ∀ h', IsZip h' z TI TO (rawInt s.heap.objs.size) → IsPair h' TO x y → SIt t1 h' i1 l1 (k1 + 1) → SIt t2 h' i2 l2 (k2 + 1) → IsPair h' s.heap.objs.size x y → h'.objs.size = s.heap.objs.size + 1 →
   (∀ c o, c ≠ z → c ≠ TO → c ≠ i1 → c ≠ i2 → s.heap.get? c = some o → h'.get? c = some o) → Q (some (.ref s.heap.objs.size)) { s with heap := h' }) : wpAny (model prog w) A (pyNext (.ref z)) Q E s := by
 have hT : s.TypeIs (.ref z) "zip" := ⟨_, hz, rfl⟩
 unfold pyNext
 refine wpAny_bind (wpAny_attempt (wpAny_callSpecial?_slot (name := Str.ofString "__next__") hT F.slot_zip_next (wpAny_call_entry F.slot_zip_next hT F.entry_zip_next ?_ (F.args_zip_next_1 _))))
 show wpAny _ _ (field (.ref z) 2 >>= _) _ _ _; refine wpAny_bind (wpAny_field hz rfl (x := .bool false) rfl ?_)
 show wpAny _ _ (field (.ref z) 3 >>= _) _ _ _; refine wpAny_bind (wpAny_field hz rfl (x := .ref TI) rfl (wpAny_bind (wpAny_seqItems hTI rfl ?_)))
 show wpAny _ _ (Builtin.SmallTypes.ownedTupleIsFree (.ref z) >>= _) _ _ _; refine wpAny_bind ?_
 unfold Builtin.SmallTypes.ownedTupleIsFree
 refine wpAny_bind (wpAny_field hz rfl (x := .none) rfl (wpAny_pure ?_))
 simp only [if_true]
 refine wpAny_bind (wpAny_rule (wpAny_bind (wpAny_field hz rfl (x := .ref TO) rfl (wpAny_bind (wpAny_setField_rec hz (by simp) fun ha hza hsa => ?_)))))
 have hzA : IsZip ha z TI TO .ellipsis := hza
 refine wpAny_bind ?_
 simp only [List.zipIdx_cons, List.zipIdx_nil, List.forIn_cons, List.forIn_nil]
 refine wpAny_bind (wpAny_bind (wpAny_onRaise ?_))
 show wpAny _ _ (Builtin.SmallTypes.nextOf (.ref i1) >>= _) _ _ _
 refine wpAny_bind (Ze1 (h1.at fun o e => hsa.extBut _ o D.i1z e) (hl1.at fun o e => hsa.extBut _ o D.l1z e) hx fun hb h1b hsb => wpAny_pure ?_)
 have hTOb : IsPair hb TO a b := hsb.extBut _ _ D.TOi1 (hsa.extBut _ _ D.TOz hTO)
 refine wpAny_bind (wpAny_seqItems hTOb rfl (wpAny_bind (wpAny_updateSeq_pair hTOb fun hc hTOc hsc => wpAny_bind (wpAny_letGo (wpAny_pure ?_)))))
 have hTOc' : IsPair hc TO x b := hTOc
 refine wpAny_bind (wpAny_bind (wpAny_onRaise ?_))
 show wpAny _ _ (Builtin.SmallTypes.nextOf (.ref i2) >>= _) _ _ _
 have abc : ∀ c o, c ≠ z → c ≠ i1 → c ≠ TO → s.heap.get? c = some o → hc.get? c = some o := fun c o n1 n2 n3 e => hsc.extBut _ _ n3 (hsb.extBut _ _ n2 (hsa.extBut _ _ n1 e))
 refine wpAny_bind (Ze1 (h2.at fun o e => abc _ o D.i2z D.i12.symm D.TOi2.symm e) (hl2.at fun o e => abc _ o D.l2z D.l2i1 D.l2TO e) hy fun hd h2d hsd => wpAny_pure ?_)
 have hTOd : IsPair hd TO x b := hsd.extBut _ _ D.TOi2 hTOc'
 refine wpAny_bind (wpAny_seqItems hTOd rfl (wpAny_bind (wpAny_updateSeq_pair hTOd fun he hTOe hse => wpAny_bind (wpAny_letGo (wpAny_pure (wpAny_pure ?_))))))
 have hTOe' : IsPair he TO x y := hTOe
 refine wpAny_bind (wpAny_seqItems hTOe' rfl (wpAny_bind (wpAny_newTuple ?_)))
 have hsz : he.objs.size = s.heap.objs.size := by rw [hse.1, hsd.1, hsc.1, hsb.1, hsa.1]
 have hze : IsZip he z TI TO .ellipsis := hse.extBut _ _ D.TOz.symm (hsd.extBut _ _ D.i2z.symm (hsc.extBut _ _ D.TOz.symm (hsb.extBut _ _ D.i1z.symm hzA)))
 have all : ∀ c o, c ≠ z → c ≠ TO → c ≠ i1 → c ≠ i2 → s.heap.get? c = some o → he.get? c = some o := fun c o n1 n2 n3 n4 e => hse.extBut _ _ n2 (hsd.extBut _ _ n4 (abc c o n1 n3 n2 e))
 have h1e : SIt t1 he i1 l1 (k1 + 1) := h1b.at fun o e => hse.extBut _ o D.TOi1.symm (hsd.extBut _ o D.i12 (hsc.extBut _ o D.TOi1.symm e))
 have h2e : SIt t2 he i2 l2 (k2 + 1) := h2d.at fun o e => hse.extBut _ o D.TOi2.symm e
 show wpAny _ _ (Builtin.SmallTypes.ownedTupleHandOut (.ref z) (.ref he.objs.size) >>= _) _ _ _; refine wpAny_bind ?_
 unfold Builtin.SmallTypes.ownedTupleHandOut
 have hzf : IsZip (he.push { cls := .type "tuple", data := .seq #[x, y] }) z TI TO .ellipsis := Heap.get?_push_of_some _ hze
 refine wpAny_bind (wpAny_setField_rec hzf (by simp) fun hg hzg hsg => ?_)
 have hzg' : IsZip hg z TI TO (rawInt he.objs.size) := hzg
 refine wpAny_setField_rec hzg' (by simp) fun hh hzh hsh => ?_
 have hzh' : IsZip hh z TI TO (rawInt he.objs.size) := hzh
 have up : ∀ c o, c ≠ z → he.get? c = some o → hh.get? c = some o := fun c o n1 e => hsh.extBut _ _ n1 (hsg.extBut _ _ n1 (Heap.get?_push_of_some _ e))
 have zlt : he.objs.size ≠ z := Nat.ne_of_gt (Heap.lt_size hze)
 have hTh : IsPair hh he.objs.size x y := hsh.extBut _ _ zlt (hsg.extBut _ _ zlt (Heap.get?_push_size _ rfl))
 have hsz2 : hh.objs.size = he.objs.size + 1 := by rw [hsh.1, hsg.1, Heap.size_push]
 rw [hsz] at hzh' hTh hsz2
 refine wpAny_pure ⟨_, rfl, ?_⟩
 rw [hsz]
 exact wpAny_pure (hQ hh hzh' (up _ _ D.TOz hTOe') (h1e.at fun o e => up _ o D.i1z e) (h2e.at fun o e => up _ o D.i2z e) hTh hsz2 fun c o n1 n2 n3 n4 e => up c o n1 (all c o n1 n2 n3 n4 e))
theorem Zpj {t1 t2 : Bool} {z TI TO i1 i2 l1 l2 : Addr} {k1 k2 : Nat} {xs ys : Array Value} {a b : Value} {Q : Option Value → Shared → Prop} (hh : A.handled = none) (D : ZipApart z TI TO i1 i2 l1 l2)
  (hz : IsZip s.heap z TI TO .none) (hTI : IsPair s.heap TI (.ref i1) (.ref i2)) (hTO : IsPair s.heap TO a b) (h1 : SIt t1 s.heap i1 l1 k1) (h2 : SIt t2 s.heap i2 l2 k2) (hl1 : SAt t1 s.heap l1 xs) (hl2 : SAt t2 s.heap l2 ys) (hend : xs[k1]? = none ∨ ys[k2]? = none)
  (hQ : ∀ h', (∀ c o, c ≠ z → c ≠ TO → c ≠ i1 → c ≠ i2 → s.heap.get? c = some o → h'.get? c = some o) → Q none { s with heap := h' }) : wpAny (model prog w) A (pyNext (.ref z)) Q E s := by
 have hT : s.TypeIs (.ref z) "zip" := ⟨_, hz, rfl⟩
 have fin : ∀ (h' : Heap) (e : Addr), (∀ c o, c ≠ z → c ≠ TO → c ≠ i1 → c ≠ i2 → s.heap.get? c = some o → h'.get? c = some o) → (∃ o, h'.get? e = some o ∧ o.cls = .type "StopIteration") →
   wpAny (model prog w) A (do if ← isInstance (.ref e) (.type "StopIteration") then pure none else throw (.ref e) : Sem (Option Value)) Q E { s with heap := h' } := fun h' e hk ⟨o, ho, hc⟩ =>
  wpAny_bind (wpAny_isInstance (T := "StopIteration") (b := true) ⟨o, ho, hc⟩ isSubtype_stop (wpAny_pure (hQ _ hk)))
 unfold pyNext
 refine wpAny_bind (wpAny_attempt (wpAny_callSpecial?_slot (name := Str.ofString "__next__") hT F.slot_zip_next (wpAny_call_entry F.slot_zip_next hT F.entry_zip_next ?_ (F.args_zip_next_1 _))))
 show wpAny _ _ (field (.ref z) 2 >>= _) _ _ _; refine wpAny_bind (wpAny_field hz rfl (x := .bool false) rfl ?_)
 show wpAny _ _ (field (.ref z) 3 >>= _) _ _ _; refine wpAny_bind (wpAny_field hz rfl (x := .ref TI) rfl (wpAny_bind (wpAny_seqItems hTI rfl ?_)))
 show wpAny _ _ (Builtin.SmallTypes.ownedTupleIsFree (.ref z) >>= _) _ _ _; refine wpAny_bind ?_
 unfold Builtin.SmallTypes.ownedTupleIsFree
 refine wpAny_bind (wpAny_field hz rfl (x := .none) rfl (wpAny_pure ?_))
 simp only [if_true]
 refine wpAny_bind (wpAny_rule (wpAny_bind (wpAny_field hz rfl (x := .ref TO) rfl (wpAny_bind (wpAny_setField_rec hz (by simp) fun ha hza hsa => ?_)))))
 have hzA : IsZip ha z TI TO .ellipsis := hza
 refine wpAny_bind ?_
 simp only [List.zipIdx_cons, List.zipIdx_nil, List.forIn_cons, List.forIn_nil]
 refine wpAny_bind (wpAny_bind (wpAny_onRaise ?_))
 show wpAny _ _ (Builtin.SmallTypes.nextOf (.ref i1) >>= _) _ _ _
 cases hx : xs[k1]? with
 | none =>
  refine wpAny_bind (Zfl hh (h1.at fun o e => hsa.extBut _ o D.i1z e) (hl1.at fun o e => hsa.extBut _ o D.l1z e) hx fun hb e hsb he => ?_)
  obtain ⟨oe, hoe, hce⟩ := he
  have hzb : IsZip hb z TI TO .ellipsis := hsb _ _ D.i1z.symm hzA
  have hez : e ≠ z := fun x => by subst x; rw [hzb] at hoe; cases hoe; simp at hce
  exact wpAny_setField_rec hzb (by simp) fun hc _ hsc => fin hc e (fun c o n1 _ n3 _ x => hsc.extBut _ _ n1 (hsb _ _ n3 (hsa.extBut _ _ n1 x))) ⟨oe, hsc.extBut _ _ hez hoe, hce⟩
 | some x =>
  have hy : ys[k2]? = none := by rcases hend with h | h; rw [hx] at h; cases h; exact h
  refine wpAny_bind (Ze1 (h1.at fun o e => hsa.extBut _ o D.i1z e) (hl1.at fun o e => hsa.extBut _ o D.l1z e) hx fun hb h1b hsb => wpAny_pure ?_)
  have hTOb : IsPair hb TO a b := hsb.extBut _ _ D.TOi1 (hsa.extBut _ _ D.TOz hTO)
  refine wpAny_bind (wpAny_seqItems hTOb rfl (wpAny_bind (wpAny_updateSeq_pair hTOb fun hc hTOc hsc => wpAny_bind (wpAny_letGo (wpAny_pure ?_)))))
  refine wpAny_bind (wpAny_bind (wpAny_onRaise ?_))
  show wpAny _ _ (Builtin.SmallTypes.nextOf (.ref i2) >>= _) _ _ _
  have abc : ∀ c o, c ≠ z → c ≠ i1 → c ≠ TO → s.heap.get? c = some o → hc.get? c = some o := fun c o n1 n2 n3 e => hsc.extBut _ _ n3 (hsb.extBut _ _ n2 (hsa.extBut _ _ n1 e))
  refine wpAny_bind (Zfl hh (h2.at fun o e => abc _ o D.i2z D.i12.symm D.TOi2.symm e) (hl2.at fun o e => abc _ o D.l2z D.l2i1 D.l2TO e) hy fun hd e hsd he => ?_)
  obtain ⟨oe, hoe, hce⟩ := he
  have hzd : IsZip hd z TI TO .ellipsis := hsd _ _ D.i2z.symm (hsc.extBut _ _ D.TOz.symm (hsb.extBut _ _ D.i1z.symm hzA))
  have hez : e ≠ z := fun x => by subst x; rw [hzd] at hoe; cases hoe; simp at hce
  exact wpAny_setField_rec hzd (by simp) fun hf _ hsf => fin hf e (fun c o n1 n2 n3 n4 x => hsf.extBut _ _ n1 (hsd _ _ n4 (abc c o n1 n3 n2 x))) ⟨oe, hsf.extBut _ _ hez hoe, hce⟩
noncomputable abbrev zA (h : Heap) (t1 : Bool) (l1 : Addr) : Heap := h.push (sItO t1 l1)
noncomputable abbrev zB (h : Heap) (t1 t2 : Bool) (l1 l2 : Addr) : Heap := (zA h t1 l1).push (sItO t2 l2)
noncomputable abbrev zC (h : Heap) (t1 t2 : Bool) (l1 l2 : Addr) : Heap := (zB h t1 t2 l1 l2).push { cls := .type "tuple", data := .seq #[.ref h.objs.size, .ref (zA h t1 l1).objs.size] }
noncomputable abbrev zD (h : Heap) (t1 t2 : Bool) (l1 l2 : Addr) : Heap := (zC h t1 t2 l1 l2).push { cls := .type "tuple", data := .seq #[.none, .none] }
noncomputable abbrev zE (h : Heap) (t1 t2 : Bool) (l1 l2 : Addr) : Heap := (zD h t1 t2 l1 l2).push { cls := .type "zip", data := .fields #[.none, .bool false, .bool false, .ref (zB h t1 t2 l1 l2).objs.size, .ref (zC h t1 t2 l1 l2).objs.size] }
theorem Zly (t1 t2 : Bool) (l1 l2 : Addr) (xs ys : Array Value) :
  Meets (Builtin.«zip.__new__» ⟨[.type "zip", .ref l1, .ref l2], []⟩) (fun _ R s => SAt t1 s.heap l1 xs ∧ SAt t2 s.heap l2 ys ∧ R (.ok (.ret (.ref (zD s.heap t1 t2 l1 l2).objs.size))) { s with heap := zE s.heap t1 t2 l1 l2 }) :=
 .of_wp fun prog w A R s h => by
  obtain ⟨hp, g, d, tk, os⟩ := s; obtain ⟨hl1, hl2, h⟩ := h
  have hsub := sub_zip
  have hL1 : SAt t1 (Shared.heap ⟨hp, g, d, tk, os⟩) l1 xs := hl1
  have hL2 : SAt t2 (Shared.heap ⟨hp.push (sItO t1 l1), g, d, tk, os⟩) l2 ys := SAt.at hl2 fun o e => Heap.get?_push_of_some _ e
  wp_walk using iterS hL1, iterS hL2
  exact ⟨_, rfl, h⟩
theorem Zmg {t1 t2 : Bool} {l1 l2 : Addr} {xs ys : Array Value} {Q : Value → Shared → Prop} (hl1 : SAt t1 s.heap l1 xs) (hl2 : SAt t2 s.heap l2 ys)
  (h : ∀ h', IsZip h' (s.heap.objs.size + 4) (s.heap.objs.size + 2) (s.heap.objs.size + 3) .none → IsPair h' (s.heap.objs.size + 2) (.ref s.heap.objs.size) (.ref (s.heap.objs.size + 1)) → IsPair h' (s.heap.objs.size + 3) .none .none →
   SIt t1 h' s.heap.objs.size l1 0 → SIt t2 h' (s.heap.objs.size + 1) l2 0 → (∀ c o, s.heap.get? c = some o → h'.get? c = some o) → Q (.ref (s.heap.objs.size + 4)) { s with heap := h' }) :
  wpAny (model prog w) A (call (.type "zip") [.ref l1, .ref l2]) Q E s := by
 refine callType_new F.called_zip (by decide) (F.typeCall_zip_2 _ _) (F.newCall_zip_2 _ _) (fun obj => F.args_object_init_3 obj _ _) F.entry_zip_new (Zly t1 t2 l1 l2 xs ys) ⟨hl1, hl2, ?_⟩
 have z1 : (zA s.heap t1 l1).objs.size = s.heap.objs.size + 1 := Heap.size_push ..
 have z2 : (zB s.heap t1 t2 l1 l2).objs.size = s.heap.objs.size + 2 := by rw [Heap.size_push, z1]
 have z3 : (zC s.heap t1 t2 l1 l2).objs.size = s.heap.objs.size + 3 := by rw [Heap.size_push, z2]
 have z4 : (zD s.heap t1 t2 l1 l2).objs.size = s.heap.objs.size + 4 := by rw [Heap.size_push, z3]
 have g5 : (zE s.heap t1 t2 l1 l2).get? (zD s.heap t1 t2 l1 l2).objs.size = some _ := Heap.get?_push_size _ rfl
 have g4 : (zE s.heap t1 t2 l1 l2).get? (zC s.heap t1 t2 l1 l2).objs.size = some _ := Heap.get?_push_of_some _ (Heap.get?_push_size _ rfl)
 have g3 : (zE s.heap t1 t2 l1 l2).get? (zB s.heap t1 t2 l1 l2).objs.size = some _ := Heap.get?_push_of_some _ (Heap.get?_push_of_some _ (Heap.get?_push_size _ rfl))
 have g2 : (zE s.heap t1 t2 l1 l2).get? (zA s.heap t1 l1).objs.size = some (sItO t2 l2) := Heap.get?_push_of_some _ (Heap.get?_push_of_some _ (Heap.get?_push_of_some _ (Heap.get?_push_size _ (by cases t2 <;> rfl))))
 have g1 : (zE s.heap t1 t2 l1 l2).get? s.heap.objs.size = some (sItO t1 l1) := Heap.get?_push_of_some _ (Heap.get?_push_of_some _ (Heap.get?_push_of_some _ (Heap.get?_push_of_some _ (Heap.get?_push_size _ (by cases t1 <;> rfl)))))
 show _ ∧ _
 rw [z2, z3, z4] at g5
 rw [z1, z2] at g3
 rw [z3] at g4
 rw [z1] at g2
 rw [z4]
 have mk : ∀ (t : Bool) (a l : Addr), (zE s.heap t1 t2 l1 l2).get? a = some (sItO t l) → SIt t (zE s.heap t1 t2 l1 l2) a l 0 := fun t a l e => by
  cases t <;> exact ⟨_, e, rfl, rfl⟩
 exact ⟨⟨_, g5, rfl⟩, h _ g5 g3 g4 (mk _ _ _ g1) (mk _ _ _ g2) fun c o x => Heap.get?_push_of_some _ (Heap.get?_push_of_some _ (Heap.get?_push_of_some _ (Heap.get?_push_of_some _ (Heap.get?_push_of_some _ x))))⟩
end
noncomputable def SqB (K : PySem.W.Frag) (t : Bool) (H : Hp) (a : Addr) (xs : List V) : Prop := match t with | true => SqT K H a xs | false => SqL K H a xs
theorem Inv.sq {X : Cx} {pins : List (Addr × Obj)} {σ : St} {H : Hp} {s : Shared} {t : Bool} {a : Addr} {xs : List V} (I : Inv X pins σ H s) (h : SqB X.K t H a xs) : ∃ its : List Value, Vals xs its ∧ SAt t s.heap a its.toArray ∧ xs.length ≤ sizeLine := by
 cases t
 ·obtain ⟨its, r, p, z⟩ := I.list h
  exact ⟨its, r, p.isList, z⟩
 ·obtain ⟨its, r, p, z⟩ := I.tuple h
  exact ⟨its, r, p, z⟩
theorem Inv.sq_inj {X : Cx} {pins : List (Addr × Obj)} {σ : St} {H : Hp} {s : Shared} {t : Bool} {a : Addr} {xs ys : List V} (I : Inv X pins σ H s) (h : SqB X.K t H a xs) (h' : SqB X.K t H a ys) : xs = ys := by
 cases t
 ·exact I.list_inj h h'
 ·exact I.tuple_inj h h'
noncomputable def Itz (K : PySem.W.Frag) (t1 t2 : Bool) (a b : Addr) : It :=
 ⟨fun i H => ∃ xs ys x y, SqB K t1 H a xs ∧ SqB K t2 H b ys ∧ xs[i]? = some x ∧ ys[i]? = some y,
   fun i H v H' => ∃ p x y, v = .ref p ∧ H p = none ∧ H' = upd H p (.tup [x, y]) ∧ ∀ xs ys, SqB K t1 H a xs → SqB K t2 H b ys → xs[i]? = some x ∧ ys[i]? = some y,
   fun i H => ∃ xs ys, SqB K t1 H a xs ∧ SqB K t2 H b ys ∧ (xs.length ≤ i ∨ ys.length ≤ i)⟩
noncomputable def ZSt (t1 t2 : Bool) (z TI TO i1 i2 l1 l2 : Addr) (i : Nat) (h : Heap) : Prop := ZipApart z TI TO i1 i2 l1 l2 ∧ IsZip h z TI TO .none ∧ IsPair h TI (.ref i1) (.ref i2) ∧ (∃ a b, IsPair h TO a b) ∧ SIt t1 h i1 l1 i ∧ SIt t2 h i2 l2 i
theorem Zpe {P : Program} {w : World} {K : PySem.W.Frag} {elts : List Expr} {kk : Nat} {pos : Pos} (t1 t2 : Bool) (z TI TO i1 i2 l1 l2 : Addr) : Turn P w K (.Tuple elts kk pos) (Itz K t1 t2 l1 l2) [z, TI, TO, i1, i2] z (ZSt t1 t2 z TI TO i1 i2 l1 l2) where
 mem := by simp
 obj := fun i h st b hb => by
  obtain ⟨_, hz, hTI, ⟨x, y, hTO⟩, h1, h2⟩ := st
  simp only [List.mem_cons, List.not_mem_nil, or_false] at hb
  rcases hb with e | e | e | e | e
  ·subst e; exact ⟨_, hz, fun v q => by cases q⟩
  ·subst e; exact ⟨_, hTI, fun v q => by cases q⟩
  ·subst e; exact ⟨_, hTO, fun v q => by cases q⟩
  ·subst e; exact h1.obj
  ·subst e; exact h2.obj
 keep := fun i h h' st k => by
  obtain ⟨D, hz, hTI, ⟨x, y, hTO⟩, h1, h2⟩ := st
  exact ⟨D, k z (by simp) _ hz, k TI (by simp) _ hTI, ⟨x, y, k TO (by simp) _ hTO⟩, h1.at fun o e => k i1 (by simp) o e, h2.at fun o e => k i2 (by simp) o e⟩
 item := by
  intro X hP hw hK hc i pins s σ H E I hf st hg
  subst hP hw hK
  obtain ⟨xs, ys, x, y, q1, q2, gx, gy⟩ := hg
  obtain ⟨D, hz, hTI, ⟨a, b, hTO⟩, h1, h2⟩ := st
  obtain ⟨us, ru, su, _⟩ := I.sq q1
  obtain ⟨vs, rv, sv, _⟩ := I.sq q2
  obtain ⟨u, hu, rx⟩ := ru.get gx
  obtain ⟨v, hv, ry⟩ := rv.get gy
  refine Zo4 D hz hTI hTO h1 h2 su sv (x := u) (y := v) (by simpa using hu) (by simpa using hv) fun h' z1 z2 z3 z4 z5 z6 z7 => ⟨_, rfl, ?_⟩
  have szn : s.heap.objs.size ≠ z := Nat.ne_of_gt (Heap.lt_size hz)
  refine wpAny_letOwnedTupleGo_zip z1 fun h'' w1 w2 => ?_
  have hall : ∀ c o, c ≠ z → c ≠ TO → c ≠ i1 → c ≠ i2 → s.heap.get? c = some o → h''.get? c = some o := fun c o n1 n2 n3 n4 e => w2.extBut _ _ n1 (z7 c o n1 n2 n3 n4 e)
  have hn : H s.heap.objs.size = none := I.hok.fresh (Nat.le_refl _)
  have f := fun b hb => hf b hb
  have ch : ∀ b, b ∉ [z, TO, i1, i2] → b ≠ z ∧ b ≠ TO ∧ b ≠ i1 ∧ b ≠ i2 := fun b hb => by
   simp only [List.mem_cons, List.not_mem_nil, or_false, not_or] at hb
   exact hb
  have inf : ∀ b ∈ [z, TO, i1, i2], b ∈ [z, TI, TO, i1, i2] := fun b hb => by
   simp only [List.mem_cons, List.not_mem_nil, or_false] at hb ⊢
   rcases hb with e | e | e | e <;> simp [e]
  have tr : ∀ b o, H b = some o → b ∉ [z, TO, i1, i2] := fun b o e hb => by rw [(f b (inf b hb)).1] at e; cases e
  have nsz : ∀ b o, H b = some o → b ≠ s.heap.objs.size := fun b o e q => by rw [q, hn] at e; cases e
  have pair : h''.get? s.heap.objs.size = some { cls := .type "tuple", data := .seq #[u, v] } := w2.extBut _ _ szn z5
  refine ⟨.ref s.heap.objs.size, upd H s.heap.objs.size (.tup [x, y]), Inv.step (s := s) (h' := h'') (g' := s.gens) (d' := s.drawn) (t' := s.toks) (ch := [z, TO, i1, i2]) I (fun b hb => ?_) (fun b o _ _ hb e _ => ?_) (fun b o _ _ hb e _ => ⟨o.slots, ?_⟩) (fun b o hb e n => ?_) (fun b o hb e => ⟨o, ?_⟩) (fun b zs e => ?_) (fun b o zs e => ?_) (fun b ps e => ⟨#[], ?_⟩) (fun m hm => ?_) (fun b o e => ?_) I.bare, rfl, ⟨s.heap.objs.size, x, y, rfl, hn, rfl, fun xs' ys' p1 p2 => ?_⟩, ?_, fun b hb => ?_⟩
  ·obtain ⟨_, f1, f2, f3, f4, f5⟩ := f b (inf b hb)
   exact ⟨f3, f1, f4, f5⟩
  ·obtain ⟨n1, n2, n3, n4⟩ := ch b hb; exact hall b o n1 n2 n3 n4 e
  ·obtain ⟨n1, n2, n3, n4⟩ := ch b hb; exact hall b o n1 n2 n3 n4 e
  ·rw [Zah (Nat.ne_of_lt (Heap.lt_size e))]; exact n
  ·obtain ⟨n1, n2, n3, n4⟩ := ch b hb; exact hall b o n1 n2 n3 n4 e
  ·rw [Zah (nsz b _ e)]; exact e
  ·rw [Zah (nsz b _ e)]; exact e
  ·rw [Zah (nsz b _ e), e]; simp
  ·obtain ⟨o, es, ep, ho, r⟩ := hm
   have nl : X.env.locals ∉ [z, TO, i1, i2] := fun hb => (f _ (inf _ hb)).2.1 rfl
   obtain ⟨n1, n2, n3, n4⟩ := ch _ nl
   exact ⟨o, es, ep, hall _ o n1 n2 n3 n4 ho, r⟩
  ·by_cases hb : b = s.heap.objs.size
   ·subst hb; rw [Zax] at e; cases e
    exact ⟨L2.sz2, [u, v], .cons rx (.cons ry .nil), _, pair, rfl, _, rfl⟩
   ·rw [Zah hb] at e
    refine (I.hok b o e).stay (fun c o' hc q => ?_) (fun c q => by rw [Zah (nsz c _ q)]; exact q) fun c zs q => by rw [Zah (nsz c _ q)]; exact q
    have nc : c ∉ [z, TO, i1, i2] := by
     rcases hc with hc | hc
     ·rw [hc]; exact tr b o e
     ·exact tr c _ hc
    obtain ⟨n1, n2, n3, n4⟩ := ch c nc
    exact hall c o' n1 n2 n3 n4 q
  ·rw [I.sq_inj p1 q1, I.sq_inj p2 q2]; exact ⟨gx, gy⟩
  ·exact ⟨D, w1, hall _ _ D.TIz D.TITO D.TIi1 D.TIi2 hTI, ⟨_, _, w2.extBut _ _ D.TOz z2⟩, z3.at fun o e => w2.extBut _ o D.i1z e, z4.at fun o e => w2.extBut _ o D.i2z e⟩
  ·obtain ⟨o, e, _⟩ := (show ∃ o, s.heap.get? b = some o ∧ ∀ v, o.data ≠ .cell v from by
    simp only [List.mem_cons, List.not_mem_nil, or_false] at hb
    rcases hb with q | q | q | q | q
    ·subst q; exact ⟨_, hz, fun v q => by cases q⟩
    ·subst q; exact ⟨_, hTI, fun v q => by cases q⟩
    ·subst q; exact ⟨_, hTO, fun v q => by cases q⟩
    ·subst q; exact h1.obj
    ·subst q; exact h2.obj)
   rw [Zah (Nat.ne_of_lt (Heap.lt_size e))]; exact (f b hb).1
 done := by
  intro X hP hw hK hc i pins s σ H E I hf st hg
  subst hP hw hK
  obtain ⟨xs, ys, q1, q2, ge⟩ := hg
  obtain ⟨D, hz, hTI, ⟨a, b, hTO⟩, h1, h2⟩ := st
  obtain ⟨us, ru, su, _⟩ := I.sq q1
  obtain ⟨vs, rv, sv, _⟩ := I.sq q2
  have lu := ru.length
  have lv := rv.length
  refine Zpj (I.ok.hd hc) D hz hTI hTO h1 h2 su sv (by
   rcases ge with e | e
   ·exact .inl (by simp; omega)
   ·exact .inr (by simp; omega)) fun h' hk => ⟨rfl, ?_⟩
  have f := fun b hb => hf b hb
  have ch : ∀ b, b ∉ [z, TO, i1, i2] → b ≠ z ∧ b ≠ TO ∧ b ≠ i1 ∧ b ≠ i2 := fun b hb => by
   simp only [List.mem_cons, List.not_mem_nil, or_false, not_or] at hb
   exact hb
  have inf : ∀ b ∈ [z, TO, i1, i2], b ∈ [z, TI, TO, i1, i2] := fun b hb => by
   simp only [List.mem_cons, List.not_mem_nil, or_false] at hb ⊢
   rcases hb with e | e | e | e <;> simp [e]
  have tr : ∀ b o, H b = some o → b ∉ [z, TO, i1, i2] := fun b o e hb => by rw [(f b (inf b hb)).1] at e; cases e
  have kk : ∀ b o, b ∉ [z, TO, i1, i2] → s.heap.get? b = some o → h'.get? b = some o := fun b o hb e => by obtain ⟨n1, n2, n3, n4⟩ := ch b hb; exact hk b o n1 n2 n3 n4 e
  refine I.step (g' := s.gens) (d' := s.drawn) (t' := s.toks) (ch := [z, TO, i1, i2]) (fun b hb => ?_) (fun b o _ _ hb e _ => kk b o hb e) (fun b o _ _ hb e _ => ⟨o.slots, kk b o hb e⟩) (fun b o hb e n => n) (fun b o hb e => ⟨o, kk b o hb e⟩) (fun b zs e => e) (fun b o zs e => e) (fun b ps e => ⟨#[], by rw [e]; simp⟩) (fun m hm => ?_) (fun b o e => ?_) I.bare
  ·obtain ⟨_, f1, f2, f3, f4, f5⟩ := f b (inf b hb)
   exact ⟨f3, f1, f4, f5⟩
  ·obtain ⟨o, es, ep, ho, r⟩ := hm
   exact ⟨o, es, ep, kk _ o (fun hb => (f _ (inf _ hb)).2.1 rfl) ho, r⟩
  ·refine (I.hok b o e).stay (fun c o' hc q => kk c o' ?_ q) (fun c q => q) fun c zs q => q
   rcases hc with hc | hc
   ·rw [hc]; exact tr b o e
   ·exact tr c _ hc
 self := fun _ _ _ _ _ st h => wpAny_pyIter_zip st.2.1 h
section
variable {X : Cx}
noncomputable def iZip (K : PySem.W.Frag) (t1 t2 : Bool) (ta : TA) : TI := fun σ H R => ta σ H fun vs H1 => ∃ a b xs ys, vs = [.ref a, .ref b] ∧ SqB K t1 H1 a xs ∧ SqB K t2 H1 b ys ∧ R (Itz K t1 t2 a b) H1
theorem Zsc {elts : List Expr} {kk : Nat} {tp : Pos} {a b : Expr} {ta : TA} {p pos : Pos} (t1 t2 : Bool) (hg : Gl X "zip") (hm : X.mg "zip" = none) (ha : PA X [a, b] ta) (hs : starEach [a, b] X.env = [(false, eval a X.env), (false, eval b X.env)] := by rfl) (hs2 : starEach [b] X.env = [(false, eval b X.env)] := by rfl) :
  PI X (.Tuple elts kk tp) (.Call (.Name "zip" p) [a, b] [] pos) (iZip X.K t1 t2 ta) := by
 intro pins s σ H R I h
 refine Call_ (Zej I hg hm boot_zip (PyProof.Rows.callWith_type1 (thn (ha pos pins s σ H _ I h) fun us s1 ⟨vs, H1, I1, r1, q1⟩ => ?_) (by rw [hs, hs2]) (by rw [hs2]; rfl)))
 obtain ⟨l1, l2, xs, ys, e, q1, q2, q⟩ := q1
 subst e
 cases r1 with
 | cons r rr =>
  cases rr with
  | cons r' rr =>
   cases rr
   cases r
   cases r'
   obtain ⟨us, _, su, _⟩ := I1.sq q1
   obtain ⟨vs, _, sv, _⟩ := I1.sq q2
   refine Zmg su sv fun h' z1 z2 z3 z4 z5 z6 => ?_
   have I2 : Inv X pins σ H1 { s1 with heap := h' } := I1.kept (t' := s1.toks) z6
   refine wpAny_pyIter_zip z1 ⟨_, [s1.heap.objs.size + 4, s1.heap.objs.size + 2, s1.heap.objs.size + 3, s1.heap.objs.size, s1.heap.objs.size + 1], _, _, H1, rfl, I2, Zpe t1 t2 _ _ _ _ _ l1 l2, ⟨zipApart_new su.lt sv.lt, z1, z2, ⟨_, _, z3⟩, z4, z5⟩, fun b hb => ?_, q⟩
   have le : s1.heap.objs.size ≤ b := by
    simp only [List.mem_cons, List.not_mem_nil, or_false] at hb
    rcases hb with e | e | e | e | e <;> rw [e] <;> first | exact Nat.le_refl _ | exact Nat.le_add_right _ _
   have fo := I1.fpOk le (I1.hok.fresh le)
   exact fo
end
end L2
namespace L2
open PySem PySem.Spec PyProof.Rows
mutual
noncomputable def DV (K : PySem.W.Frag) (H : Hp) : PyData → V → Prop
 | .none, v => v = .non
 | .bool b, v => v = .bl b
 | .int i, v => v = .int i
 | .str x, v => v = .str x
 | .list ds, v => ∃ a xs, v = .ref a ∧ SqL K H a xs ∧ DVs K H ds xs
 | .tuple ds, v => ∃ a xs, v = .ref a ∧ SqT K H a xs ∧ DVs K H ds xs
 | .dict _, _ => False
noncomputable def DVs (K : PySem.W.Frag) (H : Hp) : List PyData → List V → Prop
 | [], xs => xs = []
 | d :: ds, xs => ∃ x r, xs = x :: r ∧ DV K H d x ∧ DVs K H ds r
end
theorem Same.tup {K : PySem.W.Frag} {H H' : Hp} {a : Addr} {xs : List V} (e : Same H H') (h : SqT K H a xs) : SqT K H' a xs := by
 rcases h with (h | ⟨o, h⟩) | h
 ·exact .inl (.inl (e _ _ h))
 ·exact .inl (.inr ⟨o, e _ _ h⟩)
 ·exact .inr h
mutual
theorem DV.same {K : PySem.W.Frag} {H H' : Hp} (e : Same H H') : ∀ {d : PyData} {v : V}, DV K H d v → DV K H' d v
 | .none, _, h => by unfold DV at h ⊢; exact h
 | .bool _, _, h => by unfold DV at h ⊢; exact h
 | .int _, _, h => by unfold DV at h ⊢; exact h
 | .str _, _, h => by unfold DV at h ⊢; exact h
 | .list ds, _, h => by
  unfold DV at h ⊢
  obtain ⟨a, xs, q1, q2, q3⟩ := h
  exact ⟨a, xs, q1, e.seq q2, DVs.same e q3⟩
 | .tuple ds, _, h => by
  unfold DV at h ⊢
  obtain ⟨a, xs, q1, q2, q3⟩ := h
  exact ⟨a, xs, q1, e.tup q2, DVs.same e q3⟩
 | .dict _, _, h => by unfold DV at h; exact h.elim
theorem DVs.same {K : PySem.W.Frag} {H H' : Hp} (e : Same H H') : ∀ {ds : List PyData} {xs : List V}, DVs K H ds xs → DVs K H' ds xs
 | [], _, h => by unfold DVs at h ⊢; exact h
 | d :: ds, _, h => by
  unfold DVs at h ⊢
  obtain ⟨x, r, q1, q2, q3⟩ := h
  exact ⟨x, r, q1, DV.same e q2, DVs.same e q3⟩
end
theorem DVs.ints {K : PySem.W.Frag} {H : Hp} : ∀ ns : List Int, DVs K H (ns.map .int) (ns.map .int)
 | [] => by unfold DVs; rfl
 | n :: r => by unfold DVs; exact ⟨_, _, rfl, by unfold DV; rfl, DVs.ints r⟩
theorem DVs.nil {K : PySem.W.Frag} {H : Hp} : DVs K H [] [] := by unfold DVs; rfl
theorem DVs.cons {K : PySem.W.Frag} {H : Hp} {d : PyData} {ds : List PyData} {x : V} {xs : List V} (h : DV K H d x) (t : DVs K H ds xs) : DVs K H (d :: ds) (x :: xs) := by unfold DVs; exact ⟨x, xs, rfl, h, t⟩
theorem DV.int {K : PySem.W.Frag} {H : Hp} (i : Int) : DV K H (.int i) (.int i) := by unfold DV; rfl
theorem DV.bool {K : PySem.W.Frag} {H : Hp} (i : Bool) : DV K H (.bool i) (.bl i) := by unfold DV; rfl
theorem DV.list {K : PySem.W.Frag} {H : Hp} {a : Addr} {xs : List V} {ds : List PyData} (h : SqL K H a xs) (t : DVs K H ds xs) : DV K H (.list ds) (.ref a) := by unfold DV; exact ⟨a, xs, rfl, h, t⟩
theorem DV.tup {K : PySem.W.Frag} {H : Hp} {a : Addr} {xs : List V} {ds : List PyData} (h : SqT K H a xs) (t : DVs K H ds xs) : DV K H (.tuple ds) (.ref a) := by unfold DV; exact ⟨a, xs, rfl, h, t⟩
theorem DVs.length {K : PySem.W.Frag} {H : Hp} : ∀ {ds : List PyData} {xs : List V}, DVs K H ds xs → ds.length = xs.length
 | [], _, h => by unfold DVs at h; subst h; rfl
 | d :: ds, _, h => by
  unfold DVs at h
  obtain ⟨x, r, q1, q2, q3⟩ := h
  subst q1
  rw [List.length_cons, List.length_cons, DVs.length q3]
theorem DVs.get {K : PySem.W.Frag} {H : Hp} : ∀ {ds : List PyData} {xs : List V} {i : Nat} {x : V}, DVs K H ds xs → xs[i]? = some x → ∃ d, ds[i]? = some d ∧ DV K H d x
 | [], _, i, x, h, e => by unfold DVs at h; subst h; simp at e
 | d :: ds, _, 0, x, h, e => by
  unfold DVs at h
  obtain ⟨y, r, q1, q2, q3⟩ := h
  subst q1
  simp at e; subst e
  exact ⟨d, rfl, q2⟩
 | d :: ds, _, i + 1, x, h, e => by
  unfold DVs at h
  obtain ⟨y, r, q1, q2, q3⟩ := h
  subst q1
  obtain ⟨d', h1, h2⟩ := DVs.get (i := i) (x := x) q3 (by simpa using e)
  exact ⟨d', by simpa using h1, h2⟩
section
variable {X : Cx} {pins : List (Addr × Obj)} {σ : St} {H : Hp} {s : Shared}
mutual
theorem Inv.reads (I : Inv X pins σ H s) : ∀ {d : PyData} {v : V} {u : Value}, DV X.K H d v → RelV v u → ∃ as, Reads s.heap u d as
 | .none, _, u, h, r => by unfold DV at h; subst h; cases (show u = Value.none from r); exact ⟨_, .none⟩
 | .bool b, _, u, h, r => by unfold DV at h; subst h; cases (show u = Value.bool b from r); exact ⟨_, .bool b⟩
 | .int i, _, u, h, r => by unfold DV at h; subst h; obtain ⟨t, q⟩ := (show ∃ t, u = Value.int i t from r); cases q; exact ⟨_, .int i t⟩
 | .str x, _, u, h, r => by unfold DV at h; subst h; obtain ⟨t, q⟩ := (show ∃ t, u = Value.str x t from r); cases q; exact ⟨_, .str x t⟩
 | .list ds, _, u, h, r => by
  unfold DV at h
  obtain ⟨a, xs, q1, q2, q3⟩ := h
  subst q1
  cases (show u = Value.ref a from r)
  obtain ⟨its, rv, p, _⟩ := I.list q2
  obtain ⟨as, ra⟩ := Inv.readsAll I q3 rv
  obtain ⟨o, e, c, n, d⟩ := p.isList
  exact ⟨_, .list e c d (by simpa using ra)⟩
 | .tuple ds, _, u, h, r => by
  unfold DV at h
  obtain ⟨a, xs, q1, q2, q3⟩ := h
  subst q1
  cases (show u = Value.ref a from r)
  obtain ⟨its, rv, p, _⟩ := I.tuple q2
  obtain ⟨as, ra⟩ := Inv.readsAll I q3 rv
  obtain ⟨o, e, c, n, d⟩ := p
  exact ⟨_, .tuple e c d (by simpa using ra)⟩
 | .dict _, _, _, h, _ => by unfold DV at h; exact h.elim
theorem Inv.readsAll (I : Inv X pins σ H s) : ∀ {ds : List PyData} {xs : List V} {us : List Value}, DVs X.K H ds xs → Vals xs us → ∃ as, ReadsAll s.heap us ds as
 | [], _, _, h, r => by unfold DVs at h; subst h; cases r; exact ⟨_, .nil⟩
 | d :: ds, _, us, h, r => by
  unfold DVs at h
  obtain ⟨x, t, q1, q2, q3⟩ := h
  subst q1
  cases r with
  | cons r1 r2 =>
   obtain ⟨as, ra⟩ := Inv.reads I q2 r1
   obtain ⟨bs, rb⟩ := Inv.readsAll I q3 r2
   exact ⟨_, .cons ra rb⟩
end
end
section
variable {X : Cx}
theorem Zle (hg : X.A.guards = some []) (hu : X.A.units + 64 < cLine) : CallR X (.builtin "repr") (fun xs H Q => ∃ a d, xs = [.ref a] ∧ DV X.K H d (.ref a) ∧ d.showable = true ∧ d.hasDict = false ∧ d.depth ≤ 40 ∧ d.shown.length ≤ sizeLine ∧ Q (.str d.shown) H) := by
 rintro pins s σ H xs us Q I r ⟨a, d, rfl, h, h1, h2, h3, h4, q⟩
 obtain ⟨u, rfl, rx⟩ := vals1 r
 cases (show u = Value.ref a from rx)
 obtain ⟨as, ra⟩ := I.reads h rx
 exact repr_of_reads' ra h1 (PyData.noDict_hsm h2) hg (by omega) (fun _ _ e => e) (fun h' u tk hk => ⟨.str d.shown, H, I.kept hk, ⟨u, rfl⟩, q⟩) h4
theorem Zmf (hc : X.calm = true) : CallR X (.builtin "sum") (fun xs H Q => ∃ (a : Addr) (ns : List Int), xs = [.ref a] ∧ SqL X.K H a (ns.map V.int) ∧ Q (.int ns.sum) H) := by
 rintro pins s σ H xs us Q I r ⟨a, ns, rfl, h, q⟩
 obtain ⟨u, rfl, rx⟩ := vals1 r
 cases (show u = Value.ref a from rx)
 obtain ⟨its, rv, p, hz⟩ := I.list h
 have ia : IntsAre its ns := Zex rv
 refine call_sum_walkG (wpAny_pyIter_list p.isList ?_)
 have hlt : a < s.heap.objs.size := by obtain ⟨o, e, _⟩ := p.isList; exact Heap.lt_size e
 refine ⟨s.heap.objs.size, _, _, _, _, _, fun i => ns.getD i 0, rfl, Walks.list (A := X.A.in1) (I.ok.hd hc) s.heap.objs.size a (Nat.ne_of_lt hlt) its.toArray, ⟨⟨_, Heap.get?_push_size _ rfl, rfl, rfl⟩, p.isList.push _⟩, fun b hb => ?_, fun i v hv => ?_, fun h' tk t' hk => ?_⟩
 ·show b < (s.heap.push _).objs.size
  rw [Heap.size_push]
  simp only [List.mem_cons, List.not_mem_nil, or_false] at hb
  rcases hb with e | e
  ·rw [e]; exact Nat.lt_succ_self _
  ·rw [e]; exact Nat.lt_succ_of_lt hlt
 ·have hv' : its[i]? = some v := by simpa using hv
  have hl : i < ns.length := by
   have := (List.getElem?_eq_some_iff.mp hv').1
   have l2 := rv.length
   rw [lmp] at l2
   omega
  obtain ⟨u2, h1, t, h2⟩ := rv.get (i := i) (x := .int ns[i]) (by simp [hl])
  rw [hv'] at h1; cases h1
  refine ⟨t, h2.trans ?_⟩
  dsimp only
  rw [List.getD_eq_getElem?_getD, gEq hl]; rfl
 ·have e1 : preSum (fun i => ns.getD i 0) its.toArray.size = ns.sum := by
   have l2 := rv.length
   rw [lmp] at l2
   rw [List.size_toArray, ← l2]
   have all : ∀ k ≤ ns.length, preSum (fun i => ns.getD i 0) k = (ns.take k).sum := by
    intro k
    induction k with
    | zero => intro _; rfl
    | succ k ih =>
     intro hk
     rw [List.take_succ_eq_append_getElem (by omega), List.sum_append]
     show preSum (fun i => ns.getD i 0) k + ns.getD k 0 = _
     rw [ih (by omega), List.getD_eq_getElem?_getD, gEq (by omega)]
     simp
   rw [all _ (Nat.le_refl _), List.take_length]
  refine ⟨.int ns.sum, H, I.kept (fun b o e => hk b o ?_ (Heap.get?_push_of_some _ e)), ⟨t', by rw [e1]⟩, q⟩
  intro hb
  have : b = s.heap.objs.size := by simpa using hb
  exact absurd (Heap.lt_size e) (by rw [this]; exact Nat.lt_irrefl _)
theorem Zi0 (hc : X.calm = true) : CallR X (.builtin "all") (fun xs H Q => ∃ (a : Addr) (bs : List Bool), xs = [.ref a] ∧ SqL X.K H a (bs.map V.bl) ∧ Q (.bl (bs.all id)) H) := by
 rintro pins s σ H xs us Q I r ⟨a, bs, rfl, h, q⟩
 obtain ⟨u, rfl, rx⟩ := vals1 r
 cases (show u = Value.ref a from rx)
 obtain ⟨its, rv, p, hz⟩ := I.list h
 refine call_all_walk (wpAny_pyIter_list p.isList ?_)
 have hlt : a < s.heap.objs.size := by obtain ⟨o, e, _⟩ := p.isList; exact Heap.lt_size e
 have l2 := rv.length
 rw [lmp] at l2
 refine ⟨s.heap.objs.size, _, _, _, _, _, fun i => bs.getD i true, rfl, Walks.list (A := X.A.in1) (I.ok.hd hc) s.heap.objs.size a (Nat.ne_of_lt hlt) its.toArray, ⟨⟨_, Heap.get?_push_size _ rfl, rfl, rfl⟩, p.isList.push _⟩, ?_, fun h' tk hk => ?_⟩
 ·intro i v s' Q' E' hv hq
  have hv' : its[i]? = some v := by simpa using hv
  have hl : i < bs.length := by
   have := (List.getElem?_eq_some_iff.mp hv').1
   omega
  obtain ⟨u2, h1, h2⟩ := rv.get (i := i) (x := .bl bs[i]) (by simp [hl])
  rw [hv'] at h1; cases h1
  cases (show v = Value.bool bs[i] from h2)
  refine wpAny_truthy_bool ?_
  dsimp only at hq
  rw [List.getD_eq_getElem?_getD, gEq hl] at hq
  exact hq
 ·have e1 : (List.range its.toArray.size).all (fun i => bs.getD i true) = bs.all id := by
   rw [List.size_toArray, ← l2, Bool.eq_iff_iff, List.all_eq_true, List.all_eq_true]
   constructor
   ·intro h x hx
    obtain ⟨i, hi, e⟩ := List.mem_iff_getElem.mp hx
    have := h i (by simpa using hi)
    rw [List.getD_eq_getElem?_getD, gEq hi] at this
    simpa [e] using this
   ·intro h i hi
    have hi' : i < bs.length := by simpa using hi
    rw [List.getD_eq_getElem?_getD, gEq hi']
    simpa using h _ (List.getElem_mem hi')
  refine ⟨.bl (bs.all id), H, I.kept (fun b o e => hk b o ?_ (Heap.get?_push_of_some _ e)), by rw [e1]; rfl, q⟩
  intro hb
  have : b = s.heap.objs.size := by simpa using hb
  exact absurd (Heap.lt_size e) (by rw [this]; exact Nat.lt_irrefl _)
noncomputable def CPowB (i j : Int) : Prop := 0 ≤ j ∧ (Builtin.Int.intBits i : Int) * j ≤ 2 ^ 27
theorem Zjw : OpR X (binaryOp .Pow) (rI CPowB fun i j => .int (i ^ j.toNat)) := opI fun _ _ _ _ _ _ _ hc q => pow_int hc.1 hc.2 q
end
end L2
namespace L2
open PySem PySem.Spec PyProof.Rows
open AutoSeq1 (wpAny_loadPart')
open MeetsSeq MeetsSeq2 MeetsSeq3 SeqRoads2
section
variable {X : Cx}
theorem Zbt {H : Hp} {p : Addr} (h : H p = none) (o : HO) : Same H (upd H p o) := fun b u q => by rw [Zah (Zcg q h)]; exact q
theorem Zpc (l b : Addr) (items items2 : Array Value) (n n2 : Nat) (dd dd2 : Option Addr) (sl sl2 : Array (Option Value)) (hc0 : items.isEmpty = true) :
  Meets (Builtin.«tuple.__add__» ⟨[.ref l, .ref b], []⟩) (fun _ R s => s.heap.get? l = some { cls := .type "tuple", dict := dd, data := .seq items n, slots := sl } ∧ s.heap.get? b = some { cls := .type "tuple", dict := dd2, data := .seq items2 n2, slots := sl2 } ∧ R (.ok (.ret (Value.ref b))) s) :=
 .of_wp fun prog w A R s h => by obtain ⟨hp, g, d, tk, os⟩ := s; obtain ⟨hl, hb, h⟩ := h; have f1 := AutoSeq1.idx_int; have f2 := AutoSeq1.sub_tuple_tuple; wp_walk using wpAny_loadPart' hl, wpAny_loadPart' hb; exact ⟨_, rfl, h⟩
end
end L2
namespace L2
open PySem PySem.Spec PyProof.Rows
section
variable {X : Cx} {CX : CXT} {k : Nat} {f C : Addr} {fd : FuncData} {ps ks : List Str} {sp : Sp} {E : XK} {x m : Str} {p pos apos kpos : Pos} {kws : List Keyword} {tk : TA}
variable {g : List Value → List Value → List Value} {gV : List V → List V → List V}
end
section
variable {X : Cx}
theorem Zcq : OpR X (binaryOp .Mult) (rI IntMulOk fun i j => .int (i * j)) := opI fun _ _ _ _ _ _ _ hc q => mul_int q hc
theorem Zew {i : Int} {n : Nat} (h : i.natAbs < 2 ^ n) : Builtin.Int.intBits i ≤ n := by
 unfold Builtin.Int.intBits
 split
 ·exact Nat.zero_le _
 ·rename_i hne
  have h0 : i.natAbs ≠ 0 := by
   intro z
   exact hne (by simpa using z)
  have := (Nat.log2_lt h0).mpr h
  omega
theorem Zkn {i j : Int} {n : Nat} (hn : n ≤ 2 ^ 20) (hi : i.natAbs < 2 ^ n) (hj : j.natAbs < 2 ^ n) : IntMulOk i j := IntMulOk.of_bits (Nat.le_trans (Zew hi) hn) (Nat.le_trans (Zew hj) hn)
end
noncomputable def SB (u : Addr) (H H' : Hp) : Prop := ∀ b o, b ≠ u → H b = some o → H' b = some o
theorem SB.trans {u : Addr} {H H1 H2 : Hp} (a : SB u H H1) (b : SB u H1 H2) : SB u H H2 := fun c o n h => b c o n (a c o n h)
theorem Same.sb {H H' : Hp} (e : Same H H') (u : Addr) : SB u H H' := fun b o _ h => e b o h
theorem SB.upd (u : Addr) (H : Hp) (o : HO) : SB u H (upd H u o) := fun b v n h => by rw [Zah n]; exact h
theorem SB.seq {K : PySem.W.Frag} {u : Addr} {H H' : Hp} {a : Addr} {xs : List V} (e : SB u H H') (n : a ≠ u) (h : SqL K H a xs) : SqL K H' a xs := by
 rcases h with (h | ⟨o, h⟩) | h
 ·exact .inl (.inl (e _ _ n h))
 ·exact .inl (.inr ⟨o, e _ _ n h⟩)
 ·exact .inr h
theorem SB.tup {K : PySem.W.Frag} {u : Addr} {H H' : Hp} {a : Addr} {xs : List V} (e : SB u H H') (n : a ≠ u) (h : SqT K H a xs) : SqT K H' a xs := by
 rcases h with (h | ⟨o, h⟩) | h
 ·exact .inl (.inl (e _ _ n h))
 ·exact .inl (.inr ⟨o, e _ _ n h⟩)
 ·exact .inr h
theorem SB.get {u : Addr} {H H' : Hp} (e : SB u H H') {b : Addr} {o : HO} (h : H b = some o) (n : b ≠ u) : H' b = some o := e b o n h
end L2
namespace L2
open PySem PySem.Spec PyProof.Rows
noncomputable def BindsAll (x : Str) (st : Stmt) (ps : List Str) : Prop := ∀ (kV doc pm : Value) (an : Option Addr) (cdv ct : Value) (us : List Value), us.length = ps.length → bindArgs (PySem.W.fnOf x x (defArgs st) (defBody st) (defScope st) .none kV doc pm an cdv ct) ⟨us, []⟩ = pure (ps.zip us)
noncomputable def gaP (na nk : Nat) (pick : List (Bool × Nat)) {α : Type} (us ws : List α) : List α := if us.length = na ∧ ws.length = nk then pick.filterMap (fun p => if p.1 = true then us[p.2]? else ws[p.2]?) else []
structure Dn (P : Program) (w : World) (K : PySem.W.Frag) (mg : Str → Option Value) (base : Heap) (k : Nat) (x : Str) (st : Stmt) (ps : List Str) (sp : Sp) : Prop where
 ex : ∃ f fd, FnOk P w K mg base CX0 k f fd ps sp ∧ Fun K x x st f fd ∧ mg x = some (.ref f)
section
variable {X : Cx} {k : Nat} {x : Str} {st : Stmt} {ps ks : List Str} {sp : Sp} {p pos : Pos} {e : Expr} {es : List Expr} {kws : List Keyword} {t tk : TA} {na nk : Nat} {pick : List (Bool × Nat)}
theorem Zs4 (D : Dn X.prog X.w X.K X.mg X.base k x st ps sp) (hb : BindsAll x st ps) (hr : Room k X.A) (ha : PA X (e :: es) t) (hg : Gl X x := by rfl) (hs : starEach (e :: es) X.env = (false, eval e X.env) :: starEach es X.env := by rfl) (hpl : (backTo pos (starEach es X.env)).any (·.1) = false := by rfl)
  (hdb : (x == ("__debug__" : Str)) = false := by decide) : PE X (.Call (.Name x p) (e :: es) [] pos) (tCall sp [] E0 t) := by
 obtain ⟨f, fd, F, U, m⟩ := D.ex
 exact Zqg F hr hg m U.kp (U.binds hb) .nil pass0 ha (hdb := hdb) (he := hs) (hpl := hpl)
end
theorem Dn.of {P : Program} {w : World} {K : PySem.W.Frag} {mg : Str → Option Value} {base : Heap} {x : Str} {st : Stmt} {N ps : List Str} {k : Nat} {sp : Sp} (U : ∃ f fd, Fun K x x st f fd ∧ mg x = some (.ref f)) (S : FnScope N ps (defScope st)) (len : ∀ vs H Q E, sp vs H Q E → vs.length = ps.length)
  (hbody : ∀ (f : Addr) (cdv : Value) (A : Around) (outer : List Env) (s : Shared) (H : Hp) (vs : List V) (Q : VK) (E : XK), Room k (A.deeper (envOfC x (defScope st) s.heap.objs.size f cdv)) → sp vs H Q E →
   ∃ t, PSs (cxOf CX0 P w K mg base N x (defScope st) f cdv A outer s H E).nox (defBody st) t ∧ t { nx := fun _ H' => Q .non H', rt := Q } (start N vs) H) : Dn P w K mg base (k + 1) x st ps sp := by
 obtain ⟨f, fd, F, m⟩ := U
 exact ⟨f, fd, F.ok S len fun cdv A outer s H vs Q E hr h => hbody f cdv A outer s H vs Q E hr h, F, m⟩
noncomputable def Urn (H : Hp) (u : Addr) (m : Nat) : Prop := ∃ g c n : Int, H u = some (.lst [.int g, .int c, .int n]) ∧ 0 ≤ g ∧ 0 ≤ c ∧ c ≤ 4000000000000000000 ∧ 0 ≤ n ∧ n ≤ m
theorem Urn.mono {H : Hp} {u : Addr} {m m' : Nat} (h : Urn H u m) (le : m ≤ m') : Urn H u m' := by
 obtain ⟨g, c, n, e, h1, h2, h3, h4, h5⟩ := h
 exact ⟨g, c, n, e, h1, h2, h3, h4, by omega⟩
theorem Urn.same {H H' : Hp} {u : Addr} {m : Nat} (h : Urn H u m) (s : Same H H') : Urn H' u m := by
 obtain ⟨g, c, n, e, r⟩ := h
 exact ⟨g, c, n, s _ _ e, r⟩
theorem Urn.ne {H : Hp} {u p : Addr} {m : Nat} (h : Urn H u m) (e : H p = none) : p ≠ u := by
 obtain ⟨g, c, n, q, _⟩ := h
 exact fun z => by rw [z, q] at e; cases e
noncomputable def spUrn (K : PySem.W.Frag) : Sp := fun vs H Q _ => ∃ (a : Addr) (ns : List Int) (k : Int), vs = [.ref a, .int k] ∧ SqL K H a (ns.map V.int) ∧ 0 ≤ k ∧ k ≤ 100 ∧
 ∀ (r : Addr) (H' : Hp), Same H H' → H r = none → Urn H' r 0 → Q (.ref r) H'
noncomputable def spDraw : Sp := fun vs H Q _ => ∃ (u : Addr) (wd : Int) (m : Nat), vs = [.ref u, .int wd] ∧ Urn H u m ∧ m ≤ 1000000 ∧ 0 < wd ∧ wd < 1073741824 ∧
 ∀ (d : Int) (H' : Hp), 0 ≤ d → d < wd → SB u H H' → Urn H' u (m + 1) → Q (.int d) H'
theorem Zfk {i : Int} {n : Nat} (h0 : 0 ≤ i) (h : i < 2 ^ n) : i.natAbs < 2 ^ n := by
 have e : ((i.natAbs : Nat) : Int) = i := Int.natAbs_of_nonneg h0
 have : ((i.natAbs : Nat) : Int) < ((2 ^ n : Nat) : Int) := by rw [e]; simpa using h
 exact_mod_cast this
theorem prime7 (j : Int) : ∃ q : Int, atI [V.int 2147483647, V.int 2147483629, V.int 2147483587, V.int 2147483579, V.int 2147483563, V.int 2147483549, V.int 2147483543] (j % 7) = some (.int q) ∧ 0 < q ∧ q ≤ 2147483647 := by
 have h0 := Int.emod_nonneg j (show (7 : Int) ≠ 0 by decide)
 have h1 := Int.emod_lt_of_pos j (show (0 : Int) < 7 by decide)
 have : j % 7 = 0 ∨ j % 7 = 1 ∨ j % 7 = 2 ∨ j % 7 = 3 ∨ j % 7 = 4 ∨ j % 7 = 5 ∨ j % 7 = 6 := by omega
 rcases this with e | e | e | e | e | e | e <;> rw [e] <;> exact ⟨_, rfl, by decide, by decide⟩
end L2
namespace L2
open PySem PySem.Spec PyProof.Rows
section
variable {X : Cx} {Nc : List Str} {scope : Scope} {cs : List (Str × Addr)} {C : Addr} {s : Shared} {H : Hp} {fp : List Addr} {x : Str} {pos : Pos}
theorem Zeg : (cxComp X Nc scope cs C s H fp).env.scope.names.lookup x = (scope.names.lookup x).map fun k => if (k == NameKind.free && X.env.scope.kind == .function && X.env.kindOf x == some .cell) then .cell else k := Zcj
theorem Zes (h : scope.names.lookup x = some .local) : (cxComp X Nc scope cs C s H fp).env.scope.names.lookup x = some .local := by rw [Zeg, h]; rfl
theorem Zmi (h : scope.names.lookup x = some .cell) : (cxComp X Nc scope cs C s H fp).env.scope.names.lookup x = some .cell := by rw [Zeg, h]; rfl
theorem Zcf (h : scope.names.lookup x = some .globalImplicit := by rfl) : Gl (cxComp X Nc scope cs C s H fp) x := by
 show (cxComp X Nc scope cs C s H fp).env.scope.names.lookup x = _
 rw [Zeg, h]; rfl
theorem Zpg (h : scope.names.lookup x = some .free) : Vis (cxComp X Nc scope cs C s H fp).env.scope x := by
 unfold Vis
 rw [Zeg, h]
 simp only [Option.map_some]
 split
 ·exact .inr (.inl rfl)
 ·exact .inr (.inr rfl)
theorem pvl (i : Nat) (hN : Nc[i]? = some x := by rfl) (hk : scope.names.lookup x = some .local := by rfl) (hd : (x == ("__debug__" : Str)) = false := by decide) (hcd : (x == ("__classdict__" : Str)) = false := by decide) : PE (cxComp X Nc scope cs C s H fp) (.Name x pos) (tVar i) :=
 Znd (X := cxComp X Nc scope cs C s H fp) hN (.inl (Zes hk)) hd hcd
theorem pvf (i : Nat) (hN : Nc[i]? = some x := by rfl) (hk : scope.names.lookup x = some .free := by rfl) (hd : (x == ("__debug__" : Str)) = false := by decide) (hcd : (x == ("__classdict__" : Str)) = false := by decide) : PE (cxComp X Nc scope cs C s H fp) (.Name x pos) (tVar i) :=
 Znd (X := cxComp X Nc scope cs C s H fp) hN (Zpg hk) hd hcd
theorem pgl (i : Nat) (hN : Nc.Nodup) (hi : Nc[i]? = some x := by rfl) (hk : scope.names.lookup x = some .local := by rfl) : PG (cxComp X Nc scope cs C s H fp) (.Name x pos) (gName i) :=
 Zjx (X := cxComp X Nc scope cs C s H fp) hN hi (.inl (Zes hk)) (.inr (Zes hk))
theorem pgc (i : Nat) (hN : Nc.Nodup) (hi : Nc[i]? = some x := by rfl) (hk : scope.names.lookup x = some .cell := by rfl) : PG (cxComp X Nc scope cs C s H fp) (.Name x pos) (gName i) :=
 Zjx (X := cxComp X Nc scope cs C s H fp) hN hi (.inr (Zmi hk)) (.inl (by show (scope.names.lookup x == some .cell) = true; rw [hk]; rfl))
end
end L2
namespace L2
open PySem PySem.Spec PyProof.Rows
@[irreducible] def IPE (X : Cx) (e : Expr) (t : TE) : Prop := PE X e t
theorem Zak {X : Cx} {e : Expr} {t : TE} : IPE X e t = PE X e t := by unfold IPE; rfl
@[irreducible] def IPT (X : Cx) (e : Expr) (t : TT) : Prop := PT X e t
theorem Zav {X : Cx} {e : Expr} {t : TT} : IPT X e t = PT X e t := by unfold IPT; rfl
@[irreducible] def IPW (X : Cx) (e : Expr) (t : TT) : Prop := PW X e t
theorem Zaw {X : Cx} {e : Expr} {t : TT} : IPW X e t = PW X e t := by unfold IPW; rfl
@[irreducible] def IPA (X : Cx) (e : List Expr) (t : TA) : Prop := PA X e t
theorem Zam {X : Cx} {e : List Expr} {t : TA} : IPA X e t = PA X e t := by unfold IPA; rfl
@[irreducible] def IPK (X : Cx) (e : List Keyword) (t : TA) : Prop := PK X e t
theorem Zay {X : Cx} {e : List Keyword} {t : TA} : IPK X e t = PK X e t := by unfold IPK; rfl
@[irreducible] def IPS (X : Cx) (e : Stmt) (t : TS) : Prop := PS X e t
theorem Zap {X : Cx} {e : Stmt} {t : TS} : IPS X e t = PS X e t := by unfold IPS; rfl
@[irreducible] def IPSs (X : Cx) (e : List Stmt) (t : TS) : Prop := PSs X e t
theorem Zab {X : Cx} {e : List Stmt} {t : TS} : IPSs X e t = PSs X e t := by unfold IPSs; rfl
@[irreducible] def IPG (X : Cx) (e : Expr) (t : TG) : Prop := PG X e t
theorem Zao {X : Cx} {e : Expr} {t : TG} : IPG X e t = PG X e t := by unfold IPG; rfl
@[irreducible] def IPGs (X : Cx) (e : List Expr) (t : TGs) : Prop := PGs X e t
theorem Zaf {X : Cx} {e : List Expr} {t : TGs} : IPGs X e t = PGs X e t := by unfold IPGs; rfl
@[irreducible] def IPI (X : Cx) (tg e : Expr) (t : TI) : Prop := PI X tg e t
theorem Zal {X : Cx} {tg e : Expr} {t : TI} : IPI X tg e t = PI X tg e t := by unfold IPI; rfl
@[irreducible] def IPO (X : Cx) (e : Option Expr) (t : TO) : Prop := PO X e t
theorem Zaz {X : Cx} {e : Option Expr} {t : TO} : IPO X e t = PO X e t := by unfold IPO; rfl
@[irreducible] def IPTs (X : Cx) (e : List Expr) (t : TT) : Prop := PTs X e t
theorem Zac {X : Cx} {e : List Expr} {t : TT} : IPTs X e t = PTs X e t := by unfold IPTs; rfl
theorem IPSs.get {X : Cx} {e : List Stmt} {t : TS} (h : IPSs X e t) : PSs X e t := by rw [← Zab]; exact h
theorem IPW.pt {X : Cx} {e : Expr} {t : TT} (h : IPW X e t) : IPT X e t := by rw [Zav]; rw [Zaw] at h; exact h.pt
theorem Za5 {X : Cx} {i j pos} : IPE X (.Constant (.int i) j pos) (tC (.int i)) := by
 simp only [Zak, Zav, Zaw, Zam, Zay, Zap, Zab, Zao, Zaf, Zal, Zaz, Zac] at *
 exact Zs5 
theorem Zjf {X : Cx} {b j pos} : IPE X (.Constant (.bool b) j pos) (tC (.bl b)) := by
 simp only [Zak, Zav, Zaw, Zam, Zay, Zap, Zab, Zao, Zaf, Zal, Zaz, Zac] at *
 exact Zsz 
theorem Zfd {X : Cx} {op : UnaryOp} {r : V → Hp → VK → Prop} (ho : UnR X (unaryOp op) r) (ha : IPE X a ta) : IPE X (.UnaryOp op a pos) (tUn r ta) := by
 simp only [Zak, Zav, Zaw, Zam, Zay, Zap, Zab, Zao, Zaf, Zal, Zaz, Zac] at *
 exact Zt3 (ho := ho) (ha := ha)
theorem Za9 {X : Cx} {op : Operator} {r : R2} (ho : OpR X (binaryOp op) r) (ha : IPE X a ta) (hb : IPE X b tb) : IPE X (.BinOp a op b pos) (tOp r ta tb) := by
 simp only [Zak, Zav, Zaw, Zam, Zay, Zap, Zab, Zao, Zaf, Zal, Zaz, Zac] at *
 exact Zt2 (ho := ho) (ha := ha) (hb := hb)
theorem Zfc {X : Cx} {op : CmpOp} {r : R2} (ho : OpR X (compareOp op) r) (ha : IPE X a ta) (hb : IPE X b tb) (hm : behindInMarks op b = false) : IPE X (.Compare a [op] [b] pos) (tOp r ta tb) := by
 simp only [Zak, Zav, Zaw, Zam, Zay, Zap, Zab, Zao, Zaf, Zal, Zaz, Zac] at *
 exact Zqh (ho := ho) (ha := ha) (hb := hb) (hm := hm)
theorem Zlq {X : Cx} {c : Expr} (hc : IPT X c tA) (ha : IPE X a ta) (hb : IPE X b tb) : IPE X (.IfExp c a b pos) (tIf tA ta tb) := by
 simp only [Zak, Zav, Zaw, Zam, Zay, Zap, Zab, Zao, Zaf, Zal, Zaz, Zac] at *
 exact Zot (hc := hc) (ha := ha) (hb := hb)
theorem Zbl {X : Cx} (h : IPA X es t) : IPE X (.List es pos) (tLst t) := by
 simp only [Zak, Zav, Zaw, Zam, Zay, Zap, Zab, Zao, Zaf, Zal, Zaz, Zac] at *
 exact Zs6 (h := h)
theorem Zbw {X : Cx} {x1} (h : IPA X es t) : IPE X (.Tuple es x1 pos) (tTup t) := by
 simp only [Zak, Zav, Zaw, Zam, Zay, Zap, Zab, Zao, Zaf, Zal, Zaz, Zac] at *
 exact Zs8 (h := h)
theorem Zgb {X : Cx} {lo : Option Expr} {hi : Option Expr} {th : TO} {tl : TO} {r : V → Option Int → Option Int → Hp → VK → Prop} (hr : SlR X r) (he : IPE X e te) (hl : IPO X lo tl) (hu : IPO X hi th) : IPE X (.Subscript e (.Slice lo hi none p2) pos) (tSl r te tl th) := by
 simp only [Zak, Zav, Zaw, Zam, Zay, Zap, Zab, Zao, Zaf, Zal, Zaz, Zac] at *
 exact Zou (hr := hr) (he := he) (hl := hl) (hu := hu)
theorem Zie {X : Cx} : IPO X none tNoPart := by
 simp only [Zak, Zav, Zaw, Zam, Zay, Zap, Zab, Zao, Zaf, Zal, Zaz, Zac] at *
 exact Zqq 
theorem Zif {X : Cx} (h : IPE X e te) : IPO X (some e) (tPart te) := by
 simp only [Zak, Zav, Zaw, Zam, Zay, Zap, Zab, Zao, Zaf, Zal, Zaz, Zac] at *
 exact Zqr (h := h)
theorem Zbd {X : Cx} {r : R2} (hr : IxR X r) (ha : IPE X a ta) (hb : IPE X b tb) (hs : PlainIx b) : IPE X (.Subscript a b pos) (tOp r ta tb) := by
 simp only [Zak, Zav, Zaw, Zam, Zay, Zap, Zab, Zao, Zaf, Zal, Zaz, Zac] at *
 exact Zt1 (hr := hr) (ha := ha) (hb := hb) (hs := hs)
theorem Zad {X : Cx} {id : String} (hc : CallR X (.builtin id) r) (hg : Gl X x) (hm : X.mg x = none) (hv : bootBuiltins x = some (.builtin id)) (ha : IPA X (e :: es) t) (hn : x ≠ "__name__" := by decide) (hdb : (x == ("__debug__" : Str)) = false := by decide)
  (he : starEach (e :: es) X.env = (false, eval e X.env) :: starEach es X.env := by rfl) (hpl : (backTo pos (starEach es X.env)).any (·.1) = false := by rfl) : IPE X (.Call (.Name x p) (e :: es) [] pos) (tCB r t) := by
 simp only [Zak, Zav, Zaw, Zam, Zay, Zap, Zab, Zao, Zaf, Zal, Zaz, Zac] at *
 exact Zoq (hc := hc) (hg := hg) (hm := hm) (hv := hv) (ha := ha) (hn := hn) (hdb := hdb) (he := he) (hpl := hpl)
theorem Zb0 {X : Cx} {T : String} (hc : CallR X (.type T) r) (hg : Gl X x) (hm : X.mg x = none) (hv : bootBuiltins x = some (.type T)) (ha : IPA X (e :: es) t) (hn : x ≠ "__name__" := by decide) (hdb : (x == ("__debug__" : Str)) = false := by decide)
  (he : starEach (e :: es) X.env = (false, eval e X.env) :: starEach es X.env := by rfl) (hpl : (backTo pos (starEach es X.env)).any (·.1) = false := by rfl) : IPE X (.Call (.Name x p) (e :: es) [] pos) (tCB r t) := by
 simp only [Zak, Zav, Zaw, Zam, Zay, Zap, Zab, Zao, Zaf, Zal, Zaz, Zac] at *
 exact Znb (hc := hc) (hg := hg) (hm := hm) (hv := hv) (ha := ha) (hn := hn) (hdb := hdb) (he := he) (hpl := hpl)
theorem Zag {X : Cx} {st : Stmt} {sp : Sp} {ps : List Str} (D : Dn X.prog X.w X.K X.mg X.base k x st ps sp) (hb : BindsAll x st ps) (hr : Room k X.A) (ha : IPA X (e :: es) t) (hg : Gl X x := by rfl) (hs : starEach (e :: es) X.env = (false, eval e X.env) :: starEach es X.env := by rfl) (hpl : (backTo pos (starEach es X.env)).any (·.1) = false := by rfl)
  (hdb : (x == ("__debug__" : Str)) = false := by decide) : IPE X (.Call (.Name x p) (e :: es) [] pos) (tCall sp [] E0 t) := by
 simp only [Zak, Zav, Zaw, Zam, Zay, Zap, Zab, Zao, Zaf, Zal, Zaz, Zac] at *
 exact Zs4 (D := D) (hb := hb) (hr := hr) (ha := ha) (hg := hg) (hs := hs) (hpl := hpl) (hdb := hdb)
theorem Zea {X : Cx} {id : String} {T : String} {name : Str} {to : TE} (pa : PlainAttrs T) (slot : Slot T name id) (hty : typeOf (.builtin id) = pure (.type "method_descriptor")) (hm : MtR X id r) (ho : IPE X o to) (ha : IPA X (e :: es) t)
  (hbase : attributeBase o name X.env (eval o X.env) = eval o X.env := by rfl)
  (hfew : ((backTo cpos (starEach (e :: es) X.env)).all (fun x => !x.1) && (backToKw cpos (keywordEach [] X.env)).all (fun x => x.1.isSome)
   && decide ((e :: es).length + ([] : List Keyword).length + (if ([] : List Keyword).isEmpty then 0 else 1) < 30)) = true := by rfl)
  (hline : (apos.endLine == cpos.line) = true := by rfl) (hs : starEach (e :: es) X.env = (false, eval e X.env) :: starEach es X.env := by rfl) (hplain : (backTo cpos (starEach es X.env)).any (·.1) = false := by rfl) :
  IPE X (.Call (.Attribute o name apos) (e :: es) [] cpos) (tBM X.K T r to t) := by
 simp only [Zak, Zav, Zaw, Zam, Zay, Zap, Zab, Zao, Zaf, Zal, Zaz, Zac] at *
 exact Zt0 (pa := pa) (slot := slot) (hty := hty) (hm := hm) (ho := ho) (ha := ha) (hbase := hbase) (hfew := hfew) (hline := hline) (hs := hs) (hplain := hplain)
theorem Zar {X : Cx} {elt tg iter : Expr} {ifs : List Expr} {scope : Scope} {pos : Pos} {Nc : List Str} {cap : List (Option Nat)} {wi : TI} {g : TG} {tt : TT} {te : TE}
  (hc : X.calm = true) (hi : IPI X tg iter wi) (ok : capOk X Nc cap scope = true) (hg : ∀ cs C s H fp, IPG (cxComp X Nc scope cs C s H fp) tg g) (ht : ∀ cs C s H fp, IPTs (cxComp X Nc scope cs C s H fp) ifs tt)
  (he : ∀ cs C s H fp, IPE (cxComp X Nc scope cs C s H fp) elt te) (hk : scope.kind = .function := by rfl) (hs : ∀ x, foldedSetIterable iter X.env x = pure x := by intro _; rfl) :
  IPE X (.ListComp elt [⟨tg, iter, ifs, 0⟩] scope pos) (tComp wi cap g tt (tEmit te)) := by
 simp only [Zak, Zav, Zaw, Zam, Zay, Zap, Zab, Zao, Zaf, Zal, Zaz, Zac] at *
 exact Zqi (hc := hc) (hi := hi) (ok := ok) (hg := hg) (ht := ht) (he := he) (hk := hk) (hs := hs)
theorem Zih {X : Cx} {i : Nat} {x : Str} {elt tg iter : Expr} {ifs : List Expr} {scope : Scope} {pos pos' spos : Pos} {Nc : List Str} {cap : List (Option Nat)} {wi : TI} {g : TG} {tt : TT} {te : TE}
  (hN : X.N.Nodup) (hx : X.N[i]? = some x) (hl : Loc X.env.scope x)
  (hc : X.calm = true) (hi : IPI X tg iter wi) (ok : capOk X Nc cap scope = true) (hg : ∀ cs C s H fp, IPG (cxComp X Nc scope cs C s H fp) tg g) (ht : ∀ cs C s H fp, IPTs (cxComp X Nc scope cs C s H fp) ifs tt)
  (he : ∀ cs C s H fp, IPE (cxComp X Nc scope cs C s H fp) elt te) (hsw : swapsWith (.ListComp elt [⟨tg, iter, ifs, 0⟩] scope pos) (some (.Name x pos')) spos.line X.env = pure true := by rfl)
  (hk : scope.kind = .function := by rfl) (hs : ∀ x, foldedSetIterable iter X.env x = pure x := by intro _; rfl)
  (hf : X.fn x = true ∨ X.env.scope.names.lookup x = some .local := by first | exact .inl rfl | exact .inr rfl | assumption) :
  IPS X (.Assign [.Name x pos'] (.ListComp elt [⟨tg, iter, ifs, 0⟩] scope pos) spos) (tAsg (tComp wi cap g tt (tEmit te)) (gName i)) := by
 simp only [Zak, Zav, Zaw, Zam, Zay, Zap, Zab, Zao, Zaf, Zal, Zaz, Zac] at *
 exact Zm4 (hN := hN) (hx := hx) (hl := hl) (hc := hc) (hi := hi) (ok := ok) (hg := hg) (ht := ht) (he := he) (hsw := hsw) (hk := hk) (hs := hs) (hf := hf)
theorem Zbs {X : Cx} {op : CmpOp} {r : R2} (ho : OpR X (compareOp op) r) (ha : IPE X a ta) (hb : IPE X b tb) (hm : behindInMarks op b = false) : IPT X (.Compare a [op] [b] pos) (tTest (tOp r ta tb)) := by
 simp only [Zak, Zav, Zaw, Zam, Zay, Zap, Zab, Zao, Zaf, Zal, Zaz, Zac] at *
 exact Zqw (ho := ho) (ha := ha) (hb := hb) (hm := hm)
theorem Zkg {X : Cx} {e : Expr} {t : TE} (h : IPE X e t) (he : ∀ whole, isTrue e X.env whole = (do let v ← whole; standAt e.pos; holding [v] (truthy v)) := by intro _; rfl) : IPT X e (tB t) := by
 simp only [Zak, Zav, Zaw, Zam, Zay, Zap, Zab, Zao, Zaf, Zal, Zaz, Zac] at *
 exact Zsi (h := h) (he := he)
theorem Za2 {X : Cx} : IPA X [] tNil := by
 simp only [Zak, Zav, Zaw, Zam, Zay, Zap, Zab, Zao, Zaf, Zal, Zaz, Zac] at *
 exact Zs3 
theorem Za0 {X : Cx} (ha : IPE X e te) (hr : IPA X es t) (hs : starEach (e :: es) X.env = (false, eval e X.env) :: starEach es X.env := by rfl) : IPA X (e :: es) (tCons te t) := by
 simp only [Zak, Zav, Zaw, Zam, Zay, Zap, Zab, Zao, Zaf, Zal, Zaz, Zac] at *
 exact Zqf (ha := ha) (hr := hr) (hs := hs)
theorem Zbn {X : Cx} {a : Expr} {ta : TA} {p pos : Pos} (hg : Gl X "range") (hm : X.mg "range" = none) (ha : IPA X [a] ta) (hs : starEach [a] X.env = [(false, eval a X.env)] := by rfl) : IPI X tg (.Call (.Name "range" p) [a] [] pos) (iRng1 ta) := by
 simp only [Zak, Zav, Zaw, Zam, Zay, Zap, Zab, Zao, Zaf, Zal, Zaz, Zac] at *
 exact Zne (hg := hg) (hm := hm) (ha := ha) (hs := hs)
theorem Zbr {X : Cx} {l : Expr} {tl : TE} (hl : IPE X l tl) : IPI X tg l (iList X.K tl) := by
 simp only [Zak, Zav, Zaw, Zam, Zay, Zap, Zab, Zao, Zaf, Zal, Zaz, Zac] at *
 exact Zqm (hl := hl)
theorem Zc6 {X : Cx} {l : Expr} {tl : TE} (hl : IPE X l tl) : IPI X tg l (iTup X.K tl) := by
 simp only [Zak, Zav, Zaw, Zam, Zay, Zap, Zab, Zao, Zaf, Zal, Zaz, Zac] at *
 exact Zsb (hl := hl)
theorem Zf3 {X : Cx} {elts : List Expr} {kk : Nat} {tp : Pos} {a b : Expr} {ta : TA} {p pos : Pos} (t1 t2 : Bool) (hg : Gl X "zip") (hm : X.mg "zip" = none) (ha : IPA X [a, b] ta) (hs : starEach [a, b] X.env = [(false, eval a X.env), (false, eval b X.env)] := by rfl) (hs2 : starEach [b] X.env = [(false, eval b X.env)] := by rfl) :
  IPI X (.Tuple elts kk tp) (.Call (.Name "zip" p) [a, b] [] pos) (iZip X.K t1 t2 ta) := by
 simp only [Zak, Zav, Zaw, Zam, Zay, Zap, Zab, Zao, Zaf, Zal, Zaz, Zac] at *
 exact Zsc (t1 := t1) (t2 := t2) (hg := hg) (hm := hm) (ha := ha) (hs := hs) (hs2 := hs2)
theorem Zb7 {X : Cx} {i : Nat} {x : Str} (hN : X.N.Nodup) (hi : X.N[i]? = some x) (hx : Loc X.env.scope x) (hf : X.fn x = true ∨ X.env.scope.names.lookup x = some .local := by first | exact .inl rfl | exact .inr rfl | assumption) : IPG X (.Name x pos) (gName i) := by
 simp only [Zak, Zav, Zaw, Zam, Zay, Zap, Zab, Zao, Zaf, Zal, Zaz, Zac] at *
 exact Zjx (hN := hN) (hi := hi) (hx := hx) (hf := hf)
theorem Zbm {X : Cx} (i : Nat) (hN : Nc.Nodup) (hi : Nc[i]? = some x := by rfl) (hk : scope.names.lookup x = some .local := by rfl) : IPG (cxComp X Nc scope cs C s H fp) (.Name x pos) (gName i) := by
 simp only [Zak, Zav, Zaw, Zam, Zay, Zap, Zab, Zao, Zaf, Zal, Zaz, Zac] at *
 exact pgl (i := i) (hN := hN) (hi := hi) (hk := hk)
theorem Zsx {X : Cx} (i : Nat) (hN : Nc.Nodup) (hi : Nc[i]? = some x := by rfl) (hk : scope.names.lookup x = some .cell := by rfl) : IPG (cxComp X Nc scope cs C s H fp) (.Name x pos) (gName i) := by
 simp only [Zak, Zav, Zaw, Zam, Zay, Zap, Zab, Zao, Zaf, Zal, Zaz, Zac] at *
 exact pgc (i := i) (hN := hN) (hi := hi) (hk := hk)
theorem Zbu {X : Cx} (i : Nat) (hN : Nc[i]? = some x := by rfl) (hk : scope.names.lookup x = some .local := by rfl) (hd : (x == ("__debug__" : Str)) = false := by decide) (hcd : (x == ("__classdict__" : Str)) = false := by decide) : IPE (cxComp X Nc scope cs C s H fp) (.Name x pos) (tVar i) := by
 simp only [Zak, Zav, Zaw, Zam, Zay, Zap, Zab, Zao, Zaf, Zal, Zaz, Zac] at *
 exact pvl (i := i) (hN := hN) (hk := hk) (hd := hd) (hcd := hcd)
theorem Zdm {X : Cx} (i : Nat) (hN : Nc[i]? = some x := by rfl) (hk : scope.names.lookup x = some .free := by rfl) (hd : (x == ("__debug__" : Str)) = false := by decide) (hcd : (x == ("__classdict__" : Str)) = false := by decide) : IPE (cxComp X Nc scope cs C s H fp) (.Name x pos) (tVar i) := by
 simp only [Zak, Zav, Zaw, Zam, Zay, Zap, Zab, Zao, Zaf, Zal, Zaz, Zac] at *
 exact pvf (i := i) (hN := hN) (hk := hk) (hd := hd) (hcd := hcd)
theorem i_pv {X : Cx} (i : Nat) {x : Str} {pos : Pos} (hN : X.N[i]? = some x := by rfl) (hv : Vis X.env.scope x := by first | exact Or.inl rfl | exact Or.inr (Or.inl rfl) | exact Or.inr (Or.inr rfl)) (hd : (x == ("__debug__" : Str)) = false := by decide)
  (hcd : (x == ("__classdict__" : Str)) = false := by decide) : IPE X (.Name x pos) (tVar i) := by
 simp only [Zak, Zav, Zaw, Zam, Zay, Zap, Zab, Zao, Zaf, Zal, Zaz, Zac] at *
 exact pv (i := i) (hN := hN) (hv := hv) (hd := hd) (hcd := hcd)
theorem Zgw {X : Cx} {es : List Expr} {k : Nat} {t : TGs} {n : Nat} (hc : X.calm = true) (h : IPGs X es t)
  (hn : (assignEach es X.env).length = n := by rfl) (hst : (assignEach es X.env).findIdx? (·.1) = none := by rfl) : IPG X (.Tuple es k pos) (gTup X.K n t) := by
 simp only [Zak, Zav, Zaw, Zam, Zay, Zap, Zab, Zao, Zaf, Zal, Zaz, Zac] at *
 exact Zsa (hc := hc) (h := h) (hn := hn) (hst := hst)
theorem Zbj {X : Cx} : IPGs X [] gNil := by
 simp only [Zak, Zav, Zaw, Zam, Zay, Zap, Zab, Zao, Zaf, Zal, Zaz, Zac] at *
 exact Zqk 
theorem Zae {X : Cx} {e : Expr} {es : List Expr} {t : TG} {u : TGs} (h1 : IPG X e t) (h2 : IPGs X es u)
  (hs : (assignEach (e :: es) X.env).map (·.2) = assign e X.env :: (assignEach es X.env).map (·.2) := by rfl) : IPGs X (e :: es) (gCons t u) := by
 simp only [Zak, Zav, Zaw, Zam, Zay, Zap, Zab, Zao, Zaf, Zal, Zaz, Zac] at *
 exact Zov (h1 := h1) (h2 := h2) (hs := hs)
theorem Zkf {X : Cx} {o i : Expr} {to ti : TE} {t : TSet} (ho : IPE X o to) (hi : IPE X i ti) (hs : PSet X t)
  (ha : ∀ v, assign (.Subscript o i pos) X.env v = (do
   let ov ← holding [v] (eval o X.env)
   let iv ← holding [v, ov] (eval i X.env)
   standAt pos
   holding [v, ov, iv] (setItem ov iv v)
   release [v, ov, iv] []) := by intro _; rfl) : IPG X (.Subscript o i pos) (gSub to ti t) := by
 simp only [Zak, Zav, Zaw, Zam, Zay, Zap, Zab, Zao, Zaf, Zal, Zaz, Zac] at *
 exact Zs9 (ho := ho) (hi := hi) (hs := hs) (ha := ha)
theorem Zb8 {X : Cx} : IPSs X [] tNext := by
 simp only [Zak, Zav, Zaw, Zam, Zay, Zap, Zab, Zao, Zaf, Zal, Zaz, Zac] at *
 exact Zqu 
theorem Za4 {X : Cx} {rest : List Stmt} {st : Stmt} (h1 : IPS X st t) (h2 : IPSs X rest u) : IPSs X (st :: rest) (tSeq t u) := by
 simp only [Zak, Zav, Zaw, Zam, Zay, Zap, Zab, Zao, Zaf, Zal, Zaz, Zac] at *
 exact Zox (h1 := h1) (h2 := h2)
theorem Za8 {X : Cx} {st : Stmt} (h1 : IPS X st t) : IPSs X [st] t := by
 simp only [Zak, Zav, Zaw, Zam, Zay, Zap, Zab, Zao, Zaf, Zal, Zaz, Zac] at *
 exact Zqv (h1 := h1)
theorem Zaa {X : Cx} {i : Nat} {x : Str} {e : Expr} {te : TE} {pos' : Pos} (hN : X.N.Nodup) (hi : X.N[i]? = some x) (hx : Loc X.env.scope x) (he : IPE X e te) (hs : swapsWith e (some (.Name x pos')) pos.line X.env = pure false := by rfl) (hf : X.fn x = true ∨ X.env.scope.names.lookup x = some .local := by first | exact .inl rfl | exact .inr rfl | assumption) :
  IPS X (.Assign [.Name x pos'] e pos) (tAsg te (gName i)) := by
 simp only [Zak, Zav, Zaw, Zam, Zay, Zap, Zab, Zao, Zaf, Zal, Zaz, Zac] at *
 exact Zsg (hN := hN) (hi := hi) (hx := hx) (he := he) (hs := hs) (hf := hf)
theorem Zgx {X : Cx} {tg e : Expr} {te : TE} {g : TG} (he : IPE X e te) (hg : IPG X tg g) (hs : swapsWithSole [tg] e pos.line X.env = pure false := by rfl) (hw : swappedStores [tg] e X.env = pure none := by rfl)
  (h1 : (assignEach [tg] X.env).map (·.2) = [assign tg X.env] := by rfl) : IPS X (.Assign [tg] e pos) (tAsg te g) := by
 simp only [Zak, Zav, Zaw, Zam, Zay, Zap, Zab, Zao, Zaf, Zal, Zaz, Zac] at *
 exact Zsd (he := he) (hg := hg) (hs := hs) (hw := hw) (h1 := h1)
theorem Zcp {X : Cx} {c : Expr} {a b : List Stmt} {tc : TT} (hc : IPT X c tc) (ha : IPSs X a t) (hb : IPSs X b u) : IPS X (.If c a b pos) (tIfS tc t u) := by
 simp only [Zak, Zav, Zaw, Zam, Zay, Zap, Zab, Zao, Zaf, Zal, Zaz, Zac] at *
 exact Zt4 (hc := hc) (ha := ha) (hb := hb)
theorem Zb2 {X : Cx} (he : IPE X e te) : IPS X (.Return (some e) pos) (tRet te) := by
 simp only [Zak, Zav, Zaw, Zam, Zay, Zap, Zab, Zao, Zaf, Zal, Zaz, Zac] at *
 exact Zsf (he := he)
theorem Zco {X : Cx} (he : IPE X e te) (hs : swapsWith e none pos.line X.env = pure false := by rfl) : IPS X (.Expr e pos) (tDrop te) := by
 simp only [Zak, Zav, Zaw, Zam, Zay, Zap, Zab, Zao, Zaf, Zal, Zaz, Zac] at *
 exact Zqt (he := he) (hs := hs)
theorem Zbx {X : Cx} {iter : Expr} {body : List Stmt} {wi : TI} {g : TG} {tb : TS} {pos : Pos} (hp : PassesOwn (model X.prog X.w) X.A X.env X.xe) (hc : X.calm = true) (hi : IPI X tg iter wi) (hg : IPG X tg g) (hb : IPSs X body tb)
  (hs : ∀ x, foldedSetIterable iter X.env x = pure x := by intro _; rfl) : IPS X (.For tg iter body [] pos) (tFor wi g tb) := by
 simp only [Zak, Zav, Zaw, Zam, Zay, Zap, Zab, Zao, Zaf, Zal, Zaz, Zac] at *
 exact Zse (hp := hp) (hc := hc) (hi := hi) (hg := hg) (hb := hb) (hs := hs)
theorem Zas {Y : Cx} : IPTs Y [] tYes := by
 simp only [Zak, Zav, Zaw, Zam, Zay, Zap, Zab, Zao, Zaf, Zal, Zaz, Zac] at *
 exact Zk1 
theorem Zii {Y : Cx} {c : Expr} {t : TT} (h : IPT Y c t) : IPTs Y [c] t := by
 simp only [Zak, Zav, Zaw, Zam, Zay, Zap, Zab, Zao, Zaf, Zal, Zaz, Zac] at *
 exact Zqy (h := h)
end L2
namespace L2
open PySem PySem.Spec PyProof.Rows
open AutoSeq1 (wpAny_loadPart')
section
variable {prog : Program} {w : World} {A : Around} {E : Value → Shared → Prop} {s : Shared}
theorem Zln {t : Bool} {e it l : Addr} {i : Nat} {items : Array Value} {x old : Value} {Q : Option Value → Shared → Prop} (he : IsEnum s.heap e it i old) (hit : SIt t s.heap it l i) (hl : SAt t s.heap l items) (hx : items[i]? = some x) (hne : e ≠ it)
  (hQ : ∀ h', IsEnumOut h' e it ((i : Int) + 1) x s.heap.objs.size → SIt t h' it l (i + 1) → h'.get? s.heap.objs.size = some { cls := .type "tuple", data := .seq #[.int i s.toks, x] } →
   (∀ b o, b ≠ e → b ≠ it → s.heap.get? b = some o → h'.get? b = some o) → Q (some (.ref s.heap.objs.size)) { s with heap := h', toks := s.toks + 1 }) : wpAny (model prog w) A (pyNext (.ref e)) Q E s := by
 obtain ⟨hp, g, d, tk, os⟩ := s
 have hT : Shared.TypeIs ⟨hp, g, d, tk, os⟩ (.ref e) "enumerate" := ⟨_, he, rfl⟩
 have hel : e < hp.objs.size := Heap.lt_size he
 unfold pyNext
 refine wpAny_bind (wpAny_attempt (wpAny_callSpecial?_slot (name := Str.ofString "__next__") hT F.slot_enumerate_next (wpAny_call_entry F.slot_enumerate_next hT F.entry_enumerate_next ?_ (F.args_enumerate_next_1 _))))
 show wpAny _ _ (field (.ref e) 2 >>= _) _ _ _; refine wpAny_bind (wpAny_field he rfl (x := .ref it) rfl (wpAny_bind (Ze1 hit hl hx fun ha hita hsa => ?_)))
 have hsa' : Heap.SameBut it hp ha := hsa
 have hea : IsEnum ha e it i old := (hsa'.2 e hne).trans he
 show wpAny _ _ (field (.ref e) 3 >>= _) _ _ ⟨ha, g, d, tk, os⟩; refine wpAny_bind (wpAny_field hea rfl (x := rawInt i) rfl ?_)
 show wpAny _ _ (field (.ref e) 4 >>= _) _ _ ⟨ha, g, d, tk, os⟩; refine wpAny_bind (wpAny_field hea rfl (x := .none) rfl ?_)
 show wpAny _ _ (mkInt i >>= _) _ _ ⟨ha, g, d, tk, os⟩; refine wpAny_bind (wpAny_mkInt ?_)
 show wpAny _ _ (setField (.ref e) 3 (rawInt ((i : Int) + 1)) >>= _) _ _ ⟨ha, g, d, tk + 1, os⟩
 refine wpAny_bind (wpAny_setField_rec hea (by simp) fun hb heb hsb => ?_)
 have hsb' : Heap.SameBut e ha hb := hsb
 have heb' : IsEnum hb e it ((i : Int) + 1) old := heb
 show wpAny _ _ (setField (.ref e) 4 .none >>= _) _ _ ⟨hb, g, d, tk + 1, os⟩
 refine wpAny_bind (wpAny_setField_rec heb' (by simp) fun hc hec hsc => ?_)
 have hsc' : Heap.SameBut e hb hc := hsc
 have hec' : IsEnum hc e it ((i : Int) + 1) old := hec
 show wpAny _ _ (newTuple [.int i tk, x] >>= _) _ _ ⟨hc, g, d, tk + 1, os⟩
 refine wpAny_bind (wpAny_newTuple ?_)
 have hsz : hc.objs.size = hp.objs.size := by rw [hsc'.1, hsb'.1, hsa'.1]
 obtain ⟨hd, ehd⟩ : ∃ hd, hd = hc.push { cls := .type "tuple", data := .seq #[.int i tk, x] } := ⟨_, rfl⟩
 have hed : IsEnum hd e it ((i : Int) + 1) old := by rw [ehd]; exact Heap.get?_push_of_some _ hec'
 have htd : hd.get? hp.objs.size = some { cls := .type "tuple", data := .seq #[.int i tk, x] } := by rw [ehd, ← hsz]; exact Heap.get?_push_size _ rfl
 have hkd : ∀ b o, b ≠ e → b ≠ it → hp.get? b = some o → hd.get? b = some o := fun b o n1 n2 q => by rw [ehd]; exact Heap.get?_push_of_some _ (hsc'.extBut b o n1 (hsb'.extBut b o n1 (hsa'.extBut b o n2 q)))
 have hitd : SIt t hd it l (i + 1) := hita.at fun o q => by rw [ehd]; exact Heap.get?_push_of_some _ (hsc'.extBut _ _ (Ne.symm hne) (hsb'.extBut _ _ (Ne.symm hne) q))
 show wpAny _ _ (Builtin.SmallTypes.ownedTupleIsFree (.ref e) >>= _) _ _ ⟨hc.push { cls := .type "tuple", data := .seq #[.int i tk, x] }, g, d, tk + 1, os⟩
 rw [hsz, ← ehd]
 refine wpAny_bind ?_
 unfold Builtin.SmallTypes.ownedTupleIsFree
 refine wpAny_bind (wpAny_field hed rfl (x := .none) rfl (wpAny_pure ?_))
 simp only [if_true]
 refine wpAny_bind (wpAny_rule (wpAny_bind (wpAny_field hed rfl (x := old) rfl (wpAny_bind (wpAny_setField_rec hed (by simp) fun hf hef hsf => ?_)))))
 have hsf' : Heap.SameBut e hd hf := hsf
 have hef' : IsEnum hf e it ((i : Int) + 1) x := hef
 show wpAny _ _ (Builtin.SmallTypes.ownedTupleHandOut (.ref e) (.ref hp.objs.size) >>= _) _ _ ⟨hf, g, d, tk + 1, os⟩
 refine wpAny_bind ?_
 unfold Builtin.SmallTypes.ownedTupleHandOut
 refine wpAny_bind (wpAny_setField_rec hef' (by simp) fun hg heg hsg => ?_)
 have hsg' : Heap.SameBut e hf hg := hsg
 have heg' : IsEnumOut hg e it ((i : Int) + 1) x hp.objs.size := heg
 refine wpAny_setField_rec heg' (by simp) fun hh heh hsh => ?_
 have hsh' : Heap.SameBut e hg hh := hsh
 have heh' : IsEnumOut hh e it ((i : Int) + 1) x hp.objs.size := heh
 have up : ∀ b o, b ≠ e → hd.get? b = some o → hh.get? b = some o := fun b o n q => hsh'.extBut b o n (hsg'.extBut b o n (hsf'.extBut b o n q))
 exact wpAny_bind (wpAny_letGo (wpAny_pure ⟨_, rfl, wpAny_pure (hQ hh heh' (hitd.at fun o q => up _ o (Ne.symm hne) q) (up _ _ (Nat.ne_of_gt hel) htd) fun b o n1 n2 q => up b o n1 (hkd b o n1 n2 q))⟩))
theorem Zmr {t : Bool} {e it l : Addr} {i : Nat} {items : Array Value} {old : Value} {Q : Option Value → Shared → Prop} (hh : A.handled = none) (he : IsEnum s.heap e it i old) (hit : SIt t s.heap it l i) (hl : SAt t s.heap l items) (hx : items[i]? = none)
  (hQ : ∀ h', Heap.ExtBut it s.heap h' → Q none { s with heap := h' }) : wpAny (model prog w) A (pyNext (.ref e)) Q E s := by
 have hT : s.TypeIs (.ref e) "enumerate" := ⟨_, he, rfl⟩
 unfold pyNext
 refine wpAny_bind (wpAny_attempt (wpAny_callSpecial?_slot (name := Str.ofString "__next__") hT F.slot_enumerate_next (wpAny_call_entry F.slot_enumerate_next hT F.entry_enumerate_next ?_ (F.args_enumerate_next_1 _))))
 show wpAny _ _ (field (.ref e) 2 >>= _) _ _ _; refine wpAny_bind (wpAny_field he rfl (x := .ref it) rfl (wpAny_bind (Zfl hh hit hl hx fun h' x he' ⟨o, ho, hc⟩ => ?_)))
 exact wpAny_bind (wpAny_isInstance (T := "StopIteration") (b := true) ⟨o, ho, hc⟩ isSubtype_stop (wpAny_pure (hQ _ he')))
end
end L2
namespace L2
open PySem PySem.Spec PyProof.Rows
open AutoSeq1 (wpAny_loadPart')
noncomputable abbrev enA (h : Heap) (t : Bool) (l : Addr) : Heap := h.push (sItO t l)
noncomputable abbrev enB (h : Heap) (t : Bool) (l : Addr) : Heap := (enA h t l).push { cls := .type "enumerate", data := .fields #[.none, .bool false, .ref h.objs.size, rawInt 0, .none, .none] }
theorem Zjp (t : Bool) (l : Addr) (items : Array Value) (n : Nat) (dct : Option Addr) (sl : Array (Option Value)) :
  Meets (Builtin.«enumerate.__new__» ⟨[.type "enumerate", .ref l], []⟩) (fun _ R s => s.heap.get? l = some { cls := .type (if t then "tuple" else "list"), dict := dct, data := .seq items n, slots := sl } ∧
   R (.ok (.ret (.ref (enA s.heap t l).objs.size))) { s with heap := enB s.heap t l }) :=
 .of_wp fun prog w A R s h => by
  obtain ⟨hp, g, d, tk, os⟩ := s; obtain ⟨hl, h⟩ := h
  have hsub := sub_enumerate
  have hL : SAt t (Shared.heap ⟨hp, g, d, tk, os⟩) l items := by cases t <;> exact ⟨_, hl, rfl, n, rfl⟩
  wp_walk using wpAny_loadPart' hl
  refine wpAny_stack_any fun st => wpAny_pure ?_
  split
  ·rename_i c _ _ _ _ _
   cases (c == Value.type "enumerate")
   ·wp_walk using wpAny_loadPart' hl, iterS hL
    exact ⟨_, rfl, h⟩
   ·wp_walk using wpAny_loadPart' hl, iterS hL
    exact ⟨_, rfl, h⟩
  ·wp_walk using wpAny_loadPart' hl, iterS hL
   exact ⟨_, rfl, h⟩
section
variable {prog : Program} {w : World} {A : Around} {E : Value → Shared → Prop} {s : Shared}
theorem Zlc {t : Bool} {l : Addr} {items : Array Value} {Q : Value → Shared → Prop} (hL : SAt t s.heap l items)
  (h : ∀ h', IsEnum h' (s.heap.objs.size + 1) s.heap.objs.size 0 .none → SIt t h' s.heap.objs.size l 0 →
   (∀ b o, s.heap.get? b = some o → h'.get? b = some o) → Q (.ref (s.heap.objs.size + 1)) { s with heap := h' }) :
  wpAny (model prog w) A (call (.type "enumerate") [.ref l]) Q E s := by
 obtain ⟨dct, n, sl, hl⟩ : ∃ dct n sl, s.heap.get? l = some { cls := .type (if t then "tuple" else "list"), dict := dct, data := .seq items n, slots := sl } := by
  cases t <;> (obtain ⟨⟨c, dct, dt, sl⟩, hl, hc, n, hd⟩ := hL; simp only at hc hd; subst hc hd; exact ⟨dct, n, sl, hl⟩)
 refine callType_new F.called_enumerate (by decide) (F.typeCall_enumerate_1 _) (F.newCall_enumerate_1 _) (fun obj => F.args_object_init_2 obj _) F.entry_enumerate_new
  (Zjp t l items n dct sl) ⟨hl, ?_⟩
 have hz : (enA s.heap t l).objs.size = s.heap.objs.size + 1 := Heap.size_push ..
 have he : IsEnum (enB s.heap t l) (s.heap.objs.size + 1) s.heap.objs.size 0 .none := by
  have := Heap.get?_push_size (enA s.heap t l) (o := { cls := .type "enumerate", data := .fields #[.none, .bool false, .ref s.heap.objs.size, rawInt 0, .none, .none] }) rfl
  rw [hz] at this; exact this
 have g1 : (enB s.heap t l).get? s.heap.objs.size = some (sItO t l) := Heap.get?_push_of_some _ (Heap.get?_push_size _ (by cases t <;> rfl))
 have mk : SIt t (enB s.heap t l) s.heap.objs.size l 0 := by cases t <;> exact ⟨_, g1, rfl, rfl⟩
 show _ ∧ _
 rw [hz]
 exact ⟨⟨_, he, rfl⟩, h _ he mk fun b o x => Heap.get?_push_of_some _ (Heap.get?_push_of_some _ x)⟩
end
noncomputable def Ite (K : PySem.W.Frag) (t : Bool) (a : Addr) : It :=
 ⟨fun i H => ∃ xs x, SqB K t H a xs ∧ xs[i]? = some x,
   fun i H v H' => ∃ p x, v = .ref p ∧ H p = none ∧ H' = upd H p (.tup [.int i, x]) ∧ ∀ xs, SqB K t H a xs → xs[i]? = some x,
   fun i H => ∃ xs, SqB K t H a xs ∧ xs.length ≤ i⟩
noncomputable def ESt (t : Bool) (e it l : Addr) (i : Nat) (h : Heap) : Prop := e ≠ it ∧ (∃ old, IsEnum h e it i old) ∧ SIt t h it l i
theorem Zny {P : Program} {w : World} {K : PySem.W.Frag} {elts : List Expr} {kk : Nat} {pos : Pos} (t : Bool) (z i1 l1 : Addr) : Turn P w K (.Tuple elts kk pos) (Ite K t l1) [z, i1] z (ESt t z i1 l1) where
 mem := by simp
 obj := fun i h st b hb => by
  obtain ⟨_, ⟨old, hz⟩, h1⟩ := st
  simp only [List.mem_cons, List.not_mem_nil, or_false] at hb
  rcases hb with e | e
  ·subst e; exact ⟨_, hz, fun v q => by cases q⟩
  ·subst e; exact h1.obj
 keep := fun i h h' st k => by
  obtain ⟨D, ⟨old, hz⟩, h1⟩ := st
  exact ⟨D, ⟨old, k z (by simp) _ hz⟩, h1.at fun o e => k i1 (by simp) o e⟩
 item := by
  intro X hP hw hK hc i pins s σ H E I hf st hg
  subst hP hw hK
  obtain ⟨xs, x, q1, gx⟩ := hg
  obtain ⟨D, ⟨old, hz⟩, h1⟩ := st
  obtain ⟨us, ru, su, _⟩ := I.sq q1
  obtain ⟨u, hu, rx⟩ := ru.get gx
  refine Zln hz h1 su (x := u) (by simpa using hu) D fun h' z1 z3 z5 z7 => ⟨_, rfl, ?_⟩
  have szn : s.heap.objs.size ≠ z := Nat.ne_of_gt (Heap.lt_size hz)
  refine wpAny_letOwnedTupleGo_enum (s := { s with heap := h', toks := s.toks + 1 }) z1 fun h'' w1 w2 => ?_
  have w2' : Heap.SameBut z h' h'' := w2
  have hall : ∀ c o, c ≠ z → c ≠ i1 → s.heap.get? c = some o → h''.get? c = some o := fun c o n1 n3 e => w2'.extBut _ _ n1 (z7 c o n1 n3 e)
  have hn : H s.heap.objs.size = none := I.hok.fresh (Nat.le_refl _)
  have f := fun b hb => hf b hb
  have ch : ∀ b, b ∉ [z, i1] → b ≠ z ∧ b ≠ i1 := fun b hb => by
   simp only [List.mem_cons, List.not_mem_nil, or_false, not_or] at hb
   exact hb
  have tr : ∀ b o, H b = some o → b ∉ [z, i1] := fun b o e hb => by rw [(f b hb).1] at e; cases e
  have nsz : ∀ b o, H b = some o → b ≠ s.heap.objs.size := fun b o e q => by rw [q, hn] at e; cases e
  have pair : h''.get? s.heap.objs.size = some { cls := .type "tuple", data := .seq #[.int i s.toks, u] } := w2'.extBut _ _ szn z5
  refine ⟨.ref s.heap.objs.size, upd H s.heap.objs.size (.tup [.int i, x]), Inv.step (s := s) (h' := h'') (g' := s.gens) (d' := s.drawn) (t' := s.toks + 1) (ch := [z, i1]) I (fun b hb => ?_) (fun b o _ _ hb e _ => ?_) (fun b o _ _ hb e _ => ⟨o.slots, ?_⟩) (fun b o hb e n => ?_) (fun b o hb e => ⟨o, ?_⟩) (fun b zs e => ?_) (fun b o zs e => ?_) (fun b ps e => ⟨#[], ?_⟩) (fun m hm => ?_) (fun b o e => ?_) I.bare, rfl, ⟨s.heap.objs.size, x, rfl, hn, rfl, fun xs' p1 => ?_⟩, ?_, fun b hb => ?_⟩
  ·obtain ⟨_, f1, f2, f3, f4, f5⟩ := f b hb
   exact ⟨f3, f1, f4, f5⟩
  ·obtain ⟨n1, n2⟩ := ch b hb; exact hall b o n1 n2 e
  ·obtain ⟨n1, n2⟩ := ch b hb; exact hall b o n1 n2 e
  ·rw [Zah (Nat.ne_of_lt (Heap.lt_size e))]; exact n
  ·obtain ⟨n1, n2⟩ := ch b hb; exact hall b o n1 n2 e
  ·rw [Zah (nsz b _ e)]; exact e
  ·rw [Zah (nsz b _ e)]; exact e
  ·rw [Zah (nsz b _ e), e]; simp
  ·obtain ⟨o, es, ep, ho, r⟩ := hm
   have nl : X.env.locals ∉ [z, i1] := fun hb => (f _ hb).2.1 rfl
   obtain ⟨n1, n2⟩ := ch _ nl
   exact ⟨o, es, ep, hall _ o n1 n2 ho, r⟩
  ·by_cases hb : b = s.heap.objs.size
   ·subst hb; rw [Zax] at e; cases e
    exact ⟨L2.sz2, [.int i s.toks, u], .cons ⟨_, rfl⟩ (.cons rx .nil), _, pair, rfl, _, rfl⟩
   ·rw [Zah hb] at e
    refine (I.hok b o e).stay (fun c o' hc q => ?_) (fun c q => by rw [Zah (nsz c _ q)]; exact q) fun c zs q => by rw [Zah (nsz c _ q)]; exact q
    have nc : c ∉ [z, i1] := by
     rcases hc with hc | hc
     ·rw [hc]; exact tr b o e
     ·exact tr c _ hc
    obtain ⟨n1, n2⟩ := ch c nc
    exact hall c o' n1 n2 q
  ·rw [I.sq_inj p1 q1]; exact gx
  ·exact ⟨D, ⟨u, by have := w1; exact_mod_cast this⟩, z3.at fun o e => w2'.extBut _ o (Ne.symm D) e⟩
  ·obtain ⟨o, e, _⟩ := (show ∃ o, s.heap.get? b = some o ∧ ∀ v, o.data ≠ .cell v from by
    simp only [List.mem_cons, List.not_mem_nil, or_false] at hb
    rcases hb with q | q
    ·subst q; exact ⟨_, hz, fun v q => by cases q⟩
    ·subst q; exact h1.obj)
   rw [Zah (Nat.ne_of_lt (Heap.lt_size e))]; exact (f b hb).1
 done := by
  intro X hP hw hK hc i pins s σ H E I hf st hg
  subst hP hw hK
  obtain ⟨xs, q1, ge⟩ := hg
  obtain ⟨D, ⟨old, hz⟩, h1⟩ := st
  obtain ⟨us, ru, su, _⟩ := I.sq q1
  have lu := ru.length
  refine Zmr (I.ok.hd hc) hz h1 su (by simp; omega) fun h' hk => ⟨rfl, ?_⟩
  have f := fun b hb => hf b hb
  have tr : ∀ b o, H b = some o → b ∉ [i1] := fun b o e hb => by rw [(f b (by simp at hb; simp [hb])).1] at e; cases e
  have kk : ∀ b o, b ∉ [i1] → s.heap.get? b = some o → h'.get? b = some o := fun b o hb e => hk b o (by simpa using hb) e
  refine I.step (g' := s.gens) (d' := s.drawn) (t' := s.toks) (ch := [i1]) (fun b hb => ?_) (fun b o _ _ hb e _ => kk b o hb e) (fun b o _ _ hb e _ => ⟨o.slots, kk b o hb e⟩) (fun b o hb e n => n) (fun b o hb e => ⟨o, kk b o hb e⟩) (fun b zs e => e) (fun b o zs e => e) (fun b ps e => ⟨#[], by rw [e]; simp⟩) (fun m hm => ?_) (fun b o e => ?_) I.bare
  ·obtain ⟨_, f1, f2, f3, f4, f5⟩ := f b (by simp at hb; simp [hb])
   exact ⟨f3, f1, f4, f5⟩
  ·obtain ⟨o, es, ep, ho, r⟩ := hm
   exact ⟨o, es, ep, kk _ o (fun hb => (f _ (by simp at hb; simp [hb])).2.1 rfl) ho, r⟩
  ·refine (I.hok b o e).stay (fun c o' hc q => kk c o' ?_ q) (fun c q => q) fun c zs q => q
   rcases hc with hc | hc
   ·rw [hc]; exact tr b o e
   ·exact tr c _ hc
 self := fun _ _ _ _ _ st h => by
  obtain ⟨D, ⟨old, hz⟩, h1⟩ := st
  exact wpAny_pyIter_enum hz h
section
variable {X : Cx}
noncomputable def iEnum (K : PySem.W.Frag) (t : Bool) (ta : TA) : TI := fun σ H R => ta σ H fun vs H1 => ∃ a xs, vs = [.ref a] ∧ SqB K t H1 a xs ∧ R (Ite K t a) H1
theorem Zql {elts : List Expr} {kk : Nat} {tp : Pos} {a : Expr} {ta : TA} {p pos : Pos} (t : Bool) (hg : Gl X "enumerate") (hm : X.mg "enumerate" = none) (ha : PA X [a] ta) (hs : starEach [a] X.env = [(false, eval a X.env)] := by rfl) :
  PI X (.Tuple elts kk tp) (.Call (.Name "enumerate" p) [a] [] pos) (iEnum X.K t ta) := by
 intro pins s σ H R I h
 refine Call_ (Zej I hg hm boot_enumerate (PyProof.Rows.callWith_type1 (thn (ha pos pins s σ H _ I h) fun us s1 ⟨vs, H1, I1, r1, q1⟩ => ?_) (by rw [hs]; rfl) rfl))
 obtain ⟨l1, xs, e, q1, q⟩ := q1
 subst e
 cases r1 with
 | cons r rr =>
  cases rr
  cases r
  obtain ⟨us, _, su, _⟩ := I1.sq q1
  refine Zlc su fun h' z1 z4 z6 => ?_
  have I2 : Inv X pins σ H1 { s1 with heap := h' } := I1.kept (t' := s1.toks) z6
  refine wpAny_pyIter_enum z1 ⟨_, [s1.heap.objs.size + 1, s1.heap.objs.size], _, _, H1, rfl, I2, Zny t _ _ l1, ⟨Nat.succ_ne_self _, ⟨_, z1⟩, z4⟩, fun b hb => ?_, q⟩
  have le : s1.heap.objs.size ≤ b := by
   simp only [List.mem_cons, List.not_mem_nil, or_false] at hb
   rcases hb with e | e <;> rw [e] <;> first | exact Nat.le_refl _ | exact Nat.le_add_right _ _
  exact I1.fpOk le (I1.hok.fresh le)
end
theorem Zei {X : Cx} {elts : List Expr} {kk : Nat} {tp : Pos} {a : Expr} {ta : TA} {p pos : Pos} (t : Bool) (hg : Gl X "enumerate") (hm : X.mg "enumerate" = none) (ha : IPA X [a] ta) (hs : starEach [a] X.env = [(false, eval a X.env)] := by rfl) :
  IPI X (.Tuple elts kk tp) (.Call (.Name "enumerate" p) [a] [] pos) (iEnum X.K t ta) := by
 rw [Zal]; rw [Zam] at ha; exact Zql t hg hm ha hs
end L2
namespace L2
open PySem PySem.Spec PyProof.Rows
section
variable {X : Cx}
theorem Zg6 (n : Nat) : sliceRange ((n : Int) - 1) (-1) (-1) = (List.range n).map fun k => n - 1 - k := by
 unfold sliceRange
 have h0 : ¬ ((-1 : Int) > 0) := by decide
 simp only [h0, if_false]
 by_cases hn : (n : Int) - 1 > -1
 ·rw [if_pos hn]
  have e : ((n : Int) - 1 - -1 - -1 - 1) / (- -1) = n := by
   have e : (- -1 : Int) = 1 := by decide
   rw [e, Int.ediv_one]; omega
  rw [e, Int.toNat_natCast]
  refine List.map_congr_left fun k hk => ?_
  have := List.mem_range.mp hk
  omega
 ·rw [if_neg hn]
  have : n = 0 := by omega
  subst this; rfl
theorem Zhl (its : List Value) : slicePick its.toArray none none (some (-1)) = its.reverse.toArray := by
 unfold slicePick
 have h1 : (sliceBounds none none (some (-1)) its.toArray.size).1 = (its.length : Int) - 1 := by simp [sliceBounds]
 have h2 : (sliceBounds none none (some (-1)) its.toArray.size).2.1 = -1 := by simp [sliceBounds]
 have h3 : (sliceBounds none none (some (-1)) its.toArray.size).2.2 = -1 := by simp [sliceBounds]
 rw [h1, h2, h3, Zg6]
 congr 1
 have : ∀ k ≤ its.length, ((List.range k).map fun j => its.length - 1 - j).filterMap (its.toArray[·]?) = its.reverse.take k := by
  intro k
  induction k with
  | zero => intro _; simp
  | succ k ih =>
   intro hk
   rw [List.range_succ, List.map_append, List.filterMap_append, ih (by omega), List.take_add_one]
   congr 1
   have e : its.reverse[k]? = its[its.length - 1 - k]? := by rw [List.getElem?_reverse (by omega)]
   rw [e]
   have hl : its.length - 1 - k < its.length := by omega
   simp [gEq hl]
 rw [this _ (Nat.le_refl _), List.take_of_length_le (by simp)]
noncomputable def tRev (K : PySem.W.Frag) (te ts : TE) : TE := fun σ H Q => te σ H fun x H1 => ts σ H1 fun y H2 => y = .int (-1) ∧ ∃ a xs, x = .ref a ∧ SqL K H2 a xs ∧ ∀ p, H2 p = none → Q (.ref p) (upd H2 p (.lst xs.reverse))
theorem Zs7 {e st : Expr} {te ts : TE} {p2 pos : Pos} (he : PE X e te) (hs : PE X st ts) : PE X (.Subscript e (.Slice none none (some st) p2) pos) (tRev X.K te ts) := by
 intro pins s σ H Q I h
 refine Subscript_ (thn (he pins s σ H _ I h) fun v s1 ⟨x, H1, I1, r1, q1⟩ => ?_)
 refine wpAny_Slice ?_
 rw [evalPart_none]
 refine wpAny_pure ?_
 refine wpAny_pure ?_
 rw [evalPart_some]
 refine thn (hs pins s1 σ H1 _ I1 q1) fun u s2 ⟨y, H2, I2, r2, q2⟩ => ?_
 obtain ⟨rfl, a, xs, rfl, hx, q⟩ := q2
 obtain ⟨tk, rfl⟩ := r2
 cases r1
 have I4 : Inv X pins σ H2 { s2 with heap := s2.heap.push { cls := .type "slice", data := .fields #[.none, .none, .int (-1) tk] } } := I2.kept (t' := s2.toks) fun b ob q => Heap.get?_push_of_some _ q
 obtain ⟨its, r, ht, hz⟩ := I4.list hx
 have hlen := r.length
 show wpAny (model X.prog X.w) X.A (subscriptTail e (.Slice none none (some st) p2) (.ref a) (.ref s2.heap.objs.size)) (EP X pins σ Q) X.xe { s2 with heap := s2.heap.push { cls := .type "slice", data := .fields #[.none, .none, .int (-1) tk] } }
 refine tail_any (T := "list") (ops := [.ref a, .ref s2.heap.objs.size]) ht.isList.typeIs slot_list_getitem.lookup ?_ (by with_unfolding_all rfl)
 refine wpAny_getItem_list_slice ht.isList (Heap.IsSliceOf.new ..) .none .none (.int (-1) tk) (by simp) ?_ (by rw [List.size_toArray] <;> omega)
 rw [Zhl]
 refine ⟨.ref _, _, I4.laid (t' := s2.toks) (o := .lst xs.reverse) (fun b ob q => Heap.get?_push_of_some _ q) (Nat.le_refl _) ?_, rfl, q _ (I4.hok.fresh (Nat.le_refl _))⟩
 exact ⟨by rw [List.length_reverse]; exact hz, _, 0, r.reverse, Heap.get?_push_size _ rfl⟩
theorem Zog {e st : Expr} {te ts : TE} {p2 pos : Pos} (he : IPE X e te) (hs : IPE X st ts) : IPE X (.Subscript e (.Slice none none (some st) p2) pos) (tRev X.K te ts) := by
 rw [Zak] at *; exact Zs7 he hs
noncomputable def rInD (K : PySem.W.Frag) (neg : Bool) : R2 := fun x y H Q => ∃ d ds p ys, DV K H d x ∧ y = .ref p ∧ (SqL K H p ys ∨ SqT K H p ys) ∧ DVs K H ds ys ∧ d.canLay0 = true ∧ PyData.canLayAll0 ds = true ∧ d.depth ≤ 30 ∧ Q (.bl (if neg then !ds.any (fun y => PyData.eqv y d) else ds.any (fun y => PyData.eqv y d))) H
theorem Zry (hu : X.A.units + 64 < cLine) : OpR X (compareOp .In) (rInD X.K false) := by
 rintro pins s σ H x y v u Q I rx ry ⟨d, ds, p, ys, h1, rfl, hq, h2, c1, c2, dp, q⟩
 obtain ⟨bs, rb⟩ := I.reads h1 rx
 have hm : X.A.units + 1 + min (PyData.depthAll ds) d.depth < cLine := by omega
 rcases hq with hq | hq
 ·obtain ⟨as, ra⟩ := I.reads (DV.list hq h2) ry
  exact SeqAt.in_list_reads ra rb c2 c1 hm ⟨.bl _, H, I, rfl, q⟩
 ·obtain ⟨as, ra⟩ := I.reads (DV.tup hq h2) ry
  exact SeqAt.in_tuple_reads ra rb c2 c1 hm ⟨.bl _, H, I, rfl, q⟩
end
end L2
namespace L2
open PySem PySem.Spec PyProof.Rows
noncomputable def tI (ns : List Int) : PyData := .tuple (ns.map .int)
noncomputable def lT (rows : List (List Int)) : PyData := .list (rows.map tI)
theorem Zp8 {d : PyData} (hc : d.canLay0 = true) (hi : d.intsShort 101 = true) (hw : d.weight ≤ 100000) : d.shown.length ≤ sizeLine := by
 have h := PyData.shown_le 101 (by decide) d (PyData.leavesShort_of_canLay0 101 d hc hi)
 have e : sizeLine = 16777216 := by decide
 omega
theorem Zjo {i : Int} {w : Nat} (hw : 0 < w) (h : i.natAbs < 2 ^ w) : i.natAbs.log2 < w := by
 by_cases h0 : i.natAbs = 0
 ·rw [h0]; simpa using hw
 ·exact (Nat.log2_lt h0).mpr h
theorem Znv {i : Int} {w : Nat} (hw : 0 < w) (hw2 : w ≤ 100) (h : i.natAbs < 2 ^ w) : (PyData.int i).intsShort 101 = true := by
 have e := int_text_length_le (a := i) (k := w) hw (Zjo hw h)
 simp only [PyData.intsShort, decide_eq_true_eq]
 show (Str.ofString (toString i)).length ≤ 101
 rw [PySem.ofString_length]
 omega
theorem Zm9 {i : Int} {w : Nat} (hw : 0 < w) (h : i.natAbs < 2 ^ w) : (PyData.int i).weight ≤ w := by
 have := Zjo hw h
 simp only [PyData.weight]
 split <;> omega
theorem Zeb : ∀ ns : List Int, PyData.canLayAll0 (ns.map .int) = true
 | [] => by simp [PyData.canLayAll0]
 | x :: r => by simp [PyData.canLayAll0, PyData.canLay0, Zeb r]
theorem Zgc : ∀ ns : List Int, PyData.depthAll (ns.map .int) = 0
 | [] => by simp [PyData.depthAll]
 | x :: r => by simp [PyData.depthAll, PyData.depth, Zgc r]
theorem Zfe : ∀ ns : List Int, PyData.hasDictAll (ns.map .int) = false
 | [] => by simp [PyData.hasDictAll]
 | x :: r => by simp [PyData.hasDictAll, PyData.hasDict, Zfe r]
theorem Zpw (ns : List Int) : (tI ns).canLay0 = true := by simp [tI, PyData.canLay0, Zeb]
theorem Zpb (ns : List Int) : (tI ns).depth = 1 := by simp [tI, PyData.depth, Zgc]
theorem Zra (ns : List Int) : (tI ns).hasDict = false := by simp [tI, PyData.hasDict, Zfe]
theorem DV.tI {K : PySem.W.Frag} {H : Hp} {a : Addr} {ns : List Int} (h : SqT K H a (ns.map V.int)) : DV K H (tI ns) (.ref a) := DV.tup h (DVs.ints ns)
theorem DV.tI_inv {K : PySem.W.Frag} {H : Hp} {ns : List Int} {x : V} (h : DV K H (L2.tI ns) x) : ∃ a, x = .ref a ∧ SqT K H a (ns.map V.int) := by
 unfold L2.tI DV at h
 obtain ⟨a, xs, rfl, hs, hd⟩ := h
 have : ∀ (l : List Int) (ys : List V), DVs K H (l.map .int) ys → ys = l.map V.int := fun l => by
  induction l with
  | nil => intro ys h; unfold DVs at h; exact h
  | cons x r ih =>
   intro ys h
   rw [List.map_cons] at h
   unfold DVs at h
   obtain ⟨y, t, rfl, h1, h2⟩ := h
   unfold DV at h1
   rw [h1, ih t h2]; rfl
 rw [this ns xs hd] at hs
 exact ⟨a, rfl, hs⟩
noncomputable def LR (K : PySem.W.Frag) (H : Hp) (l : Addr) (rows : List (List Int)) : Prop := ∃ xs, SqL K H l xs ∧ DVs K H (rows.map tI) xs
theorem LR.dv {K : PySem.W.Frag} {H : Hp} {l : Addr} {rows : List (List Int)} (h : LR K H l rows) : DV K H (lT rows) (.ref l) := by
 obtain ⟨xs, h1, h2⟩ := h
 exact DV.list h1 h2
theorem LR.same {K : PySem.W.Frag} {H H' : Hp} {l : Addr} {rows : List (List Int)} (h : LR K H l rows) (e : Same H H') : LR K H' l rows := by
 obtain ⟨xs, h1, h2⟩ := h
 exact ⟨xs, e.seq h1, DVs.same e h2⟩
theorem DVs.take {K : PySem.W.Frag} {H : Hp} : ∀ {ds : List PyData} {xs : List V} (k : Nat), DVs K H ds xs → DVs K H (ds.take k) (xs.take k)
 | [], xs, k, h => by unfold DVs at h; subst h; simp; exact DVs.nil
 | d :: ds, xs, 0, h => by simp; exact DVs.nil
 | d :: ds, xs, k + 1, h => by
  unfold DVs at h
  obtain ⟨x, r, rfl, h1, h2⟩ := h
  exact DVs.cons h1 (DVs.take k h2)
end L2
namespace L2
open PySem PySem.Spec PyProof.Rows
section
variable {X : Cx} {K : PySem.W.Frag}
theorem Zji (h : X.K = K) : IxR X (rIxT K) := h ▸ Zim
theorem Zoh (h : X.K = K) : IxR X (rIxL K) := h ▸ Zbv
theorem Zqd (h : X.K = K) (hu : X.A.units + 64 < cLine) : OpR X (compareOp .In) (rInD K false) := h ▸ Zry hu
theorem Zd8 (h : X.K = K) : CallR X (.builtin "len") (fun xs H Q => ∃ p ys, xs = [.ref p] ∧ (SqL K H p ys ∨ SqT K H p ys) ∧ Q (.int ys.length) H) := h ▸ Zb4
theorem Zls {l tg : Expr} {tl : TE} (h : X.K = K) (hl : IPE X l tl) : IPI X tg l (iList K tl) := h ▸ Zbr hl
end
end L2
namespace L2
open PySem PySem.Spec PyProof.Rows
section
variable {X : Cx}
theorem Zjz {i : Nat} {x : Str} {elt tg iter tg2 iter2 : Expr} {scope : Scope} {pos pos' spos : Pos} {Nc : List Str} {cap : List (Option Nat)} {wi wi2 : TI} {g g2 : TG} {te : TE}
  (hN : X.N.Nodup) (hx : X.N[i]? = some x) (hl : Loc X.env.scope x)
  (hc : X.calm = true) (hi : PI X tg iter wi) (ok : capOk X Nc cap scope = true) (hg : ∀ cs C s H fp, PG (cxComp X Nc scope cs C s H fp) tg g)
  (hi2 : ∀ cs C s H fp, PI (cxComp X Nc scope cs C s H fp) tg2 iter2 wi2) (hg2 : ∀ cs C s H fp, PG (cxComp X Nc scope cs C s H fp) tg2 g2)
  (he : ∀ cs C s H fp, PE (cxComp X Nc scope cs C s H fp) elt te) (hsw : swapsWith (.ListComp elt [⟨tg, iter, [], 0⟩, ⟨tg2, iter2, [], 0⟩] scope pos) (some (.Name x pos')) spos.line X.env = pure true := by rfl)
  (hk : scope.kind = .function := by rfl) (hs : ∀ x, foldedSetIterable iter X.env x = pure x := by intro _; rfl)
  (hs2 : ∀ env x, foldedSetIterable iter2 env x = pure x := by intro _ _; rfl)
  (hf : X.fn x = true ∨ X.env.scope.names.lookup x = some .local := by first | exact .inl rfl | exact .inr rfl | assumption) :
  PS X (.Assign [.Name x pos'] (.ListComp elt [⟨tg, iter, [], 0⟩, ⟨tg2, iter2, [], 0⟩] scope pos) spos) (tAsg (tComp wi cap g tYes (tLoop wi2 g2 tYes (tEmit te))) (gName i)) := by
 intro pins s σ H D I h
 rw [exec_Assign_Name_used _ _ _ _ hsw]
 refine wpAny_bind (wpAny_standAt (wpAny_bind ?_))
 show wpAny _ X.A (do let _ ← comprehension (.ListComp elt [⟨tg, iter, [], 0⟩, ⟨tg2, iter2, [], 0⟩] scope pos) scope X.env _ (newList []) false (eval iter X.env) (some (assign (.Name x pos') X.env))) _ _ s
 refine wpAny_bind (thn (Zf8 (use := some (assign (.Name x pos') X.env)) (Q := fun _ s' => SP X pins D .next s') (body := fun env => nest elt [⟨tg, iter, [], 0⟩, ⟨tg2, iter2, [], 0⟩] scope pos 1 iter2 env) hk hc hi ok hg (fun cs C s H fp => Zk1)
  (fun cs C s H fp => Zqp (Y := cxComp X Nc scope cs C s H fp) (body := emit elt (compEnvC scope cs C X.env)) (fun _ _ f => f) hc (hi2 cs C s H fp) (hg2 cs C s H fp) Zk1 (Zjy (he cs C s H fp)) rfl (fun it acc => rfl) (hs2 _)) (fun it acc env => ?_) hs I h fun L C H' s' I' fD fC ne hn q => ?_) fun _ s' q => wpAny_pure (wpAny_pure q))
 ·rw [Zi3]
  unfold turnOf testsOf nest
  simp only [bind_assoc, pure_bind]
 ·obtain ⟨H1, I1, q1, f1⟩ := Zgq (P := fun v H => gName i v σ H D.nx) I' fD fC ne q
  obtain ⟨m, hm⟩ := hn
  show wpAny _ X.A (assign (.Name x pos') X.env (.ref L)) _ _ _
  refine wpAny_assign_Name (Zfn I1 hN hx hl (v := .ref L) rfl (fun s2 I2 ⟨a, sb, ha⟩ => ?_) hf)
  have ca : C ≠ a := by
   rcases ha with z | z
   ·rw [z]; exact f1.2.1
   ·exact fun y => f1.2.2.2.2.1 x a z y.symm
  exact ⟨m, hm.sameBut sb ca, fun h'' sb2 => ⟨_, H1, I2.turned (t' := s2.toks) (fun b o hb e => sb2.extBut b o hb e) f1.1 f1.2.1 f1.2.2.2.1 f1.2.2.2.2.1 f1.2.2.2.2.2, q1⟩⟩
theorem Zgy {i : Nat} {x : Str} {elt tg iter tg2 iter2 : Expr} {scope : Scope} {pos pos' spos : Pos} {Nc : List Str} {cap : List (Option Nat)} {wi wi2 : TI} {g g2 : TG} {te : TE}
  (hN : X.N.Nodup) (hx : X.N[i]? = some x) (hl : Loc X.env.scope x)
  (hc : X.calm = true) (hi : IPI X tg iter wi) (ok : capOk X Nc cap scope = true) (hg : ∀ cs C s H fp, IPG (cxComp X Nc scope cs C s H fp) tg g)
  (hi2 : ∀ cs C s H fp, IPI (cxComp X Nc scope cs C s H fp) tg2 iter2 wi2) (hg2 : ∀ cs C s H fp, IPG (cxComp X Nc scope cs C s H fp) tg2 g2)
  (he : ∀ cs C s H fp, IPE (cxComp X Nc scope cs C s H fp) elt te) (hsw : swapsWith (.ListComp elt [⟨tg, iter, [], 0⟩, ⟨tg2, iter2, [], 0⟩] scope pos) (some (.Name x pos')) spos.line X.env = pure true := by rfl)
  (hk : scope.kind = .function := by rfl) (hs : ∀ x, foldedSetIterable iter X.env x = pure x := by intro _; rfl)
  (hs2 : ∀ env x, foldedSetIterable iter2 env x = pure x := by intro _ _; rfl)
  (hf : X.fn x = true ∨ X.env.scope.names.lookup x = some .local := by first | exact .inl rfl | exact .inr rfl | assumption) :
  IPS X (.Assign [.Name x pos'] (.ListComp elt [⟨tg, iter, [], 0⟩, ⟨tg2, iter2, [], 0⟩] scope pos) spos) (tAsg (tComp wi cap g tYes (tLoop wi2 g2 tYes (tEmit te))) (gName i)) := by
 simp only [Zak, Zap, Zao, Zal] at *
 exact Zjz hN hx hl hc hi ok hg hi2 hg2 he hsw hk hs hs2 hf
end
end L2
namespace L2
open PySem PySem.Spec PyProof.Rows
noncomputable def lexLt : List Int → List Int → Bool
 | x :: xs, y :: ys => decide (x < y) || (decide (x = y) && lexLt xs ys)
 | _, _ => false
noncomputable def TpI (h : Heap) (v : Value) (ns : List Int) : Prop := ∃ a o vs n, v = .ref a ∧ h.get? a = some o ∧ o.cls = .type "tuple" ∧ o.data = .seq (List.toArray vs) n ∧ IntsAre vs ns
theorem TpI.keep {h h' : Heap} {v : Value} {ns : List Int} (x : TpI h v ns) (k : ∀ b o, o.cls = .type "tuple" → h.get? b = some o → h'.get? b = some o) : TpI h' v ns := by
 obtain ⟨a, o, vs, n, e, h1, h2, h3, h4⟩ := x
 exact ⟨a, o, vs, n, e, k _ _ h2 h1, h2, h3, h4⟩
theorem Zgz (f : Bool) (x y : Value) : keyLt' (tuples' f) x y = (do
  let xs ← Builtin.List.listItems x; let ys ← Builtin.List.listItems y
  for ((p, q), i) in (xs.toList.zip ys.toList).zipIdx do
   if !(← eqBool p q) then return ← oneLt' (f && i == 0) p q
  return xs.size < ys.size) := rfl
section
variable {prog : Program} {w : World} {A : Around} {E : Value → Shared → Prop} {s : Shared}
theorem Zm0 {a b : Int} {t u : Tok} {Q : Bool → Shared → Prop} (h : Q (decide (a < b)) s) : wpAny (model prog w) A (oneLt' false (.int a t) (.int b u)) Q E s := by
 rw [oneLt'_eq]
 simp only [Bool.false_eq_true, if_false]
 refine wpAny_bind ?_
 show wpAny _ _ (compareOp .Lt (.int a t) (.int b u)) _ _ s
 exact lt_int (wpAny_truthy_bool h)
theorem Zm1 {c : Bool} {a b : Int} {t u : Tok} {Q : Bool → Shared → Prop} (h : Q (decide (a < b)) s) : wpAny (model prog w) A (oneLt' c (.int a t) (.int b u)) Q E s := by
 cases c
 ·exact Zm0 h
 ·exact oneLt_int h
theorem Ze3 : ∀ us : List Value, (∀ u ∈ us, ∃ i t, u = Value.int i t) → ∃ ns, IntsAre us ns
 | [], _ => ⟨[], .nil⟩
 | u :: us, h => by
  obtain ⟨i, t, rfl⟩ := h u (List.mem_cons_self ..)
  obtain ⟨ns, hn⟩ := Ze3 us fun x hx => h x (List.mem_cons_of_mem _ hx)
  exact ⟨i :: ns, .cons i t hn⟩
noncomputable def AscV (h : Heap) (vs : List Value) : Prop := (∀ v ∈ vs, ∃ ns, TpI h v ns ∧ 1 ≤ ns.length) ∧ ∀ i x y, vs[i]? = some y → vs[i + 1]? = some x → ∃ ns ms, TpI h x ns ∧ TpI h y ms ∧ ns.length = ms.length ∧ lexLt ms ns = true
theorem AscV.keep {h h' : Heap} {vs : List Value} (x : AscV h vs) (k : ∀ b o, o.cls = .type "tuple" → h.get? b = some o → h'.get? b = some o) : AscV h' vs := by
 refine ⟨fun v hv => ?_, fun i a b e1 e2 => ?_⟩
 ·obtain ⟨ns, h1, h2⟩ := x.1 v hv
  exact ⟨ns, h1.keep k, h2⟩
 ·obtain ⟨ns, ms, h1, h2, h3, h4⟩ := x.2 i a b e1 e2
  exact ⟨ns, ms, h1.keep k, h2.keep k, h3, h4⟩
end
section
variable {X : Cx}
end
end L2
namespace L2
open PySem PySem.Spec PyProof.Rows
section
variable {X : Cx}
theorem walkS {prog : Program} {w : World} {A : Around} (t : Bool) (hh : A.handled = none) (I ax : Addr) (hne : ax ≠ I) (items : Array Value) :
  Walks prog w A I [I, ax] [I] items.size (fun i v => items[i]? = some v) (fun i h => SIt t h I ax i ∧ SAt t h ax items) := by
 cases t
 ·exact Walks.list hh I ax hne items
 ·exact Walks.tuple hh I ax hne items
theorem Zq0 {ns : List Int} {its : List Value} (rv : Vals (ns.map V.int) its) (i : Nat) (v : Value) (hv : its.toArray[i]? = some v) : i < ns.length ∧ ∃ t, v = .int (ns.getD i 0) t := by
 have hv' : its[i]? = some v := by simpa using hv
 have l2 := rv.length
 rw [lmp] at l2
 have hl : i < ns.length := by have := (List.getElem?_eq_some_iff.mp hv').1; omega
 obtain ⟨u2, h1, t, h2⟩ := rv.get (i := i) (x := .int ns[i]) (by simp [hl])
 rw [hv'] at h1; cases h1
 refine ⟨hl, t, h2.trans ?_⟩
 rw [List.getD_eq_getElem?_getD, gEq hl]; rfl
theorem Zi1 (t : Bool) (hc : X.calm = true) : CallR X (.builtin "max") (fun xs H Q => ∃ (a : Addr) (ns : List Int), xs = [.ref a] ∧ SqB X.K t H a (ns.map V.int) ∧ ns ≠ [] ∧ ∀ m, m ∈ ns → (∀ x ∈ ns, x ≤ m) → Q (.int m) H) := by
 rintro pins s σ H xs us Q I r ⟨a, ns, rfl, h, hne, q⟩
 obtain ⟨u, rfl, rx⟩ := vals1 r
 cases (show u = Value.ref a from rx)
 obtain ⟨its, rv, p, hz⟩ := I.sq h
 have l2 := rv.length
 rw [lmp] at l2
 have hpos : 0 < ns.length := List.length_pos_iff.mpr hne
 have hlt := p.lt
 refine call_max_walk (iterS p ?_)
 refine ⟨s.heap.objs.size, _, _, _, _, _, _, rfl, walkS (A := X.A.in1) t (I.ok.hd hc) s.heap.objs.size a (Nat.ne_of_lt hlt) its.toArray, ⟨?_, p.at fun o e => Heap.get?_push_of_some _ e⟩, fun b hb => ?_, by rw [List.size_toArray]; omega, CmpOf.ints_gt (fun i => ns.getD i 0) (fun i v hv => (Zq0 rv i v hv).2), fun v h' tk hP hk => ?_⟩
 ·cases t <;> exact ⟨_, Heap.get?_push_size _ rfl, rfl, rfl⟩
 ·show b < (s.heap.push _).objs.size
  rw [Heap.size_push]
  simp only [List.mem_cons, List.not_mem_nil, or_false] at hb
  rcases hb with e | e
  ·rw [e]; exact Nat.lt_succ_self _
  ·rw [e]; exact Nat.lt_succ_of_lt hlt
 ·obtain ⟨hl, t', e⟩ := Zq0 rv _ v hP
  obtain ⟨g1, g2⟩ := argBest_gt (fun i => ns.getD i 0) (its.toArray.size - 1)
  refine ⟨.int (ns.getD (argBest (fun i j => decide (ns.getD i 0 > ns.getD j 0)) (its.toArray.size - 1)) 0), H, I.kept (fun b o e => hk b o ?_ (Heap.get?_push_of_some _ e)), ⟨t', e⟩, q _ ?_ fun x hx => ?_⟩
  ·intro hb
   have : b = s.heap.objs.size := by simpa using hb
   exact absurd (Heap.lt_size e) (by rw [this]; exact Nat.lt_irrefl _)
  ·rw [List.getD_eq_getElem?_getD, gEq hl]; exact List.getElem_mem hl
  ·obtain ⟨j, hj, rfl⟩ := List.mem_iff_getElem.mp hx
   have := g2 j (by rw [List.size_toArray]; omega)
   rw [List.getD_eq_getElem?_getD, gEq hj] at this
   exact this
end
end L2
namespace L2
open PySem PySem.Spec PyProof.Rows
noncomputable def gaQ {α : Type} (d : α) (na nk : Nat) (pick : List (Nat × Nat)) (us ws : List α) : List α := if us.length = na ∧ ws.length = nk then pick.filterMap (fun p => if p.1 = 0 then us[p.2]? else if p.1 = 1 then ws[p.2]? else some d) else []
structure FunD (K : PySem.W.Frag) (x : Str) (st : Stmt) (f : Addr) (fd : FuncData) (e : Addr) : Prop where
 ex : ∃ (oc : Value) (od : Option Addr) (T : Addr) (kV doc pm : Value) (an : Option Addr) (cdv ct : Value) (osl : Array (Option Value)) (oT : Obj) (n : Nat),
  fd = PySem.W.fnOf x x (defArgs st) (defBody st) (defScope st) (.ref T) kV doc pm an cdv ct ∧ K.lookup f = some ⟨oc, od, .func fd, osl⟩ ∧ PySem.W.codeIn K cdv x = true ∧ K.lookup T = some oT ∧ oT.data = .seq #[.ref e] n
 kp : PySem.W.keepIn K (.ref f) = true
noncomputable def EmptyAt (K : PySem.W.Frag) (e : Addr) : Prop := ∃ (o : Obj) (n : Nat), K.lookup e = some o ∧ o.cls = .type "tuple" ∧ o.data = .seq #[] n
theorem EmptyAt.tup {K : PySem.W.Frag} {e : Addr} (h : EmptyAt K e) (H : Hp) : SqT K H e [] := by
 obtain ⟨o, n, h1, h2, h3⟩ := h
 exact .inr ⟨o, #[], n, h1, h2, h3, by decide, .nil⟩
structure DnD (P : Program) (w : World) (K : PySem.W.Frag) (mg : Str → Option Value) (base : Heap) (k : Nat) (x : Str) (st : Stmt) (ps : List Str) (sp : Sp) (e : Addr) : Prop where
 ex : ∃ f fd, FnOk P w K mg base CX0 k f fd ps sp ∧ FunD K x st f fd e ∧ mg x = some (.ref f)
theorem DnD.of {P : Program} {w : World} {K : PySem.W.Frag} {mg : Str → Option Value} {base : Heap} {x : Str} {st : Stmt} {N ps : List Str} {k : Nat} {sp : Sp} {e : Addr} (U : ∃ f fd, FunD K x st f fd e ∧ mg x = some (.ref f)) (S : FnScope N ps (defScope st)) (len : ∀ vs H Q E, sp vs H Q E → vs.length = ps.length)
  (hbody : ∀ (f : Addr) (cdv : Value) (A : Around) (outer : List Env) (s : Shared) (H : Hp) (vs : List V) (Q : VK) (E : XK), Room k (A.deeper (envOfC x (defScope st) s.heap.objs.size f cdv)) → sp vs H Q E →
   ∃ t, PSs (cxOf CX0 P w K mg base N x (defScope st) f cdv A outer s H E).nox (defBody st) t ∧ t { nx := fun _ H' => Q .non H', rt := Q } (start N vs) H) : DnD P w K mg base (k + 1) x st ps sp e := by
 obtain ⟨f, fd, F, m⟩ := U
 refine ⟨f, fd, ?_, F, m⟩
 obtain ⟨oc, od, T, kV, doc, pm, an, cdv, ct, osl, oT, n, rfl, lk, hcd, hT, hd⟩ := F.ex
 refine Zrn lk hcd S len fun A outer s H vs Q E hr hsp => ?_
 obtain ⟨t, h, q⟩ := hbody f cdv A outer s H vs Q E hr hsp
 exact ⟨t, h.nox, q⟩
section
variable {X : Cx} {k : Nat} {x : Str} {st : Stmt} {ps ks : List Str} {sp : Sp} {p pos : Pos} {e : Expr} {es : List Expr} {kws : List Keyword} {t tk : TA} {na nk : Nat} {pick : List (Nat × Nat)} {d : Addr}
end
end L2
namespace L2
open PySem PySem.Spec PyProof.Rows
section
variable {prog : Program} {w : World} {A : Around} {E : Value → Shared → Prop} {s : Shared}
open HT in
theorem Ze9 {t sl : Addr} {items : Array Value} {vl vu : Value} {lo hi : Option Int} {Q : Value → Shared → Prop} (ht : IsTup s.heap t items) (hs : s.heap.IsSliceOf sl vl vu .none) (pl : IsPart vl lo) (pu : IsPart vu hi)
  (hw : sIx items.size 0 lo = 0 ∧ sIx items.size items.size hi = items.size) (h : Q (.ref t) s) : wpAny (model prog w) A (getItem (.ref t) (.ref sl)) Q E s := by
 obtain ⟨os, hos, hcs, hds⟩ := id hs
 have hTs : s.TypeIs (.ref sl) "slice" := ⟨os, hos, hcs⟩
 unfold getItem
 try with_reducible refine wpAny_holding ?_
 first | refine wpAny_bind (wpAny_pure ?_) | skip
 refine wpAny_bind (wpAny_sequenceKey ht.typeIs (by decide) ?_)
 refine wpAny_bind (wpAny_callSpecial?_slot (name := Str.ofString "__getitem__") ht.typeIs PyProof.Rows.slot_tuple_getitem
  (wpAny_call_entry PyProof.Rows.slot_tuple_getitem ht.typeIs entry_tuple_getitem ?_ (args_tuple_getitem _ _)))
 show wpAny _ _ (Builtin.Tuple.tupleItemsOf (.ref t) >>= _) _ _ s
 refine wpAny_bind (tupleItemsOf_ ht ?_)
 refine wpAny_bind (wpAny_typeOf hTs ?_)
 rw [if_pos (by decide)]
 refine wpAny_bind (Zdj hs pl pu ?_)
 show wpAny _ _ (if (((sIx items.size 0 lo : Nat) : Int) == 0 && (1 : Int) == 1 && (sIx items.size items.size hi - sIx items.size 0 lo) == items.size) = true then _ else _) _ _ s
 rw [if_pos (by rw [hw.1, hw.2]; simp)]
 refine wpAny_bind ?_
 unfold Builtin.Tuple.tupleIsExact
 refine wpAny_bind (wpAny_typeOf ht.typeIs (wpAny_pure ?_))
 rw [if_pos (by decide)]
 exact wpAny_bind (wpAny_rule (wpAny_pure ⟨_, rfl, wpAny_pure h⟩))
end
section
variable {X : Cx}
end
end L2
namespace L2
open PySem PySem.Spec PyProof.Rows
section
variable {κ : Type} [DecidableEq κ]
noncomputable def valV (kvs : List (κ × V)) (k : κ) : Option V := (kvs.find? fun kv => decide (kv.1 = k)).map (·.2)
noncomputable def putK (kvs : List (κ × V)) (k : κ) (v : V) : List (κ × V) :=
 if (kvs.any fun kv => decide (kv.1 = k)) = true then kvs.map (fun kv => if kv.1 = k then (kv.1, v) else kv) else kvs ++ [(k, v)]
theorem Zf5 {p : κ × V} {r : List (κ × V)} {k : κ} (e : p.1 = k) : valV (p :: r) k = some p.2 := by simp [valV, List.find?_cons, e]
theorem Zf4 {p : κ × V} {r : List (κ × V)} {k : κ} (e : ¬ p.1 = k) : valV (p :: r) k = valV r k := by simp [valV, List.find?_cons, e]
theorem Zl4 (k : κ) : ∀ kvs : List (κ × V), (kvs.any fun kv => decide (kv.1 = k)) = (valV kvs k).isSome
 | [] => rfl
 | p :: r => by
  rw [List.any_cons]
  by_cases e : p.1 = k
  ·simp only [Zf5 e, decide_eq_true e, Bool.true_or, Option.isSome_some]
  ·rw [Zf4 e, decide_eq_false e, Bool.false_or]; exact Zl4 k r
theorem Zdc (kvs : List (κ × V)) (k : κ) (v : V) : (putK kvs k v).length ≤ kvs.length + 1 := by
 unfold putK
 split
 ·rw [lmp]; omega
 ·rw [List.length_append, List.length_cons, List.length_nil]; omega
theorem RelO.isSome_eq {o : Option V} {u : Option Value} (r : RelO o u) : o.isSome = u.isSome := by
 cases o with
 | none => cases u with
  | none => rfl
  | some _ => exact (show False from r).elim
 | some _ => cases u with
  | none => exact (show False from r).elim
  | some _ => rfl
theorem RelO.getD {o : Option V} {u : Option Value} {d : V} {d' : Value} (r : RelO o u) (rd : RelV d d') : RelV (o.getD d) (u.getD d') := by
 cases o with
 | none => cases u with
  | none => exact rd
  | some _ => exact (show False from r).elim
 | some _ => cases u with
  | none => exact (show False from r).elim
  | some _ => exact r
theorem KV.val {kvs : List (κ × V)} {vs : List (κ × Value)} (r : KV kvs vs) (k : κ) : RelO (valV kvs k) (valueAt vs k) := by
 unfold KV at r
 induction r with
 | nil => exact True.intro
 | @cons p q ps qs h t ih =>
  obtain ⟨h1, h2⟩ := h
  by_cases e : p.1 = k
  ·have e' : q.1 = k := h1.symm.trans e
   have b : valueAt (q :: qs) k = some q.2 := by simp [valueAt, List.find?_cons, e']
   rw [Zf5 e, b]; exact h2
  ·have e' : ¬ q.1 = k := fun z => e (h1.trans z)
   have b : valueAt (q :: qs) k = valueAt qs k := by simp [valueAt, List.find?_cons, e']
   rw [Zf4 e, b]; exact ih
theorem KV.any {kvs : List (κ × V)} {vs : List (κ × Value)} (r : KV kvs vs) (k : κ) : (kvs.any fun kv => decide (kv.1 = k)) = vs.any fun kv => decide (kv.1 = k) := by
 unfold KV at r
 induction r with
 | nil => rfl
 | cons h t ih => rw [List.any_cons, List.any_cons, ih, h.1]
theorem KV.repl {kvs : List (κ × V)} {vs : List (κ × Value)} (r : KV kvs vs) (k : κ) {y : V} {u : Value} (ry : RelV y u) :
  KV (kvs.map fun kv => if kv.1 = k then (kv.1, y) else kv) (vs.map fun kv => if kv.1 = k then (kv.1, u) else kv) := by
 unfold KV at r ⊢
 induction r with
 | nil => exact .nil
 | @cons p q ps qs h t ih =>
  rw [List.map_cons, List.map_cons]
  refine .cons ?_ ih
  obtain ⟨h1, h2⟩ := h
  by_cases e : p.1 = k
  ·rw [if_pos e, if_pos (h1.symm.trans e)]; exact ⟨h1, ry⟩
  ·rw [if_neg e, if_neg (fun z => e (h1.trans z))]; exact ⟨h1, h2⟩
theorem KV.put {kvs : List (κ × V)} {vs : List (κ × Value)} (r : KV kvs vs) (k : κ) {y : V} {u : Value} (ry : RelV y u) : KV (putK kvs k y) (stored vs k u) := by
 unfold putK stored
 rw [r.any k]
 by_cases e : (vs.any fun kv => decide (kv.1 = k)) = true
 ·rw [if_pos e, if_pos e]; exact r.repl k ry
 ·rw [if_neg e, if_neg e]; exact Paired.snoc r ⟨rfl, ry⟩
theorem KV.keys {kvs : List (κ × V)} {vs : List (κ × Value)} (r : KV kvs vs) : kvs.map (·.1) = vs.map (·.1) := by
 unfold KV at r
 induction r with
 | nil => rfl
 | cons h t ih => rw [List.map_cons, List.map_cons, ih, h.1]
theorem KV.length {kvs : List (κ × V)} {vs : List (κ × Value)} (r : KV kvs vs) : kvs.length = vs.length := Paired.length r
end
theorem Zoi {P : Program} {w : World} {k : Key} {u : Value} (r : RelV (kV k) u) : (mixKind P w).is k u = true := by
 cases k with
 | inl i => obtain ⟨t, e⟩ := (show ∃ t, u = Value.int i t from r); subst e; exact Zjq P w i t
 | inr x => obtain ⟨t, e⟩ := (show ∃ t, u = Value.str x t from r); subst e; exact Zjr P w x t
theorem Zik {P : Program} {w : World} : ∀ {ks : List Key} {us : List Value}, Vals (ks.map kV) us → ItemsAre (mixKind P w) ks us
 | [], _, r => by rw [List.map_nil] at r; cases r; exact .nil
 | k :: ks, _, r => by
  rw [List.map_cons] at r
  cases r with
  | cons h t => exact .cons (Zoi h) (Zik t)
noncomputable abbrev KT (H : Hp) : List (List Key × V) → List (List Key × Addr × Value) → Prop := Paired fun p q => p.1 = q.1 ∧ H q.2.1 = some (.tup (p.1.map kV)) ∧ RelV p.2 q.2.2
theorem KT.val {H : Hp} {kvs : List (List Key × V)} {xs : List (List Key × Addr × Value)} (r : KT H kvs xs) (k : List Key) : RelO (valV kvs k) ((atKey xs k).map (·.2)) := by
 induction r with
 | nil => exact True.intro
 | @cons p q ps qs h t ih =>
  obtain ⟨h1, _, h2⟩ := h
  by_cases e : p.1 = k
  ·have e' : q.1 = k := h1.symm.trans e
   have b : atKey (q :: qs) k = some q.2 := by simp [atKey, List.find?_cons, e']
   rw [Zf5 e, b]; exact h2
  ·have e' : ¬ q.1 = k := fun z => e (h1.trans z)
   have b : atKey (q :: qs) k = atKey qs k := by simp [atKey, List.find?_cons, e']
   rw [Zf4 e, b]; exact ih
theorem KT.repl {H : Hp} {kvs : List (List Key × V)} {xs : List (List Key × Addr × Value)} (r : KT H kvs xs) (k : List Key) {y : V} {u : Value} (ry : RelV y u) :
  KT H (kvs.map fun kv => if kv.1 = k then (kv.1, y) else kv) (xs.map (putAt k u)) := by
 induction r with
 | nil => exact .nil
 | @cons p q ps qs h t ih =>
  rw [List.map_cons, List.map_cons]
  refine .cons ?_ ih
  obtain ⟨h1, h2, h3⟩ := h
  unfold putAt
  by_cases e : p.1 = k
  ·rw [if_pos e, if_pos (h1.symm.trans e)]; exact ⟨h1, h2, ry⟩
  ·rw [if_neg e, if_neg (fun z => e (h1.trans z))]; exact ⟨h1, h2, h3⟩
theorem KT.put {H : Hp} {kvs : List (List Key × V)} {xs : List (List Key × Addr × Value)} (r : KT H kvs xs) (k : List Key) {b : Addr} {y : V} {u : Value} (hb : H b = some (.tup (k.map kV))) (ry : RelV y u) :
  KT H (putK kvs k y) (storedH xs k b u) := by
 have e : (kvs.any fun kv => decide (kv.1 = k)) = (atKey xs k).isSome := by
  rw [Zl4, (r.val k).isSome_eq, Option.isSome_map]
 unfold putK storedH
 rw [e]
 by_cases q : (atKey xs k).isSome = true
 ·rw [if_pos q, if_pos q]; exact r.repl k ry
 ·rw [if_neg q, if_neg q]; exact Paired.snoc r ⟨rfl, hb, ry⟩
theorem KT.keeps {H H' : Hp} {kvs : List (List Key × V)} {xs : List (List Key × Addr × Value)} (r : KT H kvs xs) (ht : ∀ b ys, H b = some (.tup ys) → H' b = some (.tup ys)) : KT H' kvs xs :=
 Paired.mapP r fun _ _ z => ⟨z.1, ht _ _ z.2.1, z.2.2⟩
section
variable {P : Program} {w : World} {H : Hp} {h : Heap} {a : Addr}
theorem Zsl {u : HO} (ok : HOk P w H h) (e : Rd H a u) : ObjOk P w H h a u := e.ok ok
theorem Zq4 {kvs : List (Key × V)} (ok : HOk P w H h) (e : Rd H a (.dK kvs)) : kvs.length ≤ sizeLine ∧ (a == sysModules) = false ∧ ∃ vs, KV kvs vs ∧ h.DictOf (mixKind P w) a vs :=
 show ObjOk P w H h a (.dK kvs) from Zsl ok e
theorem Zrk {kvs : List (Key × V)} (ok : HOk P w H h) (e : H a = some (.dK kvs)) : kvs.length ≤ sizeLine ∧ (a == sysModules) = false ∧ ∃ vs, KV kvs vs ∧ h.DictOf (mixKind P w) a vs := Zq4 ok (.inl e)
theorem Zki {ks : List Key} (ok : HOk P w H h) (e : H a = some (.tup (ks.map kV))) : (tupleKind (mixKind P w)).is h ks a := by
 obtain ⟨_, its, r, o, h1, h2, n, h3⟩ := (show ObjOk P w H h a (.tup (ks.map kV)) from ok a _ e)
 exact ⟨o, its.toArray, n, h1, h2, h3, by simpa using Zik r⟩
theorem Zq6 {kvs : List (List Key × V)} (ok : HOk P w H h) (e : Rd H a (.dT kvs)) : kvs.length ≤ sizeLine ∧ (a == sysModules) = false ∧
  ∃ xs, KT H kvs xs ∧ h.DictOfH (tupleKind (mixKind P w)) a xs := by
 obtain ⟨z, y, xs, r, o, es, ep, h1, h2, h3, h4, h5⟩ := (show ObjOk P w H h a (.dT kvs) from Zsl ok e)
 refine ⟨z, y, xs, r, o, es, ep, h1, h2, h3, h4, fun x hx => ?_, h5⟩
 have all : ∀ {l : List (List Key × V)} {m : List (List Key × Addr × Value)}, KT H l m → ∀ x ∈ m, (tupleKind (mixKind P w)).is h x.1 x.2.1 := by
  intro l m q
  induction q with
  | nil => intro x hx; exact nomatch hx
  | @cons p q ps qs hq t ih =>
   intro x hx
   rcases List.mem_cons.mp hx with e | hx
   ·subst e
    exact Zki ok (by rw [← hq.1]; exact hq.2.1)
   ·exact ih x hx
 exact all r x hx
theorem Zrm {kvs : List (List Key × V)} (ok : HOk P w H h) (e : H a = some (.dT kvs)) : kvs.length ≤ sizeLine ∧ (a == sysModules) = false ∧
  ∃ xs, KT H kvs xs ∧ h.DictOfH (tupleKind (mixKind P w)) a xs := Zq6 ok (.inl e)
end
noncomputable def DGet (H : Hp) (a : Addr) (y : V) (r : Option V) : Prop :=
 (∃ kvs k, Rd H a (.dK kvs) ∧ y = kV k ∧ r = valV kvs k) ∨ ∃ kvs k b, Rd H a (.dT kvs) ∧ y = .ref b ∧ H b = some (.tup (k.map kV)) ∧ r = valV kvs k
noncomputable def DPut (H : Hp) (a : Addr) (y v : V) (H' : Hp) : Prop :=
 (∃ kvs k, H a = some (.dK kvs) ∧ y = kV k ∧ kvs.length < sizeLine ∧ H' = upd H a (.dK (putK kvs k v))) ∨
 ∃ kvs k b, H a = some (.dT kvs) ∧ y = .ref b ∧ H b = some (.tup (k.map kV)) ∧ kvs.length < sizeLine ∧ H' = upd H a (.dT (putK kvs k v))
theorem DGet.k {H : Hp} {a : Addr} {kvs : List (Key × V)} {k : Key} (e : H a = some (.dK kvs)) : DGet H a (kV k) (valV kvs k) := .inl ⟨kvs, k, .inl e, rfl, rfl⟩
theorem DGet.t {H : Hp} {a b : Addr} {kvs : List (List Key × V)} {k : List Key} (e : H a = some (.dT kvs)) (eb : H b = some (.tup (k.map kV))) : DGet H a (.ref b) (valV kvs k) := .inr ⟨kvs, k, b, .inl e, rfl, eb, rfl⟩
theorem DPut.k {H : Hp} {a : Addr} {kvs : List (Key × V)} {k : Key} {v : V} (e : H a = some (.dK kvs)) (hl : kvs.length < sizeLine) : DPut H a (kV k) v (upd H a (.dK (putK kvs k v))) := .inl ⟨kvs, k, e, rfl, hl, rfl⟩
theorem DPut.t {H : Hp} {a b : Addr} {kvs : List (List Key × V)} {k : List Key} {v : V} (e : H a = some (.dT kvs)) (eb : H b = some (.tup (k.map kV))) (hl : kvs.length < sizeLine) :
  DPut H a (.ref b) v (upd H a (.dT (putK kvs k v))) := .inr ⟨kvs, k, b, e, rfl, eb, hl, rfl⟩
section
variable {X : Cx} {pins : List (Addr × Obj)} {σ : St} {H : Hp} {s : Shared} {a : Addr} {y v : V} {u r : Value} {o : Option V} {A : Around} {E : Value → Shared → Prop}
theorem Inv.big (I : Inv X pins σ H s) : sysModules < s.heap.objs.size := by
 have h : mainGlobals < s.heap.objs.size := (I.mod.glob.keeps I.bk).lt
 exact Nat.lt_trans (by decide) h
theorem Zmm {Q : Value → Shared → Prop} (hu : A.units + 1 < cLine) (I : Inv X pins σ H s) (g : DGet H a y (some v)) (ry : RelV y u) (h : ∀ w' s', Inv X pins σ H s' → RelV v w' → Q w' s') :
  wpAny (model X.prog X.w) A (getItem (.ref a) u) Q E s := by
 rcases g with ⟨kvs, k, e, ey, l⟩ | ⟨kvs, k, b, e, ey, eb, l⟩
 ·subst ey
  obtain ⟨z, hd, vs, rel, dd⟩ := Zq4 I.hok e
  obtain ⟨w', hw, rw'⟩ := RelO.some_of (v := v) (o := valueAt vs k) (by rw [l]; exact rel.val k)
  exact wpAny_getItem_of (Zoi ry) dd.mapOf hw (h w' _ (I.tok _) rw')
 ·subst ey
  cases (show u = Value.ref b from ry)
  obtain ⟨z, hd, xs, rel, dd⟩ := Zq6 I.hok e
  obtain ⟨w', hw, rw'⟩ := RelO.some_of (v := v) (o := (atKey xs k).map (·.2)) (by rw [l]; exact rel.val k)
  obtain ⟨p, hp, hp2⟩ := Option.map_eq_some_iff.mp hw
  refine wpAny_getItem_heap (tupleKind_room_in1 hu) (Zki I.hok eb) dd hp ?_
  rw [hp2]
  exact h w' _ (I.tok _) rw'
theorem Zgr {h' : Heap} {t' : Nat} {ob : HO} (I : Inv X pins σ H s) (mu : Mut (H a)) (hs : Heap.SameBut a s.heap h') (he : ∃ q, h'.get? a = some q) (new : ObjOk X.prog X.w (upd H a ob) h' a ob) :
  Inv X pins σ (upd H a ob) { s with heap := h', toks := t' } :=
 I.write (x := a) (e := a) mu (.inl rfl) (fun b q hb z => (hs.2 b hb).trans z) he new
theorem Zpp {P : Program} {w : World} {H' : Hp} {h' : Heap} {kvs : List (Key × V)} {vs : List (Key × Value)} (z : kvs.length ≤ sizeLine) (hd : (a == sysModules) = false) (rel : KV kvs vs) (dd : h'.DictOf (mixKind P w) a vs) :
  ObjOk P w H' h' a (.dK kvs) := ⟨z, hd, vs, rel, dd⟩
theorem Zmn {H' : Hp} {Q : Unit → Shared → Prop} (hu : A.units + 1 < cLine) (I : Inv X pins σ H s) (g : DPut H a y v H') (ry : RelV y u) (rv : RelV v r) (h : ∀ s', Inv X pins σ H' s' → Q () s') :
  wpAny (model X.prog X.w) A (setItem (.ref a) u r) Q E s := by
 rcases g with ⟨kvs, k, e, ey, l, eH⟩ | ⟨kvs, k, b, e, ey, eb, l, eH⟩
 ·subst ey eH
  obtain ⟨z, hd, vs, rel, dd⟩ := Zrk I.hok e
  have hz : vs.length ≤ sizeLine := by rw [← rel.length]; exact z
  have hl : (putK kvs k v).length ≤ sizeLine := by have := Zdc kvs k v; omega
  refine wpAny_setItem_pairs (hsz := hz) (Zoi ry) dd fun h' dd' hs => h _ ?_
  have he : ∃ q, h'.get? a = some q := let ⟨q, _, _, hq, _⟩ := dd'; ⟨q, hq⟩
  exact Zgr I (by rw [e]; exact True.intro) hs he (Zpp hl hd (rel.put k rv) dd')
 ·subst ey eH
  cases (show u = Value.ref b from ry)
  obtain ⟨z, hd, xs, rel, dd⟩ := Zrm I.hok e
  have hz : xs.length ≤ sizeLine := by rw [← Paired.length rel]; exact z
  have hl : (putK kvs k v).length ≤ sizeLine := by have := Zdc kvs k v; omega
  refine wpAny_setItem_heap (hsz := hz) (tupleKind_room_in1 hu) (Zki I.hok eb) dd fun h' dd' hs => h _ ?_
  obtain ⟨q, es, ep, hq, h2, h3, h4, _, h5⟩ := dd'
  refine Zgr I (by rw [e]; exact True.intro) hs ⟨q, hq⟩ ⟨hl, hd, _, (rel.put k eb rv).keeps fun c ys ec => ?_, q, es, ep, hq, h2, h3, h4, h5⟩
  rw [Zah (Zrv ec e (fun z => nomatch z))]
  exact ec
end
section
variable {X : Cx} {pins : List (Addr × Obj)} {σ : St} {H : Hp} {s : Shared} {a : Addr} {kvs : List (Key × V)} {k : Key} {u : Value} {A : Around} {E : Value → Shared → Prop}
end
noncomputable def NoSl (i : Expr) : Prop := ∀ ov iv, subscripted i false ov iv = operate [ov, iv] (getItem ov iv)
theorem Zr8 {prog : Program} {w : World} {A : Around} {E : Value → Shared → Prop} {s : Shared} {env : Env} {value slice : Expr} {pos : Pos} {T id : String} {Q : Value → Shared → Prop}
  (hl : typeLookup (.type T) "__getitem__" = pure (some (.builtin id))) (hs : NoSl slice)
  (h : wpAny (model prog w) A (eval value env) (fun o s₁ => wpAny (model prog w) A (eval slice env) (fun i s₂ => s₂.TypeIs o T ∧ wpAny (model prog w) A (getItem o i) Q E s₂) E s₁) E s) :
  wpAny (model prog w) A (eval (.Subscript value slice pos) env) Q E s := by
 refine Subscript_ (wpAny_mono h (fun o s₁ h₁ => wpAny_mono h₁ (fun i s₂ h₂ => ?_) fun _ _ x => x) fun _ _ x => x)
 obtain ⟨hT, h₂⟩ := h₂
 unfold subscriptTail
 refine wpAny_bind ?_
 rw [getitemInPython_of_ne hT.not_modules]
 refine wpAny_bind (wpAny_specialOf hT hl ?_)
 have fin : wpAny (model prog w) A (subscripted slice false o i) (fun r s₃ => wpAny (model prog w) A (letTemporaryGo value o r >>= fun _ => pure r) Q E s₃) E s₂ := by
  rw [hs o i]
  exact wpAny_operating (wpAny_mono h₂ (fun r s₃ h₃ => wpAny_bind (wpAny_letTemporaryGo (wpAny_pure h₃))) fun _ _ x => x)
 first
  | exact wpAny_pure (wpAny_bind fin)
  | exact wpAny_bind (wpAny_pure (wpAny_bind fin))
  | exact wpAny_bind fin
theorem Zj7 {X : Cx} {pins : List (Addr × Obj)} {σ : St} {H : Hp} {s : Shared} {a : Addr} {y : V} {o : Option V} (I : Inv X pins σ H s) (g : DGet H a y o) : s.TypeIs (.ref a) "dict" := by
 rcases g with ⟨kvs, k, e, _, _⟩ | ⟨kvs, k, b, e, _, _, _⟩
 ·obtain ⟨_, _, vs, _, dd⟩ := Zq4 I.hok e
  exact dd.typeIs
 ·obtain ⟨_, _, xs, _, dd⟩ := Zq6 I.hok e
  exact dd.typeIs
noncomputable def tDGet (td ty : TE) : TE := fun σ H Q => td σ H fun x H1 => ty σ H1 fun y H2 => ∃ a v, x = .ref a ∧ DGet H2 a y (some v) ∧ Q v H2
noncomputable def sDPut (td ty tv : TE) : TS := fun D σ H => tv σ H fun v H1 => td σ H1 fun x H2 => ty σ H2 fun y H3 => ∃ a H4, x = .ref a ∧ DPut H3 a y v H4 ∧ D.nx σ H4
section
variable {X : Cx} {o i e value : Expr} {pos pos' tpos : Pos} {td ty tv : TE}
theorem Zqj (hu : X.A.units + 1 < cLine) (ho : PE X o td) (hi : PE X i ty) (hs : NoSl i) : PE X (.Subscript o i pos) (tDGet td ty) := by
 intro pins s σ H Q I h
 refine Zr8 PySem.F.slot_dict_getitem.lookup hs (thn (ho pins s σ H _ I h) fun u s1 ⟨x, H1, I1, rx, q1⟩ => thn (hi pins s1 σ H1 _ I1 q1) fun iv s2 ⟨y, H2, I2, ry, a, v, ex, g, q2⟩ => ?_)
 subst ex
 obtain rfl : u = Value.ref a := rx
 exact ⟨Zj7 I2 g, Zmm hu I2 g ry fun w' s3 I3 rw' => ⟨v, H2, I3, rw', q2⟩⟩
theorem Zqs (hu : X.A.units + 1 < cLine) (ho : PE X o td) (hi : PE X i ty) (hv : PE X value tv) (hs : swapsWith value (some (.Subscript o i pos')) pos.line X.env = pure false) :
  PS X (.Assign [.Subscript o i pos'] value pos) (sDPut td ty tv) := by
 intro pins s σ H D I h
 refine wpAny_Assign_Subscript (thn (hv pins s σ H _ I h) fun r s1 ⟨v, H1, I1, rv, q1⟩ => thn (ho pins s1 σ H1 _ I1 q1) fun u s2 ⟨x, H2, I2, rx, q2⟩ => thn (hi pins s2 σ H2 _ I2 q2) fun iv s3 ⟨y, H3, I3, ry, a, H4, ex, g, q3⟩ => ?_) hs
 subst ex
 obtain rfl : u = Value.ref a := rx
 exact Zmn hu I3 g ry rv fun s4 I4 => ⟨σ, H4, I4, q3⟩
end
theorem Zoc {P : Program} {w : World} {H : Hp} (h : Heap) (hb : sysModules < h.objs.size) : ObjOk P w H (h.push { cls := .type "dict", data := .dict #[] }) h.objs.size (.dT []) :=
 ⟨Nat.zero_le _, beq_eq_false_iff_ne.mpr (Ne.symm (Nat.ne_of_lt hb)), [], .nil, _, #[], 0, Heap.get?_push_size _ rfl, ⟨rfl, rfl, rfl⟩, rfl, rfl, List.nodup_nil⟩
noncomputable def tDNewT : TE := fun _ H Q => ∀ p, H p = none → Q (.ref p) (upd H p (.dT []))
section
variable {X : Cx} {pos : Pos}
theorem Zos : PE X (.Dict [] [] pos) tDNewT := fun pins s σ H Q I h =>
 wpAny_Dict_empty ⟨.ref s.heap.objs.size, _, I.laid (a := s.heap.objs.size) (o := .dT []) (t' := s.toks) (fun _ _ q => Heap.get?_push_of_some _ q) (Nat.le_refl _) (Zoc s.heap I.big), rfl, h _ (I.hok.fresh (Nat.le_refl _))⟩
end
section
variable {X : Cx} {pins : List (Addr × Obj)} {σ : St} {H : Hp} {s : Shared} {a : Addr} {y d : V} {u r : Value} {o : Option V} {A : Around} {E : Value → Shared → Prop}
end
section
variable {X : Cx} {o e f : Expr} {apos cpos : Pos} {td ty tx : TE}
end
section
variable {X : Cx} {pins : List (Addr × Obj)} {σ : St} {H : Hp} {s : Shared} {a : Addr} {kvs : List (Key × V)} {A : Around} {E : Value → Shared → Prop}
end
section
variable {X : Cx} {pins : List (Addr × Obj)} {σ : St} {H : Hp} {s : Shared} {a : Addr} {y : V} {u : Value} {A : Around} {E : Value → Shared → Prop}
end
end L2
namespace L2
open PySem PySem.Spec PyProof.Rows
section
variable {κ : Type} [DecidableEq κ]
end
end L2
namespace L2
open PySem PySem.Spec PyProof.Rows
mutual
noncomputable def DW (K : PySem.W.Frag) (G : Hp) : PyData → V → Prop
 | .none, v => v = .non
 | .bool b, v => v = .bl b
 | .int i, v => v = .int i
 | .str x, v => v = .str x
 | .list ds, v => ∃ a xs, v = .ref a ∧ G a = some (.lst xs) ∧ DWs K G ds xs
 | .tuple ds, v => ∃ a xs, v = .ref a ∧ (G a = some (.tup xs) ∨ (ds = [] ∧ SqT K G a xs)) ∧ DWs K G ds xs
 | .dict kvs, v => ∃ a ks, v = .ref a ∧ G a = some (.dT ks) ∧ DWk K G kvs ks
noncomputable def DWs (K : PySem.W.Frag) (G : Hp) : List PyData → List V → Prop
 | [], xs => xs = []
 | d :: ds, xs => ∃ x r, xs = x :: r ∧ DW K G d x ∧ DWs K G ds r
noncomputable def DWk (K : PySem.W.Frag) (G : Hp) : List (PyData × PyData) → List (List Key × V) → Prop
 | [], ks => ks = []
 | (k, d) :: r, ks => ∃ (ns : List Int) (x : V) (t : List (List Key × V)), ks = (ns.map Sum.inl, x) :: t ∧ k = tI ns ∧ DW K G d x ∧ DWk K G r t
end
section
variable {K : PySem.W.Frag} {G G' H H' : Hp}
mutual
theorem DW.same (e : Same G G') : ∀ {d : PyData} {v : V}, DW K G d v → DW K G' d v
 | .none, _, h => by unfold DW at h ⊢; exact h
 | .bool _, _, h => by unfold DW at h ⊢; exact h
 | .int _, _, h => by unfold DW at h ⊢; exact h
 | .str _, _, h => by unfold DW at h ⊢; exact h
 | .list ds, _, h => by
  unfold DW at h ⊢
  obtain ⟨a, xs, q1, q2, q3⟩ := h
  exact ⟨a, xs, q1, e _ _ q2, DWs.same e q3⟩
 | .tuple ds, _, h => by
  unfold DW at h ⊢
  obtain ⟨a, xs, q1, q2, q3⟩ := h
  exact ⟨a, xs, q1, q2.imp (e _ _) (fun z => ⟨z.1, e.tup z.2⟩), DWs.same e q3⟩
 | .dict kvs, _, h => by
  unfold DW at h ⊢
  obtain ⟨a, ks, q1, q2, q3⟩ := h
  exact ⟨a, ks, q1, e _ _ q2, DWk.same e q3⟩
theorem DWs.same (e : Same G G') : ∀ {ds : List PyData} {xs : List V}, DWs K G ds xs → DWs K G' ds xs
 | [], _, h => by unfold DWs at h ⊢; exact h
 | d :: ds, _, h => by
  unfold DWs at h ⊢
  obtain ⟨x, r, q1, q2, q3⟩ := h
  exact ⟨x, r, q1, DW.same e q2, DWs.same e q3⟩
theorem DWk.same (e : Same G G') : ∀ {kvs : List (PyData × PyData)} {ks : List (List Key × V)}, DWk K G kvs ks → DWk K G' kvs ks
 | [], _, h => by unfold DWk at h ⊢; exact h
 | (k, d) :: r, _, h => by
  unfold DWk at h ⊢
  obtain ⟨ns, x, t, q0, q1, q2, q3⟩ := h
  exact ⟨ns, x, t, q0, q1, DW.same e q2, DWk.same e q3⟩
end
mutual
theorem DW.dv (e : Same G H) : ∀ {d : PyData} {v : V}, d.hasDict = false → DW K G d v → DV K H d v
 | .none, _, _, h => by unfold DW at h; unfold DV; exact h
 | .bool _, _, _, h => by unfold DW at h; unfold DV; exact h
 | .int _, _, _, h => by unfold DW at h; unfold DV; exact h
 | .str _, _, _, h => by unfold DW at h; unfold DV; exact h
 | .list ds, _, n, h => by
  unfold DW at h; unfold DV
  obtain ⟨a, xs, q1, q2, q3⟩ := h
  exact ⟨a, xs, q1, SqL.of (e _ _ q2), DWs.dv e (by simpa [PyData.hasDict] using n) q3⟩
 | .tuple ds, _, n, h => by
  unfold DW at h; unfold DV
  obtain ⟨a, xs, q1, q2, q3⟩ := h
  refine ⟨a, xs, q1, ?_, DWs.dv e (by simpa [PyData.hasDict] using n) q3⟩
  rcases q2 with q2 | ⟨_, q2⟩
  ·exact SqT.of (e _ _ q2)
  ·exact e.tup q2
 | .dict kvs, _, n, h => by simp [PyData.hasDict] at n
theorem DWs.dv (e : Same G H) : ∀ {ds : List PyData} {xs : List V}, PyData.hasDictAll ds = false → DWs K G ds xs → DVs K H ds xs
 | [], _, _, h => by unfold DWs at h; unfold DVs; exact h
 | d :: ds, _, n, h => by
  unfold DWs at h; unfold DVs
  obtain ⟨x, r, q1, q2, q3⟩ := h
  simp only [PyData.hasDictAll, Bool.or_eq_false_iff] at n
  exact ⟨x, r, q1, DW.dv e n.1 q2, DWs.dv e n.2 q3⟩
end
theorem DWs.nil : DWs K G [] [] := by unfold DWs; rfl
theorem DWs.cons {d : PyData} {ds : List PyData} {x : V} {xs : List V} (h : DW K G d x) (t : DWs K G ds xs) : DWs K G (d :: ds) (x :: xs) := by unfold DWs; exact ⟨x, xs, rfl, h, t⟩
theorem DWs.append : ∀ {ds es : List PyData} {xs ys : List V}, DWs K G ds xs → DWs K G es ys → DWs K G (ds ++ es) (xs ++ ys)
 | [], _, _, _, h, t => by unfold DWs at h; subst h; exact t
 | d :: ds, es, _, ys, h, t => by
  unfold DWs at h
  obtain ⟨x, r, q1, q2, q3⟩ := h
  subst q1
  exact DWs.cons q2 (DWs.append q3 t)
theorem DWs.snoc {ds : List PyData} {d : PyData} {xs : List V} {x : V} (h : DWs K G ds xs) (t : DW K G d x) : DWs K G (ds ++ [d]) (xs ++ [x]) := DWs.append h (DWs.cons t DWs.nil)
theorem DWs.length : ∀ {ds : List PyData} {xs : List V}, DWs K G ds xs → ds.length = xs.length
 | [], _, h => by unfold DWs at h; subst h; rfl
 | d :: ds, _, h => by
  unfold DWs at h
  obtain ⟨x, r, q1, q2, q3⟩ := h
  subst q1
  rw [List.length_cons, List.length_cons, DWs.length q3]
theorem DWs.get : ∀ {ds : List PyData} {xs : List V} {i : Nat} {x : V}, DWs K G ds xs → xs[i]? = some x → ∃ d, ds[i]? = some d ∧ DW K G d x
 | [], _, i, x, h, e => by unfold DWs at h; subst h; simp at e
 | d :: ds, _, 0, x, h, e => by
  unfold DWs at h
  obtain ⟨y, r, q1, q2, q3⟩ := h
  subst q1
  simp at e; subst e
  exact ⟨d, rfl, q2⟩
 | d :: ds, _, i + 1, x, h, e => by
  unfold DWs at h
  obtain ⟨y, r, q1, q2, q3⟩ := h
  subst q1
  obtain ⟨d', h1, h2⟩ := DWs.get (i := i) (x := x) q3 (by simpa using e)
  exact ⟨d', by simpa using h1, h2⟩
theorem DWs.get' : ∀ {ds : List PyData} {xs : List V} {i : Nat} {d : PyData}, DWs K G ds xs → ds[i]? = some d → ∃ x, xs[i]? = some x ∧ DW K G d x := by
 intro ds xs i d h e
 have hi : i < xs.length := by rw [← h.length]; exact (List.getElem?_eq_some_iff.mp e).1
 obtain ⟨d', e1, e2⟩ := h.get (gEq hi)
 rw [e] at e1; cases e1
 exact ⟨_, gEq hi, e2⟩
theorem DWs.take : ∀ {ds : List PyData} {xs : List V} (k : Nat), DWs K G ds xs → DWs K G (ds.take k) (xs.take k)
 | [], xs, k, h => by unfold DWs at h; subst h; simp; exact DWs.nil
 | d :: ds, xs, 0, h => by simp; exact DWs.nil
 | d :: ds, xs, k + 1, h => by
  unfold DWs at h
  obtain ⟨x, r, rfl, h1, h2⟩ := h
  exact DWs.cons h1 (DWs.take k h2)
theorem DWs.drop : ∀ {ds : List PyData} {xs : List V} (k : Nat), DWs K G ds xs → DWs K G (ds.drop k) (xs.drop k)
 | [], xs, k, h => by unfold DWs at h; subst h; simp; exact DWs.nil
 | d :: ds, xs, 0, h => h
 | d :: ds, xs, k + 1, h => by
  unfold DWs at h
  obtain ⟨x, r, rfl, h1, h2⟩ := h
  exact DWs.drop k h2
theorem DWs.reverse : ∀ {ds : List PyData} {xs : List V}, DWs K G ds xs → DWs K G ds.reverse xs.reverse
 | [], xs, h => by unfold DWs at h; subst h; exact DWs.nil
 | d :: ds, xs, h => by
  unfold DWs at h
  obtain ⟨x, r, rfl, h1, h2⟩ := h
  rw [List.reverse_cons, List.reverse_cons]
  exact DWs.snoc (DWs.reverse h2) h1
theorem DWs.ints : ∀ ns : List Int, DWs K G (ns.map .int) (ns.map .int)
 | [] => by unfold DWs; rfl
 | n :: r => by unfold DWs; exact ⟨_, _, rfl, by unfold DW; rfl, DWs.ints r⟩
theorem DWs.ints_inv : ∀ {ns : List Int} {xs : List V}, DWs K G (ns.map .int) xs → xs = ns.map V.int
 | [], xs, h => by unfold DWs at h; exact h
 | n :: r, xs, h => by
  rw [List.map_cons] at h
  unfold DWs at h
  obtain ⟨x, t, rfl, h1, h2⟩ := h
  unfold DW at h1
  rw [h1, DWs.ints_inv h2]; rfl
theorem DWs.bools_inv : ∀ {ns : List Bool} {xs : List V}, DWs K G (ns.map .bool) xs → xs = ns.map V.bl
 | [], xs, h => by unfold DWs at h; exact h
 | n :: r, xs, h => by
  rw [List.map_cons] at h
  unfold DWs at h
  obtain ⟨x, t, rfl, h1, h2⟩ := h
  unfold DW at h1
  rw [h1, DWs.bools_inv h2]; rfl
theorem DW.list {a : Addr} {xs : List V} {ds : List PyData} (h : G a = some (.lst xs)) (t : DWs K G ds xs) : DW K G (.list ds) (.ref a) := by unfold DW; exact ⟨a, xs, rfl, h, t⟩
theorem DW.tup {a : Addr} {xs : List V} {ds : List PyData} (h : G a = some (.tup xs)) (t : DWs K G ds xs) : DW K G (.tuple ds) (.ref a) := by unfold DW; exact ⟨a, xs, rfl, .inl h, t⟩
theorem DW.tup_inv {v : V} {ds : List PyData} (h : DW K G (.tuple ds) v) : ∃ a xs, v = .ref a ∧ SqT K G a xs ∧ DWs K G ds xs := by
 unfold DW at h
 obtain ⟨a, xs, q1, q2, q3⟩ := h
 refine ⟨a, xs, q1, ?_, q3⟩
 rcases q2 with q2 | ⟨_, q2⟩
 ·exact SqT.of q2
 ·exact q2
theorem DW.list_inv {v : V} {ds : List PyData} (h : DW K G (.list ds) v) : ∃ a xs, v = .ref a ∧ G a = some (.lst xs) ∧ DWs K G ds xs := by
 unfold DW at h; exact h
theorem DW.int {i : Int} : DW K G (.int i) (.int i) := by unfold DW; rfl
theorem DW.bool {i : Bool} : DW K G (.bool i) (.bl i) := by unfold DW; rfl
theorem DW.str {i : Str} : DW K G (.str i) (.str i) := by unfold DW; rfl
theorem DW.none : DW K G .none .non := by unfold DW; rfl
theorem DW.int_inv {i : Int} {v : V} (h : DW K G (.int i) v) : v = .int i := by unfold DW at h; exact h
theorem DW.bool_inv {i : Bool} {v : V} (h : DW K G (.bool i) v) : v = .bl i := by unfold DW at h; exact h
theorem DW.str_inv {i : Str} {v : V} (h : DW K G (.str i) v) : v = .str i := by unfold DW at h; exact h
end
inductive Val where
 | d (x : PyData) | own (a : Addr) | raw (v : V) | scr (ns : List Int)
inductive Own where
 | lst (ds : List PyData) | urn (m : Nat) | dct (kvs : List (List Int × PyData))
noncomputable abbrev OW := Addr → Option Own
noncomputable def OW.put (w : OW) (a : Addr) (o : Own) : OW := fun b => if b = a then some o else w b
theorem OW.put_same {w : OW} {a : Addr} {o : Own} : w.put a o a = some o := by simp [OW.put]
theorem OW.put_ne {w : OW} {a b : Addr} {o : Own} (h : b ≠ a) : w.put a o b = w b := by simp [OW.put, h]
theorem OW.put_put {w : OW} {a : Addr} {o u : Own} : (w.put a o).put a u = w.put a u := by
 funext b; unfold OW.put; split <;> rfl
structure DS where
 e : List (Option Val)
 w : OW
noncomputable def DS.put (s : DS) (a : Addr) (o : Own) : DS := ⟨s.e, s.w.put a o⟩
noncomputable def DS.set (s : DS) (i : Nat) (v : Val) : DS := ⟨s.e.set i (some v), s.w⟩
noncomputable def VR (K : PySem.W.Frag) (G : Hp) : Val → V → Prop
 | .d x, v => DW K G x v
 | .own a, v => v = .ref a
 | .raw u, v => v = u
 | .scr ns, v => ∃ a, v = .ref a ∧ SqL K G a (ns.map V.int)
noncomputable def kvK (kvs : List (List Int × PyData)) : List (PyData × PyData) := kvs.map fun p => (tI p.1, p.2)
noncomputable def OwnAt (K : PySem.W.Frag) (G H : Hp) (a : Addr) : Own → Prop
 | .lst ds => ∃ xs, H a = some (.lst xs) ∧ DWs K G ds xs
 | .urn m => Urn H a m
 | .dct kvs => ∃ ks, H a = some (.dT ks) ∧ DWk K G (kvK kvs) ks
noncomputable def OwnOk (K : PySem.W.Frag) (G : Hp) (w : OW) (H : Hp) : Prop := ∀ a o, w a = some o → G a = none ∧ OwnAt K G H a o
noncomputable def SL (K : PySem.W.Frag) (G : Hp) (e : List (Option Val)) (σ : St) : Prop := e.length = σ.length ∧ ∀ (i : Nat) (v : Val), e[i]? = some (some v) → ∃ x, σ[i]? = some (some x) ∧ VR K G v x
structure Rel (K : PySem.W.Frag) (G : Hp) (s : DS) (σ : St) (H : Hp) : Prop where
 sub : Same G H
 own : OwnOk K G s.w H
 sl : SL K G s.e σ
section
variable {K : PySem.W.Frag} {G G' H H' : Hp} {s : DS} {σ : St}
theorem VR.same (e : Same G G') : ∀ {v : Val} {x : V}, VR K G v x → VR K G' v x
 | .d _, _, h => DW.same e h
 | .own _, _, h => h
 | .raw _, _, h => h
 | .scr _, _, ⟨a, h1, h2⟩ => ⟨a, h1, e.seq h2⟩
theorem SL.same {e : List (Option Val)} (q : Same G G') (h : SL K G e σ) : SL K G' e σ := ⟨h.1, fun i v z => by
 obtain ⟨x, h1, h2⟩ := h.2 i v z
 exact ⟨x, h1, h2.same q⟩⟩
theorem SL.set {e : List (Option Val)} {v : Val} {x : V} (h : SL K G e σ) (r : VR K G v x) (i : Nat) : SL K G (e.set i (some v)) (σ.set i (some x)) := by
 refine ⟨by simp [h.1], fun j u z => ?_⟩
 by_cases hj : i = j
 ·subst hj
  have hl : i < e.length := by
   have := (List.getElem?_eq_some_iff.mp z).1
   simpa using this
  rw [List.getElem?_set_self hl] at z
  cases z
  exact ⟨x, by rw [List.getElem?_set_self (by rw [← h.1]; exact hl)], r⟩
 ·rw [List.getElem?_set_ne hj] at z ⊢
  exact h.2 j u z
theorem OwnAt.there {a : Addr} : ∀ {o : Own}, OwnAt K G H a o → ∃ u, H a = some u
 | .lst _, ⟨xs, h, _⟩ => ⟨_, h⟩
 | .urn _, ⟨_, _, _, h, _⟩ => ⟨_, h⟩
 | .dct _, ⟨ks, h, _⟩ => ⟨_, h⟩
theorem OwnAt.mono {a : Addr} (e : Same G G') (q : H' a = H a) : ∀ {o : Own}, OwnAt K G H a o → OwnAt K G' H' a o
 | .lst _, ⟨xs, h, d⟩ => ⟨xs, q ▸ h, d.same e⟩
 | .urn _, ⟨g, c, n, h, r⟩ => ⟨g, c, n, q ▸ h, r⟩
 | .dct _, ⟨ks, h, d⟩ => ⟨ks, q ▸ h, DWk.same e d⟩
theorem Rel.free (r : Rel K G s σ H) {p : Addr} (h : H p = none) : s.w p = none := by
 cases e : s.w p with
 | none => rfl
 | some o =>
  obtain ⟨u, hu⟩ := (r.own p o e).2.there
  rw [h] at hu; cases hu
theorem OwnOk.mono {w : OW} (h : OwnOk K G w H) (e : Same G G') (k : ∀ a o, w a = some o → G' a = none ∧ H' a = H a) : OwnOk K G' w H' := fun a o q => ⟨(k a o q).1, (h a o q).2.mono e (k a o q).2⟩
theorem Rel.new (r : Rel K G s σ H) {p : Addr} (h : H p = none) (o : HO) : Rel K (upd G p o) s σ (upd H p o) := by
 have hg : G p = none := r.sub.free h
 refine ⟨fun b u q => ?_, r.own.mono (Zbt hg o) fun a u q => ?_, r.sl.same (Zbt hg o)⟩
 ·by_cases z : b = p
  ·subst z; rw [Zax] at q ⊢; exact q
  ·rw [Zah z] at q ⊢; exact r.sub _ _ q
 ·have na : a ≠ p := fun z => by
   obtain ⟨v, hv⟩ := (r.own a u q).2.there
   rw [z, h] at hv; cases hv
  exact ⟨by rw [Zah na]; exact (r.own a u q).1, Zah na⟩
theorem Rel.newOwn (r : Rel K G s σ H) {p : Addr} (h : H p = none) {o : HO} {u : Own} (at' : OwnAt K G (upd H p o) p u) : Rel K G (s.put p u) σ (upd H p o) := by
 refine ⟨fun b v q => ?_, fun a v q => ?_, r.sl⟩
 ·have nb : b ≠ p := fun z => by rw [z] at q; rw [r.sub.free h] at q; cases q
  rw [Zah nb]; exact r.sub _ _ q
 ·by_cases z : a = p
  ·subst z
   have q' : s.w.put a u a = some v := q
   rw [OW.put_same] at q'; cases q'
   exact ⟨r.sub.free h, at'⟩
  ·have q' : s.w.put p u a = some v := q
   rw [OW.put_ne z] at q'
   exact ⟨(r.own a v q').1, (r.own a v q').2.mono (Same.refl G) (Zah z)⟩
theorem Rel.chg (r : Rel K G s σ H) {p : Addr} {o0 : Own} (h : s.w p = some o0) {o : HO} {u : Own} (at' : OwnAt K G (upd H p o) p u) : Rel K G (s.put p u) σ (upd H p o) := by
 refine ⟨fun b v q => ?_, fun a v q => ?_, r.sl⟩
 ·have nb : b ≠ p := fun z => by rw [z] at q; rw [(r.own p o0 h).1] at q; cases q
  rw [Zah nb]; exact r.sub _ _ q
 ·by_cases z : a = p
  ·subst z
   have q' : s.w.put a u a = some v := q
   rw [OW.put_same] at q'; cases q'
   exact ⟨(r.own a o0 h).1, at'⟩
  ·have q' : s.w.put p u a = some v := q
   rw [OW.put_ne z] at q'
   exact ⟨(r.own a v q').1, (r.own a v q').2.mono (Same.refl G) (Zah z)⟩
theorem Rel.set (r : Rel K G s σ H) {v : Val} {x : V} (q : VR K G v x) (i : Nat) : Rel K G (s.set i v) (σ.set i (some x)) H := ⟨r.sub, r.own, r.sl.set q i⟩
theorem Rel.env (r : Rel K G s σ H) {e : List (Option Val)} {σ' : St} (q : SL K G e σ') : Rel K G ⟨e, s.w⟩ σ' H := ⟨r.sub, r.own, q⟩
theorem SL.capt {e : List (Option Val)} (h : SL K G e σ) (cap : List (Option Nat)) : SL K G (cap.map fun o => o.bind fun j => (e[j]?).join) (capt cap σ) := by
 refine ⟨by simp [L2.capt], fun i v z => ?_⟩
 rw [List.getElem?_map] at z
 cases q : cap[i]? with
 | none => rw [q] at z; cases z
 | some o =>
  rw [q] at z
  simp only [Option.map_some, Option.some.injEq] at z
  cases o with
  | none => cases z
  | some j =>
   simp only [Option.bind_some] at z
   have z' : e[j]? = some (some v) := by
    cases q2 : e[j]? with
    | none => rw [q2] at z; cases z
    | some u => rw [q2] at z; simp at z; rw [z]
   obtain ⟨x, h1, h2⟩ := h.2 j v z'
   refine ⟨x, ?_, h2⟩
   unfold L2.capt
   rw [List.getElem?_map, q]
   simp [h1]
end
noncomputable def captD (cap : List (Option Nat)) (e : List (Option Val)) : List (Option Val) := cap.map fun o => o.bind fun j => (e[j]?).join
noncomputable abbrev DK := Val → DS → Prop
noncomputable abbrev DTE := DS → DK → Prop
noncomputable abbrev DTT := DS → (Bool → DS → Prop) → Prop
noncomputable abbrev DTA := DS → (List Val → DS → Prop) → Prop
noncomputable abbrev DTI := DS → (List PyData × (OW → Prop) → DS → Prop) → Prop
noncomputable abbrev DTG := Val → DS → (DS → Prop) → Prop
noncomputable abbrev DTL := List PyData → DS → (List PyData → DS → Prop) → Prop
noncomputable def Po (K : PySem.W.Frag) (G : Hp) (σ : St) (Q : VK) : DK := fun v s => ∀ G' H' x, Same G G' → Rel K G' s σ H' → VR K G' v x → Q x H'
noncomputable def PoT (K : PySem.W.Frag) (G : Hp) (σ : St) (Q : Bool → Hp → Prop) : Bool → DS → Prop := fun b s => ∀ G' H', Same G G' → Rel K G' s σ H' → Q b H'
inductive VRs (K : PySem.W.Frag) (G : Hp) : List Val → List V → Prop
 | nil : VRs K G [] []
 | cons {v x vs xs} : VR K G v x → VRs K G vs xs → VRs K G (v :: vs) (x :: xs)
theorem VRs.same {K : PySem.W.Frag} {G G' : Hp} (e : Same G G') : ∀ {vs : List Val} {xs : List V}, VRs K G vs xs → VRs K G' vs xs
 | _, _, .nil => .nil
 | _, _, .cons h t => .cons (h.same e) (VRs.same e t)
theorem VRs.length {K : PySem.W.Frag} {G : Hp} : ∀ {vs : List Val} {xs : List V}, VRs K G vs xs → vs.length = xs.length
 | _, _, .nil => rfl
 | _, _, .cons h t => by rw [List.length_cons, List.length_cons, VRs.length t]
noncomputable def PoA (K : PySem.W.Frag) (G : Hp) (σ : St) (Q : List V → Hp → Prop) : List Val → DS → Prop := fun vs s => ∀ G' H' xs, Same G G' → Rel K G' s σ H' → VRs K G' vs xs → Q xs H'
noncomputable def Mo {α : Type} (d : DS → (α → DS → Prop) → Prop) : Prop := ∀ s Q Q', (∀ v s', Q v s' → Q' v s') → d s Q → d s Q'
structure RE (K : PySem.W.Frag) (t : TE) (d : DTE) : Prop where
 mo : Mo d
 ok : ∀ G s σ H Q, Rel K G s σ H → d s (Po K G σ Q) → t σ H Q
structure RT (K : PySem.W.Frag) (t : TT) (d : DTT) : Prop where
 mo : Mo d
 ok : ∀ G s σ H Q, Rel K G s σ H → d s (PoT K G σ Q) → t σ H Q
structure RA (K : PySem.W.Frag) (t : TA) (d : DTA) : Prop where
 mo : Mo d
 ok : ∀ G s σ H Q, Rel K G s σ H → d s (PoA K G σ Q) → t σ H Q
structure DEnds where
 nx : DS → Prop
 rt : DK
 bk : DS → Prop := fun _ => False
 ct : DS → Prop := fun _ => False
noncomputable abbrev DTS := DEnds → DS → Prop
structure PoS (K : PySem.W.Frag) (G : Hp) (D : Ends) (E : DEnds) : Prop where
 nx : ∀ s' G' σ' H', Same G G' → Rel K G' s' σ' H' → E.nx s' → D.nx σ' H'
 rt : ∀ v s' G' σ' H' x, Same G G' → Rel K G' s' σ' H' → VR K G' v x → E.rt v s' → D.rt x H'
 bk : ∀ s' G' σ' H', Same G G' → Rel K G' s' σ' H' → E.bk s' → D.bk σ' H'
 ct : ∀ s' G' σ' H', Same G G' → Rel K G' s' σ' H' → E.ct s' → D.ct σ' H'
theorem PoS.same {K : PySem.W.Frag} {G G' : Hp} {D : Ends} {E : DEnds} (h : PoS K G D E) (e : Same G G') : PoS K G' D E :=
 ⟨fun s' G2 σ' H' q => h.nx s' G2 σ' H' (e.trans q), fun v s' G2 σ' H' x q => h.rt v s' G2 σ' H' x (e.trans q), fun s' G2 σ' H' q => h.bk s' G2 σ' H' (e.trans q), fun s' G2 σ' H' q => h.ct s' G2 σ' H' (e.trans q)⟩
noncomputable def RS (K : PySem.W.Frag) (t : TS) (d : DTS) : Prop := ∀ G s σ H D E, Rel K G s σ H → PoS K G D E → d E s → t D σ H
structure RG (K : PySem.W.Frag) (g : TG) (d : DTG) : Prop where
 mo : ∀ v s (Q Q' : DS → Prop), (∀ s', Q s' → Q' s') → d v s Q → d v s Q'
 ok : ∀ G s σ H v x Q, Rel K G s σ H → VR K G v x → d v s (fun s' => ∀ G' σ' H', Same G G' → Rel K G' s' σ' H' → Q σ' H') → g x σ H Q
noncomputable def JOk (K : PySem.W.Frag) (J : It) (G0 : Hp) (P : OW → Prop) (ds : List PyData) : Prop := ∀ G s σ H i, Same G0 G → P s.w → Rel K G s σ H →
 (∀ d, ds[i]? = some d → J.go i H ∧ ∀ x H', J.yld i H x H' → ∃ G', Same G G' ∧ Rel K G' s σ H' ∧ DW K G' d x) ∧ (ds.length ≤ i → J.stop i H)
structure RI (K : PySem.W.Frag) (t : TI) (d : DTI) : Prop where
 mo : Mo d
 ok : ∀ G s σ H (R : It → Hp → Prop), Rel K G s σ H → d s (fun ds s' => ∀ G' H' J, Same G G' → Rel K G' s' σ H' → JOk K J G' ds.2 ds.1 → R J H') → t σ H R
structure RL (K : PySem.W.Frag) (t : TL) (d : DTL) : Prop where
 mo : ∀ acc s (Q Q' : List PyData → DS → Prop), (∀ v s', Q v s' → Q' v s') → d acc s Q → d acc s Q'
 ok : ∀ G s σ H acc ys (Q : LK), Rel K G s σ H → DWs K G acc ys → acc.length < sizeLine → d acc s (fun acc' s' => ∀ G' σ' H' ys', Same G G' → Rel K G' s' σ' H' → DWs K G' acc' ys' → Q ys' σ' H') → t ys σ H Q
end L2
namespace L2
open PySem PySem.Spec PyProof.Rows
section
variable {K : PySem.W.Frag} {G G' H H' : Hp} {s : DS} {σ : St}
theorem Po.same {Q : VK} {v : Val} (h : Po K G σ Q v s) (e : Same G G') : Po K G' σ Q v s := fun G2 H2 x e2 => h G2 H2 x (e.trans e2)
theorem PoT.same {Q : Bool → Hp → Prop} {v : Bool} (h : PoT K G σ Q v s) (e : Same G G') : PoT K G' σ Q v s := fun G2 H2 e2 => h G2 H2 (e.trans e2)
theorem PoA.same {Q : List V → Hp → Prop} {v : List Val} (h : PoA K G σ Q v s) (e : Same G G') : PoA K G' σ Q v s := fun G2 H2 x e2 => h G2 H2 x (e.trans e2)
theorem Po.here {Q : VK} {v : Val} {x : V} (h : Po K G σ Q v s) (r : Rel K G s σ H) (q : VR K G v x) : Q x H := h G H x (Same.refl G) r q
theorem Zdk {i : Int} : VR K G (.d (.int i)) (.int i) := by unfold VR; exact DW.int
theorem Zj2 {i : Bool} : VR K G (.d (.bool i)) (.bl i) := by unfold VR; exact DW.bool
theorem Zo3 {i : Str} : VR K G (.d (.str i)) (.str i) := by unfold VR; exact DW.str
theorem Zl6 : VR K G (.d .none) .non := by unfold VR; exact DW.none
theorem Zc3 {i : Int} {x : V} (h : VR K G (.d (.int i)) x) : x = .int i := by unfold VR at h; exact DW.int_inv h
theorem Zrd {i : Bool} {x : V} (h : VR K G (.d (.bool i)) x) : x = .bl i := by unfold VR at h; exact DW.bool_inv h
theorem Zl5 {i : Str} {x : V} (h : VR K G (.d (.str i)) x) : x = .str i := by unfold VR at h; exact DW.str_inv h
theorem Zj0 {ds : List PyData} {v : V} (h : VR K G (.d (.list ds)) v) : ∃ a xs, v = .ref a ∧ G a = some (.lst xs) ∧ DWs K G ds xs := by unfold VR at h; exact DW.list_inv h
theorem Zj1 {ds : List PyData} {v : V} (h : VR K G (.d (.tuple ds)) v) : ∃ a xs, v = .ref a ∧ SqT K G a xs ∧ DWs K G ds xs := by unfold VR at h; exact DW.tup_inv h
noncomputable def dVar (i : Nat) : DTE := fun s k => match s.e[i]? with | some (some v) => k v s | _ => False
theorem Za3 (i : Nat) : RE K (tVar i) (dVar i) := by
 refine ⟨fun s Q Q' h q => ?_, fun G s σ H Q r h => ?_⟩
 ·unfold dVar at q ⊢
  split at q
  ·exact h _ _ q
  ·exact q.elim
 ·unfold dVar at h
  split at h
  ·next v e =>
   obtain ⟨x, h1, h2⟩ := r.sl.2 i v e
   exact ⟨x, h1, h.here r h2⟩
  ·exact h.elim
noncomputable def dC (v : Val) : DTE := fun s k => k v s
theorem re_c {v : Val} {x : V} (h : ∀ G, VR K G v x) : RE K (tC x) (dC v) := ⟨fun s Q Q' h q => h _ _ q, fun G s σ H Q r q => Po.here q r (h G)⟩
theorem Zan {i : Int} : RE K (tC (.int i)) (dC (.d (.int i))) := re_c fun _ => Zdk
theorem Zr1 {i : Bool} : RE K (tC (.bl i)) (dC (.d (.bool i))) := re_c fun _ => Zj2
structure RO (K : PySem.W.Frag) (r : R2) (f : Val → Val → DTE) : Prop where
 mo : ∀ v w, Mo (f v w)
 ok : ∀ G s σ H x y v w Q, Rel K G s σ H → VR K G v x → VR K G w y → f v w s (Po K G σ Q) → r x y H Q
noncomputable def dOp (f : Val → Val → DTE) (da db : DTE) : DTE := fun s k => da s fun v s1 => db s1 fun w s2 => f v w s2 k
theorem Zbc {r : R2} {f : Val → Val → DTE} {ta tb : TE} {da db : DTE} (ho : RO K r f) (ha : RE K ta da) (hb : RE K tb db) : RE K (tOp r ta tb) (dOp f da db) := by
 refine ⟨fun s Q Q' h q => ha.mo _ _ _ (fun v s1 q1 => hb.mo _ _ _ (fun w s2 q2 => ho.mo v w _ _ _ h q2) q1) q, fun G s σ H Q r h => ?_⟩
 refine ha.ok G s σ H _ r (ha.mo _ _ _ (fun v s1 q G1 H1 x e1 r1 v1 => ?_) h)
 refine hb.ok G1 s1 σ H1 _ r1 (hb.mo _ _ _ (fun w s2 q2 G2 H2 y e2 r2 v2 => ?_) q)
 exact ho.ok G2 s2 σ H2 x y v w Q r2 (v1.same e2) v2 (ho.mo v w _ _ _ (fun u s3 q3 => q3.same (e1.trans e2)) q2)
structure RU (K : PySem.W.Frag) (r : V → Hp → VK → Prop) (f : Val → DTE) : Prop where
 mo : ∀ v, Mo (f v)
 ok : ∀ G s σ H x v Q, Rel K G s σ H → VR K G v x → f v s (Po K G σ Q) → r x H Q
noncomputable def dUn (f : Val → DTE) (da : DTE) : DTE := fun s k => da s fun v s1 => f v s1 k
theorem Zp3 {r : V → Hp → VK → Prop} {f : Val → DTE} {ta : TE} {da : DTE} (ho : RU K r f) (ha : RE K ta da) : RE K (tUn r ta) (dUn f da) := by
 refine ⟨fun s Q Q' h q => ha.mo _ _ _ (fun v s1 q1 => ho.mo v _ _ _ h q1) q, fun G s σ H Q r h => ?_⟩
 refine ha.ok G s σ H _ r (ha.mo _ _ _ (fun v s1 q G1 H1 x e1 r1 v1 => ?_) h)
 exact ho.ok G1 s1 σ H1 x v Q r1 v1 (ho.mo v _ _ _ (fun u s3 q3 => q3.same e1) q)
noncomputable def fU (g : Int → Int) : Val → DTE := fun v s k => match v with | .d (.int i) => k (.d (.int (g i))) s | _ => False
theorem ru_I {g : Int → Int} : RU K (rU fun i => .int (g i)) (fU g) := by
 refine ⟨fun v s Q Q' h q => ?_, fun G s σ H x v Q r v1 h => ?_⟩
 ·unfold fU at q ⊢; split at q
  ·exact h _ _ q
  ·exact q.elim
 ·unfold fU at h; split at h
  ·next i => exact ⟨i, Zc3 v1, h.here r Zdk⟩
  ·exact h.elim
noncomputable def fI (C : Int → Int → Prop) (g : Int → Int → Int) : Val → Val → DTE := fun v w s k => match v, w with | .d (.int i), .d (.int j) => C i j ∧ k (.d (.int (g i j))) s | _, _ => False
noncomputable def fI0 (g : Int → Int → Int) : Val → Val → DTE := fun v w s k => match v, w with | .d (.int i), .d (.int j) => k (.d (.int (g i j))) s | _, _ => False
noncomputable def fB0 (g : Int → Int → Bool) : Val → Val → DTE := fun v w s k => match v, w with | .d (.int i), .d (.int j) => k (.d (.bool (g i j))) s | _, _ => False
theorem ro_I {C : Int → Int → Prop} {g : Int → Int → Int} : RO K (rI C fun i j => .int (g i j)) (fI C g) := by
 refine ⟨fun v w s Q Q' h q => ?_, fun G s σ H x y v w Q r v1 v2 h => ?_⟩
 ·unfold fI at q ⊢; split at q
  ·exact ⟨q.1, h _ _ q.2⟩
  ·exact q.elim
 ·unfold fI at h; split at h
  ·next i j => exact ⟨i, j, Zc3 v1, Zc3 v2, h.1, h.2.here r Zdk⟩
  ·exact h.elim
theorem Zf1 {g : Int → Int → Int} : RO K (rI0 fun i j => .int (g i j)) (fI0 g) := by
 refine ⟨fun v w s Q Q' h q => ?_, fun G s σ H x y v w Q r v1 v2 h => ?_⟩
 ·unfold fI0 at q ⊢; split at q
  ·exact h _ _ q
  ·exact q.elim
 ·unfold fI0 at h; split at h
  ·next i j => exact ⟨i, j, Zc3 v1, Zc3 v2, h.here r Zdk⟩
  ·exact h.elim
theorem Zp5 {g : Int → Int → Bool} : RO K (rI0 fun i j => .bl (g i j)) (fB0 g) := by
 refine ⟨fun v w s Q Q' h q => ?_, fun G s σ H x y v w Q r v1 v2 h => ?_⟩
 ·unfold fB0 at q ⊢; split at q
  ·exact h _ _ q
  ·exact q.elim
 ·unfold fB0 at h; split at h
  ·next i j => exact ⟨i, j, Zc3 v1, Zc3 v2, h.here r Zj2⟩
  ·exact h.elim
noncomputable def fEq (neg : Bool) : Val → Val → DTE := fun v w s k => match v, w with
 | .d (.int i), .d (.int j) => k (.d (.bool (if neg then !decide (i = j) else decide (i = j)))) s
 | .d (.str i), .d (.str j) => k (.d (.bool (if neg then !decide (i = j) else decide (i = j)))) s
 | _, _ => False
theorem Zpq (neg : Bool) (v w : Val) : Mo (fEq neg v w) := by
 intro s Q Q' h q
 unfold fEq at q ⊢; split at q
 ·exact h _ _ q
 ·exact h _ _ q
 ·exact q.elim
theorem Zka {i j : Int} : decide (V.int i = V.int j) = decide (i = j) := by simp
theorem Zkb {i j : Str} : decide (V.str i = V.str j) = decide (i = j) := by simp
theorem Znp : RO K rEq (fEq false) := by
 refine ⟨Zpq false, fun G s σ H x y v w Q r v1 v2 h => ?_⟩
 unfold fEq at h; split at h
 ·next i j =>
  rw [Zc3 v1, Zc3 v2]
  exact ⟨rfl, by rw [Zka]; exact h.here r Zj2⟩
 ·next i j =>
  rw [Zl5 v1, Zl5 v2]
  exact ⟨rfl, by rw [Zkb]; exact h.here r Zj2⟩
 ·exact h.elim
theorem Zsq : RO K rNe (fEq true) := by
 refine ⟨Zpq true, fun G s σ H x y v w Q r v1 v2 h => ?_⟩
 unfold fEq at h; split at h
 ·next i j =>
  rw [Zc3 v1, Zc3 v2]
  exact ⟨rfl, by rw [Zka]; exact h.here r Zj2⟩
 ·next i j =>
  rw [Zl5 v1, Zl5 v2]
  exact ⟨rfl, by rw [Zkb]; exact h.here r Zj2⟩
 ·exact h.elim
noncomputable def rdL (w : OW) : Val → Option (List PyData)
 | .d (.list ds) => some ds
 | .own a => match w a with | some (.lst ds) => some ds | _ => none
 | .scr ns => some (ns.map .int)
 | _ => none
noncomputable def rdT : Val → Option (List PyData)
 | .d (.tuple ds) => some ds
 | _ => none
noncomputable def rdA (w : OW) (v : Val) : Option (List PyData) := match rdT v with | some ds => some ds | none => rdL w v
theorem Rel.rdL (r : Rel K G s σ H) {v : Val} {x : V} {ds : List PyData} (q : VR K G v x) (h : L2.rdL s.w v = some ds) : ∃ a xs, x = .ref a ∧ SqL K H a xs ∧ DWs K G ds xs := by
 unfold L2.rdL at h
 split at h
 ·cases h
  obtain ⟨a, xs, rfl, h1, h2⟩ := Zj0 q
  exact ⟨a, xs, rfl, SqL.of (r.sub _ _ h1), h2⟩
 ·next a =>
  cases (show x = .ref a from q)
  split at h
  ·next z =>
   cases h
   obtain ⟨_, xs, h1, h2⟩ := r.own a _ z
   exact ⟨a, xs, rfl, SqL.of h1, h2⟩
  ·cases h
 ·next ns =>
  cases h
  obtain ⟨a, e, h1⟩ := q
  exact ⟨a, _, e, r.sub.seq h1, DWs.ints ns⟩
 ·cases h
theorem Rel.rdT (r : Rel K G s σ H) {v : Val} {x : V} {ds : List PyData} (q : VR K G v x) (h : L2.rdT v = some ds) : ∃ a xs, x = .ref a ∧ SqT K H a xs ∧ DWs K G ds xs := by
 unfold L2.rdT at h
 split at h
 ·cases h
  obtain ⟨a, xs, rfl, h1, h2⟩ := Zj1 q
  exact ⟨a, xs, rfl, r.sub.tup h1, h2⟩
 ·cases h
theorem Rel.rdA (r : Rel K G s σ H) {v : Val} {x : V} {ds : List PyData} (q : VR K G v x) (h : L2.rdA s.w v = some ds) : ∃ a xs, x = .ref a ∧ (SqL K H a xs ∨ SqT K H a xs) ∧ DWs K G ds xs := by
 unfold L2.rdA at h
 split at h
 ·next z =>
  cases h
  obtain ⟨a, xs, e, h1, h2⟩ := r.rdT q z
  exact ⟨a, xs, e, .inr h1, h2⟩
 ·obtain ⟨a, xs, e, h1, h2⟩ := r.rdL q h
  exact ⟨a, xs, e, .inl h1, h2⟩
noncomputable def rdD (w : OW) (v : Val) : Option PyData := match v with | .d x => some x | .own a => (match w a with | some (.lst ds) => some (.list ds) | _ => none) | _ => none
theorem Rel.rdD (r : Rel K G s σ H) {v : Val} {x : V} {d : PyData} (q : VR K G v x) (h : L2.rdD s.w v = some d) (n : d.hasDict = false) : DV K H d x := by
 unfold L2.rdD at h
 split at h
 ·cases h; exact DW.dv r.sub n q
 ·next a =>
  split at h
  ·next z =>
   cases h
   cases (show x = .ref a from q)
   obtain ⟨_, xs, h1, h2⟩ := r.own a _ z
   exact DV.list (SqL.of h1) (DWs.dv r.sub (by simpa [PyData.hasDict] using n) h2)
  ·cases h
 ·cases h
noncomputable def fEqD (neg : Bool) : Val → Val → DTE := fun v w s k => match rdD s.w v, rdD s.w w with
 | some x, some y => (x.hasDict = false ∧ y.hasDict = false ∧ SeqAt.shaped x = true ∧ SeqAt.shaped y = true) ∧ k (.d (.bool (if neg then !PyData.eqv x y else PyData.eqv x y))) s
 | _, _ => False
noncomputable def fInD (neg : Bool) : Val → Val → DTE := fun v w s k => match rdD s.w v, rdA s.w w with
 | some x, some ds => (x.hasDict = false ∧ PyData.hasDictAll ds = false ∧ x.canLay0 = true ∧ PyData.canLayAll0 ds = true ∧ x.depth ≤ 30) ∧ k (.d (.bool (if neg then !ds.any (fun y => PyData.eqv y x) else ds.any (fun y => PyData.eqv y x)))) s
 | _, _ => False
theorem Zsp {neg : Bool} : RO K (rInD K neg) (fInD neg) := by
 refine ⟨fun v w s Q Q' h q => ?_, fun G s σ H x y v w Q r v1 v2 h => ?_⟩
 ·unfold fInD at q ⊢; split at q
  ·exact ⟨q.1, h _ _ q.2⟩
  ·exact q.elim
 ·unfold fInD at h; split at h
  ·next a ds e1 e2 =>
   obtain ⟨⟨n1, n2, s1, s2, s3⟩, h⟩ := h
   obtain ⟨p, ys, rfl, h1, h2⟩ := r.rdA v2 e2
   exact ⟨a, ds, p, ys, r.rdD v1 e1 n1, rfl, h1, DWs.dv r.sub n2 h2, s1, s2, s3, h.here r Zj2⟩
  ·exact h.elim
theorem DWs.atI {ds : List PyData} {xs : List V} {i : Int} {d : PyData} (h : DWs K G ds xs) (e : L2.atI ds i = some d) : ∃ x, L2.atI xs i = some x ∧ DW K G d x := by
 unfold L2.atI at e ⊢
 rw [h.length] at e
 cases q : ixN xs.length i with
 | none => rw [q] at e; cases e
 | some j =>
  rw [q] at e
  obtain ⟨x, h1, h2⟩ := h.get' (i := j) (d := d) e
  exact ⟨x, h1, h2⟩
noncomputable def fIxL : Val → Val → DTE := fun v w s k => match rdL s.w v, w with
 | some ds, .d (.int i) => ∃ d, atI ds i = some d ∧ k (.d d) s
 | _, _ => False
noncomputable def fIxT : Val → Val → DTE := fun v w s k => match rdT v, w with
 | some ds, .d (.int i) => ∃ d, atI ds i = some d ∧ k (.d d) s
 | _, _ => False
theorem Zdx : RO K (rIxL K) fIxL := by
 refine ⟨fun v w s Q Q' h q => ?_, fun G s σ H x y v w Q r v1 v2 h => ?_⟩
 ·unfold fIxL at q ⊢; split at q
  ·obtain ⟨d, e, q⟩ := q; exact ⟨d, e, h _ _ q⟩
  ·exact q.elim
 ·unfold fIxL at h; split at h
  ·next ds i e1 =>
   obtain ⟨d, e, h⟩ := h
   obtain ⟨p, ys, rfl, h1, h2⟩ := r.rdL v1 e1
   obtain ⟨z, h3, h4⟩ := h2.atI e
   exact ⟨p, ys, i, z, rfl, Zc3 v2, h1, h3, h.here r h4⟩
  ·exact h.elim
theorem Zis : RO K (rIxT K) fIxT := by
 refine ⟨fun v w s Q Q' h q => ?_, fun G s σ H x y v w Q r v1 v2 h => ?_⟩
 ·unfold fIxT at q ⊢; split at q
  ·obtain ⟨d, e, q⟩ := q; exact ⟨d, e, h _ _ q⟩
  ·exact q.elim
 ·unfold fIxT at h; split at h
  ·next ds i e1 =>
   obtain ⟨d, e, h⟩ := h
   obtain ⟨p, ys, rfl, h1, h2⟩ := r.rdT v1 e1
   obtain ⟨z, h3, h4⟩ := h2.atI e
   exact ⟨p, ys, i, z, rfl, Zc3 v2, h1, h3, h.here r h4⟩
  ·exact h.elim
noncomputable def nl (o : Bool) (ds : List PyData) (s : DS) (k : DK) : Prop := match o with
 | true => ∀ p, s.w p = none → k (.own p) (s.put p (.lst ds))
 | false => k (.d (.list ds)) s
theorem Zg3 {o : Bool} {ds : List PyData} {s : DS} {k k' : DK} (h : ∀ v s', k v s' → k' v s') (q : nl o ds s k) : nl o ds s k' := by
 cases o
 ·exact h _ _ q
 ·exact fun p hp => h _ _ (q p hp)
theorem Rel.nl (r : Rel K G s σ H) {o : Bool} {ds : List PyData} {xs : List V} {Q : VK} (D : DWs K G ds xs) (h : L2.nl o ds s (Po K G σ Q)) : ∀ p, H p = none → Q (.ref p) (upd H p (.lst xs)) := by
 intro p hp
 have hg : G p = none := r.sub.free hp
 have S := Zbt hg (.lst xs)
 cases o
 ·exact h (upd G p (.lst xs)) (upd H p (.lst xs)) (.ref p) S (r.new hp _) (DW.list Zax (D.same S))
 ·exact h p (r.free hp) G (upd H p (.lst xs)) (.ref p) (Same.refl G) (r.newOwn hp ⟨xs, Zax, D⟩) rfl
theorem Rel.nt (r : Rel K G s σ H) {ds : List PyData} {xs : List V} {Q : VK} (D : DWs K G ds xs) (h : Po K G σ Q (.d (.tuple ds)) s) : ∀ p, H p = none → Q (.ref p) (upd H p (.tup xs)) := by
 intro p hp
 have hg : G p = none := r.sub.free hp
 have S := Zbt hg (.tup xs)
 exact h (upd G p (.tup xs)) (upd H p (.tup xs)) (.ref p) S (r.new hp _) (DW.tup Zax (D.same S))
noncomputable def rdM (w : OW) : Val → Option (List PyData)
 | .d (.list ds) => some ds
 | .own a => match w a with | some (.lst ds) => some ds | _ => none
 | _ => none
theorem Rel.rdM (r : Rel K G s σ H) {v : Val} {x : V} {ds : List PyData} (q : VR K G v x) (h : L2.rdM s.w v = some ds) : ∃ a xs, x = .ref a ∧ H a = some (.lst xs) ∧ DWs K G ds xs := by
 unfold L2.rdM at h
 split at h
 ·cases h
  obtain ⟨a, xs, rfl, h1, h2⟩ := Zj0 q
  exact ⟨a, xs, rfl, r.sub _ _ h1, h2⟩
 ·next a =>
  cases (show x = .ref a from q)
  split at h
  ·next z =>
   cases h
   obtain ⟨_, xs, h1, h2⟩ := r.own a _ z
   exact ⟨a, xs, rfl, h1, h2⟩
  ·cases h
 ·cases h
noncomputable def fCat (o : Bool) : Val → Val → DTE := fun v w s k => match rdM s.w v, rdM s.w w with
 | some ds, some es => ds.length + es.length ≤ sizeLine ∧ nl o (ds ++ es) s k
 | _, _ => False
theorem Zkx (o : Bool) : RO K rCat (fCat o) := by
 refine ⟨fun v w s Q Q' h q => ?_, fun G s σ H x y v w Q r v1 v2 h => ?_⟩
 ·unfold fCat at q ⊢; split at q
  ·exact ⟨q.1, Zg3 h q.2⟩
  ·exact q.elim
 ·unfold fCat at h; split at h
  ·next ds es e1 e2 =>
   obtain ⟨a, xs, rfl, h1, h2⟩ := r.rdM v1 e1
   obtain ⟨b, ys, rfl, h3, h4⟩ := r.rdM v2 e2
   exact ⟨a, b, xs, ys, rfl, rfl, h1, h3, by rw [← h2.length, ← h4.length]; exact h.1, r.nl (h2.append h4) h.2⟩
  ·exact h.elim
noncomputable def repD (k : Nat) (ds : List PyData) : List PyData := (List.replicate k ds).flatten
noncomputable def fRep (o : Bool) : Val → Val → DTE := fun v w s k => match rdM s.w v, w with
 | some ds, .d (.int i) => (-(2 ^ 63) ≤ i ∧ i < 2 ^ 63 ∧ ds.length * i.toNat ≤ sizeLine) ∧ nl o (repD i.toNat ds) s k
 | _, _ => False
noncomputable def rCatW (K : PySem.W.Frag) : R2 := fun x y H Q => ∃ a b xs ys, x = .ref a ∧ y = .ref b ∧ SqT K H a xs ∧ SqT K H b ys ∧ xs.length + ys.length ≤ sizeLine ∧ (xs = [] → Q (.ref b) H) ∧ (ys = [] → Q (.ref a) H) ∧ ∀ p, H p = none → Q (.ref p) (upd H p (.tup (xs ++ ys)))
theorem Zn8 {X : Cx} : OpR X (binaryOp .Add) (rCatW X.K) := by
 rintro pins s σ H x y v u Q I rx ry ⟨a, b, xs, ys, rfl, rfl, h1, h2, hz, q1, q2, q3⟩
 cases (show v = Value.ref a from rx)
 cases (show u = Value.ref b from ry)
 obtain ⟨us, ru, hu, _⟩ := I.tuple h1
 obtain ⟨ws, rw', hw, _⟩ := I.tuple h2
 have lu := ru.length
 have lw := rw'.length
 by_cases e : us = []
 ·subst e
  have ex : xs = [] := by cases xs with | nil => rfl | cons a r => cases ru
  obtain ⟨⟨cls, dd, data, sl⟩, ho, hc, n, hd⟩ := id hu
  obtain ⟨⟨cls2, dd2, data2, sl2⟩, ho2, hc2, n2, hd2⟩ := id hw
  simp only at hc hd hc2 hd2
  subst hc hd hc2 hd2
  exact concat_meets ⟨_, ho, rfl⟩ ⟨_, ho2, rfl⟩ noFill_tuple_add seq_tuple_add PySem.F.slot_tuple_add PySem.F.entry_tuple_add (PySem.F.args_tuple_add_2 _ _) (Zpc a b _ ws.toArray n n2 dd dd2 sl sl2 rfl) ⟨ho, ho2, ⟨.ref b, H, I, rfl, q1 ex⟩⟩
 ·refine HT.cat_tup hu hw e (fun ew => ⟨.ref a, H, I, rfl, q2 ?_⟩) (fun ew => ?_) (by omega)
  ·cases ys with | nil => rfl | cons a r => subst ew; cases rw'
  ·exact ⟨.ref s.heap.objs.size, upd H s.heap.objs.size (.tup (xs ++ ys)), I.laid (t' := s.toks) (fun b o e => Heap.get?_push_of_some _ e) (Nat.le_refl _) (show ObjOk X.prog X.w _ _ _ (.tup _) from ⟨by rw [List.length_append]; exact hz, _, ru.append rw', IsTup.new _ _⟩), rfl, q3 _ I.fresh⟩
theorem Zhd {X : Cx} (h : X.K = K) : OpR X (binaryOp .Add) (rCatW K) := h ▸ Zn8
noncomputable def fCatT : Val → Val → DTE := fun v w s k => match rdT v, rdT w with
 | some ds, some es => ds.length + es.length ≤ sizeLine ∧ k (.d (.tuple (ds ++ es))) s
 | _, _ => False
theorem Zku {v : Val} {ds : List PyData} (h : rdT v = some ds) : v = .d (.tuple ds) := by
 unfold rdT at h; split at h <;> cases h; rfl
theorem DWs.nil_of {ds : List PyData} {xs : List V} (h : DWs K G ds xs) (e : xs = []) : ds = [] := by
 have := h.length
 rw [e] at this
 exact List.length_eq_zero_iff.mp this
theorem Zhh : RO K (rCatW K) fCatT := by
 refine ⟨fun v w s Q Q' h q => ?_, fun G s σ H x y v w Q r v1 v2 h => ?_⟩
 ·unfold fCatT at q ⊢; split at q
  ·exact ⟨q.1, h _ _ q.2⟩
  ·exact q.elim
 ·unfold fCatT at h; split at h
  ·next ds es e1 e2 =>
   obtain ⟨a, xs, rfl, h1, h2⟩ := r.rdT v1 e1
   obtain ⟨b, ys, rfl, h3, h4⟩ := r.rdT v2 e2
   refine ⟨a, b, xs, ys, rfl, rfl, h1, h3, by rw [← h2.length, ← h4.length]; exact h.1, fun e => h.2.here r ?_, fun e => h.2.here r ?_, r.nt (h2.append h4) h.2⟩
   ·rw [h2.nil_of e, List.nil_append, ← Zku e2]; exact v2
   ·rw [h4.nil_of e, List.append_nil, ← Zku e1]; exact v1
  ·exact h.elim
noncomputable def rSlTW (K : PySem.W.Frag) : V → Option Int → Option Int → Hp → VK → Prop := fun x lo hi H Q => ∃ a xs, x = .ref a ∧ SqT K H a xs ∧ (cutV xs lo hi = xs → Q (.ref a) H) ∧ ∀ p, H p = none → Q (.ref p) (upd H p (.tup (cutV xs lo hi)))
theorem Zr7 {X : Cx} : SlR X (rSlTW X.K) := by
 intro pins s σ H x v vl vu lo hi sl Q I rx hs pl pu h
 obtain ⟨a, xs, rfl, hx, q1, q2⟩ := h
 by_cases hw : HT.sIx xs.length 0 lo = 0 ∧ HT.sIx xs.length xs.length hi = xs.length
 ·cases rx
  obtain ⟨its, r, ht, hz⟩ := I.tuple hx
  have hlen : its.toArray.size = xs.length := by rw [List.size_toArray]; exact r.length.symm
  refine ⟨"tuple", _, PyProof.Rows.slot_tuple_getitem.lookup, ht.typeIs, ?_⟩
  refine Ze9 ht hs pl pu (by rw [hlen]; exact hw) ⟨.ref a, H, I, rfl, q1 ?_⟩
  unfold cutV; rw [hw.1, hw.2, List.drop_zero, Nat.sub_zero, List.take_length]
 ·exact Zst pins s σ H _ v vl vu lo hi sl Q I rx hs pl pu ⟨a, xs, rfl, hx, hw, q2⟩
theorem Zp9 {X : Cx} (h : X.K = K) : SlR X (rSlTW K) := h ▸ Zr7
noncomputable def cutD (xs : List PyData) (lo hi : Option Int) : List PyData := (xs.drop (HT.sIx xs.length 0 lo)).take (HT.sIx xs.length xs.length hi - HT.sIx xs.length 0 lo)
theorem DWs.cut {ds : List PyData} {xs : List V} (h : DWs K G ds xs) (lo hi : Option Int) : DWs K G (cutD ds lo hi) (cutV xs lo hi) := by
 unfold cutD cutV; rw [h.length]; exact (h.drop _).take _
structure RX (K : PySem.W.Frag) (t : TO) (d : DS → (Option Int → DS → Prop) → Prop) : Prop where
 mo : Mo d
 ok : ∀ G s σ H (Q : Option Int → Hp → Prop), Rel K G s σ H → d s (fun o s' => ∀ G' H', Same G G' → Rel K G' s' σ H' → Q o H') → t σ H Q
noncomputable def dNoP : DS → (Option Int → DS → Prop) → Prop := fun s k => k none s
noncomputable def dP (d : DTE) : DS → (Option Int → DS → Prop) → Prop := fun s k => d s fun v s' => match v with | .d (.int i) => k (some i) s' | _ => False
theorem Znr : RX K tNoPart dNoP := ⟨fun s Q Q' h q => h _ _ q, fun G s σ H Q r h => h G H (Same.refl G) r⟩
theorem Zns {t : TE} {d : DTE} (h : RE K t d) : RX K (tPart t) (dP d) := by
 refine ⟨fun s Q Q' z q => h.mo _ _ _ (fun v s' q => ?_) q, fun G s σ H Q r q => h.ok G s σ H _ r (h.mo _ _ _ (fun v s' q G' H' x e r' v' => ?_) q)⟩
 ·split at q
  ·exact z _ _ q
  ·exact q.elim
 ·split at q
  ·next i => exact ⟨i, Zc3 v', q G' H' e r'⟩
  ·exact q.elim
structure RSl (K : PySem.W.Frag) (r : V → Option Int → Option Int → Hp → VK → Prop) (f : Val → Option Int → Option Int → DTE) : Prop where
 mo : ∀ v lo hi, Mo (f v lo hi)
 ok : ∀ G s σ H x v lo hi Q, Rel K G s σ H → VR K G v x → f v lo hi s (Po K G σ Q) → r x lo hi H Q
noncomputable def fSlT : Val → Option Int → Option Int → DTE := fun v lo hi s k => match rdT v with | some ds => k (.d (.tuple (cutD ds lo hi))) s | none => False
noncomputable def fSlL (o : Bool) : Val → Option Int → Option Int → DTE := fun v lo hi s k => match rdL s.w v with | some ds => nl o (cutD ds lo hi) s k | none => False
theorem Zt8 : RSl K (rSlTW K) fSlT := by
 refine ⟨fun v lo hi s Q Q' h q => ?_, fun G s σ H x v lo hi Q r v1 h => ?_⟩
 ·unfold fSlT at q ⊢; split at q
  ·exact h _ _ q
  ·exact q.elim
 ·unfold fSlT at h; split at h
  ·next ds e =>
   obtain ⟨a, xs, rfl, h1, h2⟩ := r.rdT v1 e
   refine ⟨a, xs, rfl, h1, fun z => ?_, r.nt (h2.cut lo hi) h⟩
   have v1' : VR K G (.d (.tuple ds)) (.ref a) := by rw [← Zku e]; exact v1
   have e2 : cutD ds lo hi = ds := by
    have hc := h2.cut lo hi
    rw [z] at hc
    have hl : (cutD ds lo hi).length = ds.length := by rw [hc.length, h2.length]
    unfold cutD at hl ⊢
    rw [List.length_take, List.length_drop] at hl
    by_cases h0 : HT.sIx ds.length 0 lo = 0
    ·rw [h0, Nat.sub_zero] at hl ⊢
     rw [List.drop_zero]
     exact List.take_of_length_le (by omega)
    ·have : ds.length = 0 := by omega
     rw [List.length_eq_zero_iff.mp this]; simp
   exact h.here r (by rw [e2]; exact v1')
  ·exact h.elim
theorem Zt7 (o : Bool) : RSl K (rSlL K) (fSlL o) := by
 refine ⟨fun v lo hi s Q Q' h q => ?_, fun G s σ H x v lo hi Q r v1 h => ?_⟩
 ·unfold fSlL at q ⊢; split at q
  ·exact Zg3 h q
  ·exact q.elim
 ·unfold fSlL at h; split at h
  ·next ds e =>
   obtain ⟨a, xs, rfl, h1, h2⟩ := r.rdL v1 e
   exact ⟨a, xs, rfl, h1, r.nl (h2.cut lo hi) h⟩
  ·exact h.elim
noncomputable def dSl (f : Val → Option Int → Option Int → DTE) (de : DTE) (dl dh : DS → (Option Int → DS → Prop) → Prop) : DTE := fun s k => de s fun v s1 => dl s1 fun l s2 => dh s2 fun u s3 => f v l u s3 k
theorem Zso {r : V → Option Int → Option Int → Hp → VK → Prop} {f : Val → Option Int → Option Int → DTE} {te : TE} {tl th : TO} {de : DTE} {dl dh : DS → (Option Int → DS → Prop) → Prop} (hr : RSl K r f) (he : RE K te de) (hl : RX K tl dl) (hh : RX K th dh) : RE K (tSl r te tl th) (dSl f de dl dh) := by
 refine ⟨fun s Q Q' h q => he.mo _ _ _ (fun v s1 q1 => hl.mo _ _ _ (fun l s2 q2 => hh.mo _ _ _ (fun u s3 q3 => hr.mo v l u _ _ _ h q3) q2) q1) q, fun G s σ H Q r h => ?_⟩
 refine he.ok G s σ H _ r (he.mo _ _ _ (fun v s1 q G1 H1 x e1 r1 v1 => ?_) h)
 refine hl.ok G1 s1 σ H1 _ r1 (hl.mo _ _ _ (fun l s2 q2 G2 H2 e2 r2 => ?_) q)
 refine hh.ok G2 s2 σ H2 _ r2 (hh.mo _ _ _ (fun u s3 q3 G3 H3 e3 r3 => ?_) q2)
 exact hr.ok G3 s3 σ H3 x v l u Q r3 (v1.same (e2.trans e3)) (hr.mo v l u _ _ _ (fun z s4 q4 => q4.same ((e1.trans e2).trans e3)) q3)
noncomputable def dRev (o : Bool) (de : DTE) : DTE := fun s k => de s fun v s1 => match rdL s1.w v with | some ds => nl o ds.reverse s1 k | none => False
theorem Zsn (o : Bool) {te : TE} {de : DTE} (he : RE K te de) : RE K (tRev K te (tUn (rU fun i => .int (-i)) (tC (.int 1)))) (dRev o de) := by
 refine ⟨fun s Q Q' h q => he.mo _ _ _ (fun v s1 q1 => ?_) q, fun G s σ H Q r h => ?_⟩
 ·split at q1
  ·exact Zg3 h q1
  ·exact q1.elim
 refine he.ok G s σ H _ r (he.mo _ _ _ (fun v s1 q G1 H1 x e1 r1 v1 => ?_) h)
 split at q
 ·next ds e =>
  obtain ⟨a, xs, rfl, h1, h2⟩ := r1.rdL v1 e
  exact ⟨1, rfl, rfl, a, xs, rfl, h1, r1.nl h2.reverse (Zg3 (fun v s' z => z.same e1) q)⟩
 ·exact q.elim
noncomputable def dNil : DTA := fun s k => k [] s
noncomputable def dCons (de : DTE) (da : DTA) : DTA := fun s k => de s fun v s1 => da s1 fun vs s2 => k (v :: vs) s2
theorem Za6 : RA K tNil dNil := ⟨fun s Q Q' h q => h _ _ q, fun G s σ H Q r h => h G H [] (Same.refl G) r .nil⟩
theorem Za1 {te : TE} {t : TA} {de : DTE} {da : DTA} (he : RE K te de) (ha : RA K t da) : RA K (tCons te t) (dCons de da) := by
 refine ⟨fun s Q Q' h q => he.mo _ _ _ (fun v s1 q1 => ha.mo _ _ _ (fun vs s2 q2 => h _ _ q2) q1) q, fun G s σ H Q r h => ?_⟩
 refine he.ok G s σ H _ r (he.mo _ _ _ (fun v s1 q G1 H1 x e1 r1 v1 => ?_) h)
 exact ha.ok G1 s1 σ H1 _ r1 (ha.mo _ _ _ (fun vs s2 q2 G2 H2 xs e2 r2 v2 => q2 G2 H2 _ (e1.trans e2) r2 (.cons (v1.same e2) v2)) q)
noncomputable def unD : List Val → Option (List PyData)
 | [] => some []
 | .d x :: r => (unD r).map (x :: ·)
 | _ :: _ => none
theorem Zo2 : ∀ {vs : List Val} {ds : List PyData} {xs : List V}, unD vs = some ds → VRs K G vs xs → DWs K G ds xs
 | [], _, _, e, .nil => by cases e; exact DWs.nil
 | .d x :: r, ds, _, e, .cons h t => by
  simp only [unD] at e
  cases q : unD r with
  | none => rw [q] at e; cases e
  | some es => rw [q] at e; cases e; exact DWs.cons h (Zo2 q t)
 | .own _ :: _, _, _, e, _ => by simp [unD] at e
 | .raw _ :: _, _, _, e, _ => by simp [unD] at e
 | .scr _ :: _, _, _, e, _ => by simp [unD] at e
noncomputable def dLst (o : Bool) (da : DTA) : DTE := fun s k => da s fun vs s1 => match unD vs with | some ds => ds.length ≤ sizeLine ∧ nl o ds s1 k | none => False
noncomputable def dTup (da : DTA) : DTE := fun s k => da s fun vs s1 => match unD vs with | some ds => ds.length ≤ sizeLine ∧ k (.d (.tuple ds)) s1 | none => False
theorem Zct (o : Bool) {t : TA} {da : DTA} (ha : RA K t da) : RE K (tLst t) (dLst o da) := by
 refine ⟨fun s Q Q' h q => ha.mo _ _ _ (fun v s1 q1 => ?_) q, fun G s σ H Q r h => ha.ok G s σ H _ r (ha.mo _ _ _ (fun vs s1 q G1 H1 xs e1 r1 v1 => ?_) h)⟩
 ·split at q1
  ·exact ⟨q1.1, Zg3 h q1.2⟩
  ·exact q1.elim
 ·split at q
  ·next ds e =>
   have D := Zo2 e v1
   exact ⟨by rw [← D.length]; exact q.1, r1.nl D (Zg3 (fun v s' z => z.same e1) q.2)⟩
  ·exact q.elim
theorem Zd4 {t : TA} {da : DTA} (ha : RA K t da) : RE K (tTup t) (dTup da) := by
 refine ⟨fun s Q Q' h q => ha.mo _ _ _ (fun v s1 q1 => ?_) q, fun G s σ H Q r h => ha.ok G s σ H _ r (ha.mo _ _ _ (fun vs s1 q G1 H1 xs e1 r1 v1 => ?_) h)⟩
 ·split at q1
  ·exact ⟨q1.1, h _ _ q1.2⟩
  ·exact q1.elim
 ·split at q
  ·next ds e =>
   have D := Zo2 e v1
   exact ⟨by rw [← D.length]; exact q.1, r1.nt D (q.2.same e1)⟩
  ·exact q.elim
structure RC (K : PySem.W.Frag) (r : List V → Hp → VK → Prop) (f : List Val → DTE) : Prop where
 mo : ∀ vs, Mo (f vs)
 ok : ∀ G s σ H xs vs Q, Rel K G s σ H → VRs K G vs xs → f vs s (Po K G σ Q) → r xs H Q
noncomputable def dCB (f : List Val → DTE) (da : DTA) : DTE := fun s k => da s fun vs s1 => f vs s1 k
theorem Zbh {r : List V → Hp → VK → Prop} {f : List Val → DTE} {t : TA} {da : DTA} (hc : RC K r f) (ha : RA K t da) : RE K (tCB r t) (dCB f da) :=
 ⟨fun s Q Q' h q => ha.mo _ _ _ (fun vs s1 q1 => hc.mo vs _ _ _ h q1) q, fun G s σ H Q r h => ha.ok G s σ H _ r (ha.mo _ _ _ (fun vs s1 q G1 H1 xs e1 r1 v1 => hc.ok G1 s1 σ H1 xs vs Q r1 v1 (hc.mo vs _ _ _ (fun v s' z => z.same e1) q)) h)⟩
theorem VRs.one {v : Val} {xs : List V} (h : VRs K G [v] xs) : ∃ x, xs = [x] ∧ VR K G v x := by
 cases h with | cons a t => cases t; exact ⟨_, rfl, a⟩
theorem VRs.two {v u : Val} {xs : List V} (h : VRs K G [v, u] xs) : ∃ x y, xs = [x, y] ∧ VR K G v x ∧ VR K G u y := by
 cases h with | cons a t => cases t with | cons b t => cases t; exact ⟨_, _, rfl, a, b⟩
noncomputable def f1 (g : Val → DTE) : List Val → DTE := fun vs s k => match vs with | [v] => g v s k | _ => False
noncomputable def f2 (g : Val → Val → DTE) : List Val → DTE := fun vs s k => match vs with | [v, w] => g v w s k | _ => False
theorem rc1 {r : List V → Hp → VK → Prop} {g : Val → DTE} (mo : ∀ v, Mo (g v)) (ok : ∀ G s σ H x v Q, Rel K G s σ H → VR K G v x → g v s (Po K G σ Q) → r [x] H Q) : RC K r (f1 g) := by
 refine ⟨fun vs s Q Q' h q => ?_, fun G s σ H xs vs Q r v1 h => ?_⟩
 ·unfold f1 at q ⊢; split at q
  ·exact mo _ _ _ _ h q
  ·exact q.elim
 ·unfold f1 at h; split at h
  ·obtain ⟨x, rfl, v2⟩ := v1.one
   exact ok G s σ H x _ Q r v2 h
  ·exact h.elim
theorem rc2 {r : List V → Hp → VK → Prop} {g : Val → Val → DTE} (mo : ∀ v w, Mo (g v w)) (ok : ∀ G s σ H x y v w Q, Rel K G s σ H → VR K G v x → VR K G w y → g v w s (Po K G σ Q) → r [x, y] H Q) : RC K r (f2 g) := by
 refine ⟨fun vs s Q Q' h q => ?_, fun G s σ H xs vs Q r v1 h => ?_⟩
 ·unfold f2 at q ⊢; split at q
  ·exact mo _ _ _ _ _ h q
  ·exact q.elim
 ·unfold f2 at h; split at h
  ·obtain ⟨x, y, rfl, v2, v3⟩ := v1.two
   exact ok G s σ H x y _ _ Q r v2 v3 h
  ·exact h.elim
noncomputable def gLen : Val → DTE := fun v s k => match rdA s.w v with | some ds => k (.d (.int ds.length)) s | none => False
theorem Zd3 : RC K (fun xs H Q => ∃ p ys, xs = [.ref p] ∧ (SqL K H p ys ∨ SqT K H p ys) ∧ Q (.int ys.length) H) (f1 gLen) := by
 refine rc1 (fun v s Q Q' h q => ?_) (fun G s σ H x v Q r v1 h => ?_)
 ·unfold gLen at q ⊢; split at q
  ·exact h _ _ q
  ·exact q.elim
 ·unfold gLen at h; split at h
  ·next ds e =>
   obtain ⟨a, xs, rfl, h1, h2⟩ := r.rdA v1 e
   exact ⟨a, xs, rfl, h1, by rw [← h2.length]; exact h.here r Zdk⟩
  ·exact h.elim
noncomputable def gTupOf : Val → DTE := fun v s k => match rdA s.w v with | some ds => k (.d (.tuple ds)) s | none => False
theorem Zbi : RC K (fun xs H Q => ∃ p ys, xs = [.ref p] ∧ ((SqL K H p ys ∧ ∀ l, H l = none → Q (.ref l) (upd H l (.tup ys))) ∨ (SqT K H p ys ∧ Q (.ref p) H))) (f1 gTupOf) := by
 refine rc1 (fun v s Q Q' h q => ?_) (fun G s σ H x v Q r v1 h => ?_)
 ·unfold gTupOf at q ⊢; split at q
  ·exact h _ _ q
  ·exact q.elim
 ·unfold gTupOf rdA at h
  split at h
  ·next ds e =>
   split at e
   ·next es z =>
    cases e
    obtain ⟨a, xs, rfl, h1, h2⟩ := r.rdT v1 z
    exact ⟨a, xs, rfl, .inr ⟨h1, h.here r (by rw [← Zku z]; exact v1)⟩⟩
   ·obtain ⟨a, xs, rfl, h1, h2⟩ := r.rdL v1 e
    exact ⟨a, xs, rfl, .inl ⟨h1, r.nt h2 h⟩⟩
  ·exact h.elim
noncomputable def gListOf (o : Bool) : Val → DTE := fun v s k => match rdA s.w v with | some ds => nl o ds s k | none => False
noncomputable def uIs : List PyData → Option (List Int)
 | [] => some []
 | .int i :: r => (uIs r).map (i :: ·)
 | _ :: _ => none
theorem Zgi : ∀ {ds : List PyData} {ns : List Int}, uIs ds = some ns → ds = ns.map .int
 | [], _, e => by cases e; rfl
 | .int i :: r, ns, e => by
  simp only [uIs] at e
  cases q : uIs r with
  | none => rw [q] at e; cases e
  | some ms => rw [q] at e; cases e; rw [Zgi q]; rfl
 | .none :: _, _, e => by simp [uIs] at e
 | .bool _ :: _, _, e => by simp [uIs] at e
 | .str _ :: _, _, e => by simp [uIs] at e
 | .list _ :: _, _, e => by simp [uIs] at e
 | .tuple _ :: _, _, e => by simp [uIs] at e
 | .dict _ :: _, _, e => by simp [uIs] at e
@[simp] theorem uIs_map (ns : List Int) : uIs (ns.map .int) = some ns := by
 induction ns with
 | nil => rfl
 | cons n r ih => simp [uIs, ih]
noncomputable def uBs : List PyData → Option (List Bool)
 | [] => some []
 | .bool i :: r => (uBs r).map (i :: ·)
 | _ :: _ => none
theorem Zpy : ∀ {ds : List PyData} {ns : List Bool}, uBs ds = some ns → ds = ns.map .bool
 | [], _, e => by cases e; rfl
 | .bool i :: r, ns, e => by
  simp only [uBs] at e
  cases q : uBs r with
  | none => rw [q] at e; cases e
  | some ms => rw [q] at e; cases e; rw [Zpy q]; rfl
 | .none :: _, _, e => by simp [uBs] at e
 | .int _ :: _, _, e => by simp [uBs] at e
 | .str _ :: _, _, e => by simp [uBs] at e
 | .list _ :: _, _, e => by simp [uBs] at e
 | .tuple _ :: _, _, e => by simp [uBs] at e
 | .dict _ :: _, _, e => by simp [uBs] at e
@[simp] theorem uBs_map (ns : List Bool) : uBs (ns.map .bool) = some ns := by
 induction ns with
 | nil => rfl
 | cons n r ih => simp [uBs, ih]
noncomputable def gSum : Val → DTE := fun v s k => match rdL s.w v with | some ds => (match uIs ds with | some ns => k (.d (.int ns.sum)) s | none => False) | none => False
theorem Zsk : RC K (fun xs H Q => ∃ (a : Addr) (ns : List Int), xs = [.ref a] ∧ SqL K H a (ns.map V.int) ∧ Q (.int ns.sum) H) (f1 gSum) := by
 refine rc1 (fun v s Q Q' h q => ?_) (fun G s σ H x v Q r v1 h => ?_)
 ·unfold gSum at q ⊢; split at q
  ·split at q
   ·exact h _ _ q
   ·exact q.elim
  ·exact q.elim
 ·unfold gSum at h; split at h
  ·next ds e =>
   split at h
   ·next ns z =>
    obtain ⟨a, xs, rfl, h1, h2⟩ := r.rdL v1 e
    rw [Zgi z] at h2
    rw [h2.ints_inv] at h1
    exact ⟨a, ns, rfl, h1, h.here r Zdk⟩
   ·exact h.elim
  ·exact h.elim
noncomputable def gAll : Val → DTE := fun v s k => match rdL s.w v with | some ds => (match uBs ds with | some ns => k (.d (.bool (ns.all id))) s | none => False) | none => False
theorem Zpu : RC K (fun xs H Q => ∃ (a : Addr) (bs : List Bool), xs = [.ref a] ∧ SqL K H a (bs.map V.bl) ∧ Q (.bl (bs.all id)) H) (f1 gAll) := by
 refine rc1 (fun v s Q Q' h q => ?_) (fun G s σ H x v Q r v1 h => ?_)
 ·unfold gAll at q ⊢; split at q
  ·split at q
   ·exact h _ _ q
   ·exact q.elim
  ·exact q.elim
 ·unfold gAll at h; split at h
  ·next ds e =>
   split at h
   ·next ns z =>
    obtain ⟨a, xs, rfl, h1, h2⟩ := r.rdL v1 e
    rw [Zpy z] at h2
    rw [h2.bools_inv] at h1
    exact ⟨a, ns, rfl, h1, h.here r Zj2⟩
   ·exact h.elim
  ·exact h.elim
noncomputable def okR (d : PyData) : Prop := d.showable = true ∧ d.hasDict = false ∧ d.depth ≤ 40 ∧ d.shown.length ≤ sizeLine
noncomputable def isR : PyData → Bool
 | .list _ => true
 | .tuple _ => true
 | _ => false
noncomputable def gRepr : Val → DTE := fun v s k => match rdD s.w v with | some d => isR d = true ∧ okR d ∧ k (.d (.str d.shown)) s | none => False
noncomputable def fMax2 : Val → Val → DTE := fun v w s k => match v, w with | .d (.int i), .d (.int j) => k (.d (.int (max i j))) s | _, _ => False
noncomputable def fMin2 : Val → Val → DTE := fun v w s k => match v, w with | .d (.int i), .d (.int j) => k (.d (.int (min i j))) s | _, _ => False
theorem Zr0 : RC K (fun xs H Q => ∃ i j, xs = [.int i, .int j] ∧ Q (.int (if j > i then j else i)) H) (f2 fMax2) := by
 refine rc2 (fun v w s Q Q' h q => ?_) (fun G s σ H x y v w Q r v1 v2 h => ?_)
 ·unfold fMax2 at q ⊢; split at q
  ·exact h _ _ q
  ·exact q.elim
 ·unfold fMax2 at h; split at h
  ·next i j =>
   refine ⟨i, j, by rw [Zc3 v1, Zc3 v2], ?_⟩
   have e : (if j > i then j else i) = max i j := by split <;> omega
   rw [e]; exact h.here r Zdk
  ·exact h.elim
theorem Znk : RC K (fun xs H Q => ∃ i j, xs = [.int i, .int j] ∧ Q (.int (if j < i then j else i)) H) (f2 fMin2) := by
 refine rc2 (fun v w s Q Q' h q => ?_) (fun G s σ H x y v w Q r v1 v2 h => ?_)
 ·unfold fMin2 at q ⊢; split at q
  ·exact h _ _ q
  ·exact q.elim
 ·unfold fMin2 at h; split at h
  ·next i j =>
   refine ⟨i, j, by rw [Zc3 v1, Zc3 v2], ?_⟩
   have e : (if j < i then j else i) = min i j := by split <;> omega
   rw [e]; exact h.here r Zdk
  ·exact h.elim
noncomputable def tyN : PyData → String
 | .none => "NoneType" | .bool _ => "bool" | .int _ => "int" | .str _ => "str" | .list _ => "list" | .tuple _ => "tuple" | .dict _ => "dict"
noncomputable def fIsi : Val → Val → DTE := fun v w s k => match rdD s.w v, w with
 | some d, .raw (.ty c) => ∃ b, (∀ K, PySem.W.kitOne K (.type (tyN d)) (.type c) = some b) ∧ k (.d (.bool b)) s
 | _, _ => False
end
end L2
namespace L2
open PySem PySem.Spec PyProof.Rows
section
variable {K : PySem.W.Frag} {G G' H H' : Hp} {s : DS} {σ : St}
noncomputable def dTest (d : DTE) : DTT := fun s k => d s fun v s1 => match v with | .d (.bool b) => k b s1 | _ => False
theorem Zcz {t : TE} {d : DTE} (h : RE K t d) : RT K (tTest t) (dTest d) := by
 refine ⟨fun s Q Q' z q => h.mo _ _ _ (fun v s1 q => ?_) q, fun G s σ H Q r q => h.ok G s σ H _ r (h.mo _ _ _ (fun v s1 q G1 H1 x e1 r1 v1 => ?_) q)⟩
 ·split at q
  ·exact z _ _ q
  ·exact q.elim
 ·split at q
  ·next b => exact ⟨b, Zrd v1, q G1 H1 e1 r1⟩
  ·exact q.elim
theorem rt_b {t : TE} {d : DTE} (h : RE K t d) : RT K (tB t) (dTest d) := Zcz h
noncomputable def truD (w : OW) (v : Val) : Option Bool := match v with
 | .d .none => some false
 | .d (.bool b) => some b
 | .d (.int i) => some (i != 0)
 | _ => (rdA w v).map fun ds => !ds.isEmpty
noncomputable def dTru (d : DTE) : DTT := fun s k => d s fun v s1 => match truD s1.w v with | some b => k b s1 | none => False
theorem DWs.empty {ds : List PyData} {xs : List V} (h : DWs K G ds xs) : xs.isEmpty = ds.isEmpty := by
 cases ds with
 | nil => unfold DWs at h; rw [h]; rfl
 | cons d ds => unfold DWs at h; obtain ⟨x, r, rfl, _⟩ := h; rfl
noncomputable def dAnd (t u : DTT) : DTT := fun s k => t s fun c s1 => if c = true then u s1 k else k false s1
noncomputable def dOr (t u : DTT) : DTT := fun s k => t s fun c s1 => if c = true then k true s1 else u s1 k
noncomputable def dNot (t : DTT) : DTT := fun s k => t s fun c s1 => k (!c) s1
noncomputable def dYes : DTT := fun s k => k true s
theorem Zbk : RT K tYes dYes := ⟨fun s Q Q' z y => z _ _ y, fun G s σ H Q r y => y G H (Same.refl G) r⟩
noncomputable def dIfE (t : DTT) (a b : DTE) : DTE := fun s k => t s fun c s1 => if c = true then a s1 k else b s1 k
theorem Zt6 {t : TT} {ta tb : TE} {d : DTT} {da db : DTE} (h : RT K t d) (ha : RE K ta da) (hb : RE K tb db) : RE K (tIf t ta tb) (dIfE d da db) := by
 refine ⟨fun s Q Q' z y => h.mo _ _ _ (fun c s1 y => ?_) y, fun G s σ H Q r y => h.ok G s σ H _ r (h.mo _ _ _ (fun c s1 y G1 H1 e1 r1 => ?_) y)⟩
 ·cases c
  ·exact hb.mo _ _ _ z y
  ·exact ha.mo _ _ _ z y
 ·cases c
  ·exact hb.ok G1 s1 σ H1 _ r1 (hb.mo _ _ _ (fun c s2 z => z.same e1) y)
  ·exact ha.ok G1 s1 σ H1 _ r1 (ha.mo _ _ _ (fun c s2 z => z.same e1) y)
noncomputable def dAndV (a b : DTE) : DTE := fun s k => a s fun v s1 => match v with | .d (.bool c) => (if c = true then b s1 k else k (.d (.bool false)) s1) | _ => False
noncomputable def dOrV (a b : DTE) : DTE := fun s k => a s fun v s1 => match v with | .d (.bool c) => (if c = true then k (.d (.bool true)) s1 else b s1 k) | _ => False
noncomputable def dNotV (a : DTE) : DTE := fun s k => a s fun v s1 => match v with | .d (.bool c) => k (.d (.bool (!c))) s1 | _ => False
theorem JOk.list {a : Addr} {xs : List V} {ds : List PyData} (h : G a = some (.lst xs)) (D : DWs K G ds xs) : JOk K (Itl K a) G (fun _ => True) ds := by
 intro G1 s σ H i e _ r
 have hs : SqL K H a xs := SqL.of (r.sub _ _ (e _ _ h))
 refine ⟨fun d hd => ?_, fun hl => ⟨xs, hs, by rw [← D.length]; exact hl⟩⟩
 obtain ⟨x, h1, h2⟩ := D.get' hd
 refine ⟨⟨xs, x, hs, h1⟩, fun y H' hy => ?_⟩
 obtain ⟨rfl, hy⟩ := hy
 have := hy xs hs
 rw [h1] at this; cases this
 exact ⟨G1, Same.refl _, r, h2.same e⟩
theorem JOk.tup {a : Addr} {xs : List V} {ds : List PyData} (h : SqT K G a xs) (D : DWs K G ds xs) : JOk K (Itt K a) G (fun _ => True) ds := by
 intro G1 s σ H i e _ r
 have hs : SqT K H a xs := r.sub.tup (e.tup h)
 refine ⟨fun d hd => ?_, fun hl => ⟨xs, hs, by rw [← D.length]; exact hl⟩⟩
 obtain ⟨x, h1, h2⟩ := D.get' hd
 refine ⟨⟨xs, x, hs, h1⟩, fun y H' hy => ?_⟩
 obtain ⟨rfl, hy⟩ := hy
 have := hy xs hs
 rw [h1] at this; cases this
 exact ⟨G1, Same.refl _, r, h2.same e⟩
noncomputable def rngD (lo : Int) (n : Nat) : List PyData := (List.range n).map fun i => .int (lo + (i : Nat))
theorem JOk.rng {lo : Int} {n : Nat} : JOk K (Itr lo n) G (fun _ => True) (rngD lo n) := by
 intro G1 s σ H i e _ r
 refine ⟨fun d hd => ?_, fun hl => by show n ≤ i; simpa [rngD] using hl⟩
 have hi : i < n := by
  have := (List.getElem?_eq_some_iff.mp hd).1
  simpa [rngD] using this
 refine ⟨hi, fun y H' hy => ?_⟩
 obtain ⟨rfl, rfl⟩ := hy
 refine ⟨G1, Same.refl _, r, ?_⟩
 have hd' : d = .int (lo + (i : Nat)) := by
  unfold rngD at hd
  rw [List.getElem?_map, List.getElem?_range hi] at hd
  exact (Option.some.inj hd).symm
 rw [hd']; exact DW.int
noncomputable def SqD (K : PySem.W.Frag) (t : Bool) (G : Hp) (a : Addr) (xs : List V) : Prop := match t with | true => SqT K G a xs | false => G a = some (.lst xs)
theorem SqD.sq {t : Bool} {a : Addr} {xs : List V} (h : SqD K t G a xs) (e : Same G G') : SqB K t G' a xs := by
 cases t
 ·exact SqL.of (e _ _ h)
 ·exact e.tup h
noncomputable def zipD (ds es : List PyData) : List PyData := (ds.zip es).map fun p => .tuple [p.1, p.2]
theorem JOk.zip {t1 t2 : Bool} {a b : Addr} {xs ys : List V} {ds es : List PyData} (h : SqD K t1 G a xs) (h' : SqD K t2 G b ys) (D : DWs K G ds xs) (D' : DWs K G es ys) : JOk K (Itz K t1 t2 a b) G (fun _ => True) (zipD ds es) := by
 intro G1 s σ H i e _ r
 have hs := h.sq (e.trans r.sub)
 have hs' := h'.sq (e.trans r.sub)
 refine ⟨fun d hd => ?_, fun hl => ⟨xs, ys, hs, hs', ?_⟩⟩
 ·unfold zipD at hd
  rw [List.getElem?_map] at hd
  cases q : (ds.zip es)[i]? with
  | none => rw [q] at hd; cases hd
  | some p =>
   rw [q] at hd
   cases hd
   obtain ⟨q1, q2⟩ := List.getElem?_zip_eq_some.mp q
   obtain ⟨x, h1, h2⟩ := D.get' q1
   obtain ⟨y, h3, h4⟩ := D'.get' q2
   refine ⟨⟨xs, ys, x, y, hs, hs', h1, h3⟩, fun v H' hy => ?_⟩
   obtain ⟨p', x', y', rfl, hp, rfl, hxy⟩ := hy
   obtain ⟨z1, z2⟩ := hxy xs ys hs hs'
   rw [h1] at z1; cases z1
   rw [h3] at z2; cases z2
   have hg := r.sub.free hp
   have S := Zbt hg (.tup [x, y])
   exact ⟨_, S, r.new hp _, DW.tup Zax (DWs.cons (h2.same (e.trans S)) (DWs.cons (h4.same (e.trans S)) DWs.nil))⟩
 ·unfold zipD at hl
  rw [lmp, List.length_zip, D.length, D'.length] at hl
  omega
noncomputable def enumD (ds : List PyData) : List PyData := ds.mapIdx fun i d => .tuple [.int (i : Nat), d]
theorem JOk.enum {t : Bool} {a : Addr} {xs : List V} {ds : List PyData} (h : SqD K t G a xs) (D : DWs K G ds xs) : JOk K (Ite K t a) G (fun _ => True) (enumD ds) := by
 intro G1 s σ H i e _ r
 have hs := h.sq (e.trans r.sub)
 refine ⟨fun d hd => ?_, fun hl => ⟨xs, hs, by rw [← D.length]; simpa [enumD] using hl⟩⟩
 unfold enumD at hd
 rw [List.getElem?_mapIdx] at hd
 cases q : ds[i]? with
 | none => rw [q] at hd; cases hd
 | some d' =>
  rw [q] at hd
  cases hd
  obtain ⟨x, h1, h2⟩ := D.get' q
  refine ⟨⟨xs, x, hs, h1⟩, fun v H' hy => ?_⟩
  obtain ⟨p', x', rfl, hp, rfl, hxy⟩ := hy
  have z1 := hxy xs hs
  rw [h1] at z1; cases z1
  have hg := r.sub.free hp
  have S := Zbt hg (.tup [.int (i : Nat), x])
  exact ⟨_, S, r.new hp _, DW.tup Zax (DWs.cons DW.int (DWs.cons (h2.same (e.trans S)) DWs.nil))⟩
noncomputable def noP : OW → Prop := fun _ => True
noncomputable def dItL (d : DTE) : DTI := fun s k => d s fun v s1 => match v with | .d (.list ds) => k (ds, noP) s1 | .own a => ∃ ds, s1.w a = some (.lst ds) ∧ k (ds, fun w => w a = some (.lst ds)) s1 | _ => False
noncomputable def dItT (d : DTE) : DTI := fun s k => d s fun v s1 => match v with | .d (.tuple ds) => k (ds, noP) s1 | _ => False
theorem JOk.own {a : Addr} {ds : List PyData} : JOk K (Itl K a) G (fun w => w a = some (.lst ds)) ds := by
 intro G1 s σ H i e p r
 obtain ⟨_, xs, h1, D⟩ := r.own a _ p
 have hs : SqL K H a xs := SqL.of h1
 refine ⟨fun d hd => ?_, fun hl => ⟨xs, hs, by rw [← D.length]; exact hl⟩⟩
 obtain ⟨x, h4, h2⟩ := D.get' hd
 refine ⟨⟨xs, x, hs, h4⟩, fun y H' hy => ?_⟩
 obtain ⟨rfl, hy⟩ := hy
 have := hy xs hs
 rw [h4] at this; cases this
 exact ⟨G1, Same.refl _, r, h2⟩
theorem Zck {t : TE} {d : DTE} (h : RE K t d) : RI K (iList K t) (dItL d) := by
 refine ⟨fun s Q Q' z y => h.mo _ _ _ (fun v s1 y => ?_) y, fun G s σ H R r y => h.ok G s σ H _ r (h.mo _ _ _ (fun v s1 y G1 H1 x e1 r1 v1 => ?_) y)⟩
 ·split at y
  ·exact z _ _ y
  ·obtain ⟨ds, h1, y⟩ := y; exact ⟨ds, h1, z _ _ y⟩
  ·exact y.elim
 ·split at y
  ·obtain ⟨a, xs, rfl, h1, h2⟩ := Zj0 v1
   exact ⟨a, rfl, ⟨xs, SqL.of (r1.sub _ _ h1)⟩, y G1 H1 _ e1 r1 (JOk.list h1 h2)⟩
  ·next a =>
   obtain ⟨ds, h1, y⟩ := y
   cases (show x = .ref a from v1)
   obtain ⟨_, xs, h2, _⟩ := r1.own a _ h1
   exact ⟨a, rfl, ⟨xs, SqL.of h2⟩, y G1 H1 _ e1 r1 JOk.own⟩
  ·exact y.elim
theorem Zdw {t : TE} {d : DTE} (h : RE K t d) : RI K (iTup K t) (dItT d) := by
 refine ⟨fun s Q Q' z y => h.mo _ _ _ (fun v s1 y => ?_) y, fun G s σ H R r y => h.ok G s σ H _ r (h.mo _ _ _ (fun v s1 y G1 H1 x e1 r1 v1 => ?_) y)⟩
 ·split at y
  ·exact z _ _ y
  ·exact y.elim
 ·split at y
  ·obtain ⟨a, xs, rfl, h1, h2⟩ := Zj1 v1
   exact ⟨a, rfl, ⟨xs, r1.sub.tup h1⟩, y G1 H1 _ e1 r1 (JOk.tup h1 h2)⟩
  ·exact y.elim
noncomputable def dRng1 (d : DTA) : DTI := fun s k => d s fun vs s1 => match vs with | [.d (.int j)] => (-(2 ^ 62) ≤ j ∧ j < 2 ^ 62) ∧ k (rngD 0 j.toNat, noP) s1 | _ => False
noncomputable def dRng2 (d : DTA) : DTI := fun s k => d s fun vs s1 => match vs with | [.d (.int i), .d (.int j)] => (-(2 ^ 62) ≤ i ∧ i < 2 ^ 62 ∧ -(2 ^ 62) ≤ j ∧ j < 2 ^ 62) ∧ k (rngD i (j - i).toNat, noP) s1 | _ => False
theorem Zdg {t : TA} {d : DTA} (h : RA K t d) : RI K (iRng1 t) (dRng1 d) := by
 refine ⟨fun s Q Q' z y => h.mo _ _ _ (fun v s1 y => ?_) y, fun G s σ H R r y => h.ok G s σ H _ r (h.mo _ _ _ (fun v s1 y G1 H1 x e1 r1 v1 => ?_) y)⟩
 ·split at y
  ·exact ⟨y.1, z _ _ y.2⟩
  ·exact y.elim
 ·split at y
  ·next j =>
   obtain ⟨u, rfl, v2⟩ := v1.one
   exact ⟨j, by rw [Zc3 v2], y.1.1, y.1.2, y.2 G1 H1 _ e1 r1 JOk.rng⟩
  ·exact y.elim
noncomputable def seqD (t : Bool) : Val → Option (List PyData)
 | .d (.list ds) => if t then none else some ds
 | .d (.tuple ds) => if t then some ds else none
 | _ => none
theorem Zk2 {t : Bool} {v : Val} {x : V} {ds : List PyData} (h : VR K G v x) (e : seqD t v = some ds) : ∃ a xs, x = .ref a ∧ SqD K t G a xs ∧ DWs K G ds xs := by
 unfold seqD at e
 split at e
 ·cases t
  ·cases e
   obtain ⟨a, xs, rfl, h1, h2⟩ := Zj0 h
   exact ⟨a, xs, rfl, h1, h2⟩
  ·cases e
 ·cases t
  ·cases e
  ·cases e
   obtain ⟨a, xs, rfl, h1, h2⟩ := Zj1 h
   exact ⟨a, xs, rfl, h1, h2⟩
 ·cases e
noncomputable def dZip (t1 t2 : Bool) (d : DTA) : DTI := fun s k => d s fun vs s1 => match vs with | [v, w] => (match seqD t1 v, seqD t2 w with | some ds, some es => k (zipD ds es, noP) s1 | _, _ => False) | _ => False
noncomputable def dEnum (t : Bool) (d : DTA) : DTI := fun s k => d s fun vs s1 => match vs with | [v] => (match seqD t v with | some ds => k (enumD ds, noP) s1 | _ => False) | _ => False
theorem Zkw {t1 t2 : Bool} {t : TA} {d : DTA} (h : RA K t d) : RI K (iZip K t1 t2 t) (dZip t1 t2 d) := by
 refine ⟨fun s Q Q' z y => h.mo _ _ _ (fun v s1 y => ?_) y, fun G s σ H R r y => h.ok G s σ H _ r (h.mo _ _ _ (fun v s1 y G1 H1 x e1 r1 v1 => ?_) y)⟩
 ·split at y
  ·split at y
   ·exact z _ _ y
   ·exact y.elim
  ·exact y.elim
 ·split at y
  ·split at y
   ·next ds es q1 q2 =>
    obtain ⟨u, w, rfl, v2, v3⟩ := v1.two
    obtain ⟨a, xs, rfl, h1, h2⟩ := Zk2 v2 q1
    obtain ⟨b, ys, rfl, h3, h4⟩ := Zk2 v3 q2
    exact ⟨a, b, xs, ys, rfl, h1.sq r1.sub, h3.sq r1.sub, y G1 H1 _ e1 r1 (JOk.zip h1 h3 h2 h4)⟩
   ·exact y.elim
  ·exact y.elim
theorem Zhg {t1 : Bool} {t : TA} {d : DTA} (h : RA K t d) : RI K (iEnum K t1 t) (dEnum t1 d) := by
 refine ⟨fun s Q Q' z y => h.mo _ _ _ (fun v s1 y => ?_) y, fun G s σ H R r y => h.ok G s σ H _ r (h.mo _ _ _ (fun v s1 y G1 H1 x e1 r1 v1 => ?_) y)⟩
 ·split at y
  ·split at y
   ·exact z _ _ y
   ·exact y.elim
  ·exact y.elim
 ·split at y
  ·split at y
   ·next ds q1 =>
    obtain ⟨u, rfl, v2⟩ := v1.one
    obtain ⟨a, xs, rfl, h1, h2⟩ := Zk2 v2 q1
    exact ⟨a, xs, rfl, h1.sq r1.sub, y G1 H1 _ e1 r1 (JOk.enum h1 h2)⟩
   ·exact y.elim
  ·exact y.elim
noncomputable def tgN (i : Nat) : DTG := fun v s k => k (s.set i v)
theorem Za7 (i : Nat) : RG K (gName i) (tgN i) := ⟨fun v s Q Q' h q => h _ q, fun G s σ H v x Q r q h => h G _ H (Same.refl G) (r.set q i)⟩
noncomputable abbrev DTGs := List PyData → DS → (DS → Prop) → Prop
structure RGs (K : PySem.W.Frag) (g : TGs) (d : DTGs) : Prop where
 mo : ∀ v s (Q Q' : DS → Prop), (∀ s', Q s' → Q' s') → d v s Q → d v s Q'
 ok : ∀ G s σ H ds xs Q, Rel K G s σ H → DWs K G ds xs → d ds s (fun s' => ∀ G' σ' H', Same G G' → Rel K G' s' σ' H' → Q σ' H') → g xs σ H Q
noncomputable def tgNil : DTGs := fun ds s k => match ds with | [] => k s | _ => False
noncomputable def tgCons (g : DTG) (r : DTGs) : DTGs := fun ds s k => match ds with | d :: t => g (.d d) s (fun s1 => r t s1 k) | [] => False
theorem Zch : RGs K gNil tgNil := by
 refine ⟨fun v s Q Q' h q => ?_, fun G s σ H ds xs Q r D h => ?_⟩
 ·unfold tgNil at q ⊢; split at q
  ·exact h _ q
  ·exact q.elim
 ·unfold tgNil at h; split at h
  ·unfold DWs at D; exact ⟨D, h G σ H (Same.refl G) r⟩
  ·exact h.elim
theorem Zb1 {t : TG} {u : TGs} {g : DTG} {r : DTGs} (h1 : RG K t g) (h2 : RGs K u r) : RGs K (gCons t u) (tgCons g r) := by
 refine ⟨fun v s Q Q' h q => ?_, fun G s σ H ds xs Q rl D h => ?_⟩
 ·unfold tgCons at q ⊢; split at q
  ·exact h1.mo _ _ _ _ (fun s1 q => h2.mo _ _ _ _ h q) q
  ·exact q.elim
 ·unfold tgCons at h; split at h
  ·unfold DWs at D
   obtain ⟨x, t', rfl, D1, D2⟩ := D
   refine ⟨x, t', rfl, h1.ok G s σ H (.d _) x _ rl D1 (h1.mo _ _ _ _ (fun s1 q G1 σ1 H1 e1 r1 => ?_) h)⟩
   exact h2.ok G1 s1 σ1 H1 _ t' _ r1 (D2.same e1) (h2.mo _ _ _ _ (fun s2 q G2 σ2 H2 e2 r2 => q G2 σ2 H2 (e1.trans e2) r2) q)
  ·exact h.elim
noncomputable def tgTup (n : Nat) (g : DTGs) : DTG := fun v s k => match v with | .d (.tuple ds) => ds.length = n ∧ g ds s k | _ => False
theorem Zd5 {n : Nat} {t : TGs} {g : DTGs} (h : RGs K t g) : RG K (gTup K n t) (tgTup n g) := by
 refine ⟨fun v s Q Q' z q => ?_, fun G s σ H v x Q r q z => ?_⟩
 ·unfold tgTup at q ⊢; split at q
  ·exact ⟨q.1, h.mo _ _ _ _ z q.2⟩
  ·exact q.elim
 ·unfold tgTup at z; split at z
  ·obtain ⟨a, xs, rfl, h1, h2⟩ := Zj1 q
   exact ⟨a, xs, rfl, r.sub.tup h1, by rw [← h2.length]; exact z.1, h.ok G s σ H _ xs Q r h2 z.2⟩
  ·exact z.elim
noncomputable def dEmit (de : DTE) : DTL := fun acc s k => de s fun v s1 => match v with | .d x => k (acc ++ [x]) s1 | _ => False
theorem Zba {te : TE} {de : DTE} (h : RE K te de) : RL K (tEmit te) (dEmit de) := by
 refine ⟨fun acc s Q Q' z q => h.mo _ _ _ (fun v s1 q => ?_) q, fun G s σ H acc ys Q r D hl q => ⟨by rw [← D.length]; exact hl, h.ok G s σ H _ r (h.mo _ _ _ (fun v s1 q G1 H1 x e1 r1 v1 => ?_) q)⟩⟩
 ·split at q
  ·exact z _ _ q
  ·exact q.elim
 ·split at q
  ·exact q G1 σ H1 _ e1 r1 ((D.same e1).snoc v1)
  ·exact q.elim
noncomputable def ext : List (Option Val) → List (Option Val) → Prop
 | [], [] => True
 | none :: r, _ :: t => ext r t
 | some v :: r, some u :: t => v = u ∧ ext r t
 | _, _ => False
theorem Zjb : ∀ {e e' : List (Option Val)} {i : Nat} {v : Val}, ext e e' → e[i]? = some (some v) → e'[i]? = some (some v)
 | [], _, i, v, _, h => by simp at h
 | none :: r, [], i, v, h, _ => by simp [ext] at h
 | none :: r, _ :: t, 0, v, _, h => by simp at h
 | none :: r, _ :: t, i + 1, v, h, q => by
  simp only [List.getElem?_cons_succ] at q ⊢
  exact Zjb (e := r) h q
 | some u :: r, [], i, v, h, _ => by simp [ext] at h
 | some u :: r, none :: t, i, v, h, _ => by simp [ext] at h
 | some u :: r, some u' :: t, 0, v, h, q => by
  simp only [List.getElem?_cons_zero] at q ⊢
  rw [← h.1]; exact q
 | some u :: r, some u' :: t, i + 1, v, h, q => by
  simp only [List.getElem?_cons_succ] at q ⊢
  exact Zjb (e := r) h.2 q
theorem Zjc : ∀ {e e' : List (Option Val)}, ext e e' → e.length = e'.length
 | [], [], _ => rfl
 | [], _ :: _, h => by simp [ext] at h
 | none :: r, [], h => by simp [ext] at h
 | none :: r, _ :: t, h => by rw [List.length_cons, List.length_cons, Zjc (e := r) h]
 | some _ :: r, [], h => by simp [ext] at h
 | some _ :: r, none :: t, h => by simp [ext] at h
 | some _ :: r, some _ :: t, h => by rw [List.length_cons, List.length_cons, Zjc (e := r) h.2]
theorem Rel.ext {e : List (Option Val)} (r : Rel K G s σ H) (h : L2.ext e s.e) : Rel K G ⟨e, s.w⟩ σ H :=
 ⟨r.sub, r.own, by rw [Zjc h]; exact r.sl.1, fun i v q => r.sl.2 i v (Zjb h q)⟩
noncomputable def LIt (src : List PyData × (OW → Prop)) (e0 : List (Option Val)) (dg : DTG) (dt : DTT) (dl : DTL) (k : List PyData → DS → Prop) (I : Nat → List PyData → OW → Prop) : Prop :=
 (∀ i acc w, I i acc w → src.2 w ∧ (i < src.1.length → acc.length < sizeLine)) ∧
 (∀ (i : Nat) d acc w, src.1[i]? = some d → I i acc w → dg (.d d) ⟨e0, w⟩ fun s2 => dt s2 fun b s3 => if b = true then dl acc s3 (fun acc' s' => L2.ext e0 s'.e ∧ I (i + 1) acc' s'.w) else L2.ext e0 s3.e ∧ I (i + 1) acc s3.w) ∧
 ∀ acc w, I src.1.length acc w → k acc ⟨e0, w⟩
theorem Zkm {J : It} {g : TG} {tt : TT} {tb : TL} {dg : DTG} {dt : DTT} {dl : DTL} {ds : List PyData} {P : OW → Prop} {e0 : List (Option Val)} {Q : LK} {k : List PyData → DS → Prop} {I : Nat → List PyData → OW → Prop} {G1 : Hp} (hg : RG K g dg) (ht : RT K tt dt) (hl : RL K tb dl) (hJ : JOk K J G1 P ds)
  (hI : LIt (ds, P) e0 dg dt dl k I) (hQ : ∀ G s σ H acc ys, Same G1 G → Rel K G s σ H → DWs K G acc ys → k acc s → Q ys σ H) {w : OW} {σ : St} {H : Hp} {acc : List PyData} {ys : List V} (r : Rel K G1 ⟨e0, w⟩ σ H) (D : DWs K G1 acc ys) (h0 : I 0 acc w) :
  ∃ W : Nat → List V → Nat → St → Hp → Prop, (∃ m, W 0 ys m σ H) ∧ LTurn J g tt tb Q W := by
 obtain ⟨hI1, hI2, hI3⟩ := hI
 dsimp only at hI1 hI2 hI3
 refine ⟨fun i ys m σ H => i + m = ds.length ∧ ∃ G w acc, Same G1 G ∧ Rel K G ⟨e0, w⟩ σ H ∧ DWs K G acc ys ∧ I i acc w, ⟨ds.length, Nat.zero_add _, G1, w, acc, Same.refl _, r, D, h0⟩, ?_⟩
 rintro i ys m σ H ⟨hm, G, w, acc, e, r, D, hi⟩
 obtain ⟨hp, hz⟩ := hI1 i acc w hi
 cases m with
 | zero =>
  have : i = ds.length := by omega
  subst this
  exact .inl ⟨(hJ G _ σ H _ e hp r).2 (Nat.le_refl _), hQ G _ σ H acc ys e r D (hI3 acc w hi)⟩
 | succ m =>
  have hlt : i < ds.length := by omega
  have hd := gEq hlt
  obtain ⟨go, yl⟩ := (hJ G _ σ H i e hp r).1 _ hd
  refine .inr ⟨go, fun ys' σ' H' => ∃ G' w' acc', Same G1 G' ∧ Rel K G' ⟨e0, w'⟩ σ' H' ∧ DWs K G' acc' ys' ∧ I (i + 1) acc' w', fun ys' σ' H' ⟨G', s', acc', q⟩ => ⟨m, Nat.lt_succ_self m, by omega, G', s', acc', q⟩, fun x H' hy => ?_⟩
  obtain ⟨G', e', r', dx⟩ := yl x H' hy
  have hs := hI2 i _ acc w hd hi
  refine hg.ok G' _ σ H' (.d _) x _ r' dx (hg.mo _ _ _ _ (fun s2 q G2 σ2 H2 e2 r2 => ?_) hs)
  refine ht.ok G2 s2 σ2 H2 _ r2 (ht.mo _ _ _ (fun b s3 q G3 H3 e3 r3 => ?_) q)
  have D3 := D.same ((e'.trans e2).trans e3)
  have E3 := ((e.trans e').trans e2).trans e3
  cases b
  ·exact ⟨G3, s3.w, acc, E3, r3.ext q.1, D3, q.2⟩
  ·exact hl.ok G3 s3 σ2 H3 acc ys _ r3 D3 (hz hlt) (hl.mo _ _ _ _ (fun acc' s4 q G4 σ4 H4 ys4 e4 r4 D4 => ⟨G4, s4.w, acc', E3.trans e4, r4.ext q.1, D4, q.2⟩) q)
noncomputable def dLoop (di : DTI) (dg : DTG) (dt : DTT) (dl : DTL) : DTL := fun acc s k => di s fun src s1 => ∃ I, I 0 acc s1.w ∧ LIt src s1.e dg dt dl k I
theorem Zr4 {wi : TI} {g : TG} {tt : TT} {tb : TL} {di : DTI} {dg : DTG} {dt : DTT} {dl : DTL} (hi : RI K wi di) (hg : RG K g dg) (ht : RT K tt dt) (hl : RL K tb dl) : RL K (tLoop wi g tt tb) (dLoop di dg dt dl) := by
 refine ⟨fun acc s Q Q' z q => hi.mo _ _ _ (fun ds s1 q => ?_) q, fun G s σ H acc ys Q r D hz q => hi.ok G s σ H _ r (hi.mo _ _ _ (fun ds s1 q G1 H1 J e1 r1 hJ => ?_) q)⟩
 ·obtain ⟨I, h0, h3, h1, h2⟩ := q
  exact ⟨I, h0, h3, h1, fun acc s h => z _ _ (h2 acc s h)⟩
 ·obtain ⟨I, h0, hI⟩ := q
  exact Zkm (w := s1.w) hg ht hl hJ hI (fun G2 s2 σ2 H2 acc2 ys2 e2 r2 D2 k2 => k2 G2 σ2 H2 ys2 (e1.trans e2) r2 D2) r1 (D.same e1) h0
noncomputable def dComp (o : Bool) (di : DTI) (cap : List (Option Nat)) (dg : DTG) (dt : DTT) (dl : DTL) : DTE := fun s k => di s fun src s1 => ∃ I, I 0 [] s1.w ∧ LIt src (captD cap s1.e) dg dt dl (fun acc s' => nl o acc ⟨s1.e, s'.w⟩ k) I
theorem Zb9 (o : Bool) {wi : TI} {cap : List (Option Nat)} {g : TG} {tt : TT} {tb : TL} {di : DTI} {dg : DTG} {dt : DTT} {dl : DTL} (hi : RI K wi di) (hg : RG K g dg) (ht : RT K tt dt) (hl : RL K tb dl) : RE K (tComp wi cap g tt tb) (dComp o di cap dg dt dl) := by
 refine ⟨fun s Q Q' z q => hi.mo _ _ _ (fun ds s1 q => ?_) q, fun G s σ H Q r q => hi.ok G s σ H _ r (hi.mo _ _ _ (fun ds s1 q G1 H1 J e1 r1 hJ => ?_) q)⟩
 ·obtain ⟨I, h0, h3, h1, h2⟩ := q
  exact ⟨I, h0, h3, h1, fun acc s h => Zg3 z (h2 acc s h)⟩
 ·obtain ⟨I, h0, hI⟩ := q
  refine Zkm (w := s1.w) hg ht hl hJ hI (fun G2 s2 σ2 H2 acc2 ys2 e2 r2 D2 k2 => ?_) (r1.env (r1.sl.capt cap)) DWs.nil h0
  exact (r2.env (r1.sl.same e2) : Rel K G2 ⟨s1.e, s2.w⟩ σ H2).nl D2 (Zg3 (fun v s' z => z.same (e1.trans e2)) k2)
theorem Zjn {src : List PyData × (OW → Prop)} {e0 : List (Option Val)} {dg : DTG} {dt : DTT} {dl : DTL} {k : List PyData → DS → Prop} {w : OW} {α : Type} (xs : List α) (enc : α → PyData) (g : α → List PyData) (acc0 : List PyData) (hsrc : src.1 = xs.map enc) (hp : src.2 w)
  (hl : acc0.length + (xs.flatMap g).length < sizeLine)
  (hs : ∀ x ∈ xs, ∀ acc : List PyData, acc.length + (g x).length < sizeLine → ∀ Q : List PyData → OW → Prop, Q (acc ++ g x) w → dg (.d (enc x)) ⟨e0, w⟩ fun s2 => dt s2 fun b s3 => if b = true then dl acc s3 (fun acc' s' => L2.ext e0 s'.e ∧ Q acc' s'.w) else L2.ext e0 s3.e ∧ Q acc s3.w)
  (hk : k (acc0 ++ xs.flatMap g) ⟨e0, w⟩) : ∃ I : Nat → List PyData → OW → Prop, I 0 acc0 w ∧ LIt src e0 dg dt dl k I := by
 refine ⟨fun i acc w' => acc = acc0 ++ (xs.take i).flatMap g ∧ w' = w, ⟨by simp, rfl⟩, ?_, ?_, ?_⟩
 ·rintro i acc w' ⟨rfl, rfl⟩
  refine ⟨hp, fun hi => ?_⟩
  have hle : ((xs.take i).flatMap g).length ≤ (xs.flatMap g).length := by
   have : xs.flatMap g = (xs.take i).flatMap g ++ (xs.drop i).flatMap g := by rw [← List.flatMap_append, List.take_append_drop]
   rw [this, List.length_append]; omega
  rw [List.length_append]; omega
 ·rintro i d acc w' hd ⟨rfl, rfl⟩
  rw [hsrc, List.getElem?_map] at hd
  cases q : xs[i]? with
  | none => rw [q] at hd; cases hd
  | some x =>
   rw [q] at hd; cases hd
   obtain ⟨hi, hx⟩ := List.getElem?_eq_some_iff.mp q
   have ht : xs.take (i + 1) = xs.take i ++ [x] := by rw [List.take_add_one, q]; rfl
   refine hs x (by rw [← hx]; exact List.getElem_mem hi) _ ?_ (fun acc' w'' => acc' = acc0 ++ (xs.take (i + 1)).flatMap g ∧ w'' = w') ⟨?_, rfl⟩
   ·have hle : ((xs.take (i + 1)).flatMap g).length ≤ (xs.flatMap g).length := by
     have : xs.flatMap g = (xs.take (i + 1)).flatMap g ++ (xs.drop (i + 1)).flatMap g := by rw [← List.flatMap_append, List.take_append_drop]
     rw [this, List.length_append]; omega
    rw [ht, List.flatMap_append, List.length_append] at hle
    simp only [List.flatMap_cons, List.flatMap_nil, List.append_nil] at hle
    rw [List.length_append]; omega
   ·rw [ht, List.flatMap_append, List.append_assoc]; simp
 ·rintro acc w' ⟨rfl, rfl⟩
  rw [hsrc, lmp, List.take_length]
  exact hk
noncomputable def dNext : DTS := fun E s => E.nx s
noncomputable def dSeq (t u : DTS) : DTS := fun E s => t { E with nx := u E } s
theorem Zc9 : RS K tNext dNext := fun G s σ H D E r p q => p.nx s G σ H (Same.refl G) r q
theorem Zai {t u : TS} {d e : DTS} (h : RS K t d) (q : RS K u e) : RS K (tSeq t u) (dSeq d e) := by
 intro G s σ H D E r p z
 refine h G s σ H _ { E with nx := e E } r ⟨fun s' G' σ' H' e1 r1 z1 => ?_, p.rt, p.bk, p.ct⟩ z
 exact q G' s' σ' H' D E r1 (p.same e1) z1
noncomputable def dBreak : DTS := fun E s => E.bk s
noncomputable def dCont : DTS := fun E s => E.ct s
noncomputable def dDrop (d : DTE) : DTS := fun E s => d s fun _ s1 => E.nx s1
theorem Zed {t : TE} {d : DTE} (h : RE K t d) : RS K (tDrop t) (dDrop d) := fun G s σ H D E r p q =>
 h.ok G s σ H _ r (h.mo _ _ _ (fun v s1 q G1 H1 x e1 r1 v1 => p.nx s1 G1 σ H1 e1 r1 q) q)
noncomputable def dRet (d : DTE) : DTS := fun E s => d s E.rt
theorem Zbz {t : TE} {d : DTE} (h : RE K t d) : RS K (tRet t) (dRet d) := fun G s σ H D E r p q =>
 h.ok G s σ H _ r (h.mo _ _ _ (fun v s1 q G1 H1 x e1 r1 v1 => p.rt v s1 G1 σ H1 x e1 r1 v1 q) q)
noncomputable def dRetN : DTS := fun E s => E.rt (.d .none) s
noncomputable def dIfS (c : DTT) (t u : DTS) : DTS := fun E s => c s fun b s1 => if b = true then t E s1 else u E s1
theorem Zit {c : TT} {t u : TS} {dc : DTT} {d e : DTS} (hc : RT K c dc) (h : RS K t d) (q : RS K u e) : RS K (tIfS c t u) (dIfS dc d e) := by
 intro G s σ H D E r p z
 refine hc.ok G s σ H _ r (hc.mo _ _ _ (fun b s1 z G1 H1 e1 r1 => ?_) z)
 cases b
 ·exact q G1 s1 σ H1 D E r1 (p.same e1) z
 ·exact h G1 s1 σ H1 D E r1 (p.same e1) z
noncomputable def dAsg (d : DTE) (g : DTG) : DTS := fun E s => d s fun v s1 => g v s1 E.nx
theorem Zb6 {t : TE} {g : TG} {d : DTE} {dg : DTG} (h : RE K t d) (hg : RG K g dg) : RS K (tAsg t g) (dAsg d dg) := fun G s σ H D E r p q =>
 h.ok G s σ H _ r (h.mo _ _ _ (fun v s1 q G1 H1 x e1 r1 v1 => hg.ok G1 s1 σ H1 v x _ r1 v1 (hg.mo _ _ _ _ (fun s2 q G2 σ2 H2 e2 r2 => p.nx s2 G2 σ2 H2 (e1.trans e2) r2 q) q)) q)
noncomputable def dPar (i j : Nat) (d : DTA) : DTS := fun E s => d s fun vs s1 => match vs with | [v, w] => E.nx ((s1.set i v).set j w) | _ => False
theorem lenE0 {α : Type _} {l : List α} (h : l.length = 0) : l = [] := List.eq_nil_of_length_eq_zero h
theorem lenE1 {α : Type _} {l : List α} (h : l.length = 1) : ∃ a0, l = [a0] := by
 cases l with
 | nil => cases h
 | cons a t => have := lenE0 (Nat.succ.inj h); exact ⟨a, by rw [this]⟩
theorem lenE2 {α : Type _} {l : List α} (h : l.length = 2) : ∃ a0 a1, l = [a0, a1] := by
 cases l with
 | nil => cases h
 | cons a t => obtain ⟨b0, rfl⟩ := lenE1 (Nat.succ.inj h); exact ⟨a, b0, rfl⟩
theorem lenE3 {α : Type _} {l : List α} (h : l.length = 3) : ∃ a0 a1 a2, l = [a0, a1, a2] := by
 cases l with
 | nil => cases h
 | cons a t => obtain ⟨b0, b1, rfl⟩ := lenE2 (Nat.succ.inj h); exact ⟨a, b0, b1, rfl⟩
noncomputable def laterS (u : DTS) (E : DEnds) (s : DS) : Prop := u E s
theorem Zn2 {u : DTS} {E : DEnds} {s : DS} (h : u E s) : laterS u E s := h
theorem Zpm (c : DTT) (t u : DTS) (E : DEnds) (s : DS) : dIfS c t u E s = c s fun b s1 => if b = true then laterS t E s1 else laterS u E s1 := rfl
theorem Zpn (t u : DTS) (E : DEnds) (s : DS) : dSeq t u E s = t { E with nx := laterS u E } s := rfl
noncomputable def later (f : DS → Prop) (s : DS) : Prop := f s
theorem Zkj (f : DS → Prop) (e : List (Option Val)) (w : OW) : later f ⟨e, w⟩ = f ⟨e, w⟩ := rfl
noncomputable def goB (dg : DTG) (v : Val) (db : DTS) (E : DEnds) (s : DS) : Prop := dg v s (db E)
theorem Zpr (dg : DTG) (v : Val) (db : DTS) (E : DEnds) (e : List (Option Val)) (w : OW) : goB dg v db E ⟨e, w⟩ = dg v ⟨e, w⟩ (db E) := rfl
noncomputable def goW (c : DTT) (db : DTS) (E F : DEnds) (s : DS) : Prop := c s fun b s1 => if b = true then db F s1 else E.nx s1
theorem Zps (c : DTT) (db : DTS) (E F : DEnds) (e : List (Option Val)) (w : OW) : goW c db E F ⟨e, w⟩ = c ⟨e, w⟩ fun b s1 => if b = true then db F s1 else E.nx s1 := rfl
theorem iteTT {α : Sort _} (a b : α) : (if true = true then a else b) = a := rfl
theorem iteFF {α : Sort _} (a b : α) : (if false = true then a else b) = b := rfl
noncomputable def dFor (di : DTI) (dg : DTG) (db : DTS) : DTS := fun E s => di s fun src s1 => ∃ I : Nat → DS → Prop, I 0 s1 ∧ (∀ i s, I i s → src.2 s.w) ∧
 (∀ (i : Nat) d s, src.1[i]? = some d → I i s → goB dg (.d d) db { E with nx := I (i + 1), ct := I (i + 1), bk := E.nx } s) ∧ ∀ s, I src.1.length s → later E.nx s
theorem Zcu {wi : TI} {g : TG} {tb : TS} {di : DTI} {dg : DTG} {db : DTS} (hi : RI K wi di) (hg : RG K g dg) (hb : RS K tb db) : RS K (tFor wi g tb) (dFor di dg db) := by
 intro G s σ H D E r p z
 refine hi.ok G s σ H _ r (hi.mo _ _ _ (fun src s1 z G1 H1 J e1 r1 hJ => ?_) z)
 obtain ⟨ds, P⟩ := src
 obtain ⟨I, h0, h3, h1, h2⟩ := z
 dsimp only at hJ h3 h1 h2
 refine ⟨fun i m σ H => i + m = ds.length ∧ ∃ G s, Same G1 G ∧ Rel K G s σ H ∧ I i s, ⟨ds.length, Nat.zero_add _, G1, s1, Same.refl _, r1, h0⟩, ?_⟩
 rintro i m σ H ⟨hm, G, s, e, r, hI⟩
 cases m with
 | zero =>
  have : i = ds.length := by omega
  subst this
  exact .inl ⟨(hJ G s σ H _ e (h3 _ _ hI) r).2 (Nat.le_refl _), p.nx s G σ H (e1.trans e) r (h2 s hI)⟩
 | succ m =>
  have hlt : i < ds.length := by omega
  have hd := gEq hlt
  obtain ⟨go, yl⟩ := (hJ G s σ H i e (h3 _ _ hI) r).1 _ hd
  refine .inr ⟨go, fun σ' H' => ∃ G' s', Same G1 G' ∧ Rel K G' s' σ' H' ∧ I (i + 1) s', fun σ' H' ⟨G', s', q⟩ => ⟨m, Nat.lt_succ_self m, by omega, G', s', q⟩, fun x H' hy => ?_⟩
  obtain ⟨G', e', r', dx⟩ := yl x H' hy
  refine hg.ok G' s σ H' (.d _) x _ r' dx (hg.mo _ _ _ _ (fun s2 q G2 σ2 H2 e2 r2 => ?_) (h1 i _ s hd hI))
  have E2 := (e.trans e').trans e2
  exact hb G2 s2 σ2 H2 _ { E with nx := I (i + 1), ct := I (i + 1), bk := E.nx } r2 ⟨fun s' G3 σ3 H3 e3 r3 z => ⟨G3, s', E2.trans e3, r3, z⟩, fun v s' G3 σ3 H3 x e3 => p.rt v s' G3 σ3 H3 x ((e1.trans E2).trans e3), fun s' G3 σ3 H3 e3 => p.nx s' G3 σ3 H3 ((e1.trans E2).trans e3), fun s' G3 σ3 H3 e3 r3 z => ⟨G3, s', E2.trans e3, r3, z⟩⟩ q
noncomputable def dWhile (c : DTT) (db : DTS) : DTS := fun E s => ∃ I : Nat → DS → Prop, (∃ m, I m s) ∧ ∀ m s, I m s → goW c db E { E with nx := fun s' => ∃ m', m' < m ∧ I m' s', ct := fun s' => ∃ m', m' < m ∧ I m' s', bk := E.nx } s
noncomputable abbrev DSp := List Val → OW → (Val → OW → Prop) → Prop
noncomputable def spD (K : PySem.W.Frag) (f : DSp) : Sp := fun vs H Q _ => ∃ (G : Hp) (w : OW) (as : List Val), Same G H ∧ OwnOk K G w H ∧ VRs K G as vs ∧ f as w (fun v w' => ∀ G' H' x, Same G G' → Same G' H' → OwnOk K G' w' H' → VR K G' v x → Q x H')
noncomputable def dCall (f : DSp) (da : DTA) : DTE := fun s k => da s fun vs s1 => f vs s1.w (fun v w' => k v ⟨s1.e, w'⟩)
noncomputable def MoS (f : DSp) : Prop := ∀ vs w (k k' : Val → OW → Prop), (∀ v w', k v w' → k' v w') → f vs w k → f vs w k'
theorem Zau {f : DSp} {t : TA} {da : DTA} (hm : MoS f) (ha : RA K t da) : RE K (tCall (spD K f) [] E0 t) (dCall f da) := by
 refine ⟨fun s Q Q' z q => ha.mo _ _ _ (fun vs s1 q => hm vs s1.w _ _ (fun v w' q => z _ _ q) q) q, fun G s σ H Q r q => ha.ok G s σ H _ r (ha.mo _ _ _ (fun vs s1 q G1 H1 xs e1 r1 v1 => ?_) q)⟩
 refine ⟨G1, s1.w, vs, r1.sub, r1.own, by rw [List.append_nil]; exact v1, hm vs s1.w _ _ (fun v w' q G2 H2 x e2 s2 o2 x2 => ?_) q⟩
 exact q G2 H2 x (e1.trans e2) ⟨s2, o2, r1.sl.same e2⟩ x2
theorem VRs.get {vs : List Val} {xs : List V} (h : VRs K G vs xs) (i : Nat) : (∃ v x, vs[i]? = some v ∧ xs[i]? = some x ∧ VR K G v x) ∨ (vs[i]? = none ∧ xs[i]? = none) := by
 induction h generalizing i with
 | nil => exact .inr ⟨rfl, rfl⟩
 | cons a t ih =>
  cases i with
  | zero => exact .inl ⟨_, _, rfl, rfl, a⟩
  | succ i => simpa using ih i
theorem VRs.pick {na nk : Nat} {pick : List (Bool × Nat)} {vs us : List Val} {xs ys : List V} (h : VRs K G vs xs) (q : VRs K G us ys) : VRs K G (gaP na nk pick vs us) (gaP na nk pick xs ys) := by
 unfold gaP
 rw [h.length, q.length]
 split
 ·induction pick with
  | nil => exact .nil
  | cons p t ih =>
   rw [List.filterMap_cons, List.filterMap_cons]
   cases p.1 with
   | true =>
    rcases h.get p.2 with ⟨a, b, e1, e2, z⟩ | ⟨e1, e2⟩
    ·simp only [if_true, e1, e2]; exact .cons z ih
    ·simp only [if_true, e1, e2]; exact ih
   | false =>
    rcases q.get p.2 with ⟨a, b, e1, e2, z⟩ | ⟨e1, e2⟩
    ·simp only [Bool.false_eq_true, if_false, e1, e2]; exact .cons z ih
    ·simp only [Bool.false_eq_true, if_false, e1, e2]; exact ih
 ·exact .nil
noncomputable def dCallK (f : DSp) (na nk : Nat) (pick : List (Bool × Nat)) (da dk : DTA) : DTE := fun s k => da s fun vs s1 => dk s1 fun us s2 => f (gaP na nk pick vs us) s2.w (fun v w' => k v ⟨s2.e, w'⟩)
noncomputable def startD (N : List Str) (as : List Val) : List (Option Val) := as.map some ++ List.replicate (N.length - as.length) none
theorem Zhj {N : List Str} {as : List Val} {vs : List V} (h : VRs K G as vs) : SL K G (startD N as) (start N vs) := by
 refine ⟨by simp [startD, start, h.length], fun i v e => ?_⟩
 unfold startD at e
 have hl : i < as.length := by
  refine Decidable.byContradiction fun hn => ?_
  rw [List.getElem?_append_right (by simpa using Nat.le_of_not_lt hn)] at e
  obtain ⟨_, e2⟩ := List.getElem?_eq_some_iff.mp e
  rw [List.getElem_replicate] at e2
  cases e2
 rw [List.getElem?_append_left (by simpa using hl), List.getElem?_map] at e
 rcases h.get i with ⟨a, x, e1, e2, r⟩ | ⟨e1, e2⟩
 ·rw [e1] at e
  cases e
  refine ⟨x, ?_, r⟩
  unfold start
  rw [List.getElem?_append_left (by rw [lmp, ← h.length]; exact hl), List.getElem?_map, e2]; rfl
 ·rw [e1] at e; cases e
noncomputable def Own.up : Own → Own → Prop
 | .urn m', .urn m => m' ≤ m
 | o', o => o' = o
theorem Own.up.refl (o : Own) : Own.up o o := by cases o <;> simp [Own.up]
theorem Own.up.trans {a b c : Own} (h : Own.up a b) (q : Own.up b c) : Own.up a c := by
 cases a <;> cases b <;> cases c <;> simp_all [Own.up]
 omega
noncomputable def OW.le (w w' : OW) : Prop := ∀ a o, w a = some o → ∃ o', w' a = some o' ∧ Own.up o' o
theorem OW.le.refl (w : OW) : w.le w := fun _ o h => ⟨o, h, Own.up.refl o⟩
theorem OW.le.trans {a b c : OW} (h : a.le b) (q : b.le c) : a.le c := fun x o e => by
 obtain ⟨o1, e1, u1⟩ := h x o e
 obtain ⟨o2, e2, u2⟩ := q x o1 e1
 exact ⟨o2, e2, u2.trans u1⟩
theorem OW.le.free {w w' : OW} (h : w.le w') {p : Addr} (q : w' p = none) : w p = none := by
 cases e : w p with
 | none => rfl
 | some o => obtain ⟨o', e1, _⟩ := h p o e; rw [e1] at q; cases q
theorem OW.le.put {w w' : OW} (h : w.le w') {p : Addr} (q : w p = none) (o : Own) : w.le (w'.put p o) := fun a u e => by
 have n : a ≠ p := fun z => by rw [z, q] at e; cases e
 rw [OW.put_ne n]; exact h a u e
theorem OW.le.new {w w' : OW} (h : w.le w') {p : Addr} (q : w' p = none) (o : Own) : w.le (w'.put p o) := h.put (h.free q) o
theorem OW.le.urn {w w' : OW} {u : Addr} {m m' : Nat} (h : (w.put u (.urn m)).le w') (le : m ≤ m') : (w.put u (.urn m')).le w' := fun a o e => by
 by_cases z : a = u
 ·subst z
  rw [OW.put_same] at e; cases e
  obtain ⟨o1, e1, u1⟩ := h a _ OW.put_same
  refine ⟨o1, e1, ?_⟩
  cases o1 <;> simp [Own.up] at u1 ⊢
  omega
 ·rw [OW.put_ne z] at e
  exact h a o (by rw [OW.put_ne z]; exact e)
theorem OW.le.urn' {w w' : OW} {u : Addr} {m m' : Nat} (h : w.le w') (le : m ≤ m') : (w.put u (.urn m')).le (w'.put u (.urn m)) := fun a o e => by
 by_cases z : a = u
 ·subst z
  rw [OW.put_same] at e; cases e
  exact ⟨_, OW.put_same, le⟩
 ·rw [OW.put_ne z] at e ⊢
  exact h a o e
noncomputable def OW.del (w : OW) (a : Addr) : OW := fun b => if b = a then none else w b
theorem OW.del_ne {w : OW} {a b : Addr} (h : b ≠ a) : w.del a b = w b := by simp [OW.del, h]
theorem OW.le.del {w w' : OW} (h : w.le w') {p : Addr} (q : w p = none) : w.le (w'.del p) := fun a u e => by
 have n : a ≠ p := fun z => by rw [z, q] at e; cases e
 rw [OW.del_ne n]; exact h a u e
theorem OwnAt.up {a : Addr} {o o' : Own} (h : OwnAt K G H a o') (u : Own.up o' o) : OwnAt K G H a o := by
 cases o' <;> cases o <;> simp only [Own.up] at u <;> first | exact Urn.mono h u | (cases u; exact h) | cases u
theorem OwnOk.le {w w' : OW} (h : OwnOk K G w' H) (q : w.le w') : OwnOk K G w H := fun a o e => by
 obtain ⟨o', e1, u⟩ := q a o e
 exact ⟨(h a o' e1).1, (h a o' e1).2.up u⟩
theorem Dn.data {P : Program} {w : World} {mg : Str → Option Value} {base : Heap} {x : Str} {st : Stmt} {N ps : List Str} {k : Nat} {f : DSp} (U : ∃ a fd, Fun K x x st a fd ∧ mg x = some (.ref a)) (S : FnScope N ps (defScope st)) (len : ∀ vs w k, f vs w k → vs.length = ps.length)
  (hbody : ∀ (a : Addr) (cdv : Value) (A : Around) (outer : List Env) (s : Shared) (H : Hp) (E : XK), Room k (A.deeper (envOfC x (defScope st) s.heap.objs.size a cdv)) →
   ∃ t d, PSs (cxOf CX0 P w K mg base N x (defScope st) a cdv A outer s H E).nox (defBody st) t ∧ RS K t d ∧ ∀ (as : List Val) (o : OW) (q : Val → OW → Prop), f as o q → d { nx := fun s => ∃ w', OW.le w' s.w ∧ q (.d .none) w', rt := fun v s => ∃ w', OW.le w' s.w ∧ q v w' } ⟨startD N as, o⟩) : Dn P w K mg base (k + 1) x st ps (spD K f) := by
 refine Dn.of U S (fun vs H Q E h => ?_) (fun a cdv A outer s H vs Q E hr h => ?_)
 ·obtain ⟨G, o, as, _, _, h1, h2⟩ := h
  rw [← h1.length]; exact len _ _ _ h2
 ·obtain ⟨G, o, as, h1, h2, h3, h4⟩ := h
  obtain ⟨t, d, q1, q2, q3⟩ := hbody a cdv A outer s H E hr
  refine ⟨t, q1, q2 G ⟨startD N as, o⟩ (start N vs) H _ { nx := fun s => ∃ w', OW.le w' s.w ∧ _, rt := fun v s => ∃ w', OW.le w' s.w ∧ _ } ⟨h1, h2, Zhj h3⟩ ⟨fun s' G' σ' H' e r z => ?_, fun v s' G' σ' H' x e r v1 z => ?_, fun _ _ _ _ _ _ z => False.elim z, fun _ _ _ _ _ _ z => False.elim z⟩ (q3 as o _ h4)⟩
  ·obtain ⟨w', l, z⟩ := z
   exact z G' H' .non e r.sub (r.own.le l) Zl6
  ·obtain ⟨w', l, z⟩ := z
   exact z G' H' x e r.sub (r.own.le l) v1
end
end L2
namespace L2
open PySem PySem.Spec PyProof.Rows
section
variable {X : Cx} {K : PySem.W.Frag} {G G' H H' : Hp} {s : DS} {σ : St}
theorem Zo1 (r : Rel K G s σ H) {a : Addr} {ds : List PyData} (h : s.w a = some (.lst ds)) : tyV K "list" (.ref a) H := by
 obtain ⟨_, xs, h1, _⟩ := r.own a _ h
 exact .inl ⟨rfl, xs, SqL.of h1⟩
noncomputable def dApp (d : DTE) (da : DTA) : DTE := fun s k => d s fun v s1 => match v with
 | .own a => (∃ ds, s1.w a = some (.lst ds)) ∧ da s1 fun vs s2 => match vs with
  | [.d y] => ∃ ds, s2.w a = some (.lst ds) ∧ ds.length < sizeLine ∧ k (.d .none) (s2.put a (.lst (ds ++ [y])))
  | _ => False
 | _ => False
theorem Zgf {to : TE} {t : TA} {d : DTE} {da : DTA} (h : RE K to d) (ha : RA K t da) : RE K (tBM K "list" rAppend to t) (dApp d da) := by
 refine ⟨fun s Q Q' z q => h.mo _ _ _ (fun v s1 q => ?_) q, fun G s σ H Q r q => h.ok G s σ H _ r (h.mo _ _ _ (fun v s1 q G1 H1 x e1 r1 v1 => ?_) q)⟩
 ·split at q
  ·refine ⟨q.1, ha.mo _ _ _ (fun vs s2 q => ?_) q.2⟩
   split at q
   ·obtain ⟨ds, h1, h2, h3⟩ := q; exact ⟨ds, h1, h2, z _ _ h3⟩
   ·exact q.elim
  ·exact q.elim
 ·split at q
  ·next a =>
   cases (show x = .ref a from v1)
   obtain ⟨⟨ds0, h0⟩, q⟩ := q
   refine ⟨Zo1 r1 h0, ha.ok G1 s1 σ H1 _ r1 (ha.mo _ _ _ (fun vs s2 q G2 H2 xs e2 r2 v2 => ?_) q)⟩
   split at q
   ·next y =>
    obtain ⟨u, rfl, vy⟩ := v2.one
    obtain ⟨ds, h1, h2, h3⟩ := q
    obtain ⟨_, ys, h4, h5⟩ := r2.own a _ h1
    refine ⟨a, ys, u, rfl, rfl, h4, by rw [← h5.length]; exact h2, h3 G2 _ .non (e1.trans e2) (r2.chg h1 ?_) Zl6⟩
    exact ⟨ys ++ [u], Zax, h5.snoc vy⟩
   ·exact q.elim
  ·exact q.elim
noncomputable def dExt (d : DTE) (da : DTA) : DTE := fun s k => d s fun v s1 => match v with
 | .own a => (∃ ds, s1.w a = some (.lst ds)) ∧ da s1 fun vs s2 => match vs with
  | [u] => ∃ ds es, s2.w a = some (.lst ds) ∧ rdM s2.w u = some es ∧ ds.length + es.length ≤ sizeLine ∧ k (.d .none) (s2.put a (.lst (ds ++ es)))
  | _ => False
 | _ => False
theorem Zsm {to : TE} {t : TA} {d : DTE} {da : DTA} (h : RE K to d) (ha : RA K t da) : RE K (tBM K "list" rExtend to t) (dExt d da) := by
 refine ⟨fun s Q Q' z q => h.mo _ _ _ (fun v s1 q => ?_) q, fun G s σ H Q r q => h.ok G s σ H _ r (h.mo _ _ _ (fun v s1 q G1 H1 x e1 r1 v1 => ?_) q)⟩
 ·split at q
  ·refine ⟨q.1, ha.mo _ _ _ (fun vs s2 q => ?_) q.2⟩
   split at q
   ·obtain ⟨ds, es, h1, h2, h3, h4⟩ := q; exact ⟨ds, es, h1, h2, h3, z _ _ h4⟩
   ·exact q.elim
  ·exact q.elim
 ·split at q
  ·next a =>
   cases (show x = .ref a from v1)
   obtain ⟨⟨ds0, h0⟩, q⟩ := q
   refine ⟨Zo1 r1 h0, ha.ok G1 s1 σ H1 _ r1 (ha.mo _ _ _ (fun vs s2 q G2 H2 xs e2 r2 v2 => ?_) q)⟩
   split at q
   ·next y =>
    obtain ⟨u, rfl, vy⟩ := v2.one
    obtain ⟨ds, es, h1, h2, h3, h6⟩ := q
    obtain ⟨_, ys, h4, h5⟩ := r2.own a _ h1
    obtain ⟨b, zs, rfl, h7, h8⟩ := r2.rdM vy h2
    refine ⟨a, b, ys, zs, rfl, rfl, h4, h7, by rw [← h5.length, ← h8.length]; exact h3, h6 G2 _ .non (e1.trans e2) (r2.chg h1 ?_) Zl6⟩
    exact ⟨ys ++ zs, Zax, h5.append h8⟩
   ·exact q.elim
  ·exact q.elim
noncomputable def dAugI (f : Int → Int → Int) (i : Nat) (d : DTE) : DTS := fun E s => match s.e[i]? with
 | some (some (.d (.int a))) => d s fun v s1 => match v with | .d (.int b) => E.nx (s1.set i (.d (.int (f a b)))) | _ => False
 | _ => False
noncomputable def dFrz (i : Nat) : DTE := fun s k => match s.e[i]? with
 | some (some (.own a)) => ∃ ds, s.w a = some (.lst ds) ∧ k (.d (.list ds)) ⟨s.e.set i (some (.d (.list ds))), s.w.del a⟩
 | _ => False
theorem Zem {α : Type} {l : List α} {i : Nat} {x : α} (h : l[i]? = some x) : l.set i x = l := by
 obtain ⟨hi, e⟩ := List.getElem?_eq_some_iff.mp h
 rw [← e]; exact List.set_getElem_self hi
theorem Zkv (i : Nat) : RE K (tVar i) (dFrz i) := by
 refine ⟨fun s Q Q' h q => ?_, fun G s σ H Q r h => ?_⟩
 ·unfold dFrz at q ⊢; split at q
  ·obtain ⟨ds, h1, h2⟩ := q; exact ⟨ds, h1, h _ _ h2⟩
  ·exact q.elim
 ·unfold dFrz at h; split at h
  ·next a z =>
   obtain ⟨ds, h1, h2⟩ := h
   obtain ⟨x, hx, vx⟩ := r.sl.2 i _ z
   cases (show x = .ref a from vx)
   obtain ⟨g0, xs, h3, h4⟩ := r.own a _ h1
   have S := Zbt g0 (.lst xs)
   have D : DW K (upd G a (.lst xs)) (.list ds) (.ref a) := DW.list Zax (h4.same S)
   refine ⟨_, hx, h2 (upd G a (.lst xs)) H (.ref a) S ⟨fun b o q => ?_, fun b o q => ?_, ?_⟩ D⟩
   ·by_cases e : b = a
    ·subst e; rw [Zax] at q; cases q; exact h3
    ·rw [Zah e] at q; exact r.sub _ _ q
   ·have nb : b ≠ a := fun e => by
     have q' : (if b = a then none else s.w b) = some o := q
     rw [if_pos e] at q'; cases q'
    have q' : s.w b = some o := by
     have q' : (if b = a then none else s.w b) = some o := q
     rwa [if_neg nb] at q'
    exact ⟨by rw [Zah nb]; exact (r.own b o q').1, (r.own b o q').2.mono S rfl⟩
   ·have := (r.sl.same S).set (v := .d (.list ds)) (x := .ref a) D i
    rwa [Zem hx] at this
  ·exact h.elim
theorem Zlr {elts : List Expr} {kk : Nat} {tp : Pos} {a : Expr} {ta : TA} {p pos : Pos} (h : X.K = K) (t : Bool) (hg : Gl X "enumerate") (hm : X.mg "enumerate" = none) (ha : IPA X [a] ta) (hs : starEach [a] X.env = [(false, eval a X.env)] := by rfl) :
  IPI X (.Tuple elts kk tp) (.Call (.Name "enumerate" p) [a] [] pos) (iEnum K t ta) := h ▸ Zei t hg hm ha hs
theorem Zby {es : List Expr} {k : Nat} {t : TGs} {n : Nat} {pos : Pos} (h : X.K = K) (hc : X.calm = true) (hh : IPGs X es t) (hn : (assignEach es X.env).length = n := by rfl) (hst : (assignEach es X.env).findIdx? (·.1) = none := by rfl) : IPG X (.Tuple es k pos) (gTup K n t) := h ▸ Zgw hc hh hn hst
theorem Zld (h : X.K = K) (t : Bool) (hc : X.calm = true) : CallR X (.builtin "max") (fun xs H Q => ∃ (a : Addr) (ns : List Int), xs = [.ref a] ∧ SqB K t H a (ns.map V.int) ∧ ns ≠ [] ∧ ∀ m, m ∈ ns → (∀ x ∈ ns, x ≤ m) → Q (.int m) H) := h ▸ Zi1 t hc
noncomputable def gMax (t : Bool) : Val → DTE := fun v s k => match (if t then rdT v else rdL s.w v) with | some ds => (match uIs ds with | some ns => ns ≠ [] ∧ ∀ m, m ∈ ns → (∀ x ∈ ns, x ≤ m) → k (.d (.int m)) s | none => False) | none => False
noncomputable def gMin (t : Bool) : Val → DTE := fun v s k => match (if t then rdT v else rdL s.w v) with | some ds => (match uIs ds with | some ns => ns ≠ [] ∧ ∀ m, m ∈ ns → (∀ x ∈ ns, m ≤ x) → k (.d (.int m)) s | none => False) | none => False
theorem Zt5 (r : Rel K G s σ H) {t : Bool} {v : Val} {x : V} {ds : List PyData} (q : VR K G v x) (h : (if t then rdT v else rdL s.w v) = some ds) : ∃ a xs, x = .ref a ∧ SqB K t H a xs ∧ DWs K G ds xs := by
 cases t
 ·exact r.rdL q h
 ·exact r.rdT q h
theorem Znj (t : Bool) : RC K (fun xs H Q => ∃ (a : Addr) (ns : List Int), xs = [.ref a] ∧ SqB K t H a (ns.map V.int) ∧ ns ≠ [] ∧ ∀ m, m ∈ ns → (∀ x ∈ ns, x ≤ m) → Q (.int m) H) (f1 (gMax t)) := by
 refine rc1 (fun v s Q Q' h q => ?_) (fun G s σ H x v Q r v1 h => ?_)
 ·unfold gMax at q ⊢; split at q
  ·split at q
   ·exact ⟨q.1, fun m a b => h _ _ (q.2 m a b)⟩
   ·exact q.elim
  ·exact q.elim
 ·unfold gMax at h; split at h
  ·next ds e =>
   split at h
   ·next ns z =>
    obtain ⟨a, xs, rfl, h1, h2⟩ := Zt5 r v1 e
    rw [Zgi z] at h2
    rw [h2.ints_inv] at h1
    exact ⟨a, ns, rfl, h1, h.1, fun m a b => (h.2 m a b).here r Zdk⟩
   ·exact h.elim
  ·exact h.elim
noncomputable def gInt1 : Val → DTE := fun v s k => match v with | .d (.int i) => k (.d (.int i)) s | .d (.bool b) => k (.d (.int (if b then 1 else 0))) s | _ => False
theorem Zqz : RC K (fun xs H Q => (∃ i, xs = [.int i] ∧ Q (.int i) H) ∨ ∃ k, xs = [.bl k] ∧ Q (.int (if k then 1 else 0)) H) (f1 gInt1) := by
 refine rc1 (fun v s Q Q' h q => ?_) (fun G s σ H x v Q r v1 h => ?_)
 ·unfold gInt1 at q ⊢; split at q
  ·exact h _ _ q
  ·exact h _ _ q
  ·exact q.elim
 ·unfold gInt1 at h; split at h
  ·next i => exact .inl ⟨i, by rw [Zc3 v1], h.here r Zdk⟩
  ·next b => exact .inr ⟨b, by rw [Zrd v1], h.here r Zdk⟩
  ·exact h.elim
noncomputable def pureS (P : List Val → PyData → Prop) : DSp := fun vs w k => ∃ r, P vs r ∧ k (.d r) w
theorem Zc0 {P : List Val → PyData → Prop} : MoS (pureS P) := fun vs w k k' h ⟨r, p, q⟩ => ⟨r, p, h _ _ q⟩
noncomputable def urnS (c : Nat) (P : List Val → Prop) (R : List Val → PyData → Prop) : DSp := fun vs w k => match vs with
 | .own u :: as => ∃ m, w u = some (.urn m) ∧ (m + c ≤ 1000000 ∧ P as) ∧ ∀ r, R as r → k (.d r) (w.put u (.urn (m + c)))
 | _ => False
theorem Zhc {c : Nat} {P : List Val → Prop} {R : List Val → PyData → Prop} : MoS (urnS c P R) := fun vs w k k' h q => by
 unfold urnS at q ⊢; split at q
 ·obtain ⟨m, h1, h2, h3⟩ := q; exact ⟨m, h1, h2, fun r hr => h _ _ (h3 r hr)⟩
 ·exact q.elim
theorem Zc1 {P : List Val → PyData → Prop} {n : Nat} (h : ∀ vs r, P vs r → vs.length = n) : ∀ vs w k, pureS P vs w k → vs.length = n := fun vs w k ⟨r, p, _⟩ => h vs r p
theorem Zk7 {c : Nat} {P : List Val → Prop} {R : List Val → PyData → Prop} {n : Nat} (h : ∀ vs, P vs → vs.length = n) : ∀ vs w k, urnS c P R vs w k → vs.length = n + 1 := fun vs w k q => by
 unfold urnS at q; split at q
 ·obtain ⟨m, _, ⟨_, p⟩, _⟩ := q; simp [h _ p]
 ·exact q.elim
noncomputable def spLaw (K : PySem.W.Frag) : Sp := fun vs H Q _ => ∃ (a : Addr) (ns : List Int), vs = [.ref a] ∧ SqL K H a (ns.map V.int) ∧ ns.length ≤ 63 ∧ ∀ H', Q (.bl true) H'
theorem Zok {P : Program} {w : World} {mg : Str → Option Value} {base : Heap} {st : Stmt} {N : List Str} {fa : Addr} {fd : FuncData} (F : Fun K "law" "law" st fa fd) (S : FnScope N ["_law_script"] (defScope st))
  (hbody : ∀ (cdv : Value) (A : Around) (outer : List Env) (s : Shared) (H : Hp) (E : XK), Room 39 (A.deeper (envOfC "law" (defScope st) s.heap.objs.size fa cdv)) →
   ∃ t d, PSs (cxOf CX0 P w K mg base N "law" (defScope st) fa cdv A outer s H E).nox (defBody st) t ∧ RS K t d ∧ ∀ ns : List Int, ns.length ≤ 63 → d { nx := fun _ => False, rt := fun v _ => v = .d (.bool true) } ⟨startD N [.scr ns], fun _ => none⟩) : FnOk P w K mg base CX0 40 fa fd ["_law_script"] (spLaw K) := by
 refine F.ok (k := 39) S (fun vs H Q E h => ?_) (fun cdv A outer s H vs Q E hr h => ?_)
 ·obtain ⟨a, ns, rfl, _⟩ := h; rfl
 ·obtain ⟨a, ns, rfl, hS, h63, q⟩ := h
  obtain ⟨t, d, q1, q2, q3⟩ := hbody cdv A outer s H E hr
  refine ⟨t, q1, q2 H ⟨startD N [.scr ns], fun _ => none⟩ (start N [.ref a]) H _ { nx := fun _ => False, rt := fun v _ => v = .d (.bool true) } ⟨Same.refl H, (fun _ _ z => nomatch z), Zhj (VRs.cons (v := .scr ns) (show VR K H (.scr ns) (.ref a) from ⟨a, rfl, hS⟩) .nil)⟩ ⟨fun _ _ _ _ _ _ z => False.elim z, fun v s' G' σ' H' x e r v1 z => ?_, fun _ _ _ _ _ _ z => False.elim z, fun _ _ _ _ _ _ z => False.elim z⟩ (q3 ns h63)⟩
  have z' : v = .d (.bool true) := z
  subst z'
  rw [Zrd v1]
  exact q H'
noncomputable def dsUrn : DSp := fun vs w k => match vs with
 | [.scr ns, .d (.int i)] => (0 ≤ i ∧ i ≤ 100) ∧ ∀ r, w r = none → k (.own r) (w.put r (.urn 0))
 | _ => False
noncomputable def dsDraw : DSp := fun vs w k => match vs with
 | [.own u, .d (.int wd)] => ∃ m, w u = some (.urn m) ∧ (m ≤ 1000000 ∧ 0 < wd ∧ wd < 1073741824) ∧ ∀ d : Int, 0 ≤ d → d < wd → k (.d (.int d)) (w.put u (.urn (m + 1)))
 | _ => False
theorem Zqa : MoS dsUrn := fun vs w k k' h q => by
 unfold dsUrn at q ⊢; split at q
 ·exact ⟨q.1, fun r hr => h _ _ (q.2 r hr)⟩
 ·exact q.elim
theorem Zoo : MoS dsDraw := fun vs w k k' h q => by
 unfold dsDraw at q ⊢; split at q
 ·obtain ⟨m, h1, h2, h3⟩ := q; exact ⟨m, h1, h2, fun d a b => h _ _ (h3 d a b)⟩
 ·exact q.elim
theorem Zrc {vs : List V} {Q : VK} {E : XK} (h : spD K dsUrn vs H Q E) : spUrn K vs H Q E := by
 obtain ⟨G, w, as, h1, h2, h3, h4⟩ := h
 unfold dsUrn at h4
 split at h4
 ·next ns i =>
  obtain ⟨x, y, rfl, v1, v2⟩ := h3.two
  obtain ⟨a, rfl, hs⟩ := v1
  refine ⟨a, ns, i, by rw [Zc3 v2], h1.seq hs, h4.1.1, h4.1.2, fun r H' s' hr U => ?_⟩
  have r0 : Rel K G ⟨[], w⟩ [] H := ⟨h1, h2, ⟨rfl, fun i v e => by simp at e⟩⟩
  have wr : w r = none := r0.free hr
  refine h4.2 r wr G H' (.ref r) (Same.refl G) (h1.trans s') (fun b o q => ?_) rfl
  by_cases e : b = r
  ·subst e
   rw [OW.put_same] at q; cases q
   exact ⟨h1.free hr, U⟩
  ·rw [OW.put_ne e] at q
   obtain ⟨u, hu⟩ := (h2 b o q).2.there
   exact ⟨(h2 b o q).1, (h2 b o q).2.mono (Same.refl G) (by rw [s' _ _ hu, hu])⟩
 ·exact h4.elim
theorem Zob {vs : List V} {Q : VK} {E : XK} (h : spD K dsDraw vs H Q E) : spDraw vs H Q E := by
 obtain ⟨G, w, as, h1, h2, h3, h4⟩ := h
 unfold dsDraw at h4
 split at h4
 ·next u wd =>
  obtain ⟨x, y, rfl, v1, v2⟩ := h3.two
  cases (show x = .ref u from v1)
  obtain ⟨m, hm, ⟨m1, m2, m3⟩, q⟩ := h4
  obtain ⟨gu, U⟩ := h2 u _ hm
  refine ⟨u, wd, m, by rw [Zc3 v2], U, m1, m2, m3, fun d H' d0 d1 sb U' => ?_⟩
  refine q d d0 d1 G H' (.int d) (Same.refl G) (fun b o z => ?_) (fun b o z => ?_) Zdk
  ·exact sb b o (fun e => by rw [e, gu] at z; cases z) (h1 _ _ z)
  ·by_cases e : b = u
   ·subst e
    rw [OW.put_same] at z; cases z
    exact ⟨gu, U'⟩
   ·rw [OW.put_ne e] at z
    obtain ⟨v, hv⟩ := (h2 b o z).2.there
    exact ⟨(h2 b o z).1, (h2 b o z).2.mono (Same.refl G) (by rw [sb b v e hv, hv])⟩
 ·exact h4.elim
theorem Dn.imp {P : Program} {w : World} {mg : Str → Option Value} {base : Heap} {k : Nat} {x : Str} {st : Stmt} {ps : List Str} {sp sp' : Sp} (D : Dn P w K mg base k x st ps sp) (h : ∀ vs H Q E, sp' vs H Q E → sp vs H Q E) : Dn P w K mg base k x st ps sp' := by
 obtain ⟨f, fd, F, U, m⟩ := D.ex
 exact ⟨f, fd, F.imp h, U, m⟩
end
end L2
namespace L2
open PySem PySem.Spec PyProof.Rows
theorem Zj5 {oA : Obj} (hoA : oA.isFreed = false) {X : Cx} {pins : List (Addr × Obj)} {σ : St} {H : Hp} {s : Shared} {fp : List Addr} {Nc : List Str} {cap : List (Option Nat)} {scope : Scope} (I : Inv X pins σ H s) (hf : ∀ b ∈ fp, FpOk X pins H b) (hlt : ∀ b ∈ fp, b < s.heap.objs.size)
  (ok : CapOk X Nc cap scope) (hk : scope.kind = .function) :
  Inv (cxComp X Nc scope (cellsFrom (s.heap.objs.size + 2) scope.names (clOf X.env.cells scope.names [])) (s.heap.objs.size + 1) s H fp) [] (capt cap σ) H
   { s with heap := pushCells ((s.heap.push oA).push { cls := .type "dict", data := .dict #[] }) scope.names } ∧
  (pushCells ((s.heap.push oA).push { cls := .type "dict", data := .dict #[] }) scope.names).get? s.heap.objs.size = some oA := by
 generalize hh1 : (s.heap.push oA) = h1
 have z1 : h1.objs.size = s.heap.objs.size + 1 := by rw [← hh1, Heap.size_push]
 generalize hh2 : (h1.push { cls := .type "dict", data := .dict #[] }) = h2
 have z2 : h2.objs.size = s.heap.objs.size + 2 := by rw [← hh2, Heap.size_push, z1]
 have up : ∀ b o, s.heap.get? b = some o → (pushCells h2 scope.names).get? b = some o := fun b o e => pushCells_keeps _ _ b o (by rw [← hh2, ← hh1]; exact Heap.get?_push_of_some _ (Heap.get?_push_of_some _ e))
 have hD : (pushCells h2 scope.names).get? s.heap.objs.size = some oA := pushCells_keeps _ _ _ _ (by rw [← hh2, ← hh1]; exact Heap.get?_push_of_some _ (Heap.get?_push_size _ hoA))
 refine ⟨?_, hD⟩
 have hns : (pushCells h2 scope.names).Ns (s.heap.objs.size + 1) (fun _ => none) := by
  have q := Heap.Ns.new h1 (.type "dict")
  rw [hh2, z1] at q
  exact q.keeps fun b o e => pushCells_keeps _ _ b o e
 have okc := cellsFrom_ok scope.names h2 (s.heap.objs.size + 2) [] ⟨fun _ _ hm => (nomatch hm), List.Pairwise.nil⟩ (by rw [z2]; exact Nat.le_refl _)
 rw [z2] at okc
 have hcl : ∀ p ∈ scope.names, p.2 = .free → ∃ c, X.env.cells.lookup p.1 = some c := fun p hp e => I.ok.has p.1 (ok.free p hp e)
 -- a name of the block's cells: its own, or one that is taken
 have cse : ∀ x c, (cellsFrom (s.heap.objs.size + 2) scope.names (clOf X.env.cells scope.names [])).lookup x = some c →
   ((x, c) ∈ cellsFrom (s.heap.objs.size + 2) scope.names [] ∧ scope.names.lookup x = some .cell ∧ s.heap.objs.size + 2 ≤ c) ∨ (scope.names.lookup x = some .free ∧ X.env.cells.lookup x = some c ∧ c < s.heap.objs.size) := fun x c e => by
  rw [Zaq] at e
  rcases Zbp e with e | ⟨_, e⟩
  ·have m := PySem.mem_of_lookup e
   exact .inl ⟨m, ok.look _ (Zcl m), (okc.empty x c m).2⟩
  ·obtain ⟨a, b⟩ := Zcr hcl (PySem.mem_of_lookup e)
   obtain ⟨v, q⟩ := I.cell x c b
   exact .inr ⟨ok.look _ a, b, q.lt⟩
 have kn : ∀ x, (compEnvC scope (cellsFrom (s.heap.objs.size + 2) scope.names (clOf X.env.cells scope.names [])) (s.heap.objs.size + 1) X.env).kindOf x = (scope.names.lookup x).map fun k => if (k == NameKind.free && X.env.scope.kind == .function && X.env.kindOf x == some .cell) then .cell else k := fun x => Zcj
 have has : ∀ x, scope.names.lookup x = some .cell ∨ scope.names.lookup x = some .free → ∃ c, (cellsFrom (s.heap.objs.size + 2) scope.names (clOf X.env.cells scope.names [])).lookup x = some c := fun x h => by
  rw [Zaq]
  rcases h with h | h
  ·obtain ⟨c, hc⟩ := Option.isSome_iff_exists.mp (PySem.W.cellsFrom_some scope.names (s.heap.objs.size + 2) [] (.inl h))
   exact Zc7 (List.mem_append_left _ (PySem.mem_of_lookup hc))
  ·obtain ⟨c, hc⟩ := Zgn (cells := X.env.cells) (PySem.mem_of_lookup h)
   exact Zc7 (List.mem_append_right _ hc)
 have kfree : ∀ x, scope.names.lookup x = some .free → (compEnvC scope (cellsFrom (s.heap.objs.size + 2) scope.names (clOf X.env.cells scope.names [])) (s.heap.objs.size + 1) X.env).kindOf x = some .cell ∨ (compEnvC scope (cellsFrom (s.heap.objs.size + 2) scope.names (clOf X.env.cells scope.names [])) (s.heap.objs.size + 1) X.env).kindOf x = some .free := fun x h => by
  rw [kn x, h]
  simp only [Option.map_some]
  split
  ·exact .inl rfl
  ·exact .inr rfl
 refine ⟨⟨I.ok.mod, hk, I.ok.glob, I.ok.blt, Nat.le_succ _, fun x y c h1 h2 => ?_, fun x h => ?_, fun x c h1 h2 => ?_, I.ok.hd, I.ok.frames, .inl rfl, fun b hb => ⟨Nat.ne_of_lt (Nat.lt_succ_of_lt (hlt b hb)), fun x c e => ?_⟩, I.bs, Nat.le_trans I.ok.bsz I.sz, fun b o e hb => ?_, fun b hb hm => ?_, I.stack, I.stkFree⟩,
  rfl, I.bare, Un.kept up, ⟨fun _ => none, hns, fun i x v e1 e2 e3 => ?_⟩, fun x c e => ?_, I.hok.fresh (Nat.le_succ _), fun x c e => ?_, fun p hp => absurd (show p ∈ ([] : List (Addr × Obj)) from hp) (by simp), I.hok.kept up, ?_⟩
 ·rcases cse x c h1 with ⟨m1, _, l1⟩ | ⟨_, b1, l1⟩ <;> rcases cse y c h2 with ⟨m2, _, l2⟩ | ⟨_, b2, l2⟩
  ·exact name_of_addr okc.apart m1 m2
  ·exact absurd (Nat.lt_of_lt_of_le l2 (Nat.le_trans (Nat.le_add_right _ 2) l1)) (Nat.lt_irrefl _)
  ·exact absurd (Nat.lt_of_lt_of_le l1 (Nat.le_trans (Nat.le_add_right _ 2) l2)) (Nat.lt_irrefl _)
  ·exact I.ok.inj x y c b1 b2
 ·refine has x ?_
  have h' : (compEnvC scope (cellsFrom (s.heap.objs.size + 2) scope.names (clOf X.env.cells scope.names [])) (s.heap.objs.size + 1) X.env).kindOf x = some .cell ∨ (compEnvC scope (cellsFrom (s.heap.objs.size + 2) scope.names (clOf X.env.cells scope.names [])) (s.heap.objs.size + 1) X.env).kindOf x = some .free := h
  rw [kn x] at h'
  cases q : scope.names.lookup x with
  | none => rw [q] at h'; rcases h' with h' | h' <;> cases h'
  | some k =>
   rw [q] at h'
   simp only [Option.map_some] at h'
   cases k <;> simp_all
 ·have h1' : (scope.names.lookup x == some NameKind.cell) = true := h1
  rcases cse x c h2 with ⟨_, _, l⟩ | ⟨q, _, _⟩
  ·exact Nat.le_trans (Nat.le_add_right _ 2) l
  ·rw [q] at h1'; cases h1'
 ·rcases cse x c e with ⟨_, _, l⟩ | ⟨_, q, _⟩
  ·have h3 := hlt b hb
   exact fun z => absurd (Nat.lt_of_lt_of_le h3 (Nat.le_trans (Nat.le_add_right _ 2) (z ▸ l))) (Nat.lt_irrefl _)
  ·exact (hf b hb).2.2.2.2.1 x c q
 ·rcases (hf b hb).2.2.2.1 with z | z
  ·exact I.ok.noex b o e z
  ·exact absurd (Nat.lt_of_lt_of_le (Nat.lt_of_lt_of_le (Heap.lt_size e) I.ok.bsz) z) (Nat.lt_irrefl _)
 ·rcases List.mem_cons.mp (I.stkSub b hm) with z | z
  ·exact (hf b hb).2.1 z
  ·exact (hf b hb).2.2.1 z
 ·-- the names that are taken
  have e2' : (cap[i]?).map (fun o => o.bind fun j => (σ[j]?).join) = some (some v) := by
   have : (capt cap σ)[i]? = some (some v) := e2
   unfold capt at this
   rwa [List.getElem?_map] at this
  cases q : cap[i]? with
  | none => rw [q] at e2'; cases e2'
  | some o =>
   rw [q] at e2'
   cases o with
   | none => cases e2'
   | some j =>
    obtain ⟨n1, n2⟩ := ok.take i x j e1 q
    have hj : σ[j]? = some (some v) := by
     have w : (σ[j]?).join = some v := Option.some.inj e2'
     cases r : σ[j]? with
     | none => rw [r] at w; cases w
     | some o => rw [r] at w; rw [show o = some v from w]
    have vis : Vis X.env.scope x := by
     rcases ok.free _ (PySem.mem_of_lookup n2) rfl with z | z
     ·exact .inr (.inl z)
     ·exact .inr (.inr z)
    obtain ⟨m, hn, hl⟩ := I.loc
    obtain ⟨u, ru, lk⟩ := hl j x v n1 hj vis
    refine ⟨u, ru, .inr ⟨kfree x n2, ?_⟩⟩
    obtain ⟨c, hc⟩ := has x (.inr n2)
    rcases cse x c hc with ⟨_, w, _⟩ | ⟨_, w, _⟩
    ·rw [n2] at w; cases w
    ·rcases lk with ⟨k, _⟩ | ⟨_, c', w', ic⟩
     ·rcases ok.free _ (PySem.mem_of_lookup n2) rfl with z | z <;> (have z' : X.env.kindOf x = _ := z; rw [k] at z'; cases z')
     ·rw [w] at w'; cases w'
      obtain ⟨oc, ho, hd⟩ := ic
      exact ⟨c, hc, oc, up _ _ ho, hd⟩
 ·rcases cse x c e with ⟨m, _, _⟩ | ⟨_, q, _⟩
  ·exact ⟨_, (okc.empty x c m).1⟩
  ·obtain ⟨v, oc, ho, hd⟩ := I.cell x c q
   exact ⟨v, oc, up _ _ ho, hd⟩
 ·rcases cse x c e with ⟨m, _, l⟩ | ⟨_, q, _⟩
  ·exact I.hok.fresh (Nat.le_trans (Nat.le_add_right _ 2) l)
  ·exact I.freeC x c q
 ·show (capt cap σ).length = Nc.length
  unfold capt
  rw [lmp, ok.len]
noncomputable def emitD (k v : Expr) (env : Env) (acc : Value) : Sem Unit := eval k env >>= fun kv => holding [kv] (eval v env) >>= fun vv => match acc with
 | .ref d => standAt { k.pos with endLine := v.pos.endLine, endCol := v.pos.endCol } >>= fun _ => holding [kv, vv] (dictSet d kv vv)
 | _ => unsupported "internal:dictcomp"
theorem Zgp (k v tg iter : Expr) (ifs : List Expr) (scope : Scope) (pos : Pos) (it acc : Value) (env : Env) :
  compTurn (.DictComp k v [⟨tg, iter, ifs, 0⟩] scope pos) 0 it acc env = turnOf tg iter ifs (emitD k v env) (.compLoop (.DictComp k v [⟨tg, iter, ifs, 0⟩] scope pos) 0 it acc env) it acc env := by
 unfold turnOf testsOf emitD
 rfl
noncomputable def DTurn (D : Addr) (J : It) (g : TG) (tt : TT) (tk tv : TE) (Q : St → Hp → Prop) (W : Nat → Nat → St → Hp → Prop) : Prop := ∀ i m σ H, W i m σ H →
 (J.stop i H ∧ Q σ H) ∨ (J.go i H ∧ ∃ N : St → Hp → Prop, (∀ σ' H', N σ' H' → ∃ m', m' < m ∧ W (i + 1) m' σ' H') ∧ ∀ x H', J.yld i H x H' → g x σ H' fun σ2 H2 => tt σ2 H2 fun b H3 => if b = true then tk σ2 H3 fun y H4 => tv σ2 H4 fun v H5 => ∃ H6, DPut H5 D y v H6 ∧ N σ2 H6 else N σ2 H3)
section
variable {Y : Cx}
theorem Zml {X : Cx} {pins : List (Addr × Obj)} {σ : St} {H H' : Hp} {s : Shared} {a : Addr} {y v : V} {u r : Value} {A : Around} {E : Value → Shared → Prop} {Q : Unit → Shared → Prop} (hu : A.units + 1 < cLine) (I : Inv X pins σ H s) (g : DPut H a y v H') (ry : RelV y u) (rv : RelV v r) (h : ∀ s', Inv X pins σ H' s' → Q () s') :
  wpAny (model X.prog X.w) A (dictSet a u r) Q E s := by
 rcases g with ⟨kvs, k, e, ey, l, eH⟩ | ⟨kvs, k, b, e, ey, eb, l, eH⟩
 ·subst ey eH
  obtain ⟨z, hd, vs, rel, dd⟩ := Zrk I.hok e
  have hz : vs.length ≤ sizeLine := by rw [← rel.length]; exact z
  have hl : (putK kvs k v).length ≤ sizeLine := by have := Zdc kvs k v; omega
  refine wpAny_dictSet_pairs (hsz := hz) (Zoi ry) dd fun h' dd' hs => h _ ?_
  have he : ∃ q, h'.get? a = some q := let ⟨q, _, _, hq, _⟩ := dd'; ⟨q, hq⟩
  exact Zgr I (by rw [e]; exact True.intro) hs he (Zpp hl hd (rel.put k rv) dd')
 ·subst ey eH
  cases (show u = Value.ref b from ry)
  obtain ⟨z, hd, xs, rel, dd⟩ := Zrm I.hok e
  have hz : xs.length ≤ sizeLine := by rw [← Paired.length rel]; exact z
  have hl : (putK kvs k v).length ≤ sizeLine := by have := Zdc kvs k v; omega
  refine wpAny_dictSet_heap (hsz := hz) (Nat.lt_of_succ_lt hu) (Zki I.hok eb) dd fun h' dd' hs => h _ ?_
  obtain ⟨q, es, ep, hq, h2, h3, h4, _, h5⟩ := dd'
  refine Zgr I (by rw [e]; exact True.intro) hs ⟨q, hq⟩ ⟨hl, hd, _, (rel.put k eb rv).keeps fun c ys ec => ?_, q, es, ep, hq, h2, h3, h4, h5⟩
  rw [Zah (Zrv ec e (fun z => nomatch z))]
  exact ec
theorem Zli {k v tg iter : Expr} {ifs : List Expr} {scope : Scope} {pos : Pos} {g : TG} {tt : TT} {tk tv : TE} {J : It} {fp : List Addr} {it : Addr} {tn : Nat → Heap → Prop} {D : Addr} {Q : St → Hp → Prop}
  {R : Result → Shared → Prop} {W : Nat → Nat → St → Hp → Prop} {s : Shared} {σ : St} {H : Hp} {m : Nat} (hu : Y.A.units + 1 < cLine)
  (hx : ∀ v s, Y.xe v s → False) (hc : Y.calm = true) (T : Turn Y.prog Y.w Y.K tg J fp it tn) (hg : PG Y tg g) (ht : PTs Y ifs tt) (hk : PE Y k tk) (hv : PE Y v tv)
  (I : Inv Y [] σ H s) (st : tn 0 s.heap) (hf : ∀ b ∈ fp, FpOk Y [] H b) (w0 : W 0 m σ H) (turn : DTurn D J g tt tk tv Q W) (hR : ∀ s' σ' H', Inv Y [] σ' H' s' → Q σ' H' → R (.ok .next) s') :
  codeAny (model Y.prog Y.w) Y.A (.compLoop (.DictComp k v [⟨tg, iter, ifs, 0⟩] scope pos) 0 (.ref it) (.ref D) Y.env) R s := by
 refine codeAny_loop rfl (fun n s' => ∃ i σ' H', Inv Y [] σ' H' s' ∧ tn i s'.heap ∧ (∀ b ∈ fp, H' b = none) ∧ W i n σ' H') ?_ m ⟨0, σ, H, I, st, fun b hb => (hf b hb).1, w0⟩
 rintro n s3 ⟨i, σ3, H3, I3, st3, fr3, w3⟩
 show wpAny _ Y.A ((compTurn (.DictComp k v [⟨tg, iter, ifs, 0⟩] scope pos) 0 (.ref it) (.ref D) Y.env).onRaise (fun x => do noteFrame x Y.env; theTreesLotGoes x)) _ _ s3
 refine wpAny_noted ?_
 rw [Zgp]
 have stat : ∀ {H' : Hp}, (∀ b ∈ fp, H' b = none) → ∀ b ∈ fp, FpOk Y [] H' b := fun hn b hb => by
  obtain ⟨_, q1, q2, q3, q4, q5⟩ := hf b hb
  exact ⟨hn b hb, q1, q2, q3, q4, q5⟩
 have no : ∀ {α : Type} {t : Sem α} {Q1 Q2 : α → Shared → Prop} {E : Value → Shared → Prop} {s' : Shared}, wpAny (model Y.prog Y.w) Y.A t Q1 Y.xe s' → (∀ a s, Q1 a s → Q2 a s) → wpAny (model Y.prog Y.w) Y.A t Q2 E s' := fun h q => wpAny_mono h q fun v s x => (hx v s x).elim
 rcases turn i n σ3 H3 w3 with ⟨stop, qn⟩ | ⟨go, N, hN, step⟩
 ·refine wpAny_bind (wpAny_standAt (wpAny_bind (no (T.done Y rfl rfl rfl hc i _ s3 σ3 H3 Y.xe I3 (stat fr3) st3 stop) fun r s4 ⟨hr, I4⟩ => ?_)))
  subst hr
  exact wpAny_pure (hR _ _ _ I4 qn)
 ·refine wpAny_bind (wpAny_standAt (wpAny_bind (no (T.item Y rfl rfl rfl hc i _ s3 σ3 H3 Y.xe I3 (stat fr3) st3 go) fun r s4 ⟨u, hr, h4⟩ => ?_)))
  subst hr
  refine wpAny_bind (no h4 fun _ s5 ⟨x, H5, I5, r5, y5, st5, fr5⟩ => ?_)
  have I5' := I5.pinned (stat fr5) (T.obj _ _ st5)
  refine wpAny_bind (no (hg _ s5 σ3 H5 x u _ I5' r5 (step x H5 y5)) fun _ s6 ⟨σ6, H6, I6, q6⟩ => ?_)
  refine wpAny_bind (no (ht _ s6 σ6 H6 _ I6 q6) fun ok s7 ⟨H7, I7, q7⟩ => ?_)
  have fin : ∀ {σ8 : St} {H8 : Hp} {s8 : Shared}, Inv Y ([] ++ pinsAt fp s5.heap) σ8 H8 s8 → (∃ m', m' < n ∧ W (i + 1) m' σ8 H8) →
    ∃ m, m < n ∧ ∃ i σ' H', Inv Y [] σ' H' s8 ∧ tn i s8.heap ∧ (∀ b ∈ fp, H' b = none) ∧ W i m σ' H' := fun {σ8 H8 s8} I8 ⟨m', hm, w8⟩ => by
   refine ⟨m', hm, i + 1, σ8, H8, I8.unpinned, T.keep _ _ _ st5 fun b hb o e => (I8.pin (b, o) (List.mem_append_right _ (List.mem_append_right _ (Zcn hb e)))).1, fun b hb => ?_, w8⟩
   obtain ⟨o, e, _⟩ := T.obj _ _ st5 b hb
   exact (I8.pin (b, o) (List.mem_append_right _ (List.mem_append_right _ (Zcn hb e)))).2.1
  cases ok with
  | true =>
   rw [if_pos rfl] at q7 ⊢
   refine wpAny_bind (wpAny_bind (no (hk _ s7 σ6 H7 _ I7 q7) fun kv s8 ⟨y, H8, I8, r8, q8⟩ => ?_))
   refine wpAny_bind (wpAny_holding (no (hv _ s8 σ6 H8 _ I8 q8) fun vv s9 ⟨z, H9, I9, r9, q9⟩ => ?_))
   obtain ⟨H10, hp, qN⟩ := q9
   refine wpAny_bind (wpAny_standAt (wpAny_holding (Zml hu I9 hp r8 r9 fun s10 I10 => ?_)))
   exact wpAny_pure ⟨rfl, fin I10 (hN _ _ qN)⟩
  | false =>
   rw [if_neg Bool.false_ne_true] at q7 ⊢
   exact wpAny_pure ⟨rfl, fin I7 (hN _ _ q7)⟩
end
section
variable {X : Cx}
noncomputable abbrev dctO : Obj := { cls := .type "dict", data := .dict #[] }
noncomputable def tCompD (wi : TI) (cap : List (Option Nat)) (g : TG) (tt : TT) (tk tv : TE) : TE := fun σ H Q => wi σ H fun J H1 => ∀ p, H1 p = none → ∃ W : Nat → Nat → St → Hp → Prop, (∃ m, W 0 m (capt cap σ) (upd H1 p (.dT []))) ∧ DTurn p J g tt tk tv (fun _ H' => Q (.ref p) H') W
theorem Zgo {ke ve tg iter : Expr} {ifs : List Expr} {gens : List Comprehension} {scope : Scope} {pos : Pos} {d : Nat} {it acc : Value} {env : Env} {R : Result → Shared → Prop} {prog : Program} {w : World} {A : Around} {s : Shared} (hd : gens[d]? = some ⟨tg, iter, ifs, 0⟩)
  (h0 : codeAny (model prog w) A (.compLoop (.DictComp ke ve gens scope pos) d it acc env) R s)
  (h : wpAny (model prog w) A (pyIter it) (fun it' s' => codeAny (model prog w) A (.compLoop (.DictComp ke ve gens scope pos) d it' acc env) R s') (notedBy (model prog w) A env fun x s' => R (.error x) s') s) :
  codeAny (model prog w) A (.compStart (.DictComp ke ve gens scope pos) d it acc env) R s := by
 refine codeAny_of_tree ?_
 show wpAny _ _ ((compStart (.DictComp ke ve gens scope pos) d it acc env).onRaise (fun x => do noteFrame x env; standAt theWindowsPlace)) _ _ s
 refine wpAny_notedAt ?_
 unfold compStart
 simp only [clausesOf, hd, Option.elim]
 show wpAny _ _ (ask >>= _) _ _ s
 refine wpAny_bind (wpAny_askSetting (wpAny_ite ?_))
 split
 ·first
   | exact wpAny_bind (wpAny_pure (wpAny_pure (And.intro rfl h0)))
   | exact wpAny_pure (And.intro rfl h0)
 ·first
   | exact wpAny_bind (wpAny_rule (wpAny_bind (wpAny_standAt (wpAny_bind (wpAny_mono h (fun it' s' h' => wpAny_pure (And.intro rfl h')) fun _ _ x => x)))))
   | (refine wpAny_bind (wpAny_rule ?_); show wpAny _ _ (standAt iter.pos >>= _) _ _ s; exact wpAny_bind (wpAny_standAt (wpAny_bind (wpAny_mono h (fun it' s' h' => wpAny_pure (And.intro rfl h')) fun _ _ x => x))))
theorem Zlh {ke ve tg iter : Expr} {ifs : List Expr} {scope : Scope} {pos p0 : Pos} {Nc : List Str} {cap : List (Option Nat)} {wi : TI} {g : TG} {tt : TT} {tk tv : TE} {use : Option (Value → Sem Unit)} {Q : Value → Shared → Prop}
  {pins : List (Addr × Obj)} {s : Shared} {σ : St} {H : Hp} {P : VK}
  (hu : X.A.units + 1 < cLine) (hk : scope.kind = .function) (hc : X.calm = true) (hi : PI X tg iter wi) (ok : capOk X Nc cap scope = true)
  (hg : ∀ cs C s H fp, PG (cxComp X Nc scope cs C s H fp) tg g) (ht : ∀ cs C s H fp, PTs (cxComp X Nc scope cs C s H fp) ifs tt) (hkk : ∀ cs C s H fp, PE (cxComp X Nc scope cs C s H fp) ke tk) (hvv : ∀ cs C s H fp, PE (cxComp X Nc scope cs C s H fp) ve tv)
  (hs : ∀ x, foldedSetIterable iter X.env x = pure x) (I : Inv X pins σ H s) (h : tCompD wi cap g tt tk tv σ H P)
  (hend : ∀ (D C : Addr) (H' : Hp) (s' : Shared), Inv X pins σ H' s' → FpOk X pins H' C → (∃ m, s'.heap.Ns C m) → P (.ref D) H' →
   compPost (model X.prog X.w) X.A X.xe use Q (.ref D) C (.ok .next) s') :
  wpAny (model X.prog X.w) X.A (comprehension (.DictComp ke ve [⟨tg, iter, ifs, 0⟩] scope pos) scope X.env p0 newDict false (eval iter X.env) use) Q X.xe s := by
 have okc := CapOk.of ok
 have hcl : ∀ p ∈ scope.names, p.2 = .free → ∃ c, X.env.cells.lookup p.1 = some c := fun p hp e => I.ok.has p.1 (okc.free p hp e)
 refine wpAny_comprehension_free rfl hs (Zef hcl) hk (fun p hp e => by rw [okc.look p hp, e]) (thn (hi pins s σ H _ I h) fun v s1 h1 => thn h1 fun itv s2 h2 => ?_)
 obtain ⟨it, fp, tn, J, H2, e2, I2, T, st2, f2, hW⟩ := h2
 subst e2
 refine wpAny_newObj_type (Zdl ?_)
 dsimp only
 have z : (s2.heap.push { cls := .type "dict", dict := none, data := .dict #[] }).objs.size = s2.heap.objs.size + 1 := Heap.size_push ..
 rw [z]
 have hlt : ∀ b ∈ fp, b < s2.heap.objs.size := fun b hb => by obtain ⟨o, e, _⟩ := T.obj _ _ st2 b hb; exact Heap.lt_size e
 obtain ⟨J3, hD⟩ := Zj5 (oA := dctO) rfl I2 f2 hlt okc hk
 generalize hcs : cellsFrom (s2.heap.objs.size + 2) scope.names (clOf X.env.cells scope.names []) = cs at J3
 generalize hY : cxComp X Nc scope cs (s2.heap.objs.size + 1) s2 H2 fp = Y at J3
 have up : ∀ b o, s2.heap.get? b = some o → (pushCells ((s2.heap.push (dctO)).push { cls := .type "dict", data := .dict #[] }) scope.names).get? b = some o := fun b o e => pushCells_keeps _ _ b o (Heap.get?_push_of_some _ (Heap.get?_push_of_some _ e))
 have st3 : tn 0 (pushCells ((s2.heap.push (dctO)).push { cls := .type "dict", data := .dict #[] }) scope.names) := T.keep _ _ _ st2 fun b _ o e => up b o e
 -- the new list's place
 have fD : FpOk X pins H2 s2.heap.objs.size := I2.fpOk (Nat.le_refl _) (I2.hok.fresh (Nat.le_refl _))
 have fC : FpOk X pins H2 (s2.heap.objs.size + 1) := I2.fpOk (Nat.le_succ _) (I2.hok.fresh (Nat.le_succ _))
 have cse : ∀ x c, cs.lookup x = some c → c < s2.heap.objs.size ∨ s2.heap.objs.size + 2 ≤ c := fun x c e => by
  rw [← hcs, Zaq] at e
  have okz := cellsFrom_ok scope.names ((s2.heap.push (dctO)).push { cls := .type "dict", data := .dict #[] }) (s2.heap.objs.size + 2) [] ⟨fun _ _ hm => (nomatch hm), List.Pairwise.nil⟩ (by rw [Heap.size_push, Heap.size_push]; exact Nat.le_refl _)
  rw [Heap.size_push, Heap.size_push] at okz
  rcases Zbp e with e | ⟨_, e⟩
  ·exact .inr (okz.empty x c (PySem.mem_of_lookup e)).2
  ·obtain ⟨_, b⟩ := Zcr hcl (PySem.mem_of_lookup e)
   obtain ⟨v, q⟩ := I2.cell x c b
   exact .inl q.lt
 have fDY : FpOk Y [] H2 s2.heap.objs.size := by
  rw [← hY]
  refine ⟨fD.1, Nat.ne_of_lt (Nat.lt_succ_self _), fun hm => ?_, .inr (Nat.le_refl _), fun x c e q => ?_, fun p hp => absurd (show p ∈ ([] : List (Addr × Obj)) from hp) (by simp)⟩
  ·rcases List.mem_cons.mp (I2.stkSub _ hm) with q | q
   ·exact fD.2.1 q
   ·exact fD.2.2.1 q
  ·rcases cse x c e with l | l
   ·rw [q] at l; exact absurd l (Nat.lt_irrefl _)
   ·rw [q] at l; exact absurd (Nat.lt_of_lt_of_le (Nat.lt_succ_of_lt (Nat.lt_succ_self _)) l) (Nat.lt_irrefl _)
 have fpY : ∀ b ∈ fp, FpOk Y [] H2 b := fun b hb => by
  rw [← hY]
  obtain ⟨q0, q1, q2, q3, q4, q5⟩ := f2 b hb
  have hb' := hlt b hb
  refine ⟨q0, Nat.ne_of_lt (Nat.lt_succ_of_lt hb'), fun hm => ?_, .inl hb, fun x c e q => ?_, fun p hp => absurd (show p ∈ ([] : List (Addr × Obj)) from hp) (by simp)⟩
  ·rcases List.mem_cons.mp (I2.stkSub _ hm) with q | q
   ·exact q1 q
   ·exact q2 q
  ·rw [← hcs, Zaq] at e
   rcases cse x c (by rw [← hcs, Zaq]; exact e) with l | l
   ·rcases Zbp e with e | ⟨_, e⟩
    ·have okz := cellsFrom_ok scope.names ((s2.heap.push (dctO)).push { cls := .type "dict", data := .dict #[] }) (s2.heap.objs.size + 2) [] ⟨fun _ _ hm => (nomatch hm), List.Pairwise.nil⟩ (by rw [Heap.size_push, Heap.size_push]; exact Nat.le_refl _)
     rw [Heap.size_push, Heap.size_push] at okz
     have l2 := (okz.empty x c (PySem.mem_of_lookup e)).2
     exact absurd (Nat.lt_of_lt_of_le l (Nat.le_trans (Nat.le_add_right _ 2) l2)) (Nat.lt_irrefl _)
    ·obtain ⟨_, b2⟩ := Zcr hcl (PySem.mem_of_lookup e)
     exact q4 x c b2 q
   ·rw [q] at l; exact absurd (Nat.lt_of_lt_of_le hb' (Nat.le_trans (Nat.le_add_right _ 2) l)) (Nat.lt_irrefl _)
 have fr : H2 s2.heap.objs.size = none := fD.1
 obtain ⟨W, ⟨m0, w0⟩, turn⟩ := hW s2.heap.objs.size fr
 have J4 : Inv Y [] (capt cap σ) (upd H2 s2.heap.objs.size (.dT [])) { s2 with heap := pushCells ((s2.heap.push dctO).push { cls := .type "dict", data := .dict #[] }) scope.names } := by
  refine J3.track fDY ?_
  have hb : sysModules < s2.heap.objs.size := I2.big
  refine ⟨Nat.zero_le _, by rw [beq_eq_false_iff_ne]; exact Nat.ne_of_gt hb, [], .nil, dctO, #[], 0, hD, ⟨rfl, rfl, rfl⟩, rfl, rfl, List.nodup_nil⟩
 have fp4 : ∀ b ∈ fp, FpOk Y [] (upd H2 s2.heap.objs.size (.dT [])) b := fun b hb => by
  obtain ⟨q0, q⟩ := fpY b hb
  exact ⟨by rw [Zah (Nat.ne_of_lt (hlt b hb))]; exact q0, q⟩
 have fin : ∀ s' σ' H', Inv Y [] σ' H' s' → P (.ref s2.heap.objs.size) H' → compPost (model X.prog X.w) X.A X.xe use Q (.ref s2.heap.objs.size) (s2.heap.objs.size + 1) (.ok .next) s' := by
  intro s' σ' H' J' q
  have ub : Un (frs X.stack) fp H2 H' s2.heap s'.heap := by have b := J'.base; rw [← hY] at b; exact b
  have os : s'.os = s2.os := by have b := J'.os; rw [← hY] at b; exact b
  have hokX : HOk X.prog X.w H' s'.heap := by have b := J'.hok; rw [← hY] at b; exact b
  have hCn : H' (s2.heap.objs.size + 1) = none := by have b := J'.free; rw [← hY] at b; exact b
  have hns : ∃ m, s'.heap.Ns (s2.heap.objs.size + 1) m := by obtain ⟨m, b, _⟩ := J'.loc; rw [← hY] at b; exact ⟨m, b⟩
  have IX : Inv X pins σ H' s' := I2.call' os ub hokX J'.bare fun b hb => by
   obtain ⟨q0, q1, q2, q3, q4, q5⟩ := f2 b hb
   exact ⟨q3, q1, q4, q5⟩
  exact hend _ _ H' s' IX ⟨hCn, fC.2⟩ hns q
 have loop : codeAny (model X.prog X.w) X.A (.compLoop (.DictComp ke ve [⟨tg, iter, ifs, 0⟩] scope pos) 0 (.ref it) (.ref s2.heap.objs.size) (compEnvC scope cs (s2.heap.objs.size + 1) X.env)) (compPost (model X.prog X.w) X.A X.xe use Q (.ref s2.heap.objs.size) (s2.heap.objs.size + 1))
   { s2 with heap := pushCells ((s2.heap.push dctO).push { cls := .type "dict", data := .dict #[] }) scope.names } := by
  subst hY
  exact Zli (Y := cxComp X Nc scope cs (s2.heap.objs.size + 1) s2 H2 fp) (D := s2.heap.objs.size) hu (fun _ _ f => f) hc T (hg _ _ _ _ _) (ht _ _ _ _ _) (hkk _ _ _ _ _) (hvv _ _ _ _ _) J4 st3 fp4 w0 turn fin
 exact Zgo rfl loop (T.self _ 0 _ _ _ st3 loop)
theorem Zor {ke ve tg iter : Expr} {ifs : List Expr} {scope : Scope} {pos : Pos} {Nc : List Str} {cap : List (Option Nat)} {wi : TI} {g : TG} {tt : TT} {tk tv : TE}
  (hu : X.A.units + 1 < cLine) (hc : X.calm = true) (hi : PI X tg iter wi) (ok : capOk X Nc cap scope = true) (hg : ∀ cs C s H fp, PG (cxComp X Nc scope cs C s H fp) tg g) (ht : ∀ cs C s H fp, PTs (cxComp X Nc scope cs C s H fp) ifs tt)
  (hkk : ∀ cs C s H fp, PE (cxComp X Nc scope cs C s H fp) ke tk) (hvv : ∀ cs C s H fp, PE (cxComp X Nc scope cs C s H fp) ve tv) (hk : scope.kind = .function := by rfl) (hs : ∀ x, foldedSetIterable iter X.env x = pure x := by intro _; rfl) :
  PE X (.DictComp ke ve [⟨tg, iter, ifs, 0⟩] scope pos) (tCompD wi cap g tt tk tv) := by
 intro pins s σ H P I h
 show wpAny _ _ (comprehension (.DictComp ke ve [⟨tg, iter, ifs, 0⟩] scope pos) scope X.env _ newDict false (eval iter X.env) none) _ _ s
 refine Zlh hu hk hc hi ok hg ht hkk hvv hs I h fun D C H' s' I' fC hn q => ?_
 obtain ⟨m, hm⟩ := hn
 exact ⟨m, hm, fun h'' sb => ⟨.ref D, H', I'.turned (t' := s'.toks) (fun b o hb e => sb.extBut b o hb e) fC.1 fC.2.1 fC.2.2.2.1 fC.2.2.2.2.1 fC.2.2.2.2.2, rfl, q⟩⟩
theorem Zlp {ke ve tg iter : Expr} {ifs : List Expr} {scope : Scope} {pos : Pos} {Nc : List Str} {cap : List (Option Nat)} {wi : TI} {g : TG} {tt : TT} {tk tv : TE}
  (hu : X.A.units + 1 < cLine) (hc : X.calm = true) (hi : IPI X tg iter wi) (ok : capOk X Nc cap scope = true) (hg : ∀ cs C s H fp, IPG (cxComp X Nc scope cs C s H fp) tg g) (ht : ∀ cs C s H fp, IPTs (cxComp X Nc scope cs C s H fp) ifs tt)
  (hkk : ∀ cs C s H fp, IPE (cxComp X Nc scope cs C s H fp) ke tk) (hvv : ∀ cs C s H fp, IPE (cxComp X Nc scope cs C s H fp) ve tv) (hk : scope.kind = .function := by rfl) (hs : ∀ x, foldedSetIterable iter X.env x = pure x := by intro _; rfl) :
  IPE X (.DictComp ke ve [⟨tg, iter, ifs, 0⟩] scope pos) (tCompD wi cap g tt tk tv) := by
 simp only [Zak, Zal, Zao, Zac] at *
 exact Zor hu hc hi ok hg ht hkk hvv hk hs
end
end L2
namespace L2
open PySem PySem.Spec PyProof.Rows
noncomputable def dget (kvs : List (List Int × PyData)) (k : List Int) : Option PyData := (kvs.find? fun p => decide (p.1 = k)).map (·.2)
noncomputable def dput (kvs : List (List Int × PyData)) (k : List Int) (v : PyData) : List (List Int × PyData) :=
 if (kvs.any fun p => decide (p.1 = k)) = true then kvs.map (fun p => if p.1 = k then (p.1, v) else p) else kvs ++ [(k, v)]
section
variable {K : PySem.W.Frag} {G G' H H' : Hp} {s : DS} {σ : St}
theorem Zjh {a b : List Int} : a.map (Sum.inl : Int → Key) = b.map Sum.inl ↔ a = b :=
 ⟨fun h => List.map_inj_right (fun _ _ e => Sum.inl.inj e) |>.mp h, fun h => by rw [h]⟩
theorem Zcy : ∀ {kvs : List (List Int × PyData)} {ks : List (List Key × V)}, DWk K G (kvK kvs) ks →
  (kvs = [] ∧ ks = []) ∨ ∃ k d r x t, kvs = (k, d) :: r ∧ ks = (k.map Sum.inl, x) :: t ∧ DW K G d x ∧ DWk K G (kvK r) t
 | [], ks, h => by
  unfold kvK at h
  rw [List.map_nil] at h
  unfold DWk at h
  exact .inl ⟨rfl, h⟩
 | (k, d) :: r, ks, h => by
  unfold kvK at h
  rw [List.map_cons] at h
  unfold DWk at h
  obtain ⟨ns, x, t, e1, e2, h1, h2⟩ := h
  have e : k = ns := by
   unfold tI at e2
   have := PyData.tuple.inj e2
   exact (List.map_inj_right (fun _ _ e => PyData.int.inj e)).mp this
  subst e
  exact .inr ⟨k, d, r, x, t, rfl, e1, h1, h2⟩
theorem DWk.cons' {k : List Int} {d : PyData} {r : List (List Int × PyData)} {x : V} {t : List (List Key × V)} (h1 : DW K G d x) (h2 : DWk K G (kvK r) t) : DWk K G (kvK ((k, d) :: r)) ((k.map Sum.inl, x) :: t) := by
 show DWk K G ((tI k, d) :: kvK r) _
 unfold DWk
 exact ⟨k, x, t, rfl, rfl, h1, h2⟩
theorem DWk.nil' : DWk K G (kvK []) [] := by
 show DWk K G [] []
 unfold DWk; rfl
theorem DWk.get : ∀ {kvs : List (List Int × PyData)} {ks : List (List Key × V)} {k : List Int}, DWk K G (kvK kvs) ks →
  (dget kvs k = none ∧ valV ks (k.map Sum.inl) = none) ∨ ∃ d x, dget kvs k = some d ∧ valV ks (k.map Sum.inl) = some x ∧ DW K G d x
 | [], ks, k, h => by
  rcases Zcy h with ⟨_, rfl⟩ | ⟨_, _, _, _, _, e, _⟩
  ·exact .inl ⟨rfl, rfl⟩
  ·cases e
 | (k0, d) :: r, ks, k, h => by
  rcases Zcy h with ⟨e, _⟩ | ⟨k1, d1, r1, x, t, e, rfl, h1, h2⟩
  ·cases e
  ·cases e
   by_cases c : k0 = k
   ·subst c
    exact .inr ⟨d, x, by simp [dget], Zf5 rfl, h1⟩
   ·have c' : ¬ (k0.map (Sum.inl : Int → Key)) = k.map Sum.inl := fun z => c (Zjh.mp z)
    rw [Zf4 (p := (k0.map Sum.inl, x)) c']
    have e : dget ((k0, d) :: r) k = dget r k := by simp [dget, c]
    rw [e]
    exact DWk.get h2
theorem DWk.any : ∀ {kvs : List (List Int × PyData)} {ks : List (List Key × V)} (k : List Int), DWk K G (kvK kvs) ks → (kvs.any fun p => decide (p.1 = k)) = ks.any fun p => decide (p.1 = k.map Sum.inl)
 | [], ks, k, h => by
  rcases Zcy h with ⟨_, rfl⟩ | ⟨_, _, _, _, _, e, _⟩
  ·rfl
  ·cases e
 | (k0, d) :: r, ks, k, h => by
  rcases Zcy h with ⟨e, _⟩ | ⟨k1, d1, r1, x, t, e, rfl, h1, h2⟩
  ·cases e
  ·cases e
   rw [List.any_cons, List.any_cons, DWk.any k h2]
   have : decide (k0 = k) = decide ((k0.map (Sum.inl : Int → Key)) = k.map Sum.inl) := by
    by_cases c : k0 = k
    ·subst c; simp
    ·rw [decide_eq_false c, decide_eq_false fun z => c (Zjh.mp z)]
   rw [this]
theorem DWk.repl {k : List Int} {d : PyData} {x : V} (hd : DW K G d x) : ∀ {kvs : List (List Int × PyData)} {ks : List (List Key × V)}, DWk K G (kvK kvs) ks →
  DWk K G (kvK (kvs.map fun p => if p.1 = k then (p.1, d) else p)) (ks.map fun p => if p.1 = k.map Sum.inl then (p.1, x) else p)
 | [], ks, h => by
  rcases Zcy h with ⟨_, rfl⟩ | ⟨_, _, _, _, _, e, _⟩
  ·exact DWk.nil'
  ·cases e
 | (k0, d0) :: r, ks, h => by
  rcases Zcy h with ⟨e, _⟩ | ⟨k1, d1, r1, y, t, e, rfl, h1, h2⟩
  ·cases e
  ·cases e
   rw [List.map_cons, List.map_cons]
   by_cases c : k0 = k
   ·subst c
    rw [if_pos rfl, if_pos rfl]
    exact DWk.cons' hd (DWk.repl hd h2)
   ·rw [if_neg c, if_neg fun z => c (Zjh.mp z)]
    exact DWk.cons' h1 (DWk.repl hd h2)
theorem DWk.snoc {k : List Int} {d : PyData} {x : V} (hd : DW K G d x) : ∀ {kvs : List (List Int × PyData)} {ks : List (List Key × V)}, DWk K G (kvK kvs) ks → DWk K G (kvK (kvs ++ [(k, d)])) (ks ++ [(k.map Sum.inl, x)])
 | [], ks, h => by
  rcases Zcy h with ⟨_, rfl⟩ | ⟨_, _, _, _, _, e, _⟩
  ·exact DWk.cons' hd DWk.nil'
  ·cases e
 | (k0, d0) :: r, ks, h => by
  rcases Zcy h with ⟨e, _⟩ | ⟨k1, d1, r1, y, t, e, rfl, h1, h2⟩
  ·cases e
  ·cases e
   exact DWk.cons' h1 (DWk.snoc hd h2)
theorem DWk.put {kvs : List (List Int × PyData)} {ks : List (List Key × V)} {k : List Int} {d : PyData} {x : V} (h : DWk K G (kvK kvs) ks) (hd : DW K G d x) : DWk K G (kvK (dput kvs k d)) (putK ks (k.map Sum.inl) x) := by
 unfold dput putK
 rw [h.any k]
 split
 ·exact h.repl hd
 ·exact h.snoc hd
theorem DWk.len : ∀ {kvs : List (List Int × PyData)} {ks : List (List Key × V)}, DWk K G (kvK kvs) ks → kvs.length = ks.length
 | [], ks, h => by
  rcases Zcy h with ⟨_, rfl⟩ | ⟨_, _, _, _, _, e, _⟩
  ·rfl
  ·cases e
 | (k0, d) :: r, ks, h => by
  rcases Zcy h with ⟨e, _⟩ | ⟨k1, d1, r1, x, t, e, rfl, h1, h2⟩
  ·cases e
  ·cases e
   rw [List.length_cons, List.length_cons, DWk.len h2]
theorem Zn1 (r : Same G H) {ns : List Int} {y : V} (h : VR K G (.d (tI ns)) y) (n : ns ≠ []) : ∃ b, y = .ref b ∧ H b = some (.tup ((ns.map (Sum.inl : Int → Key)).map kV)) := by
 unfold VR tI DW at h
 obtain ⟨a, xs, e, q, D⟩ := h
 have ex := DWs.ints_inv D
 rcases q with q | ⟨z, _⟩
 ·refine ⟨a, e, ?_⟩
  rw [r _ _ q, ex, List.map_map]; rfl
 ·cases ns with
  | nil => exact absurd rfl n
  | cons => simp at z
noncomputable def unK : List (PyData × PyData) → Option (List (List Int × PyData))
 | [] => some []
 | (.tuple ks, d) :: r => match uIs ks, unK r with | some ns, some t => some ((ns, d) :: t) | _, _ => none
 | _ :: _ => none
@[simp] theorem unK_kvK (kvs : List (List Int × PyData)) : unK (kvK kvs) = some kvs := by
 induction kvs with
 | nil => rfl
 | cons p r ih =>
  show unK ((tI p.1, p.2) :: kvK r) = _
  simp [unK, tI, ih]
theorem Zpz : ∀ {l : List (PyData × PyData)} {kvs : List (List Int × PyData)}, unK l = some kvs → l = kvK kvs
 | [], kvs, h => by cases h; rfl
 | (.tuple ks, d) :: r, kvs, h => by
  simp only [unK] at h
  split at h
  ·next ns t e1 e2 =>
   cases h
   rw [Zpz e2, Zgi e1]; rfl
  ·cases h
 | (.none, _) :: _, _, h => by simp [unK] at h
 | (.bool _, _) :: _, _, h => by simp [unK] at h
 | (.int _, _) :: _, _, h => by simp [unK] at h
 | (.str _, _) :: _, _, h => by simp [unK] at h
 | (.list _, _) :: _, _, h => by simp [unK] at h
 | (.dict _, _) :: _, _, h => by simp [unK] at h
noncomputable def rdK (w : OW) : Val → Option (List (List Int × PyData))
 | .d (.dict l) => unK l
 | .own a => match w a with | some (.dct kvs) => some kvs | _ => none
 | _ => none
theorem Rel.rdK (r : Rel K G s σ H) {v : Val} {x : V} {kvs : List (List Int × PyData)} (q : VR K G v x) (h : L2.rdK s.w v = some kvs) : ∃ a ks, x = .ref a ∧ H a = some (.dT ks) ∧ DWk K G (kvK kvs) ks := by
 unfold L2.rdK at h
 split at h
 ·rw [Zpz h] at q
  unfold VR DW at q
  obtain ⟨a, ks, e, h1, h2⟩ := q
  exact ⟨a, ks, e, r.sub _ _ h1, h2⟩
 ·next a =>
  cases (show x = .ref a from q)
  split at h
  ·next z =>
   cases h
   obtain ⟨_, ks, h1, h2⟩ := r.own a _ z
   exact ⟨a, ks, rfl, h1, h2⟩
  ·cases h
 ·cases h
noncomputable def keyD : Val → Option (List Int)
 | .d (.tuple (x :: r)) => uIs (x :: r)
 | _ => none
theorem Zjj {v : Val} {ns : List Int} (h : keyD v = some ns) : v = .d (tI ns) ∧ ns ≠ [] := by
 unfold keyD at h
 split at h
 ·next x r =>
  have e := Zgi h
  refine ⟨by rw [e]; rfl, fun z => ?_⟩
  rw [z] at e; cases e
 ·cases h
@[simp] theorem keyD_tI (x : Int) (r : List Int) : keyD (.d (tI (x :: r))) = some (x :: r) := by
 show uIs ((x :: r).map .int) = _
 exact uIs_map _
theorem Zec {ns : List Int} (h : ns ≠ []) : keyD (.d (tI ns)) = some ns := by
 cases ns with
 | nil => exact absurd rfl h
 | cons x r => exact keyD_tI x r
noncomputable def dDGet (da db : DTE) : DTE := fun s k => da s fun v s1 => db s1 fun u s2 => ∃ kvs ns x, rdK s2.w v = some kvs ∧ keyD u = some ns ∧ dget kvs ns = some x ∧ k (.d x) s2
theorem Zhf {ta tb : TE} {da db : DTE} (ha : RE K ta da) (hb : RE K tb db) : RE K (tDGet ta tb) (dDGet da db) := by
 refine ⟨fun s Q Q' h q => ha.mo _ _ _ (fun v s1 q1 => hb.mo _ _ _ (fun w s2 ⟨kvs, ns, x, h1, h2, h3, h4⟩ => ⟨kvs, ns, x, h1, h2, h3, h _ _ h4⟩) q1) q, fun G s σ H Q r h => ?_⟩
 refine ha.ok G s σ H _ r (ha.mo _ _ _ (fun v s1 q G1 H1 x e1 r1 v1 => ?_) h)
 refine hb.ok G1 s1 σ H1 _ r1 (hb.mo _ _ _ (fun w s2 q2 G2 H2 y e2 r2 v2 => ?_) q)
 obtain ⟨kvs, ns, d, h1, h2, h3, h4⟩ := q2
 obtain ⟨a, ks, rfl, h5, h6⟩ := r2.rdK (v1.same e2) h1
 obtain ⟨e, n⟩ := Zjj h2
 subst e
 obtain ⟨b, rfl, hb'⟩ := Zn1 r2.sub v2 n
 rcases h6.get (k := ns) with ⟨z, _⟩ | ⟨d', z, g1, g2, g3⟩
 ·rw [h3] at z; cases z
 ·rw [h3] at g1; cases g1
  exact ⟨a, z, rfl, by rw [← g2]; exact DGet.t h5 hb', h4 G2 H2 z (e1.trans e2) r2 g3⟩
noncomputable def dDNew (o : Bool) : DTE := fun s k => match o with
 | true => ∀ p, s.w p = none → k (.own p) (s.put p (.dct []))
 | false => k (.d (.dict [])) s
theorem Znl (o : Bool) : RE K tDNewT (dDNew o) := by
 refine ⟨fun s Q Q' h q => ?_, fun G s σ H Q r h p hp => ?_⟩
 ·cases o
  ·exact h _ _ q
  ·exact fun p hp => h _ _ (q p hp)
 ·have hg : G p = none := r.sub.free hp
  cases o
  ·exact h (upd G p (.dT [])) (upd H p (.dT [])) (.ref p) (Zbt hg _) (r.new hp _) (by unfold VR DW; exact ⟨p, [], rfl, Zax, by unfold DWk; rfl⟩)
  ·exact h p (r.free hp) G (upd H p (.dT [])) (.ref p) (Same.refl G) (r.newOwn hp ⟨[], Zax, DWk.nil'⟩) rfl
noncomputable def dDPut (da dk dv : DTE) : DTS := fun E s => dv s fun v s1 => da s1 fun u s2 => dk s2 fun kk s3 => match u, v with
 | .own a, .d x => ∃ kvs ns, s3.w a = some (.dct kvs) ∧ keyD kk = some ns ∧ kvs.length < sizeLine ∧ E.nx (s3.put a (.dct (dput kvs ns x)))
 | _, _ => False
theorem Znq {td ty tv : TE} {da dk dv : DTE} (ha : RE K td da) (hk : RE K ty dk) (hv : RE K tv dv) : RS K (sDPut td ty tv) (dDPut da dk dv) := by
 intro G s σ H D E r p q
 refine hv.ok G s σ H _ r (hv.mo _ _ _ (fun v s1 q G1 H1 x e1 r1 v1 => ?_) q)
 refine ha.ok G1 s1 σ H1 _ r1 (ha.mo _ _ _ (fun u s2 q G2 H2 y e2 r2 v2 => ?_) q)
 refine hk.ok G2 s2 σ H2 _ r2 (hk.mo _ _ _ (fun kk s3 q G3 H3 z e3 r3 v3 => ?_) q)
 cases u with
 | own a => cases v with
  | d x' =>
    cases (show y = .ref a from v2)
    obtain ⟨kvs, ns, h1, h2, h3, h4⟩ := q
    obtain ⟨_, ks, h5, h6⟩ := r3.own a _ h1
    obtain ⟨e, n⟩ := Zjj h2
    subst e
    obtain ⟨b, rfl, hb⟩ := Zn1 r3.sub v3 n
    refine ⟨a, _, rfl, DPut.t h5 hb (by rw [← h6.len]; exact h3), p.nx _ G3 σ _ ((e1.trans e2).trans e3) (r3.chg h1 ?_) h4⟩
    exact ⟨_, Zax, h6.put (v1.same (e2.trans e3))⟩
  | _ => exact False.elim q
 | _ => exact False.elim q
noncomputable def dDComp (o : Bool) (di : DTI) (cap : List (Option Nat)) (dg : DTG) (dt : DTT) (dk dv : DTE) : DTE := fun s k => di s fun src s1 => ∀ p, s1.w p = none → ∃ I : Nat → OW → Prop, I 0 (s1.w.put p (.dct [])) ∧ (∀ i w, I i w → src.2 w) ∧
 (∀ (i : Nat) d w, src.1[i]? = some d → I i w → dg (.d d) ⟨captD cap s1.e, w⟩ fun s2 => dt s2 fun b s3 => if b = true then dk s3 (fun kk s4 => dv s4 fun vv s5 => match vv with
  | .d x => ∃ kvs ns, s5.w p = some (.dct kvs) ∧ keyD kk = some ns ∧ kvs.length < sizeLine ∧ L2.ext (captD cap s1.e) s5.e ∧ I (i + 1) (s5.w.put p (.dct (dput kvs ns x)))
  | _ => False) else L2.ext (captD cap s1.e) s3.e ∧ I (i + 1) s3.w) ∧
 ∀ w, I src.1.length w → ∃ kvs, w p = some (.dct kvs) ∧ (match o with | true => k (.own p) ⟨s1.e, w⟩ | false => k (.d (.dict (kvK kvs))) ⟨s1.e, w.del p⟩)
theorem Rel.frzD (r : Rel K G s σ H) {a : Addr} {kvs : List (List Int × PyData)} (h1 : s.w a = some (.dct kvs)) : ∃ ks, Same G (upd G a (.dT ks)) ∧ Rel K (upd G a (.dT ks)) ⟨s.e, s.w.del a⟩ σ H ∧ VR K (upd G a (.dT ks)) (.d (.dict (kvK kvs))) (.ref a) := by
 obtain ⟨g0, ks, h3, h4⟩ := r.own a _ h1
 have S := Zbt g0 (.dT ks)
 refine ⟨ks, S, ⟨fun b o q => ?_, fun b o q => ?_, r.sl.same S⟩, ?_⟩
 ·by_cases e : b = a
  ·subst e; rw [Zax] at q; cases q; exact h3
  ·rw [Zah e] at q; exact r.sub _ _ q
 ·have nb : b ≠ a := fun e => by
   have q' : (if b = a then none else s.w b) = some o := q
   rw [if_pos e] at q'; cases q'
  have q' : s.w b = some o := by
   have q' : (if b = a then none else s.w b) = some o := q
   rwa [if_neg nb] at q'
  exact ⟨by rw [Zah nb]; exact (r.own b o q').1, (r.own b o q').2.mono S rfl⟩
 ·unfold VR DW; exact ⟨a, ks, rfl, Zax, DWk.same S h4⟩
theorem Zp2 (o : Bool) {wi : TI} {cap : List (Option Nat)} {g : TG} {tt : TT} {tk tv : TE} {di : DTI} {dg : DTG} {dt : DTT} {dk dv : DTE} (hi : RI K wi di) (hg : RG K g dg) (ht : RT K tt dt) (hk : RE K tk dk) (hv : RE K tv dv) : RE K (tCompD wi cap g tt tk tv) (dDComp o di cap dg dt dk dv) := by
 refine ⟨fun s Q Q' z q => hi.mo _ _ _ (fun src s1 q => ?_) q, fun G s σ H Q r q => hi.ok G s σ H _ r (hi.mo _ _ _ (fun src s1 q G1 H1 J e1 r1 hJ => ?_) q)⟩
 ·intro p hp
  obtain ⟨I, h0, h1, h2, h3⟩ := q p hp
  refine ⟨I, h0, h1, h2, fun w hw => ?_⟩
  obtain ⟨kvs, h4, h5⟩ := h3 w hw
  refine ⟨kvs, h4, ?_⟩
  cases o
  ·exact z _ _ h5
  ·exact z _ _ h5
 ·intro p hp
  obtain ⟨I, h0, h1, h2, h3⟩ := q p (r1.free hp)
  obtain ⟨ds, P⟩ := src
  dsimp only at hJ h1 h2 h3
  have rs : Rel K G1 ⟨captD cap s1.e, s1.w.put p (.dct [])⟩ (capt cap σ) (upd H1 p (.dT [])) := (r1.newOwn hp (u := .dct []) ⟨[], Zax, DWk.nil'⟩).env (r1.sl.capt cap)
  refine ⟨fun i m σ H => i + m = ds.length ∧ ∃ G w, Same G1 G ∧ Rel K G ⟨captD cap s1.e, w⟩ σ H ∧ I i w, ⟨ds.length, Nat.zero_add _, G1, _, Same.refl _, rs, h0⟩, ?_⟩
  rintro i m σ3 H3 ⟨hm, G, w, e, r3, hi3⟩
  cases m with
  | zero =>
   have : i = ds.length := by omega
   subst this
   refine .inl ⟨(hJ G _ σ3 H3 _ e (h1 _ _ hi3) r3).2 (Nat.le_refl _), ?_⟩
   obtain ⟨kvs, h4, h5⟩ := h3 w hi3
   have r4 : Rel K G ⟨s1.e, w⟩ σ H3 := r3.env (r1.sl.same e)
   cases o
   ·obtain ⟨ks, S, r5, v5⟩ := r4.frzD h4
    exact h5 _ H3 (.ref p) ((e1.trans e).trans S) r5 v5
   ·exact h5 G H3 (.ref p) (e1.trans e) r4 rfl
  | succ m =>
   have hlt : i < ds.length := by omega
   have hd := gEq hlt
   obtain ⟨go, yl⟩ := (hJ G _ σ3 H3 i e (h1 _ _ hi3) r3).1 _ hd
   refine .inr ⟨go, fun σ' H' => ∃ G' w', Same G1 G' ∧ Rel K G' ⟨captD cap s1.e, w'⟩ σ' H' ∧ I (i + 1) w', fun σ' H' ⟨G', s', q⟩ => ⟨m, Nat.lt_succ_self m, by omega, G', s', q⟩, fun x H' hy => ?_⟩
   obtain ⟨G', e', r', dx⟩ := yl x H' hy
   have hs := h2 i _ w hd hi3
   refine hg.ok G' _ σ3 H' (.d _) x _ r' dx (hg.mo _ _ _ _ (fun s2 q G2 σ2 H2 e2 r2 => ?_) hs)
   refine ht.ok G2 s2 σ2 H2 _ r2 (ht.mo _ _ _ (fun b s3 q G3 H3 e3 r3 => ?_) q)
   have E3 := ((e.trans e').trans e2).trans e3
   cases b
   ·exact ⟨G3, s3.w, E3, r3.ext q.1, q.2⟩
   ·refine hk.ok G3 s3 σ2 H3 _ r3 (hk.mo _ _ _ (fun kk s4 q G4 H4 y e4 r4 v4 => ?_) q)
    refine hv.ok G4 s4 σ2 H4 _ r4 (hv.mo _ _ _ (fun vv s5 q G5 H5 z e5 r5 v5 => ?_) q)
    split at q
    ·next x' =>
     obtain ⟨kvs, ns, h4, h5, h6, h7, h8⟩ := q
     obtain ⟨_, ks, h9, h10⟩ := r5.own p _ h4
     obtain ⟨e, n⟩ := Zjj h5
     subst e
     obtain ⟨b, rfl, hb⟩ := Zn1 r5.sub (v4.same e5) n
     refine ⟨_, DPut.t h9 hb (by rw [← h10.len]; exact h6), G5, _, (E3.trans e4).trans e5, Rel.ext (s := s5.put p (.dct (dput kvs ns x'))) (r5.chg h4 ?_) h7, h8⟩
     exact ⟨_, Zax, h10.put v5⟩
    ·exact q.elim
end
section
variable {X : Cx} {K : PySem.W.Frag}
theorem Ze0 {o i : Expr} {td ty : TE} {pos : Pos} (hu : X.A.units + 1 < cLine) (ho : IPE X o td) (hi : IPE X i ty) (hs : NoSl i) : IPE X (.Subscript o i pos) (tDGet td ty) := by
 simp only [Zak] at *; exact Zqj hu ho hi hs
theorem Zga {pos : Pos} : IPE X (.Dict [] [] pos) tDNewT := by rw [Zak]; exact Zos
theorem Zig {o i value : Expr} {td ty tv : TE} {pos pos' : Pos} (hu : X.A.units + 1 < cLine) (ho : IPE X o td) (hi : IPE X i ty) (hv : IPE X value tv) (hs : swapsWith value (some (.Subscript o i pos')) pos.line X.env = pure false := by rfl) : IPS X (.Assign [.Subscript o i pos'] value pos) (sDPut td ty tv) := by
 simp only [Zak, Zap] at *; exact Zqs hu ho hi hv hs
end
end L2
namespace L2
open PySem PySem.Spec PyProof.Rows
section
variable {X : Cx} {K : PySem.W.Frag} {G G' H H' : Hp} {s : DS} {σ : St}
noncomputable def isNoneD (w : OW) : Val → Option Bool
 | .d .none => some true
 | .d _ => some false
 | .own _ => some false
 | _ => none
noncomputable def fIsN (neg : Bool) : Val → Val → DTE := fun v u s k => match isNoneD s.w v, u with
 | some b, .d .none => k (.d (.bool (if neg then !b else b))) s
 | _, _ => False
noncomputable def fRepT : Val → Val → DTE := fun v w s k => match rdT v, w with
 | some ds, .d (.int i) => (ds ≠ [] ∧ 1 ≤ i ∧ i < 2 ^ 63 ∧ ds.length * i.toNat ≤ sizeLine) ∧ k (.d (.tuple (repD i.toNat ds))) s
 | _, _ => False
noncomputable def gSortI (o : Bool) : Val → DTE := fun v s k => match rdL s.w v with
 | some ds => (match uIs ds with | some ns => ns.length < 64 ∧ ∀ ns' : List Int, ns'.Perm ns → ns'.Pairwise (· ≤ ·) → nl o (ns'.map .int) s k | none => False)
 | none => False
noncomputable def dDisp1 (o : Bool) (dk dv : DTE) : DTE := fun s k => ∀ p, s.w p = none → dk (s.put p (.dct [])) fun kk s1 => dv s1 fun vv s2 => match vv with
 | .d x => ∃ ns, keyD kk = some ns ∧ s2.w p = some (.dct []) ∧ (match o with | true => k (.own p) (s2.put p (.dct [(ns, x)])) | false => k (.d (.dict (kvK [(ns, x)]))) ⟨s2.e, s2.w.del p⟩)
 | _ => False
noncomputable def dIdx (d : DTE) (da : DTA) : DTE := fun s k => d s fun v s1 => (rdL s1.w v).isSome = true ∧ da s1 fun vs s2 => match vs with
 | [u] => (match rdL s2.w v, rdD s2.w u with
  | some ds, some x => (x.hasDict = false ∧ PyData.hasDictAll ds = false ∧ x.canLay0 = true ∧ PyData.canLayAll0 ds = true ∧ x.depth ≤ 30) ∧ ∃ j, ds.findIdx? (fun z => PyData.eqv z x) = some j ∧ k (.d (.int (j : Nat))) s2
  | _, _ => False)
 | _ => False
noncomputable def dFrzD (i : Nat) : DTE := fun s k => match s.e[i]? with
 | some (some (.own a)) => ∃ kvs, s.w a = some (.dct kvs) ∧ k (.d (.dict (kvK kvs))) ⟨s.e.set i (some (.d (.dict (kvK kvs)))), s.w.del a⟩
 | _ => False
theorem Znm (i : Nat) : RE K (tVar i) (dFrzD i) := by
 refine ⟨fun s Q Q' h q => ?_, fun G s σ H Q r h => ?_⟩
 ·unfold dFrzD at q ⊢; split at q
  ·obtain ⟨ds, h1, h2⟩ := q; exact ⟨ds, h1, h _ _ h2⟩
  ·exact q.elim
 ·unfold dFrzD at h; split at h
  ·next a z =>
   obtain ⟨kvs, h1, h2⟩ := h
   obtain ⟨x, hx, vx⟩ := r.sl.2 i _ z
   cases (show x = .ref a from vx)
   obtain ⟨ks, S, r5, v5⟩ := r.frzD h1
   refine ⟨_, hx, h2 _ H (.ref a) S ⟨r5.sub, r5.own, ?_⟩ v5⟩
   have := r5.sl.set (v := .d (.dict (kvK kvs))) (x := .ref a) v5 i
   rwa [Zem hx] at this
  ·exact h.elim
noncomputable def dCallD (f : DSp) (na nk : Nat) (pick : List (Nat × Nat)) (da dk : DTA) : DTE := fun s k => da s fun vs s1 => dk s1 fun us s2 => f (gaQ (.d (.tuple [])) na nk pick vs us) s2.w (fun v w' => k v ⟨s2.e, w'⟩)
theorem DnD.data {P : Program} {w : World} {mg : Str → Option Value} {base : Heap} {x : Str} {st : Stmt} {N ps : List Str} {k : Nat} {f : DSp} {em : Addr} (U : ∃ a fd, FunD K x st a fd em ∧ mg x = some (.ref a)) (S : FnScope N ps (defScope st)) (len : ∀ vs w k, f vs w k → vs.length = ps.length)
  (hbody : ∀ (a : Addr) (cdv : Value) (A : Around) (outer : List Env) (s : Shared) (H : Hp) (E : XK), Room k (A.deeper (envOfC x (defScope st) s.heap.objs.size a cdv)) →
   ∃ t d, PSs (cxOf CX0 P w K mg base N x (defScope st) a cdv A outer s H E).nox (defBody st) t ∧ RS K t d ∧ ∀ (as : List Val) (o : OW) (q : Val → OW → Prop), f as o q → d { nx := fun s => ∃ w', OW.le w' s.w ∧ q (.d .none) w', rt := fun v s => ∃ w', OW.le w' s.w ∧ q v w' } ⟨startD N as, o⟩) : DnD P w K mg base (k + 1) x st ps (spD K f) em := by
 refine DnD.of U S (fun vs H Q E h => ?_) (fun a cdv A outer s H vs Q E hr h => ?_)
 ·obtain ⟨G, o, as, _, _, h1, h2⟩ := h
  rw [← h1.length]; exact len _ _ _ h2
 ·obtain ⟨G, o, as, h1, h2, h3, h4⟩ := h
  obtain ⟨t, d, q1, q2, q3⟩ := hbody a cdv A outer s H E hr
  refine ⟨t, q1, q2 G ⟨startD N as, o⟩ (start N vs) H _ { nx := fun s => ∃ w', OW.le w' s.w ∧ _, rt := fun v s => ∃ w', OW.le w' s.w ∧ _ } ⟨h1, h2, Zhj h3⟩ ⟨fun s' G' σ' H' e r z => ?_, fun v s' G' σ' H' x e r v1 z => ?_, fun _ _ _ _ _ _ z => False.elim z, fun _ _ _ _ _ _ z => False.elim z⟩ (q3 as o _ h4)⟩
  ·obtain ⟨w', l, z⟩ := z
   exact z G' H' .non e r.sub (r.own.le l) Zl6
  ·obtain ⟨w', l, z⟩ := z
   exact z G' H' x e r.sub (r.own.le l) v1
end
end L2
namespace L2
open PySem PySem.Spec PyProof.Rows
section
variable {src : List PyData × (OW → Prop)} {e0 : List (Option Val)} {dg : DTG} {dt : DTT} {de : DTE} {k : List PyData → DS → Prop} {w : OW} {α : Type}
theorem Zbg (xs : List α) (enc f : α → PyData) (acc0 : List PyData) (hsrc : src.1 = xs.map enc) (hp : src.2 w) (hl : acc0.length + xs.length < sizeLine)
  (hs : ∀ x ∈ xs, ∀ Q : PyData → OW → Prop, Q (f x) w → dg (.d (enc x)) ⟨e0, w⟩ fun s2 => de s2 fun v s1 => match v with | .d y => ext e0 s1.e ∧ Q y s1.w | _ => False)
  (hk : k (acc0 ++ xs.map f) ⟨e0, w⟩) : ∃ I : Nat → List PyData → OW → Prop, I 0 acc0 w ∧ LIt src e0 dg dYes (dEmit de) k I := by
 refine Zjn xs enc (fun x => [f x]) acc0 hsrc hp (by rw [← List.map_eq_flatMap, lmp]; exact hl) (fun x hx acc _ Q hQ => ?_) (by rw [← List.map_eq_flatMap]; exact hk)
 exact hs x hx (fun y w => Q (acc ++ [y]) w) hQ
theorem Zgd (xs : List α) (enc f : α → PyData) (c : α → Bool) (acc0 : List PyData) (hsrc : src.1 = xs.map enc) (hp : src.2 w) (hl : acc0.length + xs.length < sizeLine)
  (hs : ∀ x ∈ xs, ∀ Q : Option PyData → OW → Prop, Q (if c x = true then some (f x) else none) w → dg (.d (enc x)) ⟨e0, w⟩ fun s2 => dt s2 fun b s3 => if b = true then de s3 (fun v s1 => match v with | .d y => ext e0 s1.e ∧ Q (some y) s1.w | _ => False) else ext e0 s3.e ∧ Q none s3.w)
  (hk : k (acc0 ++ (xs.filter c).map f) ⟨e0, w⟩) : ∃ I : Nat → List PyData → OW → Prop, I 0 acc0 w ∧ LIt src e0 dg dt (dEmit de) k I := by
 have e : ∀ l : List α, (l.flatMap fun x => if c x = true then [f x] else []) = (l.filter c).map f := by
  intro l
  induction l with
  | nil => rfl
  | cons x r ih =>
   rw [List.flatMap_cons, ih]
   cases h : c x
   ·simp [List.filter_cons, h]
   ·simp [List.filter_cons, h]
 refine Zjn xs enc (fun x => if c x = true then [f x] else []) acc0 hsrc hp ?_ (fun x hx acc _ Q hQ => ?_) (by rw [e]; exact hk)
 ·rw [e, lmp]
  have := List.length_filter_le c xs
  omega
 ·refine hs x hx (fun y w => Q (match y with | some z => acc ++ [z] | none => acc) w) ?_
  cases h : c x
  ·simp only [h] at hQ
   simpa using hQ
  ·simp only [h] at hQ
   simpa using hQ
end
theorem Zsj {w : OW} {a : Addr} {o : Own} (h : w a = some o) : w.put a o = w := by
 funext b; unfold OW.put; split
 ·next z => rw [z, h]
 ·rfl
theorem Zc5 {o : OW} {u : Addr} {m : Nat} {wd : Int} {k : Val → OW → Prop} (h1 : m ≤ 1000000) (h2 : 0 < wd) (h3 : wd < 1073741824) (h : ∀ d : Int, 0 ≤ d → d < wd → k (.d (.int d)) (o.put u (.urn (m + 1)))) : dsDraw [.own u, .d (.int wd)] (o.put u (.urn m)) k :=
 ⟨m, OW.put_same, ⟨h1, h2, h3⟩, fun d a b => by rw [OW.put_put]; exact h d a b⟩
theorem Zk6 {c : Nat} {P : List Val → Prop} {R : List Val → PyData → Prop} {o : OW} {u : Addr} {m : Nat} {as : List Val} {k : Val → OW → Prop} (h1 : m + c ≤ 1000000) (h2 : P as) (h : ∀ r, R as r → k (.d r) (o.put u (.urn (m + c)))) : urnS c P R (.own u :: as) (o.put u (.urn m)) k :=
 ⟨m, OW.put_same, ⟨h1, h2⟩, fun r hr => by rw [OW.put_put]; exact h r hr⟩
theorem Zh7 {src : List PyData × (OW → Prop)} {e0 : List (Option Val)} {dg : DTG} {de : DTE} {k : List PyData → DS → Prop} {o : OW} {u : Addr} {m0 : Nat} {α β : Type} (xs : List α) (enc : α → PyData) (f : β → PyData) (P : α → β → Prop) (c : Nat) (hsrc : src.1 = xs.map enc) (hp : ∀ w, src.2 w) (hl : xs.length < sizeLine)
  (hs : ∀ x ∈ xs, ∀ m, m + c ≤ m0 + xs.length * c → ∀ Q : PyData → OW → Prop, (∀ y m', P x y → m' ≤ m + c → Q (f y) (o.put u (.urn m'))) → dg (.d (enc x)) ⟨e0, o.put u (.urn m)⟩ fun s2 => de s2 fun v s1 => match v with | .d y => ext e0 s1.e ∧ Q y s1.w | _ => False)
  (hk : ∀ (ys : List β) (m' : Nat), ys.length = xs.length → (∀ p ∈ xs.zip ys, P p.1 p.2) → m' ≤ m0 + xs.length * c → k (ys.map f) ⟨e0, o.put u (.urn m')⟩) :
  ∃ I : Nat → List PyData → OW → Prop, I 0 [] (o.put u (.urn m0)) ∧ LIt src e0 dg dYes (dEmit de) k I := by
 refine ⟨fun i acc w => ∃ (ys : List β) (m' : Nat), acc = ys.map f ∧ ys.length = i ∧ i ≤ xs.length ∧ (∀ p ∈ xs.zip ys, P p.1 p.2) ∧ m' ≤ m0 + i * c ∧ w = o.put u (.urn m'), ⟨[], m0, rfl, rfl, Nat.zero_le _, by simp, by simp, rfl⟩, ?_, ?_, ?_⟩
 ·rintro i acc w ⟨ys, m', rfl, hi, hle, _, _, rfl⟩
  exact ⟨hp _, fun _ => by rw [lmp, hi]; exact Nat.lt_of_le_of_lt hle hl⟩
 ·rintro i d acc w hd ⟨ys, m', rfl, hi, hle, hP, hm, rfl⟩
  rw [hsrc, List.getElem?_map] at hd
  cases q : xs[i]? with
  | none => rw [q] at hd; cases hd
  | some x =>
   rw [q] at hd; cases hd
   obtain ⟨hlt, hx⟩ := List.getElem?_eq_some_iff.mp q
   have hmul : (i + 1) * c ≤ xs.length * c := Nat.mul_le_mul_right _ hlt
   have hmul' : (i + 1) * c = i * c + c := by rw [Nat.add_mul, Nat.one_mul]
   refine hs x (by rw [← hx]; exact List.getElem_mem hlt) m' (by omega) (fun y w => ∃ (zs : List β) (m2 : Nat), ys.map f ++ [y] = zs.map f ∧ zs.length = i + 1 ∧ i + 1 ≤ xs.length ∧ (∀ p ∈ xs.zip zs, P p.1 p.2) ∧ m2 ≤ m0 + (i + 1) * c ∧ w = o.put u (.urn m2)) fun y m2 hy hm2 => ⟨ys ++ [y], m2, by rw [List.map_append]; rfl, by rw [List.length_append, hi]; rfl, hlt, fun p hp => ?_, by omega, rfl⟩
   have ez : xs.zip (ys ++ [y]) = xs.zip ys ++ [(x, y)] := by
    have e1 : xs = xs.take i ++ x :: xs.drop (i + 1) := by rw [← hx]; simp
    have hti : (xs.take i).length = ys.length := by rw [List.length_take, hi]; omega
    conv => lhs; rw [e1]
    rw [List.zip_append hti]
    have e2 : xs.zip ys = (xs.take i).zip ys := by
     conv => lhs; rw [e1, ← List.append_nil ys]
     rw [List.zip_append hti]; simp
    rw [e2]; simp
   rw [ez] at hp
   rcases List.mem_append.mp hp with z | z
   ·exact hP p z
   ·have : p = (x, y) := by simpa using z
    rw [this]; exact hy
 ·rintro acc w ⟨ys, m', rfl, hi, _, hP, hm, rfl⟩
  rw [hsrc, lmp] at hi hm
  exact hk ys m' hi hP hm
theorem Zf6 {α β : Type} (xs : List α) (ys : List β) (f : α → PyData) (g : β → PyData) : zipD (xs.map f) (ys.map g) = (xs.zip ys).map fun p => .tuple [f p.1, g p.2] := by
 unfold zipD
 rw [List.zip_map, List.map_map]; rfl
theorem Zeh {α : Type} (xs : List α) (f : α → PyData) : enumD (xs.map f) = (xs.zipIdx).map fun p => .tuple [.int (p.2 : Nat), f p.1] := by
 unfold enumD
 rw [List.mapIdx_eq_zipIdx_map, List.zipIdx_map, List.map_map]; rfl
theorem Zpf {α : Type} (xs : List α) (f : α → Int) : uIs (xs.map fun x => .int (f x)) = some (xs.map f) := by
 have := uIs_map (xs.map f)
 rw [List.map_map] at this
 exact this
theorem Zl3 {α : Type} (xs : List α) (f : α → Bool) : uBs (xs.map fun x => .bool (f x)) = some (xs.map f) := by
 have := uBs_map (xs.map f)
 rw [List.map_map] at this
 exact this
theorem Zee {n : Nat} (h : n ≤ 100000) : n ≤ sizeLine := Nat.le_trans h (by decide)
theorem Zat {n : Nat} (h : n ≤ 100000) : n < sizeLine := Nat.lt_of_le_of_lt h (by decide)
end L2
namespace L2
open PySem PySem.Spec PyProof.Rows
noncomputable def Rp (D W : Nat) (d : PyData) : Prop := d.canLay0 = true ∧ d.hasDict = false ∧ d.intsShort 101 = true ∧ d.showable = true ∧ d.depth ≤ D ∧ d.weight ≤ W
noncomputable def Rps (D W : Nat) (ds : List PyData) : Prop := PyData.canLayAll0 ds = true ∧ PyData.hasDictAll ds = false ∧ PyData.intsShortAll 101 ds = true ∧ PyData.showableAll ds = true ∧ PyData.depthAll ds ≤ D ∧ PyData.weightAll ds ≤ W
theorem Rps.nil {D W : Nat} : Rps D W [] := by simp [Rps, PyData.canLayAll0, PyData.depthAll, PyData.hasDictAll, PyData.intsShortAll, PyData.showableAll, PyData.weightAll]
theorem Rps.cons {D a b W : Nat} {d : PyData} {ds : List PyData} (h : Rp D a d) (q : Rps D b ds) (hW : a + 1 + b ≤ W) : Rps D W (d :: ds) := by
 obtain ⟨h1, h2, h3, h4, h5, h6⟩ := h
 obtain ⟨q1, q2, q3, q4, q5, q6⟩ := q
 refine ⟨by rw [PyData.canLayAll0, h1, q1]; rfl, by rw [PyData.hasDictAll, h2, q2]; rfl, by rw [PyData.intsShortAll, h3, q3]; rfl, by rw [PyData.showableAll, h4, q4]; rfl, by rw [PyData.depthAll]; omega, by rw [PyData.weightAll]; omega⟩
theorem Rps.map {D W : Nat} {α : Type} {f : α → PyData} : ∀ l : List α, (∀ x ∈ l, Rp D W (f x)) → Rps D ((W + 1) * l.length) (l.map f)
 | [], _ => Rps.nil
 | x :: l, h => by
  refine Rps.cons (h x (List.mem_cons_self ..)) (Rps.map l fun y hy => h y (List.mem_cons_of_mem _ hy)) ?_
  rw [List.length_cons, Nat.mul_add, Nat.mul_one]; omega
theorem Rp.tup {D W : Nat} {ds : List PyData} (h : Rps D W ds) : Rp (D + 1) W (.tuple ds) := by
 obtain ⟨q1, q2, q3, q4, q5, q6⟩ := h
 exact ⟨by rw [PyData.canLay0]; exact q1, by rw [PyData.hasDict]; exact q2, by rw [PyData.intsShort]; exact q3, by rw [PyData.showable]; exact q4, by rw [PyData.depth]; omega, by rw [PyData.weight]; exact q6⟩
theorem Rp.lst {D W : Nat} {ds : List PyData} (h : Rps D W ds) : Rp (D + 1) W (.list ds) := by
 obtain ⟨q1, q2, q3, q4, q5, q6⟩ := h
 exact ⟨by rw [PyData.canLay0]; exact q1, by rw [PyData.hasDict]; exact q2, by rw [PyData.intsShort]; exact q3, by rw [PyData.showable]; exact q4, by rw [PyData.depth]; omega, by rw [PyData.weight]; exact q6⟩
theorem Rp.int {n : Int} (h : n.natAbs < 2 ^ 100) : Rp 0 100 (.int n) := by
 have h1 := Zjo (w := 100) (by decide) h
 exact ⟨by rw [PyData.canLay0], by rw [PyData.hasDict], Znv (w := 100) (by decide) (by decide) h, by rw [PyData.showable]; simp; omega, by rw [PyData.depth]; omega, Zm9 (by decide) h⟩
theorem Rp.str {s : Str} (h : PyData.strOk s = true) : Rp 0 s.cps.size (.str s) := ⟨by rw [PyData.canLay0]; exact h, by rw [PyData.hasDict], by rw [PyData.intsShort], by rw [PyData.showable], by rw [PyData.depth]; omega, by rw [PyData.weight]; exact Nat.le_refl _⟩
theorem Rp.tI {ns : List Int} (h : ∀ x ∈ ns, x.natAbs < 2 ^ 100) : Rp 1 (101 * ns.length) (tI ns) := Rp.tup (Rps.map ns fun x hx => Rp.int (h x hx))
theorem Rp.ok {D W : Nat} {d : PyData} (h : Rp D W d) (hD : D ≤ 40) (hW : W ≤ 100000) : okR d := by
 obtain ⟨q1, q2, q3, q4, q5, q6⟩ := h
 exact ⟨q4, q2, by omega, Zp8 q1 q3 (by omega)⟩
end L2
namespace L2
open PySem PySem.Spec PyProof.Rows
section
variable {X : Cx} {a b c : Expr} {pos : Pos} {ta tb tc : TE}
end
section
variable {K : PySem.W.Frag}
noncomputable def dChain (f g : Val → Val → DTE) (da db dc : DTE) : DTE := fun s k => da s fun v s1 => db s1 fun w s2 => f v w s2 fun u s3 => match u with
 | .d (.bool c) => if c = true then dc s3 fun w' s4 => g w w' s4 k else k (.d (.bool false)) s3
 | _ => False
end
section
variable {prog : Program} {w : World} {κ : Type} [DecidableEq κ] {knd : HeapKind prog w κ} {A : Around} {E : Value → Shared → Prop} {s : Shared}
end
section
variable {K : PySem.W.Frag}
noncomputable def gLenD : Val → DTE := fun v s k => match rdK s.w v with | some kvs => k (.d (.int kvs.length)) s | none => False
end
end L2
namespace L2
open PySem PySem.Spec PyProof.Rows
variable {K : PySem.W.Frag}
end L2
namespace L2
open PySem PySem.Spec PyProof.Rows
section
variable {K : PySem.W.Frag}
end
section
variable {X : Cx} {o e f : Expr} {apos cpos : Pos} {td ty tx : TE}
end
end L2
namespace L2
open PySem PySem.W PySem.W.ZRun PySem.W.X PySem.Spec PyProof.Rows
theorem walkX {q : Program} {loose : List Str} {XP : (Str → Option Value) → Heap → Prop} {K : Params → Frag} {as : List Addr} {n t : Nat} {r : RowW} {d : DefRec} {kwd : List (Str × Expr)} {run : Value → List Value → Sem Value} (e : ∀ P, as = (K P).map (·.1))
  (W : WalkO q loose XP (fun w h => (K w.params).In h) r d kwd run) : WalkX q loose XP (obsZ as) (valZ K n t) r d kwd run := by
 intro w s₀ s₁ mg mb G y a o pm cd doc dV kV ho hd hcd hD hmg hg args vals as' L hpre hlay hrd hwl hlo
 exact W w s₀ s₁ mg mb G (InK.keeps w s₀.heap s₁.heap (z_facts e y).2.1 L.keeps) a o pm cd doc dV kV ho hd hcd hD hmg hg args vals as' hpre hlay hrd hwl hlo
end L2
namespace L2
open PySem PySem.Spec PyProof.Rows
open AutoSeq1 (wpAny_loadPart')
theorem Zir : Manifest.owners.lookup (String.ofList ['d', 'e', 's', 'r', 'e', 'v', 'e', 'r'].reverse) = some Manifest.sig_reversed := by kernel_rfl
theorem Zca : Slot "reversed" "__next__" "reversed.__next__" :=
 .of (owner := "reversed") (n := "__next__") (by rw [typeLookup_type, builtinLookup_eq_fast]; kernel_rfl) (by decide +kernel) (by decide +kernel) (by decide +kernel)
  (by first | exact .inl (by decide +kernel) | exact .inr (by decide +kernel)) (by rw [isSubtype_type]; kernel_rfl)
theorem Ze2 : entryFor table "reversed.__next__" = some Builtin.«reversed.__next__» := entryFor_of_tree (by kernel_rfl)
theorem Zdn (a : Value) : argsOk "reversed.__next__" ⟨[a], []⟩ := by
 unfold argsOk; rw [signature?_of (id := "reversed.__next__") (n := ['_', '_', 't', 'x', 'e', 'n', '_', '_']) (o := ['d', 'e', 's', 'r', 'e', 'v', 'e', 'r']) (by kernel_rfl) Zir]; kernel_rfl
theorem Zep : Slot "reversed" "__iter__" "reversed.__iter__" :=
 .of (owner := "reversed") (n := "__iter__") (by rw [typeLookup_type, builtinLookup_eq_fast]; kernel_rfl) (by decide +kernel) (by decide +kernel) (by decide +kernel)
  (by first | exact .inl (by decide +kernel) | exact .inr (by decide +kernel)) (by rw [isSubtype_type]; kernel_rfl)
theorem Zf7 (a : Value) : argsOk "reversed.__iter__" ⟨[a], []⟩ := by
 unfold argsOk; rw [signature?_of (id := "reversed.__iter__") (n := ['_', '_', 'r', 'e', 't', 'i', '_', '_']) (o := ['d', 'e', 's', 'r', 'e', 'v', 'e', 'r']) (by kernel_rfl) Zir]; kernel_rfl
theorem Zfw : entryFor table "reversed.__iter__" = some Builtin.«dict_keyiterator.__iter__» :=
 entryFor_alias (id' := "dict_keyiterator.__iter__") (by kernel_rfl) (by first | rfl | decide +kernel | (unfold String.splitOn; simp +decide [String.splitOnAux])) (by decide +kernel) (by kernel_rfl)
theorem Zhm : Slot "reversed" "__init__" "object.__init__" :=
 .of (owner := "object") (n := "__init__") (by rw [typeLookup_type, builtinLookup_eq_fast]; kernel_rfl) (by decide +kernel) (by decide +kernel) (by decide +kernel)
  (by first | exact .inl (by decide +kernel) | exact .inr (by decide +kernel)) (by rw [isSubtype_type]; kernel_rfl)
theorem Zlg : TypeCalled "reversed" "reversed.__new__" "object.__init__" := ⟨by decide +kernel, F.create_reversed, ⟨_, _, F.mro_reversed⟩, F.made_reversed, F.plain_reversed_new, F.sub_reversed_self, Zhm⟩
theorem Znx : typeLookup (.type "tuple") "__reversed__" = pure none := by rw [typeLookup_type, builtinLookup_eq_fast]; kernel_rfl
theorem Zk5 : isSubtype (.type "tuple") (.type "dict") = pure false := by rw [isSubtype_type]; kernel_rfl
noncomputable def rvO (l : Addr) (i : Int) : Obj := { cls := .type "reversed", data := .fields #[.ref l, rawInt i] }
noncomputable def IsRv (h : Heap) (a l : Addr) (i : Int) : Prop := h.get? a = some (rvO l i)
section
variable {prog : Program} {w : World} {A : Around} {E : Value → Shared → Prop} {s : Shared}
theorem Zlx (l : Addr) (items : Array Value) (hz : (items.size : Int) < 2 ^ 63) :
  Meets (Builtin.«reversed.__new__» ⟨[.type "reversed", .ref l], []⟩) (fun _ R s => s.heap.IsTuple l items ∧
   R (.ok (.ret (.ref s.heap.objs.size))) { s with heap := s.heap.push (rvO l ((items.size : Int) - 1)), toks := s.toks + 1 + 1 }) :=
 .of_wp fun prog w A R s h => by
  obtain ⟨hl, h⟩ := h
  have hT : s.TypeIs (.ref l) "tuple" := hl.typeIs
  unfold Builtin.«reversed.__new__»
  refine wpAny_bind (wpAny_of_eq (newClass_reversed _) ?_)
  try dsimp only
  refine wpAny_bind (wpAny_of_eq (a := ()) (by first | rfl | kernel_rfl) ?_)
  refine wpAny_bind (wpAny_of_eq (a := ()) (by first | rfl | kernel_rfl) ?_)
  try dsimp only
  refine wpAny_bind (wpAny_specialOf hT Znx ?_)
  try dsimp only
  refine wpAny_bind ?_
  show wpAny _ _ (isInstance (.ref l) (.type "dict") >>= _) _ _ _
  refine wpAny_bind (wpAny_isInstance hT Zk5 ?_)
  try dsimp only
  simp only [Bool.false_eq_true, if_false]
  refine wpAny_bind (wpAny_specialOf hT slot_tuple_getitem.lookup ?_)
  try dsimp only
  rw [if_pos (by decide +kernel)]
  refine wpAny_pure ?_
  simp only [Bool.not_true, Bool.false_eq_true, if_false]
  refine wpAny_bind (len_tuple hl hz ?_)
  refine wpAny_bind (wpAny_of_eq (a := some (items.size : Int)) rfl ?_)
  try dsimp only
  refine wpAny_bind ?_
  unfold Builtin.SmallTypes.newRecord
  exact wpAny_newObj_type (wpAny_pure ⟨_, rfl, h⟩)
theorem Zme {l : Addr} {items : Array Value} {Q : Value → Shared → Prop} (hL : s.heap.IsTuple l items) (hz : (items.size : Int) < 2 ^ 63)
  (h : ∀ h', IsRv h' s.heap.objs.size l ((items.size : Int) - 1) → (∀ b o, s.heap.get? b = some o → h'.get? b = some o) → Q (.ref s.heap.objs.size) { s with heap := h', toks := s.toks + 1 + 1 }) :
  wpAny (model prog w) A (call (.type "reversed") [.ref l]) Q E s := by
 refine callType_new Zlg (by decide) (F.typeCall_reversed_1 _) (F.newCall_reversed_1 _) (fun obj => F.args_object_init_2 obj _) F.entry_reversed_new (Zlx l items hz) ⟨hL, ?_⟩
 have he : IsRv (s.heap.push (rvO l ((items.size : Int) - 1))) s.heap.objs.size l ((items.size : Int) - 1) := Heap.get?_push_size _ rfl
 exact ⟨⟨_, he, rfl⟩, h _ he fun b o x => Heap.get?_push_of_some _ x⟩
theorem Zil {a l : Addr} {i : Int} {Q : Value → Shared → Prop} (he : IsRv s.heap a l i) (h : Q (.ref a) s) : wpAny (model prog w) A (pyIter (.ref a)) Q E s := by
 have hT : s.TypeIs (.ref a) "reversed" := ⟨_, he, rfl⟩
 refine wpAny_pyIter_slot hT Zep (wpAny_call_entry Zep hT Zfw ?_ (Zf7 _))
 show wpAny _ _ (ret (.ref a)) _ _ s
 exact wpAny_pure ⟨_, rfl, "reversed", _, hT, Zca.lookup, h⟩
theorem Zno {a l : Addr} {i : Nat} {items : Array Value} {x : Value} {Q : Option Value → Shared → Prop} (he : IsRv s.heap a l (i : Int)) (hl : s.heap.IsTuple l items) (hx : items[i]? = some x) (hz : items.size < 2 ^ 63)
  (hQ : ∀ h', IsRv h' a l ((i : Int) - 1) → Heap.SameBut a s.heap h' → Q (some x) { s with heap := h', toks := s.toks + 1 }) : wpAny (model prog w) A (pyNext (.ref a)) Q E s := by
 have hT : s.TypeIs (.ref a) "reversed" := ⟨_, he, rfl⟩
 have hi : i < items.size := (Array.getElem?_eq_some_iff.mp hx).1
 unfold pyNext
 refine wpAny_bind (wpAny_attempt (wpAny_callSpecial?_slot (name := Str.ofString "__next__") hT Zca (wpAny_call_entry Zca hT Ze2 ?_ (Zdn _))))
 unfold Builtin.«reversed.__next__»
 refine wpAny_bind (wpAny_of_eq (a := (Value.ref a, [])) rfl ?_)
 try dsimp only
 refine wpAny_bind (wpAny_field he rfl (x := .ref l) rfl ?_)
 refine wpAny_bind (wpAny_field he rfl (x := rawInt (i : Int)) rfl ?_)
 show wpAny _ _ (if (i : Int) < 0 then _ else _) _ _ s
 rw [if_neg (by omega)]
 refine wpAny_bind (wpAny_specialOf hl.typeIs slot_tuple_getitem.lookup ?_)
 try dsimp only
 rw [if_neg (by simp)]
 refine wpAny_bind (wpAny_mkInt ?_)
 refine wpAny_bind (wpAny_attempt (getItem_tuple (s := { s with toks := s.toks + 1 }) (j := i) hl (by omega) (by omega) ?_ hx ?_))
 ·unfold seqIndex?
  have e1 : ¬ (i : Int) < 0 := by omega
  simp only [e1, if_false, Int.toNat_natCast]
  rw [if_pos]
  simp only [Bool.and_eq_true, decide_eq_true_eq]
  omega
 try dsimp only
 refine wpAny_bind (wpAny_field he rfl (x := rawInt (i : Int)) rfl ?_)
 show wpAny _ _ (setField (.ref a) 1 (rawInt ((i : Int) - 1)) >>= _) _ _ _
 refine wpAny_bind (wpAny_setField_rec he (by simp) fun h' h1 h2 => ?_)
 exact wpAny_pure ⟨_, rfl, wpAny_pure (hQ h' h1 h2)⟩
theorem Zp4 {a l : Addr} {Q : Option Value → Shared → Prop} (hh : A.handled = none) (he : IsRv s.heap a l (-1))
  (hQ : ∀ h', Heap.ExtBut a s.heap h' → Q none { s with heap := h' }) : wpAny (model prog w) A (pyNext (.ref a)) Q E s := by
 have hT : s.TypeIs (.ref a) "reversed" := ⟨_, he, rfl⟩
 unfold pyNext
 refine wpAny_bind (wpAny_attempt (wpAny_callSpecial?_slot (name := Str.ofString "__next__") hT Zca (wpAny_call_entry Zca hT Ze2 ?_ (Zdn _))))
 unfold Builtin.«reversed.__next__»
 refine wpAny_bind (wpAny_of_eq (a := (Value.ref a, [])) rfl ?_)
 try dsimp only
 refine wpAny_bind (wpAny_field he rfl (x := .ref l) rfl ?_)
 refine wpAny_bind (wpAny_field he rfl (x := rawInt (-1)) rfl ?_)
 show wpAny _ _ (if (-1 : Int) < 0 then _ else _) _ _ s
 rw [if_pos (by decide)]
 refine wpAny_bind (wpAny_rule ?_)
 refine wpAny_bind ?_
 show wpAny _ _ (setField (.ref a) 1 (rawInt (-1)) >>= _) _ _ _
 refine wpAny_bind (wpAny_setField_rec he (by simp) fun h1 e1 x1 => ?_)
 have e1' : IsRv h1 a l (-1) := e1
 refine wpAny_setField_rec e1' (by simp) fun h2 e2 x2 => ?_
 have hx : ∀ b o, b ≠ a → s.heap.get? b = some o → h2.get? b = some o := fun b o nb e => x2.extBut b o nb (x1.extBut b o nb e)
 refine wpAny_bind ?_
 unfold Builtin.SmallTypes.stopIteration; refine wpAny_bind ?_; simp only [newExc, newTuple]
 refine wpAny_bind (wpAny_newObj_type (wpAny_bind (m := firstArgMember _ _) (wpAny_of_eq (a := Value.none) rfl (wpAny_newObj_type ?_ (by size_fits)))) (by size_fits))
 simp only [raiseNew]; refine wpAny_bind (wpAny_handled ?_); rw [show A.in1.handled = none from hh]
 refine wpAny_bind (wpAny_pure (wpAny_throw ?_)); refine wpAny_bind (wpAny_isInstance (T := "StopIteration") (b := true) ⟨_, Heap.get?_push_size _ rfl, rfl⟩ isSubtype_stop ?_)
 exact wpAny_pure (hQ _ fun b o nb e => Heap.get?_push_of_some _ (Heap.get?_push_of_some _ (hx b o nb e)))
end
noncomputable def Itv (K : PySem.W.Frag) (a : Addr) (n : Nat) : It :=
 ⟨fun i H => ∃ xs x, SqT K H a xs ∧ xs.length = n ∧ i < n ∧ xs[n - 1 - i]? = some x, fun i H x H' => H' = H ∧ ∀ xs, SqT K H a xs → xs[n - 1 - i]? = some x, fun i _ => n ≤ i⟩
theorem Zpd {P : Program} {w : World} {K : PySem.W.Frag} {tg : Expr} (a it : Addr) (n : Nat) : Turn P w K tg (Itv K a n) [it] it (fun i h => i ≤ n ∧ IsRv h it a ((n : Int) - 1 - (i : Int))) where
 mem := by simp
 obj := fun i h st b hb => by
  have e : b = it := by simpa using hb
  subst e
  exact ⟨_, st.2, fun v z => by
   have z' : Data.fields _ = Data.cell v := z
   cases z'⟩
 keep := fun i h h' st k => ⟨st.1, k it (by simp) _ st.2⟩
 item := by
  intro X hP hw hK hc i pins s σ H E I hf st hg
  subst hP hw hK
  obtain ⟨xs, x, hq, hl, hi, hx⟩ := hg
  obtain ⟨its, rv, p, hz⟩ := I.tuple hq
  obtain ⟨u, hu, ru⟩ := rv.get hx
  obtain ⟨f0, f1, f2, f3, f4, f5⟩ := hf it (by simp)
  have hlen := rv.length
  have hn := line63
  have e : (n : Int) - 1 - (i : Int) = ((n - 1 - i : Nat) : Int) := by omega
  have st2 := st.2
  rw [e] at st2
  refine Zno st2 (show s.heap.IsTuple a its.toArray from p) (x := u) (by simpa using hu) (by rw [List.size_toArray]; omega) fun h' st' sb => ?_
  have I1 : Inv X pins σ H { s with heap := h', toks := s.toks + 1 } := I.turned (t' := s.toks + 1) (fun b o hb e => (sb.2 b hb).trans e) f0 f1 f3 f4 f5
  have e2 : ((n - 1 - i : Nat) : Int) - 1 = (n : Int) - 1 - ((i + 1 : Nat) : Int) := by omega
  have st3 := st'
  rw [e2] at st3
  exact ⟨u, rfl, Zms (s := { s with heap := h', toks := s.toks + 1 }) st' rfl rfl (by decide) ⟨x, H, I1, ru, ⟨rfl, fun ys hy => by rw [I.tuple_inj hy hq]; exact hx⟩, ⟨hi, st3⟩, fun b hb => (hf b hb).1⟩⟩
 done := by
  intro X hP hw hK hc i pins s σ H E I hf st hg
  subst hP hw hK
  obtain ⟨f0, f1, f2, f3, f4, f5⟩ := hf it (by simp)
  have hin : n ≤ i := hg
  have e : (n : Int) - 1 - (i : Int) = -1 := by have := st.1; omega
  have st2 := st.2
  rw [e] at st2
  exact Zp4 (I.ok.hd hc) st2 fun h' eb => ⟨rfl, I.turned (t' := s.toks) (fun b o hb e => eb b o hb e) f0 f1 f3 f4 f5⟩
 self := fun _ _ _ _ _ st h => Zil st.2 h
section
variable {X : Cx} {tg : Expr}
noncomputable def iRevT (K : PySem.W.Frag) (ta : TA) : TI := fun σ H R => ta σ H fun vs H1 => ∃ a xs, vs = [.ref a] ∧ SqT K H1 a xs ∧ R (Itv K a xs.length) H1
theorem Zqo {a : Expr} {ta : TA} {p pos : Pos} (hg : Gl X "reversed") (hm : X.mg "reversed" = none) (ha : PA X [a] ta) (hs : starEach [a] X.env = [(false, eval a X.env)] := by rfl) :
  PI X tg (.Call (.Name "reversed" p) [a] [] pos) (iRevT X.K ta) := by
 intro pins s σ H R I h
 refine Call_ (Zej I hg hm boot_reversed (PyProof.Rows.callWith_type1 (thn (ha pos pins s σ H _ I h) fun us s1 ⟨vs, H1, I1, r1, q1⟩ => ?_) (by rw [hs]; rfl) rfl))
 obtain ⟨l1, xs, e, q1, q⟩ := q1
 subst e
 cases r1 with
 | cons r rr =>
  cases rr
  cases r
  obtain ⟨its, rv, p, hz⟩ := I1.tuple q1
  have hlen := rv.length
  have hn := line63
  refine Zme (show s1.heap.IsTuple l1 its.toArray from p) (by rw [List.size_toArray]; omega) fun h' z1 z6 => ?_
  have I2 : Inv X pins σ H1 { s1 with heap := h', toks := s1.toks + 1 + 1 } := I1.kept (t' := s1.toks + 1 + 1) z6
  refine Zil z1 ⟨_, [s1.heap.objs.size], _, _, H1, rfl, I2, Zpd l1 _ xs.length, ⟨Nat.zero_le _, ?_⟩, fun b hb => ?_, q⟩
  ·have z2 : ((its.toArray.size : Nat) : Int) = (xs.length : Int) := by rw [List.size_toArray, hlen]
   rw [z2] at z1
   have e : (xs.length : Int) - 1 - ((0 : Nat) : Int) = (xs.length : Int) - 1 := by omega
   rw [e]; exact z1
  ·have e : b = s1.heap.objs.size := by simpa using hb
   subst e
   exact I1.fpOk (Nat.le_refl _) (I1.hok.fresh (Nat.le_refl _))
theorem Zmw {a : Expr} {ta : TA} {p pos : Pos} (hg : Gl X "reversed") (hm : X.mg "reversed" = none) (ha : IPA X [a] ta) (hs : starEach [a] X.env = [(false, eval a X.env)] := by rfl) :
  IPI X tg (.Call (.Name "reversed" p) [a] [] pos) (iRevT X.K ta) := by
 rw [Zal]; rw [Zam] at ha; exact Zqo hg hm ha hs
end
section
variable {K : PySem.W.Frag} {G G' H H' : Hp} {s : DS} {σ : St}
theorem JOk.rev {a : Addr} {xs : List V} {ds : List PyData} (h : SqT K G a xs) (D : DWs K G ds xs) : JOk K (Itv K a xs.length) G (fun _ => True) ds.reverse := by
 intro G1 s σ H i e _ r
 have hs : SqT K H a xs := r.sub.tup (e.tup h)
 have hl := D.length
 refine ⟨fun d hd => ?_, fun hl' => by show xs.length ≤ i; rw [List.length_reverse] at hl'; omega⟩
 have hi : i < ds.length := by
  have := (List.getElem?_eq_some_iff.mp hd).1
  simpa using this
 rw [List.getElem?_reverse hi] at hd
 obtain ⟨x, h1, h2⟩ := D.get' hd
 rw [hl] at h1
 refine ⟨⟨xs, x, hs, rfl, by omega, h1⟩, fun y H' hy => ?_⟩
 obtain ⟨rfl, hy⟩ := hy
 have := hy xs hs
 rw [h1] at this; cases this
 exact ⟨G1, Same.refl _, r, h2.same e⟩
noncomputable def dItRv (d : DTA) : DTI := fun s k => d s fun vs s1 => match vs with | [.d (.tuple ds)] => k (ds.reverse, noP) s1 | _ => False
theorem Zr3 {t : TA} {d : DTA} (h : RA K t d) : RI K (iRevT K t) (dItRv d) := by
 refine ⟨fun s Q Q' z y => h.mo _ _ _ (fun v s1 y => ?_) y, fun G s σ H R r y => h.ok G s σ H _ r (h.mo _ _ _ (fun v s1 y G1 H1 x e1 r1 v1 => ?_) y)⟩
 ·split at y
  ·exact z _ _ y
  ·exact y.elim
 ·split at y
  ·obtain ⟨u, rfl, v2⟩ := v1.one
   obtain ⟨a, xs, rfl, h1, h2⟩ := Zj1 v2
   exact ⟨a, xs, rfl, r1.sub.tup h1, y G1 H1 _ e1 r1 (JOk.rev h1 h2)⟩
  ·exact y.elim
end
end L2
namespace L2
open PySem PySem.Spec PyProof.Rows
open AutoSeq1 (wpAny_loadPart')
theorem Zn4 : typeLookup (.type "list_reverseiterator") "__len__" = pure none := by rw [typeLookup_type, builtinLookup_eq_fast]; kernel_rfl
theorem Zom : typeLookup (.type "list_reverseiterator") "__length_hint__" = pure (some (.builtin "list_reverseiterator.__length_hint__")) := by rw [typeLookup_type, builtinLookup_eq_fast]; kernel_rfl
theorem Zon : isSubtype (.type "list_reverseiterator") (.type "list_reverseiterator") = pure true := by rw [isSubtype_type]; kernel_rfl
theorem Zn5 : splitId "list_reverseiterator.__length_hint__" = some ("list_reverseiterator", "__length_hint__") := by kernel_rfl
section
variable {prog : Program} {w : World} {A : Around} {E : Value → Shared → Prop} {s : Shared}
theorem Zj4 {I l : Addr} {items : Array Value} {Q : List Value → Shared → Prop} (hh : A.handled = none) (hI : s.heap.IsRevIter I l ((items.size : Int) - 1)) (hl : s.heap.IsList l items) (hne : l ≠ I) (hz : items.size ≤ sizeLine)
  (hQ : ∀ s', Moved [I] (fun a b => b = a) s s' → Q items.toList.reverse s') : wpAny (model prog w) A (collect (.ref I)) Q E s := by
 have W := (Walks.listRev (prog := prog) (w := w) (A := A.in1) hh I l hne items).toS
 have hsz : I < s.heap.objs.size := by obtain ⟨o, ho, _⟩ := hI; exact Heap.lt_size ho
 have hsl : l < s.heap.objs.size := by obtain ⟨o, ho, _⟩ := hl; exact Heap.lt_size ho
 have hSf : s.heap.objs.size ∉ [I, l] := by simp only [List.mem_cons, List.not_mem_nil, or_false, not_or]; exact ⟨Nat.ne_of_gt hsz, Nat.ne_of_gt hsl⟩
 generalize hS : s.heap.objs.size = S at hSf hsz hsl
 have hSI : S ≠ I := Nat.ne_of_gt hsz
 unfold collect
 refine wpAny_bind (wpAny_runValue (codeAny_builtin F.entry_proto_collect ?_))
 rw [Around.under_plainId F.plain_proto_collect _]
 refine wpAny_bind (m := newList []) (wpAny_newObj_type (wpAny_pure ⟨plainId_quiet F.plain_list_iadd _, codeAny_builtin F.entry_list_iadd ?_⟩))
 rw [Around.under_plainId F.plain_list_iadd _]
 show wpAny _ A.in1 (Builtin.List.listExtendWith (.ref s.heap.objs.size) (.ref I) (.ref s.heap.objs.size)) _ _ _
 rw [hS]
 unfold Builtin.List.listExtendWith
 have z0 : ∀ b o, s.heap.get? b = some o → (s.heap.push { cls := .type "list", data := .seq ([] : List Value).toArray }).get? b = some o := fun b o e => Heap.get?_push_of_some _ e
 have hI1 := hI.at (h' := s.heap.push { cls := .type "list", data := .seq ([] : List Value).toArray }) fun o e => z0 I o e
 have hT1 : Shared.TypeIs { s with heap := s.heap.push { cls := .type "list", data := .seq ([] : List Value).toArray } } (.ref I) "list_reverseiterator" := hI1.typeIs
 refine wpAny_bind (wpAny_typeOf hT1 ?_)
 have h1 : Builtin.List.listSameRef (.ref S) (.ref I) = false := by simp [Builtin.List.listSameRef, hSI]
 have h2 : (Value.type "list_reverseiterator" == Value.type "list") = false := by decide
 have h3 : (Value.type "list_reverseiterator" == Value.type "tuple") = false := by decide
 simp only [h1, h2, h3, Bool.or_false, Bool.false_eq_true, if_false]
 refine wpAny_bind (wpAny_pyIter_revIter hI1 ?_)
 refine wpAny_bind (wpAny_holding ?_)
 unfold Builtin.List.listLengthHint
 refine wpAny_bind (wpAny_specialOf hT1 Zn4 ?_)
 try dsimp only
 show wpAny _ _ (if false = true then _ else _) _ _ _
 rw [if_neg Bool.false_ne_true]
 show wpAny _ _ (if false = true then _ else _) _ _ _
 rw [if_neg Bool.false_ne_true]
 refine wpAny_bind (wpAny_specialOf hT1 Zom ?_)
 try dsimp only
 rw [Zn5]
 try dsimp only
 refine wpAny_bind (wpAny_isInstance hT1 Zon ?_)
 simp only [Bool.not_true, Bool.false_eq_true, if_false]
 rw [if_pos (by decide +kernel), if_neg (by decide)]
 refine wpAny_pure ?_
 rw [if_neg (by decide +kernel)]
 have hS1 : (s.heap.push { cls := .type "list", data := .seq ([] : List Value).toArray }).get? S = some { cls := .type "list", data := .seq ([] : List Value).toArray } := by rw [← hS]; exact Heap.get?_push_size _ rfl
 have hst : 0 ≤ items.size ∧ (s.heap.push { cls := .type "list", data := .seq ([] : List Value).toArray }).IsRevIter I l ((items.size : Int) - 1 - ((0 : Nat) : Int)) ∧ (s.heap.push { cls := .type "list", data := .seq ([] : List Value).toArray }).IsList l items := by
  refine ⟨Nat.zero_le _, ?_, hl.at fun o e => z0 l o e⟩
  have e : (items.size : Int) - 1 - ((0 : Nat) : Int) = (items.size : Int) - 1 := by omega
  rw [e]; exact hI1
 refine wpAny_pure ⟨plainId_quiet F.plain_extend_loop _, codeAny_extend_loopS W hz S hSf (.ref S) items.size 0 _ _ _ (by omega) (Nat.zero_le _) hst hS1 (ItemsOf.nil _) fun s' acc c hm hS' hacc => ?_⟩
 show wpAny _ A (load S >>= _) _ _ s'
 refine wpAny_bind (wpAny_load hS' (wpAny_pure ?_))
 have e : acc.toList = items.toList.reverse := by
  refine List.ext_getElem? fun j => ?_
  rw [Array.getElem?_toList]
  by_cases hj : j < items.size
  ·have hj' : j < acc.size := by rw [hacc.1]; exact hj
   have e1 := hacc.2 j _ (Array.getElem?_eq_getElem hj')
   rw [List.getElem?_reverse (by simpa using hj), Array.getElem?_toList, Array.getElem?_eq_getElem hj']
   simpa using e1.symm
  ·rw [Array.getElem?_eq_none (by rw [hacc.1]; omega), List.getElem?_eq_none (by simp; omega)]
 rw [e]
 refine hQ s' (Moved.drop_new (o := { cls := .type "list", data := .seq ([] : List Value).toArray }) (tk := s.toks) ?_ (Nat.le_refl _))
 rw [hS]; exact hm
theorem Zft {I l : Addr} {items : Array Value} {Q : Value → Shared → Prop} (hh : A.handled = none) (hI : s.heap.IsRevIter I l ((items.size : Int) - 1)) (hl : s.heap.IsList l items) (hne : l ≠ I) (hz : items.size ≤ sizeLine)
  (hQ : ∀ s', Moved [I] (fun a b => b = a) s s' → Q (.ref s'.heap.objs.size) { s' with heap := s'.heap.push { cls := .type "tuple", data := .seq items.toList.reverse.toArray } }) :
  wpAny (model prog w) A (call (.type "tuple") [.ref I]) Q E s := by
 refine callType_codes (Q₁ := fun obj s₁ => s₁.TypeIs obj "tuple" ∧ Q obj s₁) F.called_tuple (F.typeCall_tuple_1 _) F.entry_object_init ?_ fun obj s₁ h₁ => ⟨h₁.1, F.args_object_init_2 obj _, object_init_meets F.called_tuple.init.lookup F.called_tuple.made (by decide) prog w A.in1 _ s₁ ⟨h₁.1, rfl, h₁.2⟩⟩
 refine codeAny_of_tree (wpAny_bind (m := checkBuiltinCall "tuple.__new__" ⟨[.type "tuple", .ref I], []⟩) (wpAny_of_eq (F.newCall_tuple_1 _) (wpAny_pure ⟨plainId_quiet F.plain_tuple_new _, codeAny_builtin F.entry_tuple_new ?_⟩)))
 rw [Around.under_plainId F.plain_tuple_new _]
 have hsub := sub_tuple_self
 have hinit := init_tuple_lookup
 have hmh := madeHere_tuple
 have hTI : s.TypeIs (.ref I) "list_reverseiterator" := hI.typeIs
 wp_walk using wpAny_typeOf hTI, Zj4 (A := A.in1.in1) hh hI hl hne hz
 intro s' hm
 show wpAny _ _ (Builtin.Tuple.tupleExact items.toList.reverse.toArray >>= fun v => ret v) _ _ _
 unfold Builtin.Tuple.tupleExact
 refine wpAny_bind (wpAny_newObj_type (wpAny_pure ?_) (by show items.toList.reverse.toArray.size ≤ sizeLine; simpa using hz))
 exact ⟨⟨_, Heap.get?_push_size _ rfl, rfl⟩, hQ s' hm⟩
end
section
variable {X : Cx}
noncomputable def tTupRev (K : PySem.W.Frag) (ta : TA) : TE := fun σ H Q => ta σ H fun vs H1 => ∃ l xs, vs = [.ref l] ∧ SqL K H1 l xs ∧ ∀ q, H1 q = none → Q (.ref q) (upd H1 q (.tup xs.reverse))
theorem Znc {a : Expr} {ta : TA} {p p2 pos pos2 : Pos} (hc : X.calm = true) (hg : Gl X "tuple") (hm : X.mg "tuple" = none) (hg2 : Gl X "reversed") (hm2 : X.mg "reversed" = none) (ha : PA X [a] ta) (hs : starEach [a] X.env = [(false, eval a X.env)] := by rfl) :
  PE X (.Call (.Name "tuple" p) [.Call (.Name "reversed" p2) [a] [] pos2] [] pos) (tTupRev X.K ta) := by
 intro pins s σ H Q I h
 refine wpAny_Call_Name_kw (Zej I hg hm (by decide +kernel : bootBuiltins "tuple" = some (.type "tuple")) ?_ (by decide) (by decide))
 refine PyProof.Rows.callWith_type1 ?_ rfl rfl
 show wpAny _ _ (spliced ((false, eval (.Call (.Name "reversed" p2) [a] [] pos2) X.env) :: backTo pos (starEach [] X.env))) _ _ s
 refine Calls.spliced_cons ?_
 refine Call_ (Zej I hg2 hm2 boot_reversed (PyProof.Rows.callWith_type1 (thn (ha pos2 pins s σ H _ I h) fun us s1 ⟨vs, H1, I1, r1, q1⟩ => ?_) (by rw [hs]; rfl) rfl))
 obtain ⟨l1, xs, e, q1, q⟩ := q1
 subst e
 cases r1 with
 | cons r rr =>
  cases rr
  cases r
  obtain ⟨its, rv, pl, hz⟩ := I1.list q1
  have hlen := rv.length
  refine call_reversed_list pl.isList ?_
  refine Calls.spliced_nil ?_
  have I2 : Inv X pins σ H1 { s1 with heap := s1.heap.push (revObj l1 ((its.toArray.size : Int) - 1)) } := I1.kept (t' := s1.toks) fun b o e => Heap.get?_push_of_some _ e
  obtain ⟨f0, f1, f2, f3, f4, f5⟩ := I1.fpOk (Nat.le_refl _) (I1.hok.fresh (Nat.le_refl s1.heap.objs.size))
  have hlt : l1 < s1.heap.objs.size := by obtain ⟨o, ho, _⟩ := pl.isList; exact Heap.lt_size ho
  refine Zft (I := s1.heap.objs.size) (l := l1) (items := its.toArray) (I1.ok.hd hc) ⟨_, Heap.get?_push_size _ rfl, rfl, rfl⟩ (pl.isList.at fun o e => Heap.get?_push_of_some _ e) (Nat.ne_of_lt hlt) (by rw [List.size_toArray, ← hlen]; exact hz) fun s' hm' => ?_
  obtain ⟨hp, g, d, tk, os⟩ := s'
  obtain ⟨m1, m2, m3, m4, m5⟩ := hm'
  simp only at m1 m2 m3 m4 m5
  subst m2 m3 m4
  have I3 : Inv X pins σ H1 { s1 with heap := hp, toks := tk } := Inv.turned (s := { s1 with heap := s1.heap.push (revObj l1 ((its.toArray.size : Int) - 1)) }) (h' := hp) (t' := tk) (it := s1.heap.objs.size) I2 (fun b o hb e => m1 b o (by simpa using hb) e) f0 f1 f3 f4 f5
  have I4 : Inv X pins σ (upd H1 hp.objs.size (.tup xs.reverse)) { s1 with heap := hp.push { cls := .type "tuple", data := .seq its.toArray.toList.reverse.toArray }, toks := tk } :=
   I3.laid (t' := tk) (fun b o e => Heap.get?_push_of_some _ e) (Nat.le_refl _) (show ObjOk X.prog X.w _ _ _ (.tup xs.reverse) from ⟨by rw [List.length_reverse]; exact hz, its.reverse, rv.reverse, IsTup.new _ _⟩)
  exact ⟨.ref hp.objs.size, _, I4, rfl, q _ (I3.hok.fresh (Nat.le_refl _))⟩
theorem Zjg {a : Expr} {ta : TA} {p p2 pos pos2 : Pos} (hc : X.calm = true) (hg : Gl X "tuple") (hm : X.mg "tuple" = none) (hg2 : Gl X "reversed") (hm2 : X.mg "reversed" = none) (ha : IPA X [a] ta) (hs : starEach [a] X.env = [(false, eval a X.env)] := by rfl) :
  IPE X (.Call (.Name "tuple" p) [.Call (.Name "reversed" p2) [a] [] pos2] [] pos) (tTupRev X.K ta) := by
 rw [Zak]; rw [Zam] at ha; exact Znc hc hg hm hg2 hm2 ha hs
end
section
variable {K : PySem.W.Frag}
noncomputable def dTupRev (d : DTA) : DTE := fun s k => d s fun vs s1 => match vs with | [v] => (match rdL s1.w v with | some ds => k (.d (.tuple ds.reverse)) s1 | none => False) | _ => False
theorem Znn {t : TA} {d : DTA} (h : RA K t d) : RE K (tTupRev K t) (dTupRev d) := by
 refine ⟨fun s Q Q' z q => h.mo _ _ _ (fun vs s1 q => ?_) q, fun G s σ H Q r q => h.ok G s σ H _ r (h.mo _ _ _ (fun vs s1 q G1 H1 xs e1 r1 v1 => ?_) q)⟩
 ·split at q
  ·split at q
   ·exact z _ _ q
   ·exact q.elim
  ·exact q.elim
 ·split at q
  ·split at q
   ·next ds e =>
    obtain ⟨u, rfl, v2⟩ := v1.one
    obtain ⟨a, ys, rfl, h1, h2⟩ := r1.rdL v2 e
    exact ⟨a, ys, rfl, h1, r1.nt h2.reverse (q.same e1)⟩
   ·exact q.elim
  ·exact q.elim
end
end L2
namespace L2
open PySem PySem.Spec PyProof.Rows
open AutoSeq1 (wpAny_loadPart')
section
variable {prog : Program} {w : World} {A : Around} {E : Value → Shared → Prop} {s : Shared}
end
end L2
namespace L2
open PySem PySem.Spec PyProof.Rows
open AutoSeq1 (wpAny_loadPart')
section
variable {prog : Program} {w : World} {A : Around} {E : Value → Shared → Prop} {s : Shared}
end
noncomputable def Iez (K : PySem.W.Frag) (t1 t2 : Bool) (a b : Addr) : It :=
 ⟨fun i H => ∃ xs ys x y, SqB K t1 H a xs ∧ SqB K t2 H b ys ∧ xs[i]? = some x ∧ ys[i]? = some y,
   fun i H v H' => ∃ p q x y, v = .ref q ∧ H p = none ∧ H q = none ∧ q ≠ p ∧ H' = upd (upd H p (.tup [x, y])) q (.tup [.int i, .ref p]) ∧ ∀ xs ys, SqB K t1 H a xs → SqB K t2 H b ys → xs[i]? = some x ∧ ys[i]? = some y,
   fun i H => ∃ xs ys, SqB K t1 H a xs ∧ SqB K t2 H b ys ∧ (xs.length ≤ i ∨ ys.length ≤ i)⟩
section
variable {X : Cx}
end
section
variable {K : PySem.W.Frag} {G G' H H' : Hp} {s : DS} {σ : St}
noncomputable def ezD (ds es : List PyData) : List PyData := enumD (zipD ds es)
theorem JOk.ez {t1 t2 : Bool} {a b : Addr} {xs ys : List V} {ds es : List PyData} (h : SqD K t1 G a xs) (h' : SqD K t2 G b ys) (D : DWs K G ds xs) (D' : DWs K G es ys) : JOk K (Iez K t1 t2 a b) G (fun _ => True) (ezD ds es) := by
 intro G1 s σ H i e _ r
 have hs := h.sq (e.trans r.sub)
 have hs' := h'.sq (e.trans r.sub)
 refine ⟨fun d hd => ?_, fun hl => ⟨xs, ys, hs, hs', ?_⟩⟩
 ·unfold ezD enumD zipD at hd
  rw [List.getElem?_mapIdx, List.getElem?_map] at hd
  cases q : (ds.zip es)[i]? with
  | none => rw [q] at hd; cases hd
  | some p =>
   rw [q] at hd
   cases hd
   obtain ⟨q1, q2⟩ := List.getElem?_zip_eq_some.mp q
   obtain ⟨x, h1, h2⟩ := D.get' q1
   obtain ⟨y, h3, h4⟩ := D'.get' q2
   refine ⟨⟨xs, ys, x, y, hs, hs', h1, h3⟩, fun v H' hy => ?_⟩
   obtain ⟨p', q', x', y', rfl, hp, hq, hne, rfl, hxy⟩ := hy
   obtain ⟨z1, z2⟩ := hxy xs ys hs hs'
   rw [h1] at z1; cases z1
   rw [h3] at z2; cases z2
   have hg := r.sub.free hp
   have S := Zbt hg (.tup [x, y])
   have r1 := r.new hp (.tup [x, y])
   have hq1 : upd H p' (.tup [x, y]) q' = none := by rw [Zah hne]; exact hq
   have hg2 := r1.sub.free hq1
   have S2 := Zbt hg2 (.tup [.int (i : Nat), .ref p'])
   refine ⟨_, S.trans S2, r1.new hq1 _, DW.tup Zax (DWs.cons DW.int (DWs.cons ?_ DWs.nil))⟩
   exact (DW.tup Zax (DWs.cons (h2.same (e.trans S)) (DWs.cons (h4.same (e.trans S)) DWs.nil))).same S2
 ·unfold ezD enumD zipD at hl
  rw [List.length_mapIdx, lmp, List.length_zip, D.length, D'.length] at hl
  omega
noncomputable def dEz (t1 t2 : Bool) (d : DTA) : DTI := fun s k => d s fun vs s1 => match vs with | [v, w] => (match seqD t1 v, seqD t2 w with | some ds, some es => k (ezD ds es, noP) s1 | _, _ => False) | _ => False
end
end L2
namespace L2
open PySem PySem.Spec PyProof.Rows
section
variable {X : Cx}
end
section
variable {K : PySem.W.Frag} {G : Hp}
noncomputable def dLstRng (o : Bool) (d : DTA) : DTE := fun s k => d s fun vs s1 => match vs with | [.d (.int j)] => (-(2 ^ 62) ≤ j ∧ j ≤ 100000) ∧ nl o (rngD 0 j.toNat) s1 k | _ => False
end
end L2
namespace L2
open PySem PySem.Spec PyProof.Rows
open AutoSeq1 (wpAny_loadPart')
section
variable {prog : Program} {w : World} {A : Around} {E : Value → Shared → Prop} {s : Shared}
end
end L2
namespace L2
open PySem PySem.Spec PyProof.Rows
open AutoSeq1 (wpAny_loadPart')
section
variable {prog : Program} {w : World} {A : Around} {E : Value → Shared → Prop} {s : Shared}
end
end L2
namespace L2
open PySem PySem.Spec PyProof.Rows
open AutoSeq1 (wpAny_loadPart')
section
variable {prog : Program} {w : World} {A : Around} {E : Value → Shared → Prop} {s : Shared}
end
end L2
namespace L2
open PySem PySem.Spec PyProof.Rows
section
variable {X : Cx}
end
section
variable {K : PySem.W.Frag}
noncomputable def lyD (l : List (List Int × PyData)) : List (List Int × PyData) := l.foldl (fun d q => dput d q.1 q.2) []
noncomputable def dDictOf (di : DTI) : DTE := fun s k => di s fun src s1 => ∃ l : List (List Int × PyData), (∀ w, src.2 w) ∧ src.1 = l.map (fun q => .tuple [tI q.1, q.2]) ∧ (∀ q ∈ l, q.1 ≠ []) ∧ l.length < sizeLine ∧ k (.d (.dict (kvK (lyD l)))) s1
end
end L2
namespace L2
open PySem PySem.Spec PyProof.Rows
theorem Dn.dataI {K : W.Frag} {P : Program} {w : World} {mg : Str → Option Value} {base : Heap} {x : Str} {st : Stmt} {N ps : List Str} {k : Nat} {f : DSp} (U : ∃ a fd, Fun K x x st a fd ∧ mg x = some (.ref a)) (S : FnScope N ps (defScope st)) (len : ∀ vs w k, f vs w k → vs.length = ps.length)
  (hbody : ∀ (a : Addr) (cdv : Value) (A : Around) (outer : List Env) (s : Shared) (H : Hp) (E : XK), Room k (A.deeper (envOfC x (defScope st) s.heap.objs.size a cdv)) →
   ∃ t d, IPSs (cxOf CX0 P w K mg base N x (defScope st) a cdv A outer s H E).nox (defBody st) t ∧ RS K t d ∧ ∀ (as : List Val) (o : OW) (q : Val → OW → Prop), f as o q → d { nx := fun s => ∃ w', OW.le w' s.w ∧ q (.d .none) w', rt := fun v s => ∃ w', OW.le w' s.w ∧ q v w' } ⟨startD N as, o⟩) : Dn P w K mg base (k + 1) x st ps (spD K f) :=
 Dn.data U S len fun a cdv A outer s H E hr => (hbody a cdv A outer s H E hr).elim fun t h => h.elim fun d h => ⟨t, d, IPSs.get h.1, h.2⟩
section
variable {X : Cx} {K : W.Frag} {G : Hp}
theorem Zg8 (hg : X.A.guards = some []) (hu : X.A.units + 64 < cLine) : CallR X (.builtin "repr") (fun xs H Q => (∃ a d, xs = [.ref a] ∧ DV X.K H d (.ref a) ∧ d.showable = true ∧ d.hasDict = false ∧ d.depth ≤ 40 ∧ d.shown.length ≤ sizeLine ∧ Q (.str d.shown) H) ∨ (xs = [.non] ∧ Q (.str "None") H) ∨ ∃ i : Int, xs = [.int i] ∧ i.natAbs.log2 < 1920 ∧ Q (.str (Str.ofString (toString i))) H) := by
 rintro pins s σ H xs us Q I r (h | ⟨rfl, q⟩ | ⟨i, rfl, h, q⟩)
 ·exact Zle hg hu pins s σ H xs us Q I r h
 ·obtain ⟨u, rfl, rx⟩ := vals1 r
  cases (show u = Value.none from rx)
  exact P.repr_of_none ⟨.str "None", H, I.tok _, ⟨_, rfl⟩, q⟩
 ·obtain ⟨u, rfl, t, rfl⟩ := vals1 r
  exact P.repr_of_int h ⟨.str _, H, I.tok _, ⟨_, rfl⟩, q⟩
noncomputable def scR (d : PyData) : Prop := d = .none ∨ ∃ i : Int, d = .int i ∧ i.natAbs.log2 < 1920
noncomputable def gReprA : Val → DTE := fun v s k => match rdD s.w v with | some d => (isR d = true ∧ okR d ∨ scR d) ∧ k (.d (.str d.shown)) s | none => False
theorem Zkt : RC K (fun xs H Q => (∃ a d, xs = [.ref a] ∧ DV K H d (.ref a) ∧ d.showable = true ∧ d.hasDict = false ∧ d.depth ≤ 40 ∧ d.shown.length ≤ sizeLine ∧ Q (.str d.shown) H) ∨ (xs = [.non] ∧ Q (.str "None") H) ∨ ∃ i : Int, xs = [.int i] ∧ i.natAbs.log2 < 1920 ∧ Q (.str (Str.ofString (toString i))) H) (f1 gReprA) := by
 refine rc1 (fun v s Q Q' h q => ?_) (fun G s σ H x v Q r v1 h => ?_)
 ·unfold gReprA at q ⊢; split at q
  ·exact ⟨q.1, h _ _ q.2⟩
  ·exact q.elim
 ·unfold gReprA at h; split at h
  ·next d e =>
   obtain ⟨h0, h⟩ := h
   rcases h0 with ⟨h0, h1, h2, h3, h4⟩ | rfl | ⟨i, rfl, hi⟩
   ·have D := r.rdD v1 e h2
    obtain ⟨a, rfl⟩ : ∃ a, x = .ref a := by
     cases d <;> simp only [isR] at h0 <;> try cases h0
     ·unfold DV at D; obtain ⟨a, _, e, _⟩ := D; exact ⟨a, e⟩
     ·unfold DV at D; obtain ⟨a, _, e, _⟩ := D; exact ⟨a, e⟩
    exact .inl ⟨a, d, rfl, D, h1, h2, h3, h4, h.here r Zo3⟩
   ·have D := r.rdD v1 e (by rfl)
    unfold DV at D
    subst D
    exact .inr (.inl ⟨rfl, h.here r Zo3⟩)
   ·have D := r.rdD v1 e (by rfl)
    unfold DV at D
    subst D
    exact .inr (.inr ⟨i, rfl, hi, h.here r Zo3⟩)
  ·exact h.elim
end
end L2
namespace Tim
open PySem PySem.W PyProof.Rows
noncomputable def gallop' : Bool → Keyed → Array Keyed → Nat → Nat → Nat → StateT SortSt Sem (Option Nat) := sortPriv% PySem.Builtin.gallop
noncomputable def mergeLo' : Array Keyed → Array Keyed → StateT SortSt Sem (Array Keyed) := sortPriv% PySem.Builtin.mergeLo
structure NSt where
 p : Array Nat
 pend : Array (Nat × Nat × Nat)
 g : Nat
structure Itm where
 κ : SortKind
 it : Nat → Keyed
noncomputable def lift (I : Itm) (st : NSt) : SortSt := SortSt.mk' I.κ (st.p.map I.it) st.pend st.g none
noncomputable def Orc (prog : Program) (w : World) (A : Around) (s : Shared) (I : Itm) (lt : Nat → Nat → Bool) (N : Nat) : Prop :=
 ∀ i j, i < N → j < N → ∀ (C : Bool → Shared → Prop), C (lt i j) s → wpAny (model prog w) A (keyLt' I.κ (I.it i).1 (I.it j).1) C (fun _ _ => False) s
structure Sim (lt : Nat → Nat → Bool) (N : Nat) {α β : Type} (u : Itm → β → α) (m : Itm → StateT SortSt Sem α) where
 f : NSt → Option (β × NSt)
 ok : ∀ (prog : Program) (w : World) (A : Around) (E : Value → Shared → Prop) (s : Shared) (I : Itm), Orc prog w A s I lt N → ∀ st b st', f st = some (b, st') → wpS (model prog w) A E s (m I) (fun a t => a = u I b ∧ t = lift I st') (lift I st)
variable {lt : Nat → Nat → Bool} {N : Nat} {α β α' β' : Type}
noncomputable def uI {α : Type} : Itm → α → α := fun _ a => a
noncomputable def uK : Itm → Nat → Keyed := fun I i => I.it i
noncomputable def uA : Itm → Array Nat → Array Keyed := fun I p => p.map I.it
noncomputable def uF (u : Itm → β → α) : Itm → ForInStep β → ForInStep α := fun I x => match x with | .done b => .done (u I b) | .yield b => .yield (u I b)
noncomputable def Sim.congr {u : Itm → β → α} {m m' : Itm → StateT SortSt Sem α} (h : ∀ I, m I = m' I) (S : Sim lt N u m') : Sim lt N u m := ⟨S.f, fun prog w A E s I o st b st' e => by rw [h I]; exact S.ok prog w A E s I o st b st' e⟩
noncomputable def Sim.bind {u : Itm → β → α} {v : Itm → β' → α'} {m : Itm → StateT SortSt Sem α} {k : Itm → α → StateT SortSt Sem α'} (S : Sim lt N u m) (T : ∀ b, Sim lt N v fun I => k I (u I b)) : Sim lt N v fun I => m I >>= k I :=
 ⟨fun st => (S.f st).bind fun r => (T r.1).f r.2, fun prog w A E s I o st b st' e => by
  obtain ⟨⟨b1, st1⟩, e1, e2⟩ := Option.bind_eq_some_iff.mp e
  refine wpS_bind (wpS_mono (S.ok prog w A E s I o st b1 st1 e1) ?_)
  rintro a t ⟨rfl, rfl⟩
  exact (T b1).ok prog w A E s I o st1 b st' e2⟩
noncomputable def Sim.pure {u : Itm → β → α} {a : Itm → α} (b : β) (h : ∀ I, a I = u I b) : Sim lt N u fun I => (Pure.pure (a I) : StateT SortSt Sem α) :=
 ⟨fun st => some (b, st), fun prog w A E s I o st b' st' e => by
  cases e
  exact wpS_pure ⟨h I, rfl⟩⟩
noncomputable def Sim.fail {u : Itm → β → α} {m : Itm → StateT SortSt Sem α} : Sim lt N u m := ⟨fun _ => none, fun prog w A E s I o st b st' e => by cases e⟩
noncomputable def Sim.ite {u : Itm → β → α} {m1 m2 : Itm → StateT SortSt Sem α} (c : Prop) [Decidable c] (S1 : Sim lt N u m1) (S2 : Sim lt N u m2) : Sim lt N u fun I => if c then m1 I else m2 I :=
 ⟨fun st => if c then S1.f st else S2.f st, fun prog w A E s I o st b st' e => by
  by_cases h : c
  ·rw [if_pos h] at e ⊢; exact S1.ok prog w A E s I o st b st' e
  ·rw [if_neg h] at e ⊢; exact S2.ok prog w A E s I o st b st' e⟩
noncomputable def Sim.rule {tag : String} : Sim lt N (uI (α := Unit)) fun _ => (liftM (PySem.rule tag) : StateT SortSt Sem Unit) :=
 ⟨fun st => some ((), st), fun prog w A E s I o st b st' e => by
  cases e
  exact wpS_lift (wpAny_rule ⟨rfl, rfl, rfl⟩)⟩
noncomputable def Sim.elem (arr : Array Nat) (i : Nat) : Sim lt N uK fun I => elem' (arr.map I.it) i :=
 ⟨fun st => match arr[i]? with | some k => some (k, st) | none => none, fun prog w A E s I o st b st' e => by
  rw [elem'_eq]
  split at e
  ·next k h =>
   cases e
   rw [Array.getElem?_map, h]
   exact wpS_pure ⟨rfl, rfl⟩
  ·cases e⟩
noncomputable def Sim.cmp (i j : Nat) : Sim lt N (uI (α := Option Bool)) fun I => lt' (I.it i) (I.it j) :=
 ⟨fun st => if i < N ∧ j < N then some (some (lt i j), st) else none, fun prog w A E s I o st b st' e => by
  split at e
  ·next h =>
   cases e
   rw [lt'_eq]
   refine wpS_bind (wpS_get (wpS_bind (wpS_lift ?_)))
   refine wpAny_attempt ?_
   refine wpAny_mono (o i j h.1 h.2 (fun b s' => s' = s ∧ b = lt i j) ⟨rfl, rfl⟩) ?_ ?_
   ·rintro b s' ⟨rfl, rfl⟩
    exact ⟨rfl, wpS_pure ⟨rfl, rfl⟩⟩
   ·rintro _ _ ⟨⟩
  ·cases e⟩
noncomputable def Sim.getB {u : Itm → β → α} {k : Itm → SortSt → StateT SortSt Sem α} (T : ∀ st, Sim lt N u fun I => k I (lift I st)) : Sim lt N u fun I => get >>= k I :=
 ⟨fun st => (T st).f st, fun prog w A E s I o st b st' e => wpS_bind (wpS_get ((T st).ok prog w A E s I o st b st' e))⟩
noncomputable def Sim.modify {g : Itm → SortSt → SortSt} (g' : NSt → NSt) (h : ∀ I st, g I (lift I st) = lift I (g' st)) : Sim lt N (uI (α := Unit)) fun I => (modify (g I) : StateT SortSt Sem Unit) :=
 ⟨fun st => some ((), g' st), fun prog w A E s I o st b st' e => by
  cases e
  exact wpS_modify ⟨rfl, h I st⟩⟩
noncomputable def Sim.set {x : Itm → SortSt} (st' : NSt) (h : ∀ I, x I = lift I st') : Sim lt N (uI (α := Unit)) fun I => (set (x I) : StateT SortSt Sem Unit) :=
 ⟨fun st => some ((), st'), fun prog w A E s I o st b st2 e => by
  cases e
  exact wpS_modify (f := fun _ => x I) (st := lift I st) ⟨rfl, h I⟩⟩
noncomputable def loopF (S : Nat → β → NSt → Option (ForInStep β × NSt)) : List Nat → β → NSt → Option (β × NSt)
 | [], b, st => some (b, st)
 | x :: l, b, st => match S x b st with
  | some (.done b', st') => some (b', st')
  | some (.yield b', st') => loopF S l b' st'
  | none => none
noncomputable def Sim.for {u : Itm → β → α} {a b : Nat} (init : β) {i0 : Itm → α} {body : Itm → Nat → α → StateT SortSt Sem (ForInStep α)} (h0 : ∀ I, i0 I = u I init) (S : ∀ x c, Sim lt N (uF u) fun I => body I x (u I c)) : Sim lt N u fun I => forIn [a:b] (i0 I) (body I) :=
 ⟨loopF (fun x c => (S x c).f) (List.range' a (b - a)) init, fun prog w A E s I o st c st' e => by
  rw [h0]
  refine wpS_forRange (fun i x t => ∃ c' nst, x = u I c' ∧ t = lift I nst ∧ loopF (fun x c => (S x c).f) (List.range' i (b - i)) c' nst = some (c, st')) ?_ ?_ ⟨init, st, rfl, rfl, e⟩
  ·rintro i _ _ hai hib ⟨c', nst, rfl, rfl, e⟩
   rw [show b - i = (b - (i + 1)) + 1 by omega, List.range'_succ, loopF] at e
   cases hS : (S i c').f nst with
   | none => rw [hS] at e; cases e
   | some r =>
    obtain ⟨r, nst'⟩ := r
    rw [hS] at e
    refine wpS_mono ((S i c').ok prog w A E s I o nst r nst' hS) ?_
    rintro _ _ ⟨rfl, rfl⟩
    cases r with
    | done b' => cases e; exact ⟨rfl, rfl⟩
    | yield b' => exact ⟨b', nst', rfl, rfl, e⟩
  ·rintro _ _ ⟨c', nst, rfl, rfl, e⟩
   rw [show b - max a b = 0 by omega, List.range'_zero, loopF] at e
   cases e
   exact ⟨rfl, rfl⟩⟩
noncomputable def simBey (left : Bool) (key : Nat) (arr : Array Nat) (j : Nat) : Sim lt N (uI (α := Option Bool)) (fun I => (do
  let x ← elem' (arr.map I.it) j
  if left = true then lt' x (I.it key) else do
   let r ← lt' (I.it key) x
   pure (Option.map (fun x => !x) r))) :=
 Sim.bind (Sim.elem arr j) fun x => Sim.ite _ (Sim.cmp x key) (Sim.bind (Sim.cmp key x) fun r => Sim.pure (Option.map (fun x => !x) r) fun _ => rfl)
noncomputable def simGallop (left : Bool) (key : Nat) (arr : Array Nat) (base n hint : Nat) : Sim lt N (uI (α := Option Nat)) (fun I => gallop' left (I.it key) (arr.map I.it) base n hint) := by
 refine Sim.bind (simBey left key arr (base + hint)) fun r => ?_
 cases r with
 | none => exact Sim.fail
 | some r =>
  dsimp only [uI]
  refine Sim.ite _ ?_ ?_
  ·refine Sim.bind (u := uI) (Sim.for (none, 0, 1) (fun _ => rfl) fun x c => ?_) fun c => ?_
   ·dsimp only [uI]
    refine Sim.ite _ (Sim.pure (.done (none, c.2.1, c.2.2)) fun _ => rfl) (Sim.bind (simBey left key arr (base + (hint + c.2.2))) fun r => ?_)
    cases r with
    | none => exact Sim.fail
    | some r =>
     dsimp only [uI]
     exact Sim.ite _ (Sim.pure (.done (none, c.2.1, c.2.2)) fun _ => rfl) (Sim.pure (.yield (none, c.2.2, 2 * c.2.2 + 1)) fun _ => rfl)
   ·dsimp only [uI]
    cases c with
    | mk r c =>
     cases r with
     | some r => exact Sim.fail
     | none =>
      dsimp only
      refine Sim.bind (u := uI) (Sim.for (none, hint + c.1 + 1, hint + min c.2 (n - hint)) (fun _ => rfl) fun x d => ?_) fun d => ?_
      ·dsimp only [uI]
       refine Sim.ite _ (Sim.pure (.done (none, d.2.1, d.2.2)) fun _ => rfl) (Sim.bind (simBey left key arr (base + (d.2.1 + (d.2.2 - d.2.1) / 2))) fun r => ?_)
       cases r with
       | none => exact Sim.fail
       | some r =>
        dsimp only [uI]
        exact Sim.ite _ (Sim.pure (.yield (none, d.2.1 + (d.2.2 - d.2.1) / 2 + 1, d.2.2)) fun _ => rfl) (Sim.pure (.yield (none, d.2.1, d.2.1 + (d.2.2 - d.2.1) / 2)) fun _ => rfl)
      ·dsimp only [uI]
       cases d with
       | mk r d =>
        cases r with
        | some r => exact Sim.fail
        | none => exact Sim.pure (some d.2) fun _ => rfl
  ·refine Sim.bind (u := uI) (Sim.for (none, 0, 1) (fun _ => rfl) fun x c => ?_) fun c => ?_
   ·dsimp only [uI]
    refine Sim.ite _ (Sim.pure (.done (none, c.2.1, c.2.2)) fun _ => rfl) (Sim.bind (simBey left key arr (base + (hint - c.2.2))) fun r => ?_)
    cases r with
    | none => exact Sim.fail
    | some r =>
     dsimp only [uI]
     exact Sim.ite _ (Sim.pure (.done (none, c.2.1, c.2.2)) fun _ => rfl) (Sim.pure (.yield (none, c.2.2, 2 * c.2.2 + 1)) fun _ => rfl)
   ·dsimp only [uI]
    cases c with
    | mk r c =>
     cases r with
     | some r => exact Sim.fail
     | none =>
      dsimp only
      refine Sim.bind (u := uI) (Sim.for (none, hint + 1 - min c.2 (hint + 1), hint - c.1) (fun _ => rfl) fun x d => ?_) fun d => ?_
      ·dsimp only [uI]
       refine Sim.ite _ (Sim.pure (.done (none, d.2.1, d.2.2)) fun _ => rfl) (Sim.bind (simBey left key arr (base + (d.2.1 + (d.2.2 - d.2.1) / 2))) fun r => ?_)
       cases r with
       | none => exact Sim.fail
       | some r =>
        dsimp only [uI]
        exact Sim.ite _ (Sim.pure (.yield (none, d.2.1 + (d.2.2 - d.2.1) / 2 + 1, d.2.2)) fun _ => rfl) (Sim.pure (.yield (none, d.2.1, d.2.1 + (d.2.2 - d.2.1) / 2)) fun _ => rfl)
      ·dsimp only [uI]
       cases d with
       | mk r d =>
        cases r with
        | some r => exact Sim.fail
        | none => exact Sim.pure (some d.2) fun _ => rfl
noncomputable def simLtAt (i j : Nat) : Sim lt N (uI (α := Option Bool)) (fun _ => ltAt' i j) := by
 refine Sim.congr (fun I => ltAt'_eq i j) ?_
 refine Sim.getB fun st => ?_
 exact Sim.bind (Sim.elem st.p i) fun x => Sim.bind (Sim.elem st.p j) fun y => Sim.cmp x y
noncomputable def simCount (lo nrem : Nat) : Sim lt N (uI (α := Option Nat)) (fun _ => countRun' lo nrem) := by
 refine Sim.bind (u := uI) (Sim.for (none, 1) (fun _ => rfl) fun x c => ?_) fun c => ?_
 ·dsimp only [uI]
  refine Sim.bind (simLtAt (lo + c.2) (lo + c.2 - 1)) fun r => ?_
  cases r with
  | none => exact Sim.fail
  | some r =>
   dsimp only [uI]
   exact Sim.ite _ (Sim.pure (.done (none, c.2)) fun _ => rfl) (Sim.pure (.yield (none, c.2 + 1)) fun _ => rfl)
 ·dsimp only [uI]
  cases c with
  | mk r c =>
   cases r with
   | some r => exact Sim.fail
   | none =>
    dsimp only
    refine Sim.ite _ (Sim.pure (some c) fun _ => rfl) ?_
    refine Sim.ite _ ?_ Sim.fail
    refine Sim.bind (simLtAt lo (lo + c - 1)) fun r => ?_
    cases r with
    | none => exact Sim.fail
    | some r =>
     dsimp only [uI]
     exact Sim.ite _ (Sim.pure (some c) fun _ => rfl) Sim.fail
theorem Zlb {α β : Type} (f : α → β) (p : Array α) (k n : Nat) : bubble (p.map f) k n = (bubble p k n).map f := kas_swaps_map f (fun i => k - i) (fun i => k - i - 1) (List.range n) p
noncomputable def simMove (src dst : Nat) : Sim lt N (uI (α := Unit)) (fun _ => moveDown' src dst) := by
 refine Sim.congr (fun I => moveDown'_eq src dst) ?_
 exact Sim.modify (fun st => { st with p := bubble st.p src (src - dst) }) fun I st => by
  show SortSt.mk' I.κ (bubble (st.p.map I.it) src (src - dst)) st.pend st.g none = _
  rw [Zlb]; rfl
noncomputable def simBin (lo n ok : Nat) : Sim lt N (uI (α := Bool)) (fun _ => binarySort' lo n ok) := by
 refine Sim.congr (fun I => binarySort'_eq lo n ok) ?_
 refine Sim.bind (u := uI) (Sim.for (none, ()) (fun _ => rfl) fun k c => ?_) fun c => ?_
 ·dsimp only [uI]
  refine Sim.bind (u := uI) (Sim.for (none, 0, k) (fun _ => rfl) fun x c => ?_) fun c => ?_
  ·dsimp only [uI]
   refine Sim.ite _ (Sim.pure (.done (none, c.2.1, c.2.2)) fun _ => rfl) (Sim.bind (simLtAt (lo + k) (lo + (c.2.1 + c.2.2) / 2)) fun r => ?_)
   cases r with
   | none => exact Sim.fail
   | some r =>
    dsimp only [uI]
    exact Sim.ite _ (Sim.pure (.yield (none, c.2.1, (c.2.1 + c.2.2) / 2)) fun _ => rfl) (Sim.pure (.yield (none, (c.2.1 + c.2.2) / 2 + 1, c.2.2)) fun _ => rfl)
  ·dsimp only [uI]
   cases c with
   | mk r c =>
    cases r with
    | some r => exact Sim.fail
    | none => exact Sim.bind (simMove (lo + k) (lo + c.1)) fun _ => Sim.pure (.yield (none, ())) fun _ => rfl
 ·dsimp only [uI]
  cases c with
  | mk r c =>
   cases r with
   | some r => exact Sim.fail
   | none => exact Sim.pure true fun _ => rfl
noncomputable def uM : Itm → Option (Array Nat) × Array Nat × Nat × Nat × Nat → Option (Array Keyed) × Array Keyed × Nat × Nat × Nat := fun I x => (x.1.map (uA I), uA I x.2.1, x.2.2)
noncomputable def uM2 : Itm → Option (Array Nat) × Array Nat × Nat × Nat × Nat × Nat → Option (Array Keyed) × Array Keyed × Nat × Nat × Nat × Nat := fun I x => (x.1.map (uA I), uA I x.2.1, x.2.2)
noncomputable def Sim.iteC {u : Itm → β → α} {m1 m2 : Itm → StateT SortSt Sem α} {c : Itm → Prop} {d : ∀ I, Decidable (c I)} (c' : Prop) [Decidable c'] (h : ∀ I, c I ↔ c') (S1 : Sim lt N u m1) (S2 : Sim lt N u m2) : Sim lt N u fun I => @_root_.ite _ (c I) (d I) (m1 I) (m2 I) :=
 ⟨fun st => if c' then S1.f st else S2.f st, fun prog w A E s I o st b st' e => by
  by_cases h' : c'
  ·rw [if_pos h'] at e
   rw [if_pos ((h I).mpr h')]; exact S1.ok prog w A E s I o st b st' e
  ·rw [if_neg h'] at e
   rw [if_neg fun z => h' ((h I).mp z)]; exact S2.ok prog w A E s I o st b st' e⟩
noncomputable def Sim.forC {u : Itm → β → α} {b : Itm → Nat} (b' : Nat) (hb : ∀ I, b I = b') (init : β) {i0 : Itm → α} {body : Itm → Nat → α → StateT SortSt Sem (ForInStep α)} (h0 : ∀ I, i0 I = u I init) (S : ∀ x c, Sim lt N (uF u) fun I => body I x (u I c)) : Sim lt N u fun I => forIn [:b I] (i0 I) (body I) :=
 Sim.congr (m' := fun I => forIn [:b'] (i0 I) (body I)) (fun I => by rw [hb]) (Sim.for init h0 S)
noncomputable def Sim.guard {u : Itm → β → α} {m : Itm → StateT SortSt Sem α} (c : Prop) [Decidable c] (S : c → Sim lt N u m) : Sim lt N u m :=
 ⟨fun st => if h : c then (S h).f st else none, fun prog w A E s I o st b st' e => by
  split at e
  ·next h => exact (S h).ok prog w A E s I o st b st' e
  ·cases e⟩
noncomputable def simLo (a b : Array Nat) : Sim lt N uA (fun I => mergeLo' (a.map I.it) (b.map I.it)) := by
 refine Sim.bind Sim.rule fun _ => ?_
 refine Sim.bind (Sim.elem b 0) fun b0 => ?_
 dsimp only [uK]
 refine Sim.iteC (1 = b.size) (fun I => by simp) Sim.fail ?_
 refine Sim.iteC (1 = a.size) (fun I => by simp) Sim.fail ?_
 refine Sim.getB fun st => ?_
 refine Sim.bind (u := uM) (Sim.forC (a.size + b.size) (fun I => by simp) (none, #[b0], 0, 1, st.g) (fun I => by simp [uM, uA]; rfl) fun x c => ?_) fun c => ?_
 ·dsimp only [uM]
  refine Sim.bind (u := uM2) (Sim.forC (a.size + b.size) (fun I => by simp) (none, c.2.1, c.2.2.1, c.2.2.2.1, 0, 0) (fun I => by simp [uM2, uA]) fun x d => ?_) fun d => ?_
  ·dsimp only [uM2]
   refine Sim.bind (Sim.elem b d.2.2.2.1) fun y => Sim.bind (Sim.elem a d.2.2.1) fun z => Sim.bind (Sim.cmp y z) fun r => ?_
   cases r with
   | none => exact Sim.fail
   | some r =>
    dsimp only [uI]
    refine Sim.ite _ ?_ ?_
    ·refine Sim.bind (Sim.elem b d.2.2.2.1) fun y => ?_
     dsimp only [uK]
     refine Sim.iteC (d.2.2.2.1 + 1 = b.size) (fun I => by simp) (Sim.pure (.done (some (d.2.1.push y ++ a.extract d.2.2.1 ++ b.extract (d.2.2.2.1 + 1)), d.2.1.push y, d.2.2.1, d.2.2.2.1 + 1, 0, d.2.2.2.2.2 + 1)) fun I => by simp [uF, uM2, uA]) ?_
     refine Sim.iteC (d.2.2.2.2.2 + 1 ≥ c.2.2.2.2) (fun I => Iff.rfl) (Sim.pure (.done (none, d.2.1.push y, d.2.2.1, d.2.2.2.1 + 1, 0, d.2.2.2.2.2 + 1)) fun I => by simp [uF, uM2, uA]) (Sim.pure (.yield (none, d.2.1.push y, d.2.2.1, d.2.2.2.1 + 1, 0, d.2.2.2.2.2 + 1)) fun I => by simp [uF, uM2, uA])
    ·refine Sim.bind (Sim.elem a d.2.2.1) fun y => ?_
     dsimp only [uK]
     refine Sim.iteC (d.2.2.1 + 1 + 1 = a.size) (fun I => by simp) (Sim.pure (.done (some (d.2.1.push y ++ b.extract d.2.2.2.1 ++ a.extract (d.2.2.1 + 1)), d.2.1.push y, d.2.2.1 + 1, d.2.2.2.1, d.2.2.2.2.1 + 1, 0)) fun I => by simp [uF, uM2, uA]) ?_
     refine Sim.iteC (d.2.2.2.2.1 + 1 ≥ c.2.2.2.2) (fun I => Iff.rfl) (Sim.pure (.done (none, d.2.1.push y, d.2.2.1 + 1, d.2.2.2.1, d.2.2.2.2.1 + 1, 0)) fun I => by simp [uF, uM2, uA]) (Sim.pure (.yield (none, d.2.1.push y, d.2.2.1 + 1, d.2.2.2.1, d.2.2.2.2.1 + 1, 0)) fun I => by simp [uF, uM2, uA])
  ·cases d with
   | mk r d =>
    cases r with
    | none => exact Sim.fail
    | some r => exact Sim.pure (.done (some r, d.1, d.2.1, d.2.2.1, c.2.2.2.2)) fun I => rfl
 ·cases c with
  | mk r c =>
   cases r with
   | none => exact Sim.fail
   | some r => exact Sim.pure r fun I => rfl
theorem Zk3 (f : Nat → Keyed) (sa : Nat) : ∀ (l : List Nat) (k : Nat) (p : Array Nat), ((l.map f).zipIdx k).foldl (fun (a : Array Keyed) x => match x with | (q, j) => a.setIfInBounds (sa + j) q) (p.map f) = ((l.zipIdx k).foldl (fun (a : Array Nat) x => a.setIfInBounds (sa + x.2) x.1) p).map f
 | [], k, p => rfl
 | x :: l, k, p => by
  rw [List.map_cons, List.zipIdx_cons, List.zipIdx_cons, List.foldl_cons, List.foldl_cons, ← Zk3 f sa l (k + 1)]
  congr 1
  simp
noncomputable def simAt (i : Nat) : Sim lt N (uI (α := Bool)) (fun _ => mergeAt' i) := by
 refine Sim.getB fun st => ?_
 dsimp only [lift, SortSt.mk']
 generalize st.pend[i]? = x
 generalize st.pend[i + 1]? = y
 cases x with
 | none => exact Sim.fail
 | some x =>
  cases y with
  | none => exact Sim.fail
  | some y =>
   dsimp only
   refine Sim.bind (Sim.set ⟨st.p, (st.pend.setIfInBounds i (x.1, x.2.1 + y.2.1, x.2.2)).eraseIdxIfInBounds (i + 1), st.g⟩ fun I => rfl) fun _ => ?_
   refine Sim.bind (Sim.elem st.p y.1) fun b0 => ?_
   refine Sim.bind (simGallop false b0 st.p x.1 x.2.1 0) fun k => ?_
   cases k with
   | none => exact Sim.fail
   | some k =>
    dsimp only [uI]
    refine Sim.iteC (x.2.1 - k = 0) (fun I => by simp) Sim.fail ?_
    refine Sim.bind (Sim.elem st.p (x.1 + k + (x.2.1 - k) - 1)) fun a0 => ?_
    refine Sim.bind (simGallop true a0 st.p y.1 y.2.1 (y.2.1 - 1)) fun n => ?_
    cases n with
    | none => exact Sim.fail
    | some n =>
     dsimp only [uI]
     refine Sim.iteC (n = 0) (fun I => by simp) Sim.fail ?_
     refine Sim.iteC (x.2.1 - k ≤ n) (fun I => Iff.rfl) ?_ Sim.fail
     refine Sim.bind (u := uA) (Sim.congr (fun I => ?_) (simLo (st.p.extract (x.1 + k) y.1) (st.p.extract y.1 (y.1 + n)))) fun mg => ?_
     ·show mergeLo' _ _ = _
      rw [Array.map_extract, Array.map_extract]
     ·refine Sim.bind (Sim.modify (fun st => { st with p := (mg.toList.zipIdx).foldl (fun (a : Array Nat) z => a.setIfInBounds (x.1 + k + z.2) z.1) st.p }) fun I st => ?_) fun _ => Sim.getB fun st2 => Sim.pure true fun I => rfl
      show SortSt.mk' I.κ _ st.pend st.g none = SortSt.mk' I.κ _ st.pend st.g none
      congr 1
      have := Zk3 I.it (x.1 + k) mg.toList 0 st.p
      rw [← this, uA, Array.toList_map]
      rfl
theorem hsz (I : Itm) (st : NSt) : (arrOf (lift I st)).size = st.p.size := Array.size_map ..
noncomputable def simRuns : Sim lt N (uI (α := Unit)) (fun _ => sortRuns') := by
 refine Sim.congr (fun I => sortRuns'_eq) ?_
 refine Sim.getB fun st => ?_
 apply Sim.congr
 case h => intro I; rw [hsz]
 dsimp only
 refine Sim.bind (u := uI) (Sim.for (none, 0) (fun _ => rfl) fun x c => ?_) fun c => ?_
 ·dsimp only [uI]
  refine Sim.ite _ (Sim.pure (.done (none, c.2)) fun _ => rfl) (Sim.bind (simCount c.2 (st.p.size - c.2)) fun r => ?_)
  cases r with
  | none => exact Sim.fail
  | some n =>
   dsimp only [uI]
   refine Sim.ite _ ?_ ?_
   ·refine Sim.bind Sim.rule fun _ => ?_
    refine Sim.bind (simBin c.2 (min (st.p.size - c.2) (minRun' st.p.size st.p.size 0)) n) fun b => ?_
    dsimp only [uI]
    refine Sim.ite _ Sim.fail ?_
    refine Sim.getB fun st2 => ?_
    dsimp only [lift, SortSt.mk', pendingOf]
    generalize st2.pend.back? = y
    cases y with
    | none => exact Sim.bind (Sim.modify (fun st1 => { st1 with pend := st1.pend.push (c.2, min (st.p.size - c.2) (minRun' st.p.size st.p.size 0), 0) }) fun I st => rfl) fun _ => Sim.pure (.yield (none, c.2 + min (st.p.size - c.2) (minRun' st.p.size st.p.size 0))) fun _ => rfl
    | some y =>
     refine Sim.bind (u := uI) (Sim.for (none, ()) (fun _ => rfl) fun x d => ?_) fun d => ?_
     ·refine Sim.getB fun st3 => ?_
      dsimp only [lift, SortSt.mk', pendingOf]
      refine Sim.guard (¬ st3.pend.size > 1) fun h3 => ?_
      exact Sim.congr (fun I => by rw [if_neg h3]) (Sim.pure (a := fun _ => ForInStep.done (none, ())) (.done (none, ())) fun _ => rfl)
     ·dsimp only [uI]
      cases d with
      | mk r d =>
       cases r with
       | some r => exact Sim.fail
       | none =>
        dsimp only
        refine Sim.bind (Sim.modify (fun st1 => { st1 with pend := st1.pend.modify (st1.pend.size - 1) fun z => (z.1, z.2.1, power' st.p.size (2 * y.1 + y.2.1) (2 * y.1 + y.2.1 + y.2.1 + min (st.p.size - c.2) (minRun' st.p.size st.p.size 0)) st.p.size) }) fun I st => rfl) fun _ => ?_
        exact Sim.bind (Sim.modify (fun st1 => { st1 with pend := st1.pend.push (c.2, min (st.p.size - c.2) (minRun' st.p.size st.p.size 0), 0) }) fun I st => rfl) fun _ => Sim.pure (.yield (none, c.2 + min (st.p.size - c.2) (minRun' st.p.size st.p.size 0))) fun _ => rfl
   ·refine Sim.getB fun st2 => ?_
    dsimp only [lift, SortSt.mk', pendingOf]
    generalize st2.pend.back? = y
    cases y with
    | none => exact Sim.bind (Sim.modify (fun st => { st with pend := st.pend.push (c.2, n, 0) }) fun I st => rfl) fun _ => Sim.pure (.yield (none, c.2 + n)) fun _ => rfl
    | some y => exact Sim.fail
 ·dsimp only [uI]
  cases c with
  | mk r c =>
   cases r with
   | some r => exact Sim.fail
   | none =>
    dsimp only
    refine Sim.bind (u := uI) (Sim.for (none, ()) (fun _ => rfl) fun x d => ?_) fun d => ?_
    ·refine Sim.getB fun st2 => ?_
     refine Sim.iteC (st2.pend.size ≤ 1) (fun I => Iff.rfl) (Sim.pure (.done (none, ())) fun _ => rfl) ?_
     refine Sim.guard (st2.pend.size = 2) fun h2 => ?_
     refine Sim.bind (u := uI) (Sim.congr (fun I => ?_) (simAt 0)) fun b => ?_
     ·have e : pendingOf (lift I st2) = st2.pend := rfl
      rw [e, h2]
      rfl
     ·dsimp only [uI]
      exact Sim.ite _ Sim.fail (Sim.pure (.yield (none, ())) fun _ => rfl)
    ·dsimp only [uI]
     cases d with
     | mk r d =>
      cases r with
      | some r => exact Sim.fail
      | none => exact Sim.pure () fun _ => rfl
noncomputable def runS (lt : Nat → Nat → Bool) (n : Nat) : Option (Array Nat) := ((simRuns (lt := lt) (N := n)).f ⟨(List.range n).toArray, #[], 7⟩).map fun r => r.2.p
end Tim
namespace L2
open PySem PySem.Spec PyProof.Rows
noncomputable abbrev Pr := Int × List Int
noncomputable def prLt (x y : Pr) : Bool := if x.1 = y.1 then (if x.2 = y.2 then false else HT.lexLt x.2 y.2) else decide (x.1 < y.1)
noncomputable def TpP (h : Heap) (v : Value) (x : Pr) : Prop := ∃ a o t y k, v = .ref a ∧ h.get? a = some o ∧ o.cls = .type "tuple" ∧ o.data = .seq (List.toArray [.int x.1 t, y]) k ∧ TpI h y x.2
theorem TpP.keep {h h' : Heap} {v : Value} {x : Pr} (q : TpP h v x) (k : ∀ b o, o.cls = .type "tuple" → h.get? b = some o → h'.get? b = some o) : TpP h' v x := by
 obtain ⟨a, o, t, y, n, e, h1, h2, h3, h4⟩ := q
 exact ⟨a, o, t, y, n, e, k _ _ h2 h1, h2, h3, h4.keep k⟩
theorem Zgg {h : Heap} : ∀ {vs : List Value} {ns : List Int}, IntsAre vs ns → ReadsAll h vs (ns.map .int) []
 | _, _, .nil => .nil
 | _, _, .cons i t r => ReadsAll.cons (as := []) (.int i t) (Zgg r)
theorem TpI.reads {h : Heap} {v : Value} {ns : List Int} (q : TpI h v ns) : Reads h v (tI ns) [] := by
 obtain ⟨a, o, vs, n, rfl, h1, h2, h3, h4⟩ := q
 exact Reads.tuple h1 h2 h3 (by simpa using Zgg h4)
theorem Zkd : ∀ ns ms : List Int, PyData.eqvAll (ns.map .int) (ms.map .int) = decide (ns = ms)
 | [], [] => by simp [PyData.eqvAll]
 | [], _ :: _ => by simp [PyData.eqvAll]
 | _ :: _, [] => by simp [PyData.eqvAll]
 | x :: r, y :: r' => by
  rw [List.map_cons, List.map_cons, PyData.eqvAll, Zkd r r', PyData.eqv]
  by_cases e : x = y <;> by_cases e2 : r = r' <;> simp [e, e2]
theorem Zq7 (ns ms : List Int) : PyData.eqv (tI ns) (tI ms) = decide (ns = ms) := by
 unfold tI; rw [PyData.eqv]; exact Zkd ns ms
section
variable {prog : Program} {w : World} {A : Around} {E : Value → Shared → Prop} {s : Shared}
theorem Zja {x y : Value} {ns ms : List Int} {Q : Bool → Shared → Prop} (hx : TpI s.heap x ns) (hy : TpI s.heap y ms) (hu : A.units + 1 < cLine) (h : Q (decide (ns = ms)) s) : wpAny (model prog w) A (eqBool x y) Q E s := by
 refine SeqAt.eqBoolOverData prog w A E s x y (tI ns) (tI ms) [] [] Q hx.reads hy.reads ?_ ?_ ?_ ?_
 ·exact Zpw ns
 ·exact Zpw ms
 ·have := Zpb ns
  omega
 ·rw [Zq7]; exact h
theorem Zm2 {x y : Value} {ns ms : List Int} {Q : Bool → Shared → Prop} (hx : TpI s.heap x ns) (hy : TpI s.heap y ms) (hu : A.units < cLine) (h : Q (HT.lexLt ns ms) s) : wpAny (model prog w) A (oneLt' false x y) Q E s := by
 obtain ⟨a, o, vs, n, rfl, g1, g2, g3, g4⟩ := hx
 obtain ⟨b, o', us, n', rfl, k1, k2, k3, k4⟩ := hy
 rw [oneLt'_eq]
 simp only [Bool.false_eq_true, if_false]
 refine wpAny_bind ?_
 show wpAny _ _ (compareOp .Lt (.ref a) (.ref b)) _ _ s
 exact HT.lt_tupInts ⟨o, g1, g2, n, g3⟩ ⟨o', k1, k2, n', k3⟩ (by simpa using g4) (by simpa using k4) hu (wpAny_truthy_bool h)
theorem Zjk {v u : Value} {x y : Pr} {Q : Bool → Shared → Prop} (hx : TpP s.heap v x) (hy : TpP s.heap u y) (hu : A.units + 1 < cLine) (h : Q (prLt x y) s) : wpAny (model prog w) A (keyLt' (tuples' true) v u) Q E s := by
 obtain ⟨a, o, t, p, n, rfl, g1, g2, g3, g4⟩ := hx
 obtain ⟨b, o', t', p', n', rfl, k1, k2, k3, k4⟩ := hy
 rw [Zgz]
 refine wpAny_bind (listItems_at g1 g3 (wpAny_bind (listItems_at k1 k3 ?_)))
 simp only [List.toList_toArray, List.zip_cons_cons, List.zip_nil_left, List.zipIdx_cons, List.zipIdx_nil, List.forIn_cons, List.forIn_nil, bind_assoc]
 refine wpAny_bind (wpAny_eqBool_int ?_)
 unfold prLt at h
 by_cases e : x.1 = y.1
 ·rw [if_pos e] at h
  rw [show (x.1 == y.1) = true by simp [e]]
  refine wpAny_bind (wpAny_pure ?_)
  dsimp only
  simp only [bind_assoc]
  refine wpAny_bind (Zja g4 k4 hu ?_)
  by_cases e2 : x.2 = y.2
  ·rw [if_pos e2] at h
   rw [decide_eq_true e2]
   refine wpAny_bind (wpAny_pure ?_)
   exact wpAny_bind (wpAny_pure (wpAny_pure h))
  ·rw [if_neg e2] at h
   rw [decide_eq_false e2]
   refine wpAny_bind (wpAny_bind (Zm2 g4 k4 (by omega) ?_))
   exact wpAny_pure (wpAny_bind (wpAny_pure (wpAny_pure h)))
 ·rw [if_neg e] at h
  rw [show (x.1 == y.1) = false by simp [e]]
  refine wpAny_bind (wpAny_bind (Zm1 ?_))
  exact wpAny_pure (wpAny_bind (wpAny_pure (wpAny_pure h)))
theorem Zlo {v : Value} {x : Pr} {Q : Option Value → Shared → Prop} (hv : TpP s.heap v x) (h : ∀ i t, Q (some (.int i t)) s) : wpAny (model prog w) A (firstOfTuple' v) Q E s := by
 obtain ⟨a, o, t, p, n, rfl, g1, g2, g3, g4⟩ := hv
 show wpAny _ _ (do
  if (← typeOf (.ref a)) != .type "tuple" then return none
  return (← Builtin.List.listItems (.ref a))[0]?) _ _ s
 refine wpAny_bind (wpAny_typeOf (T := "tuple") ⟨o, g1, g2⟩ ?_)
 simp only [bne_self_eq_false, Bool.false_eq_true, if_false]
 exact wpAny_bind (listItems_at g1 g3 (wpAny_pure (h x.1 t)))
theorem Zib : ∀ {vs : List Value} {Q : List (Option Value) → Shared → Prop}, (∀ v ∈ vs, ∃ x, TpP s.heap v x) → (∀ us : List Value, us.length = vs.length → (∀ u ∈ us, ∃ i t, u = Value.int i t) → Q (us.map some) s) → wpAny (model prog w) A (vs.mapM firstOfTuple') Q E s
 | [], Q, _, h => by
  rw [List.mapM_nil]
  exact wpAny_pure (h [] rfl fun u hu => (nomatch hu))
 | v :: vs, Q, hv, h => by
  rw [List.mapM_cons]
  obtain ⟨x, h1⟩ := hv v (List.mem_cons_self ..)
  refine wpAny_bind (Zlo h1 fun i t => wpAny_bind (Zib (fun u hu => hv u (List.mem_cons_of_mem _ hu)) fun us l hu => wpAny_pure ?_))
  refine h (Value.int i t :: us) (by simp [l]) fun u hu' => ?_
  rcases List.mem_cons.mp hu' with e | e
  ·exact ⟨i, t, e⟩
  ·exact hu u e
theorem Zlt {v1 : Value} {vs : List Value} {Q : SortKind → Shared → Prop} (hv : ∀ v ∈ v1 :: vs, ∃ x, TpP s.heap v x) (h : Q (tuples' true) s) : wpAny (model prog w) A (keyKind' (v1 :: vs).toArray) Q E s := by
 rw [keyKind'_eq, List.mapM_toArray]
 refine wpAny_bind ?_
 show wpAny _ _ (List.toArray <$> (v1 :: vs).mapM firstOfTuple') _ _ s
 rw [map_eq_pure_bind]
 refine wpAny_bind (Zib hv fun us l hu => wpAny_pure ?_)
 rw [if_pos (by simp)]
 refine wpAny_bind (wpAny_rule ?_)
 obtain ⟨ns, hI⟩ := Ze3 us hu
 have e : (List.map some us).toArray.filterMap id = us.toArray := by simp
 rw [e, oneTypeOnly'_eq, List.mapM_toArray, mapM_typeOf_ints hI]
 simp only [map_pure, pure_bind]
 cases us with
 | nil => simp at l
 | cons u us =>
  have hall : ((List.map (fun _ => Value.type "int") (u :: us)).toArray.all fun x => x == Value.type "int") = true := by
   simp only [List.all_toArray, List.all_map, List.all_eq_true]
   intro _ _
   rfl
  have h0 : (List.map (fun _ => Value.type "int") (u :: us)).toArray[0]? = some (Value.type "int") := by simp
  rw [h0]
  simp only [hall, if_true, pure_bind]
  exact wpAny_pure h
noncomputable def PrsV (h : Heap) (vs : List Value) (prs : List Pr) : Prop := vs.length = prs.length ∧ ∀ (i : Nat) v, vs[i]? = some v → ∃ x, prs[i]? = some x ∧ TpP h v x
theorem PrsV.keep {h h' : Heap} {vs : List Value} {prs : List Pr} (q : PrsV h vs prs) (k : ∀ b o, o.cls = .type "tuple" → h.get? b = some o → h'.get? b = some o) : PrsV h' vs prs :=
 ⟨q.1, fun i v e => by obtain ⟨x, h1, h2⟩ := q.2 i v e; exact ⟨x, h1, h2.keep k⟩⟩
noncomputable def prsLt (prs : List Pr) (i j : Nat) : Bool := prLt (prs.getD i (0, [])) (prs.getD j (0, []))
noncomputable def itV (vs : List Value) (i : Nat) : Keyed := (vs.getD i .none, vs.getD i .none)
theorem Zr5 (vs : List Value) : (List.range vs.length).toArray.map (itV vs) = vs.toArray.zip vs.toArray := by
 apply Array.ext'
 simp only [Array.toList_map, List.toList_toArray, Array.toList_zip]
 refine List.ext_getElem (by simp) fun i h1 h2 => ?_
 simp at h1
 simp [itV, h1]
theorem Zpa {vs : List Value} {prs : List Pr} {p : Array Nat} {Q : Unit → SortSt → Prop} (hV : PrsV s.heap vs prs) (hu : A.units + 1 < cLine) (hr : Tim.runS (prsLt prs) vs.length = some p) (h : ∀ st', arrOf st' = p.map (itV vs) → failedOf st' = none → Q () st') :
  wpS (model prog w) A E s sortRuns' Q (SortSt.mk' (tuples' true) (vs.toArray.zip vs.toArray) #[] 7 none) := by
 unfold Tim.runS at hr
 obtain ⟨⟨b, st'⟩, e1, e2⟩ := Option.map_eq_some_iff.mp hr
 have o : Tim.Orc prog w A s ⟨tuples' true, itV vs⟩ (prsLt prs) vs.length := by
  intro i j hi hj C hC
  obtain ⟨x, hx1, hx2⟩ := hV.2 i vs[i] (gEq hi)
  obtain ⟨y, hy1, hy2⟩ := hV.2 j vs[j] (gEq hj)
  have ei : (itV vs i).1 = vs[i] := by simp [itV, List.getD, hi]
  have ej : (itV vs j).1 = vs[j] := by simp [itV, List.getD, hj]
  show wpAny _ _ (keyLt' (tuples' true) (itV vs i).1 (itV vs j).1) _ _ _
  rw [ei, ej]
  refine Zjk hx2 hy2 hu ?_
  have : prsLt prs i j = prLt x y := by simp [prsLt, List.getD, hx1, hy1]
  rw [← this]; exact hC
 have := Tim.simRuns.ok prog w A E s ⟨tuples' true, itV vs⟩ o _ b st' e1
 have e3 : Tim.lift ⟨tuples' true, itV vs⟩ ⟨(List.range vs.length).toArray, #[], 7⟩ = SortSt.mk' (tuples' true) (vs.toArray.zip vs.toArray) #[] 7 none := by
  unfold Tim.lift
  rw [Zr5]
 rw [e3] at this
 refine wpS_mono this ?_
 rintro _ _ ⟨rfl, rfl⟩
 refine h _ ?_ rfl
 show Array.map _ st'.p = _
 rw [show st'.p = p from e2]
theorem Zh6 {a : Addr} {vs : List Value} {prs : List Pr} {p : Array Nat} {n : Nat} {R : Fin → Shared → Prop} (ho : s.heap.get? a = some (seqObj "list" vs.toArray n)) (hV : PrsV s.heap vs prs) (hu : A.units + 1 < cLine) (h2 : 2 ≤ vs.length) (hlen : vs.length ≤ 100000) (hpl : p.size ≤ 100000) (hr : Tim.runS (prsLt prs) vs.length = some p)
  (h : R (.done (.ret .none)) { s with heap := sortedHeap s.heap a vs (p.map fun i => vs.getD i .none) }) : wpAny (model prog w) A (Builtin.«list.sort» ⟨[.ref a], []⟩) R E s := by
 rw [list_sort_plain]
 have ha : a < s.heap.objs.size := Heap.lt_size ho
 have hsl : sizeLine = 16777216 := by decide
 refine wpAny_bind (listItems_at ho rfl ?_)
 refine wpAny_bind (listUpdate_at ho rfl ?_ (by rw [List.size_toArray]; omega) (by show 0 ≤ _; omega))
 obtain ⟨e1, ho1⟩ : ∃ e1, (s.heap.update a (Obj.mapSeq fun _ => #[])).get? a = some (seqObj "list" #[] e1) := ⟨_, get?_update_seq ho (fun _ => #[])⟩
 refine wpAny_bind (seqEpoch_at ho1 rfl ?_)
 refine wpAny_bind (wpAny_newTuple ?_ (by rw [List.toList_toArray]; omega))
 refine wpAny_bind (wpAny_newList ?_)
 refine wpAny_holding ?_
 have ho6 : (((s.heap.update a (Obj.mapSeq fun _ => #[])).push (seqObj "tuple" vs.toArray 0)).push (seqObj "list" #[] 0)).get? a = some (seqObj "list" #[] e1) := by
  rw [Heap.get?_push_ne _ _ _ (by rw [size_push', Heap.size_update]; exact Nat.ne_of_lt (Nat.lt_succ_of_lt ha)), Heap.get?_push_ne _ _ _ (by rw [Heap.size_update]; exact Nat.ne_of_lt ha)]
  exact ho1
 have kp : ∀ b o, o.cls = .type "tuple" → s.heap.get? b = some o → (((s.heap.update a (Obj.mapSeq fun _ => #[])).push (seqObj "tuple" vs.toArray 0)).push (seqObj "list" #[] 0)).get? b = some o := by
  intro b o hc hb
  have nb : b ≠ a := fun z => by rw [z, ho] at hb; cases hb; simp at hc
  exact Heap.get?_push_of_some _ (Heap.get?_push_of_some _ ((Heap.SameBut.update ..).extBut _ _ nb hb))
 show wpAny (model prog w) A _ R E { s with heap := ((s.heap.update a (Obj.mapSeq fun _ => #[])).push (seqObj "tuple" vs.toArray 0)).push (seqObj "list" #[] 0) }
 dsimp only
 have hn2 : ¬ vs.toArray.size < 2 := by rw [List.size_toArray]; omega
 rw [if_neg hn2, if_neg hn2]
 have hV' := hV.keep kp
 obtain ⟨v₁, rest, rfl⟩ : ∃ v₁ rest, vs = v₁ :: rest := by
  match vs, h2 with
  | [], h2 => simp at h2
  | v₁ :: rest, _ => exact ⟨v₁, rest, rfl⟩
 refine wpAny_bind (Zlt (fun v hv => ?_) ?_)
 ·obtain ⟨i, hi⟩ := List.mem_iff_getElem?.mp hv
  obtain ⟨x, _, hx⟩ := hV'.2 i v hi
  exact ⟨x, hx⟩
 refine wpAny_bind (wpAny_mono (Zpa (Q := fun _ st' => arrOf st' = p.map (itV (v₁ :: rest)) ∧ failedOf st' = none) hV' hu hr fun st' a1 a2 => ⟨a1, a2⟩) ?_ fun _ _ e => e)
 rintro ⟨⟨⟩, st'⟩ s' ⟨rfl, hp, hf⟩
 have hmm : Array.map (fun x => x.snd) (arrOf st') = p.map fun i => (v₁ :: rest).getD i .none := by
  rw [hp, Array.map_map]; rfl
 dsimp only
 refine wpAny_bind (seqEpoch_at ho6 rfl ?_)
 refine wpAny_bind (listUpdate_at ho6 rfl ?_ (hsz2 := by rw [hmm, Array.size_map]; omega))
 rw [hf]
 simp only [bne_self_eq_false, Bool.false_eq_true, if_false]
 refine wpAny_pure ?_
 rw [hmm]
 exact h
theorem Zm6 {l : Addr} {vs : List Value} {prs : List Pr} {p : Array Nat} {Q : Value → Shared → Prop} (hl : s.heap.IsList l vs.toArray) (hV : PrsV s.heap vs prs) (hu : A.units + 8 < cLine) (h2 : 2 ≤ vs.length) (hlen : vs.length ≤ 100000) (hpl : p.size ≤ 100000) (hr : Tim.runS (prsLt prs) vs.length = some p)
  (h : Q (.ref (s.heap.objs.size + 1)) { s with heap := sortedAll s.heap vs (p.map fun i => vs.getD i .none) }) :
  wpAny (model prog w) A (call (.builtin "sorted") [.ref l]) Q E s := by
 have hsl : sizeLine = 16777216 := by decide
 refine Calls.call_function_entry kind_sorted plain_sorted entry_sorted (args_sorted1 _) ?_
 unfold Builtin.«sorted»
 refine wpAny_bind (m := checkCount "sorted" 1 1 _) (wpAny_pure ?_)
 refine wpAny_bind (collect_list hl ?_ (by omega))
 refine wpAny_bind (wpAny_newList ?_ (by omega))
 have hsz : ((s.heap.push (seqObj "list" #[] 0)).update s.heap.objs.size (Obj.mapSeq (· ++ vs.toArray))).objs.size = s.heap.objs.size + 1 := by
  rw [Heap.size_update, size_push']
 have hoL : (((s.heap.push (seqObj "list" #[] 0)).update s.heap.objs.size (Obj.mapSeq (· ++ vs.toArray))).push (seqObj "list" vs.toArray 0)).get? (s.heap.objs.size + 1) = some (seqObj "list" vs.toArray 0) := by
  rw [← hsz]; exact Heap.get?_push_size _ rfl
 have kp : ∀ b o, o.cls = .type "tuple" → s.heap.get? b = some o → (((s.heap.push (seqObj "list" #[] 0)).update s.heap.objs.size (Obj.mapSeq (· ++ vs.toArray))).push (seqObj "list" vs.toArray 0)).get? b = some o := by
  intro b o hc hb
  have nb : b ≠ s.heap.objs.size := Nat.ne_of_lt (Heap.lt_size hb)
  exact Heap.get?_push_of_some _ ((Heap.SameBut.update ..).extBut _ _ nb (Heap.get?_push_of_some _ hb))
 show wpAny _ _ _ _ _ { s with heap := ((s.heap.push (seqObj "list" #[] 0)).update s.heap.objs.size (Obj.mapSeq (· ++ vs.toArray))).push (seqObj "list" vs.toArray 0) }
 rw [hsz]
 refine wpAny_bind (wpAny_holding (wpAny_call_entry slot_list_sort ⟨_, hoL, rfl⟩ entry_list_sort (Zh6 hoL (hV.keep kp) ?_ h2 hlen hpl hr ⟨_, rfl, ?_⟩) (args_list_sort _)))
 ·have e : A.in1.in1.units ≤ A.units + 2 := Nat.le_refl _
  omega
 exact wpAny_pure ⟨_, rfl, h⟩
end
noncomputable def prD (x : Pr) : PyData := .tuple [.int x.1, tI x.2]
section
variable {X : Cx} {K : W.Frag} {G : Hp}
theorem DV.prD_inv {H : Hp} {x : Pr} {v : V} (h : DV K H (prD x) v) : ∃ a b, v = .ref a ∧ SqT K H a [.int x.1, .ref b] ∧ SqT K H b (x.2.map V.int) := by
 unfold prD DV at h
 obtain ⟨a, xs, rfl, h1, h2⟩ := h
 unfold DVs at h2
 obtain ⟨y, r, rfl, h3, h4⟩ := h2
 unfold DV at h3
 subst h3
 unfold DVs at h4
 obtain ⟨z, r, rfl, h5, h6⟩ := h4
 unfold DVs at h6
 subst h6
 obtain ⟨b, rfl, h7⟩ := DV.tI_inv h5
 exact ⟨a, b, rfl, h1, h7⟩
theorem Zlf (hu : X.A.units + 64 < cLine) : CallR X (.builtin "sorted") (fun xs H Q => ∃ (a : Addr) (ys : List V) (prs : List Pr) (p : Array Nat), xs = [.ref a] ∧ SqL X.K H a ys ∧ DVs X.K H (prs.map prD) ys ∧ 2 ≤ ys.length ∧ ys.length ≤ 100000 ∧ p.size ≤ 100000 ∧ Tim.runS (prsLt prs) ys.length = some p ∧ ∀ q, H q = none → Q (.ref q) (upd H q (.lst (p.toList.map fun i => ys.getD i .non)))) := by
 rintro pins s σ H xs us Q I r ⟨a, ys, prs, p, rfl, hq, hD, h2, hl, hpl, hr, q⟩
 obtain ⟨u, rfl, rx⟩ := vals1 r
 cases (show u = Value.ref a from rx)
 obtain ⟨its, rv, ip, hz⟩ := I.list hq
 have lv := rv.length
 have lD := hD.length
 rw [lmp] at lD
 have hV : PrsV s.heap its prs := by
  refine ⟨by omega, fun i v hv => ?_⟩
  have hi : i < ys.length := by have := (List.getElem?_eq_some_iff.mp hv).1; omega
  obtain ⟨u, e1, e2⟩ := rv.get (i := i) (x := ys[i]) (gEq hi)
  rw [hv] at e1; cases e1
  obtain ⟨d, hd, dv⟩ := hD.get (i := i) (gEq hi)
  rw [List.getElem?_map] at hd
  obtain ⟨x, hx, rfl⟩ : ∃ x, prs[i]? = some x ∧ prD x = d := by
   cases e : prs[i]? with
   | none => rw [e] at hd; cases hd
   | some r => rw [e] at hd; exact ⟨r, rfl, Option.some.inj hd⟩
  obtain ⟨b, c, e3, h1, h3⟩ := DV.prD_inv dv
  rw [e3] at e2
  cases (show v = Value.ref b from e2)
  obtain ⟨ts, r1, ⟨o, g1, g2, n, g3⟩, _⟩ := I.tuple h1
  obtain ⟨ts', r2, ⟨o', k1, k2, n', k3⟩, _⟩ := I.tuple h3
  obtain ⟨w1, w2, rfl, r3, r4⟩ := Vals.two r1
  obtain ⟨t, rfl⟩ := r3
  cases (show w2 = Value.ref c from r4)
  exact ⟨x, hx, b, o, t, _, n, rfl, g1, g2, g3, c, o', ts', n', rfl, k1, k2, k3, Zex r2⟩
 refine Zm6 ip.isList hV (by omega) (by omega) (by omega) hpl (by rw [← lv]; exact hr) ?_
 have hf : H (s.heap.objs.size + 1) = none := I.hok.fresh (Nat.le_succ _)
 obtain ⟨e, he⟩ := sortedAll_at s.heap its (p.map fun i => its.getD i .none)
 refine ⟨.ref (s.heap.objs.size + 1), upd H (s.heap.objs.size + 1) (.lst (p.toList.map fun i => ys.getD i .non)), I.laid (t' := s.toks) (fun b o hb => sortedAll_old hb) (Nat.le_succ _) ?_, rfl, q _ hf⟩
 refine ⟨by rw [lmp, Array.length_toList]; exact Nat.le_trans hpl (by decide), p.toList.map fun i => its.getD i .none, e, ?_, by rw [he]; congr 2; exact Array.ext' (by rw [Array.toList_map, List.toList_toArray])⟩
 have key : ∀ i, RelV (ys.getD i .non) (its.getD i .none) := fun i => by
  by_cases hi : i < ys.length
  ·obtain ⟨u, e1, e2⟩ := rv.get (i := i) (x := ys[i]) (gEq hi)
   simp only [List.getD, e1, gEq hi, Option.getD_some]; exact e2
  ·simp only [List.getD, List.getElem?_eq_none (show ys.length ≤ i by omega), List.getElem?_eq_none (show its.length ≤ i by omega), Option.getD_none]; rfl
 generalize p.toList = l
 induction l with
 | nil => exact .nil
 | cons x l ih => exact .cons (key x) ih
noncomputable def gSortP (o : Bool) : Val → DTE := fun v s k => match rdL s.w v with
 | some ds => ∃ (prs : List Pr) (p : Array Nat), ds = prs.map prD ∧ 2 ≤ prs.length ∧ prs.length ≤ 100000 ∧ p.size ≤ 100000 ∧ (∀ i ∈ p.toList, i < prs.length) ∧ Tim.runS (prsLt prs) prs.length = some p ∧ nl o (p.toList.map fun i => ds.getD i .none) s k
 | none => False
theorem Zp0 (o : Bool) : RC K (fun xs H Q => ∃ (a : Addr) (ys : List V) (prs : List Pr) (p : Array Nat), xs = [.ref a] ∧ SqL K H a ys ∧ DVs K H (prs.map prD) ys ∧ 2 ≤ ys.length ∧ ys.length ≤ 100000 ∧ p.size ≤ 100000 ∧ Tim.runS (prsLt prs) ys.length = some p ∧ ∀ q, H q = none → Q (.ref q) (upd H q (.lst (p.toList.map fun i => ys.getD i .non)))) (f1 (gSortP o)) := by
 refine rc1 (fun v s Q Q' h q => ?_) (fun G s σ H x v Q r v1 h => ?_)
 ·unfold gSortP at q ⊢; split at q
  ·obtain ⟨prs, p, h1, h2, h3, h4, h5, h6, h7⟩ := q
   exact ⟨prs, p, h1, h2, h3, h4, h5, h6, Zg3 h h7⟩
  ·exact q.elim
 ·unfold gSortP at h; split at h
  ·next ds e =>
   obtain ⟨prs, p, rfl, g2, g3, g4, g5, g6, g7⟩ := h
   obtain ⟨a, xs, rfl, h1, h2⟩ := r.rdL v1 e
   have hl := h2.length
   rw [lmp] at hl
   refine ⟨a, xs, prs, p, rfl, h1, h2.dv r.sub ?_, by omega, by omega, g4, by rw [← hl]; exact g6, fun q hq => r.nl ?_ g7 q hq⟩
   ·clear g2 g3 g5 g6 g7 h2 e hl
    induction prs with
    | nil => simp [PyData.hasDictAll]
    | cons x l ih => rw [List.map_cons, PyData.hasDictAll, ih, Bool.or_false]; simp [prD, PyData.hasDict, PyData.hasDictAll, Zra]
   ·generalize p.toList = l at g5
    clear g7
    induction l with
    | nil => unfold DWs; rfl
    | cons i l ih =>
     have hi := g5 i (List.mem_cons_self ..)
     have hi2 : i < xs.length := by omega
     obtain ⟨d, e1, e2⟩ := h2.get (gEq hi2)
     rw [List.map_cons, List.map_cons]
     unfold DWs
     refine ⟨_, _, rfl, ?_, ih fun j hj => g5 j (List.mem_cons_of_mem _ hj)⟩
     simp only [List.getD, e1, gEq hi2, Option.getD_some]
     exact e2
  ·exact h.elim
end
end L2
namespace L2
open PySem PySem.Spec PyProof.Rows
section
variable {X : Cx} {K : W.Frag} {G : Hp}
end
end L2
namespace L2
open PySem PySem.Spec PyProof.Rows
noncomputable def Itw (K : PySem.W.Frag) (a : Addr) (n : Nat) : It :=
 ⟨fun i H => ∃ xs x, SqL K H a xs ∧ xs.length = n ∧ i < n ∧ xs[n - 1 - i]? = some x, fun i H x H' => H' = H ∧ ∀ xs, SqL K H a xs → xs[n - 1 - i]? = some x, fun i H => n ≤ i ∧ ∃ xs, SqL K H a xs ∧ xs.length = n⟩
theorem Zpv {h : Heap} {a it : Addr} {i : Int} {its : Array Value} (h1 : h.IsRevIter it a i) (h2 : h.IsList a its) : a ≠ it := fun e => by
 subst e
 obtain ⟨o, g1, g2, _⟩ := h1
 obtain ⟨o', k1, k2, _⟩ := h2
 rw [g1] at k1; cases k1
 rw [g2] at k2
 exact absurd k2 (by decide)
theorem Zo0 {P : Program} {w : World} {K : PySem.W.Frag} {tg : Expr} (a it : Addr) (n : Nat) : Turn P w K tg (Itw K a n) [it] it (fun i h => i ≤ n ∧ h.IsRevIter it a ((n : Int) - 1 - (i : Int))) where
 mem := by simp
 obj := fun i h st b hb => by
  have e : b = it := by simpa using hb
  subst e
  obtain ⟨o, g1, g2, g3⟩ := st.2
  exact ⟨o, g1, fun v z => by rw [g3] at z; cases z⟩
 keep := fun i h h' st k => ⟨st.1, st.2.at fun o e => k it (by simp) o e⟩
 item := by
  intro X hP hw hK hc i pins s σ H E I hf st hg
  subst hP hw hK
  obtain ⟨xs, x, hq, hl, hi, hx⟩ := hg
  obtain ⟨its, rv, p, hz⟩ := I.list hq
  obtain ⟨f0, f1, f2, f3, f4, f5⟩ := hf it (by simp)
  have hlen := rv.length
  have hsz : its.toArray.size = n := by rw [List.size_toArray]; omega
  have W := Walks.listRev (prog := X.prog) (w := X.w) (A := X.A) (I.ok.hd hc) it a (Zpv st.2 p.isList) its.toArray
  rw [hsz] at W
  refine W.item i s _ E hi ⟨st.1, st.2, p.isList⟩ fun v h' tk hv st' kk => ?_
  obtain ⟨u, hu, ru⟩ := rv.get hx
  have huv : v = u := by
   have hv' : its[n - 1 - i]? = some v := by simpa using hv
   rw [hu] at hv'; cases hv'; rfl
  subst huv
  have I1 : Inv X pins σ H { s with heap := h', toks := tk } := I.turned (t' := tk) (fun b o hb e => kk b o (by simpa using hb) e) f0 f1 f3 f4 f5
  obtain ⟨o, g1, g2, g3⟩ := st'.2.1
  refine ⟨v, rfl, Zms (s := { s with heap := h', toks := tk }) g1 g2 g3 (by decide) ⟨x, H, I1, ru, ⟨rfl, fun ys hy => by rw [I.list_inj hy hq]; exact hx⟩, ⟨hi, st'.2.1⟩, fun b hb => (hf b hb).1⟩⟩
 done := by
  intro X hP hw hK hc i pins s σ H E I hf st hg
  subst hP hw hK
  obtain ⟨hin, xs, hq, hl⟩ := hg
  obtain ⟨its, rv, p, hz⟩ := I.list hq
  obtain ⟨f0, f1, f2, f3, f4, f5⟩ := hf it (by simp)
  have hlen := rv.length
  have hsz : its.toArray.size = n := by rw [List.size_toArray]; omega
  have W := Walks.listRev (prog := X.prog) (w := X.w) (A := X.A) (I.ok.hd hc) it a (Zpv st.2 p.isList) its.toArray
  rw [hsz] at W
  have ei : i = n := by have := st.1; omega
  subst ei
  exact W.done s _ E ⟨st.1, st.2, p.isList⟩ fun h' tk kk => ⟨rfl, I.turned (t' := tk) (fun b o hb e => kk b o (by simpa using hb) e) f0 f1 f3 f4 f5⟩
 self := fun _ _ _ _ _ st h => wpAny_pyIter_revIter st.2 h
section
variable {X : Cx} {tg : Expr}
noncomputable def iRevL (K : PySem.W.Frag) (ta : TA) : TI := fun σ H R => ta σ H fun vs H1 => ∃ a xs, vs = [.ref a] ∧ SqL K H1 a xs ∧ R (Itw K a xs.length) H1
theorem Zqn {a : Expr} {ta : TA} {p pos : Pos} (hg : Gl X "reversed") (hm : X.mg "reversed" = none) (ha : PA X [a] ta) (hs : starEach [a] X.env = [(false, eval a X.env)] := by rfl) :
  PI X tg (.Call (.Name "reversed" p) [a] [] pos) (iRevL X.K ta) := by
 intro pins s σ H R I h
 refine Call_ (Zej I hg hm boot_reversed (PyProof.Rows.callWith_type1 (thn (ha pos pins s σ H _ I h) fun us s1 ⟨vs, H1, I1, r1, q1⟩ => ?_) (by rw [hs]; rfl) rfl))
 obtain ⟨l1, xs, e, q1, q⟩ := q1
 subst e
 cases r1 with
 | cons r rr =>
  cases rr
  cases r
  obtain ⟨its, rv, pl, hz⟩ := I1.list q1
  have hlen := rv.length
  refine call_reversed_list pl.isList ?_
  have I2 : Inv X pins σ H1 { s1 with heap := s1.heap.push (revObj l1 ((its.toArray.size : Int) - 1)) } := I1.kept (t' := s1.toks) fun b o e => Heap.get?_push_of_some _ e
  have z1 : (s1.heap.push (revObj l1 ((its.toArray.size : Int) - 1))).IsRevIter s1.heap.objs.size l1 ((its.toArray.size : Int) - 1) := ⟨_, Heap.get?_push_size _ rfl, rfl, rfl⟩
  refine wpAny_pyIter_revIter z1 ⟨_, [s1.heap.objs.size], _, _, H1, rfl, I2, Zo0 l1 _ xs.length, ⟨Nat.zero_le _, ?_⟩, fun b hb => ?_, q⟩
  ·have z2 : ((its.toArray.size : Nat) : Int) = (xs.length : Int) := by rw [List.size_toArray, hlen]
   have e : (xs.length : Int) - 1 - ((0 : Nat) : Int) = (its.toArray.size : Int) - 1 := by omega
   rw [e]; exact z1
  ·have e : b = s1.heap.objs.size := by simpa using hb
   subst e
   exact I1.fpOk (Nat.le_refl _) (I1.hok.fresh (Nat.le_refl _))
theorem Zmv {a : Expr} {ta : TA} {p pos : Pos} (hg : Gl X "reversed") (hm : X.mg "reversed" = none) (ha : IPA X [a] ta) (hs : starEach [a] X.env = [(false, eval a X.env)] := by rfl) :
  IPI X tg (.Call (.Name "reversed" p) [a] [] pos) (iRevL X.K ta) := by
 rw [Zal]; rw [Zam] at ha; exact Zqn hg hm ha hs
end
section
variable {K : PySem.W.Frag} {G G' H H' : Hp} {s : DS} {σ : St}
theorem JOk.revL {a : Addr} {xs : List V} {ds : List PyData} (h : G a = some (.lst xs)) (D : DWs K G ds xs) : JOk K (Itw K a xs.length) G (fun _ => True) ds.reverse := by
 intro G1 s σ H i e _ r
 have hs : SqL K H a xs := SqL.of (r.sub _ _ (e _ _ h))
 have hl := D.length
 refine ⟨fun d hd => ?_, fun hl' => ⟨by rw [List.length_reverse] at hl'; omega, xs, hs, rfl⟩⟩
 have hi : i < ds.length := by
  have := (List.getElem?_eq_some_iff.mp hd).1
  simpa using this
 rw [List.getElem?_reverse hi] at hd
 obtain ⟨x, h1, h2⟩ := D.get' hd
 rw [hl] at h1
 refine ⟨⟨xs, x, hs, rfl, by omega, h1⟩, fun y H' hy => ?_⟩
 obtain ⟨rfl, hy⟩ := hy
 have := hy xs hs
 rw [h1] at this; cases this
 exact ⟨G1, Same.refl _, r, h2.same e⟩
noncomputable def dItRvL (d : DTA) : DTI := fun s k => d s fun vs s1 => match vs with | [.d (.list ds)] => k (ds.reverse, noP) s1 | _ => False
theorem Zr2 {t : TA} {d : DTA} (h : RA K t d) : RI K (iRevL K t) (dItRvL d) := by
 refine ⟨fun s Q Q' z y => h.mo _ _ _ (fun v s1 y => ?_) y, fun G s σ H R r y => h.ok G s σ H _ r (h.mo _ _ _ (fun v s1 y G1 H1 x e1 r1 v1 => ?_) y)⟩
 ·split at y
  ·exact z _ _ y
  ·exact y.elim
 ·split at y
  ·obtain ⟨u, rfl, v2⟩ := v1.one
   obtain ⟨a, xs, rfl, h1, h2⟩ := Zj0 v2
   exact ⟨a, xs, rfl, SqL.of (r1.sub _ _ h1), y G1 H1 _ e1 r1 (JOk.revL h1 h2)⟩
  ·exact y.elim
end
end L2
namespace L2
open PySem PySem.Spec PyProof.Rows
section
variable {prog : Program} {w : World} {A : Around} {E : Value → Shared → Prop} {s : Shared}
theorem Zhn {h : Heap} {a : Addr} {vs : List Value} {n : Nat} (ho : h.get? a = some (seqObj "list" vs.toArray n)) (out : Array Value) : ∃ e, (sortedHeap h a vs out).get? a = some (seqObj "list" out e) := by
 unfold sortedHeap
 have h1 := get?_update_seq ho (fun _ => #[])
 exact ⟨_, get?_update_seq (Heap.get?_push_of_some _ (Heap.get?_push_of_some _ h1)) (fun _ => out)⟩
theorem Zg7 {h : Heap} {a b : Addr} {o : Obj} {vs : List Value} {out : Array Value} (nb : b ≠ a) (hb : h.get? b = some o) : (sortedHeap h a vs out).get? b = some o := by
 unfold sortedHeap
 exact (Heap.SameBut.update ..).extBut _ _ nb (Heap.get?_push_of_some _ (Heap.get?_push_of_some _ ((Heap.SameBut.update ..).extBut _ _ nb hb)))
theorem Ziy {l : Addr} {vs : List Value} {ns : List Int} {Q : Value → Shared → Prop} (hl : IsTup s.heap l vs.toArray) (hi : IntsAre vs ns) (hlen : vs.length < 64)
  (h : ∀ (h1 : Heap) (out : Array Value) (ns' : List Int), (∀ b o, s.heap.get? b = some o → h1.get? b = some o) → IntsAre out.toList ns' → ns'.Perm ns → ns'.Pairwise (· ≤ ·) → Q (.ref h1.objs.size) { s with heap := sortedHeap (h1.push (seqObj "list" vs.toArray 0)) h1.objs.size vs out }) :
  wpAny (model prog w) A (call (.builtin "sorted") [.ref l]) Q E s := by
 have hsl : sizeLine = 16777216 := by decide
 obtain ⟨o, g1, g2, n, g3⟩ := hl
 refine Calls.call_function_entry kind_sorted plain_sorted entry_sorted (args_sorted1 _) ?_
 unfold Builtin.«sorted»
 refine wpAny_bind (m := checkCount "sorted" 1 1 _) (wpAny_pure ?_)
 refine wpAny_bind (wpAny_collect_seq l (.inr rfl) g1 g2 g3 (fun h1 k1 => ?_) (by rw [List.size_toArray]; omega))
 rw [List.toList_toArray]
 refine wpAny_bind (wpAny_newList ?_ (by omega))
 have hoL : (h1.push (seqObj "list" vs.toArray 0)).get? h1.objs.size = some (seqObj "list" vs.toArray 0) := Heap.get?_push_size _ rfl
 show wpAny _ _ _ _ _ { s with heap := h1.push (seqObj "list" vs.toArray 0) }
 refine wpAny_bind (wpAny_holding (wpAny_call_entry slot_list_sort ⟨_, hoL, rfl⟩ entry_list_sort (list_sort_tree hoL hi hlen fun out ns' q1 q2 q3 => ⟨_, rfl, ?_⟩) (args_list_sort _)))
 exact wpAny_pure ⟨_, rfl, h h1 out ns' k1 q1 q2 q3⟩
end
section
variable {X : Cx} {K : W.Frag} {G : Hp}
theorem Zgm : CallR X (.builtin "sorted") (fun xs H Q => ∃ (a : Addr) (ns : List Int), xs = [.ref a] ∧ SqT X.K H a (ns.map V.int) ∧ ns.length < 64 ∧ ∀ (p : Addr) (ns' : List Int), H p = none → ns'.Perm ns → ns'.Pairwise (· ≤ ·) → Q (.ref p) (upd H p (.lst (ns'.map V.int)))) := by
 rintro pins s σ H xs us Q I r ⟨a, ns, rfl, h, hl, q⟩
 obtain ⟨u, rfl, rx⟩ := vals1 r
 cases (show u = Value.ref a from rx)
 obtain ⟨its, rv, p, hz⟩ := I.tuple h
 have lv := rv.length
 rw [lmp] at lv
 refine Ziy p (Zex rv) (by omega) fun h1 out ns' k1 q1 q2 q3 => ?_
 have I1 : Inv X pins σ H { s with heap := h1 } := I.kept (t' := s.toks) k1
 have hf : H h1.objs.size = none := I1.hok.fresh (Nat.le_refl _)
 have hoL : (h1.push (seqObj "list" its.toArray 0)).get? h1.objs.size = some (seqObj "list" its.toArray 0) := Heap.get?_push_size _ rfl
 obtain ⟨e, he⟩ := Zhn hoL out
 refine ⟨.ref h1.objs.size, upd H h1.objs.size (.lst (ns'.map V.int)), I1.laid (t' := s.toks) (fun b o hb => Zg7 (Nat.ne_of_lt (Heap.lt_size hb)) (Heap.get?_push_of_some _ hb)) (Nat.le_refl _) ?_, rfl, q _ _ hf q2 q3⟩
 refine ⟨by rw [lmp, q2.length_eq]; exact Nat.le_trans (Nat.le_of_lt hl) (by decide), out.toList, e, Zfo q1, by simpa using he⟩
noncomputable def gSortT (o : Bool) : Val → DTE := fun v s k => match rdT v with
 | some ds => (match uIs ds with | some ns => ns.length < 64 ∧ ∀ ns' : List Int, ns'.Perm ns → ns'.Pairwise (· ≤ ·) → nl o (ns'.map .int) s k | none => False)
 | none => False
theorem Zp1 (o : Bool) : RC K (fun xs H Q => ∃ (a : Addr) (ns : List Int), xs = [.ref a] ∧ SqT K H a (ns.map V.int) ∧ ns.length < 64 ∧ ∀ (p : Addr) (ns' : List Int), H p = none → ns'.Perm ns → ns'.Pairwise (· ≤ ·) → Q (.ref p) (upd H p (.lst (ns'.map V.int)))) (f1 (gSortT o)) := by
 refine rc1 (fun v s Q Q' h q => ?_) (fun G s σ H x v Q r v1 h => ?_)
 ·unfold gSortT at q ⊢; split at q
  ·split at q
   ·exact ⟨q.1, fun ns' a b => Zg3 h (q.2 ns' a b)⟩
   ·exact q.elim
  ·exact q.elim
 ·unfold gSortT at h; split at h
  ·next ds e =>
   split at h
   ·next ns z =>
    obtain ⟨a, xs, rfl, h1, h2⟩ := r.rdT v1 e
    rw [Zgi z] at h2
    rw [h2.ints_inv] at h1
    exact ⟨a, ns, rfl, h1, h.1, fun p ns' hp a b => r.nl (DWs.ints ns') (h.2 ns' a b) p hp⟩
   ·exact h.elim
  ·exact h.elim
end
end L2
local macro_rules
 | `(tactic| simp! only [$xs:simpLemma,*]) => `(tactic| ((try dsimp only [L2.dAsg, L2.dLst, L2.dCons, L2.dNil, L2.dTup, L2.unD, L2.nl, L2.startD, L2.tgN, L2.tgTup, L2.tgCons, L2.tgNil, L2.DS.put, L2.DS.set, L2.dVar, L2.dC, L2.dRet, L2.dRetN, L2.dIfE, L2.dTru, L2.truD, L2.rdA, L2.rdT, L2.rdL, L2.rdM, L2.rdD, L2.dUn, L2.fU, L2.dOp, L2.fI0, L2.fB0, L2.fI, L2.fEq, L2.fEqD, L2.fInD, L2.fCatT, L2.fCat, L2.fRep, L2.fIxL, L2.fIxT, L2.dYes, L2.dNext, L2.dTest, L2.dAnd, L2.dOr, L2.dNot, L2.dAndV, L2.dOrV, L2.dNotV, L2.dCB, L2.f1, L2.f2, L2.gLen, L2.gTupOf, L2.gListOf, L2.gSum, L2.gAll, L2.gRepr, L2.fMax2, L2.fMin2, L2.fIsi, L2.gInt1, L2.dDrop, L2.dItL, L2.dItT, L2.dRng1, L2.dRng2, L2.dZip, L2.dEnum, L2.seqD, L2.dPar, L2.dSl, L2.dNoP, L2.dP, L2.fSlT, L2.fSlL, L2.dRev, L2.dEmit, L2.dCall, L2.dCallK, L2.noP, L2.captD, L2.ext, List.map_cons, List.map_nil, List.cons_append, List.nil_append, List.length_cons, List.length_nil, List.replicate_succ, List.replicate_zero, List.set_cons_zero, List.set_cons_succ, List.getElem?_cons_zero, List.getElem?_cons_succ, List.getElem?_nil, Option.map_some, Option.bind_some, Option.bind_none, Option.join_some, Option.join_none, Nat.reduceSub, Nat.reduceAdd, Nat.reduceLeDiff, Bool.false_eq_true, if_true, if_false, reduceIte, ite_true, ite_false, true_and, and_true, Bool.not_true, Bool.not_false, L2.OW.put_same, L2.OW.put_put, L2.dComp, L2.dApp, L2.dFrz, L2.gMax, L2.gMin, L2.dCallD, L2.gaQ, L2.dChain, L2.isNoneD, L2.fIsN, L2.tyN, L2.rdK, L2.dDGet, L2.dLoop, L2.dFrzD, L2.dDNew, L2.dBreak, L2.gSortI, L2.gLenD, L2.fRepT, L2.dIdx, L2.dExt, L2.dDisp1, L2.dDPut, L2.dItRv, L2.dTupRev, L2.dLstRng, L2.dDictOf, L2.dEz, L2.dDComp, L2.dCont, L2.dAugI, L2.dFor, L2.dWhile, L2.Zkj, L2.Zpr, L2.Zps, L2.iteTT, L2.iteFF, L2.Zpn, L2.Zpm, L2.unK_kvK, decide_true, $xs,*]); (try simp only [L2.dAsg, L2.dLst, L2.dCons, L2.dNil, L2.dTup, L2.unD, L2.nl, L2.startD, L2.tgN, L2.tgTup, L2.tgCons, L2.tgNil, L2.DS.put, L2.DS.set, L2.dVar, L2.dC, L2.dRet, L2.dRetN, L2.dIfE, L2.dTru, L2.truD, L2.rdA, L2.rdT, L2.rdL, L2.rdM, L2.rdD, L2.dUn, L2.fU, L2.dOp, L2.fI0, L2.fB0, L2.fI, L2.fEq, L2.fEqD, L2.fInD, L2.fCatT, L2.fCat, L2.fRep, L2.fIxL, L2.fIxT, L2.dYes, L2.dNext, L2.dTest, L2.dAnd, L2.dOr, L2.dNot, L2.dAndV, L2.dOrV, L2.dNotV, L2.dCB, L2.f1, L2.f2, L2.gLen, L2.gTupOf, L2.gListOf, L2.gSum, L2.gAll, L2.gRepr, L2.fMax2, L2.fMin2, L2.fIsi, L2.gInt1, L2.dDrop, L2.dItL, L2.dItT, L2.dRng1, L2.dRng2, L2.dZip, L2.dEnum, L2.seqD, L2.dPar, L2.dSl, L2.dNoP, L2.dP, L2.fSlT, L2.fSlL, L2.dRev, L2.dEmit, L2.dCall, L2.dCallK, L2.noP, L2.captD, L2.ext, List.map_cons, List.map_nil, List.cons_append, List.nil_append, List.length_cons, List.length_nil, List.replicate_succ, List.replicate_zero, List.set_cons_zero, List.set_cons_succ, List.getElem?_cons_zero, List.getElem?_cons_succ, List.getElem?_nil, Option.map_some, Option.bind_some, Option.bind_none, Option.join_some, Option.join_none, Nat.reduceSub, Nat.reduceAdd, Nat.reduceLeDiff, Bool.false_eq_true, if_true, if_false, reduceIte, ite_true, ite_false, true_and, and_true, Bool.not_true, Bool.not_false, L2.OW.put_same, L2.OW.put_put, L2.dComp, L2.dApp, L2.dFrz, L2.gMax, L2.gMin, L2.dCallD, L2.gaQ, L2.dChain, L2.isNoneD, L2.fIsN, L2.tyN, L2.rdK, L2.dDGet, L2.dLoop, L2.dFrzD, L2.dDNew, L2.dBreak, L2.gSortI, L2.gLenD, L2.fRepT, L2.dIdx, L2.dExt, L2.dDisp1, L2.dDPut, L2.dItRv, L2.dTupRev, L2.dLstRng, L2.dDictOf, L2.dEz, L2.dDComp, L2.dCont, L2.dAugI, L2.dFor, L2.dWhile, L2.Zkj, L2.Zpr, L2.Zps, L2.iteTT, L2.iteFF, L2.Zpn, L2.Zpm, L2.unK_kvK, decide_true, $xs,*]); (try ((with_reducible refine L2.Zn2 ?_); (try simp! only [$xs,*])))))
namespace Mine
open PySem PySem.Spec PyProof.Rows L2
noncomputable def top (i : Nat) : Stmt := PySem.Challenge.pw_bundleclocks_k40_what_sets_are_worth.main.body.getD i (.Pass ⟨0, 0, 0, 0⟩)
noncomputable abbrev sIsWithin : Stmt := top 1
noncomputable abbrev sWithin : Stmt := top 2
noncomputable abbrev sLeftOf : Stmt := top 4
noncomputable abbrev sFitsOf : Stmt := top 5
noncomputable abbrev sLayerAbove : Stmt := top 6
noncomputable abbrev sBestTable : Stmt := top 7
noncomputable abbrev sSetWorth : Stmt := top 9
noncomputable abbrev sLawUrn : Stmt := top 11
noncomputable abbrev sLawDraw : Stmt := top 12
noncomputable abbrev sLawAmounts : Stmt := top 13
noncomputable abbrev sLawBundle : Stmt := top 14
noncomputable abbrev sLawIsIn : Stmt := top 15
noncomputable abbrev sLawAllWithin : Stmt := top 16
noncomputable abbrev sLawBids : Stmt := top 17
noncomputable abbrev sLawTable : Stmt := top 18
noncomputable abbrev sLawSets : Stmt := top 19
noncomputable abbrev sLawSetWorths : Stmt := top 20
noncomputable abbrev sLawLight : Stmt := top 21
noncomputable abbrev sLaw : Stmt := top 22
structure Txt (K : PySem.W.Frag) (mg : Str → Option Value) : Prop where
 f_is_within : ∃ f fd, Fun K "is_within" "is_within" sIsWithin f fd ∧ mg "is_within" = some (.ref f)
 f_within : ∃ f fd, Fun K "within" "within" sWithin f fd ∧ mg "within" = some (.ref f)
 f_left_of : ∃ f fd, Fun K "left_of" "left_of" sLeftOf f fd ∧ mg "left_of" = some (.ref f)
 f_fits_of : ∃ f fd, Fun K "fits_of" "fits_of" sFitsOf f fd ∧ mg "fits_of" = some (.ref f)
 f_layer_above : ∃ f fd, Fun K "layer_above" "layer_above" sLayerAbove f fd ∧ mg "layer_above" = some (.ref f)
 f_best_table : ∃ f fd, Fun K "best_table" "best_table" sBestTable f fd ∧ mg "best_table" = some (.ref f)
 f_set_worth : ∃ f fd, Fun K "set_worth" "set_worth" sSetWorth f fd ∧ mg "set_worth" = some (.ref f)
 f_law_urn : ∃ f fd, Fun K "_law_urn" "_law_urn" sLawUrn f fd ∧ mg "_law_urn" = some (.ref f)
 f_law_draw : ∃ f fd, Fun K "_law_draw" "_law_draw" sLawDraw f fd ∧ mg "_law_draw" = some (.ref f)
 f_law_amounts : ∃ f fd, Fun K "_law_amounts" "_law_amounts" sLawAmounts f fd ∧ mg "_law_amounts" = some (.ref f)
 f_law_bundle : ∃ f fd, Fun K "_law_bundle" "_law_bundle" sLawBundle f fd ∧ mg "_law_bundle" = some (.ref f)
 f_law_is_in : ∃ f fd, Fun K "_law_is_in" "_law_is_in" sLawIsIn f fd ∧ mg "_law_is_in" = some (.ref f)
 f_law_all_within : ∃ f fd, Fun K "_law_all_within" "_law_all_within" sLawAllWithin f fd ∧ mg "_law_all_within" = some (.ref f)
 f_law_bids : ∃ f fd, Fun K "_law_bids" "_law_bids" sLawBids f fd ∧ mg "_law_bids" = some (.ref f)
 f_law_table : ∃ f fd, Fun K "_law_table" "_law_table" sLawTable f fd ∧ mg "_law_table" = some (.ref f)
 f_law_sets : ∃ f fd, Fun K "_law_sets" "_law_sets" sLawSets f fd ∧ mg "_law_sets" = some (.ref f)
 f_law_set_worths : ∃ f fd, Fun K "_law_set_worths" "_law_set_worths" sLawSetWorths f fd ∧ mg "_law_set_worths" = some (.ref f)
 f_law_light : ∃ f fd, Fun K "_law_light" "_law_light" sLawLight f fd ∧ mg "_law_light" = some (.ref f)
 f_law : ∃ f fd, Fun K "law" "law" sLaw f fd ∧ mg "law" = some (.ref f)
 z_abs : mg "abs" = none
 z_all : mg "all" = none
 z_enumerate : mg "enumerate" = none
 z_int : mg "int" = none
 z_len : mg "len" = none
 z_max : mg "max" = none
 z_min : mg "min" = none
 z_range : mg "range" = none
 z_repr : mg "repr" = none
 z_reversed : mg "reversed" = none
 z_sorted : mg "sorted" = none
 z_sum : mg "sum" = none
 z_tuple : mg "tuple" = none
 z_zip : mg "zip" = none
theorem Ziu : FnScope ["one", "other"] ["one", "other"] (defScope sIsWithin) := ⟨rfl, rfl, rfl, by decide +kernel, rfl, by decide +kernel, by decide +kernel⟩
theorem Zhr : BindsAll "is_within" sIsWithin ["one", "other"] := fun _ _ _ _ _ _ us hl => by
 obtain ⟨_, _, rfl⟩ := L2.lenE2 hl
 rfl
theorem Zeo : FnScope ["amounts", "heads", "amount"] ["amounts"] (defScope sWithin) := ⟨rfl, rfl, rfl, by decide +kernel, rfl, by decide +kernel, by decide +kernel⟩
theorem Zhv : BindsAll "within" sWithin ["amounts"] := fun _ _ _ _ _ _ us hl => by
 obtain ⟨_, rfl⟩ := L2.lenE1 hl
 rfl
theorem Zm5 : FnScope ["whole", "bundle"] ["whole", "bundle"] (defScope sLeftOf) := ⟨rfl, rfl, rfl, by decide +kernel, rfl, by decide +kernel, by decide +kernel⟩
theorem Zla : BindsAll "left_of" sLeftOf ["whole", "bundle"] := fun _ _ _ _ _ _ us hl => by
 obtain ⟨_, _, rfl⟩ := L2.lenE2 hl
 rfl
theorem Zey : FnScope ["amounts", "row", "bundles", "places"] ["amounts", "row"] (defScope sFitsOf) := ⟨rfl, rfl, rfl, by decide +kernel, rfl, by decide +kernel, by decide +kernel⟩
theorem Zl8 : BindsAll "fits_of" sFitsOf ["amounts", "row"] := fun _ _ _ _ _ _ us hl => by
 obtain ⟨_, _, rfl⟩ := L2.lenE2 hl
 rfl
theorem Zg5 : FnScope ["fits", "lower"] ["fits", "lower"] (defScope sLayerAbove) := ⟨rfl, rfl, rfl, by decide +kernel, rfl, by decide +kernel, by decide +kernel⟩
theorem Zfs : BindsAll "layer_above" sLayerAbove ["fits", "lower"] := fun _ _ _ _ _ _ us hl => by
 obtain ⟨_, _, rfl⟩ := L2.lenE2 hl
 rfl
theorem Zdh : FnScope ["amounts", "bids", "layers", "row"] ["amounts", "bids"] (defScope sBestTable) := ⟨rfl, rfl, rfl, by decide +kernel, rfl, by decide +kernel, by decide +kernel⟩
theorem Zgk : BindsAll "best_table" sBestTable ["amounts", "bids"] := fun _ _ _ _ _ _ us hl => by
 obtain ⟨_, _, rfl⟩ := L2.lenE2 hl
 rfl
theorem Ziw : FnScope ["amounts", "bids", "some"] ["amounts", "bids", "some"] (defScope sSetWorth) := ⟨rfl, rfl, rfl, by decide +kernel, rfl, by decide +kernel, by decide +kernel⟩
theorem Zdo : BindsAll "set_worth" sSetWorth ["amounts", "bids", "some"] := fun _ _ _ _ _ _ us hl => by
 obtain ⟨_, _, _, rfl⟩ := L2.lenE3 hl
 rfl
theorem Zd7 : FnScope ["_law_script", "_law_spot", "_law_cell", "_law_great"] ["_law_script", "_law_spot"] (defScope sLawUrn) := ⟨rfl, rfl, rfl, by decide +kernel, rfl, by decide +kernel, by decide +kernel⟩
theorem Zl9 : BindsAll "_law_urn" sLawUrn ["_law_script", "_law_spot"] := fun _ _ _ _ _ _ us hl => by
 obtain ⟨_, _, rfl⟩ := L2.lenE2 hl
 rfl
theorem Zci : FnScope ["_law_urn_here", "_law_wide", "_law_digit", "_law_primes", "_law_step", "_law_base", "_law_mixed"] ["_law_urn_here", "_law_wide"] (defScope sLawDraw) := ⟨rfl, rfl, rfl, by decide +kernel, rfl, by decide +kernel, by decide +kernel⟩
theorem Zb5 : BindsAll "_law_draw" sLawDraw ["_law_urn_here", "_law_wide"] := fun _ _ _ _ _ _ us hl => by
 obtain ⟨_, _, rfl⟩ := L2.lenE2 hl
 rfl
theorem Zg4 : FnScope ["_law_urn_here"] ["_law_urn_here"] (defScope sLawAmounts) := ⟨rfl, rfl, rfl, by decide +kernel, rfl, by decide +kernel, by decide +kernel⟩
theorem Zfr : BindsAll "_law_amounts" sLawAmounts ["_law_urn_here"] := fun _ _ _ _ _ _ us hl => by
 obtain ⟨_, rfl⟩ := L2.lenE1 hl
 rfl
theorem Zcm : FnScope ["_law_urn_here", "_law_amounts_here", "_law_kind", "_law_spot", "_law_found"] ["_law_urn_here", "_law_amounts_here"] (defScope sLawBundle) := ⟨rfl, rfl, rfl, by decide +kernel, rfl, by decide +kernel, by decide +kernel⟩
theorem Zgl : BindsAll "_law_bundle" sLawBundle ["_law_urn_here", "_law_amounts_here"] := fun _ _ _ _ _ _ us hl => by
 obtain ⟨_, _, rfl⟩ := L2.lenE2 hl
 rfl
theorem Ziv : FnScope ["_law_one", "_law_other"] ["_law_one", "_law_other"] (defScope sLawIsIn) := ⟨rfl, rfl, rfl, by decide +kernel, rfl, by decide +kernel, by decide +kernel⟩
theorem Zhs : BindsAll "_law_is_in" sLawIsIn ["_law_one", "_law_other"] := fun _ _ _ _ _ _ us hl => by
 obtain ⟨_, _, rfl⟩ := L2.lenE2 hl
 rfl
theorem Zbe : FnScope ["_law_amounts_here", "_law_found", "_law_many", "_law_longer", "_law_row"] ["_law_amounts_here"] (defScope sLawAllWithin) := ⟨rfl, rfl, rfl, by decide +kernel, rfl, by decide +kernel, by decide +kernel⟩
theorem Zd0 : BindsAll "_law_all_within" sLawAllWithin ["_law_amounts_here"] := fun _ _ _ _ _ _ us hl => by
 obtain ⟨_, rfl⟩ := L2.lenE1 hl
 rfl
theorem Zbq : FnScope ["_law_urn_here", "_law_amounts_here", "_law_most", "_law_found", "_law_wide", "_law_k", "_law_size", "_law_row", "_law_step", "_law_bundle_here"] ["_law_urn_here", "_law_amounts_here", "_law_most"] (defScope sLawBids) := ⟨rfl, rfl, rfl, by decide +kernel, rfl, by decide +kernel, by decide +kernel⟩
theorem Zj3 : BindsAll "_law_bids" sLawBids ["_law_urn_here", "_law_amounts_here", "_law_most"] := fun _ _ _ _ _ _ us hl => by
 obtain ⟨_, _, _, rfl⟩ := L2.lenE3 hl
 rfl
theorem Zbb : FnScope ["_law_amounts_here", "_law_bids_here", "_law_some", "_law_last", "_law_left", "_law_found", "_law_row", "_law_here", "_law_sums", "_law_bundle_here", "_law_coins"] ["_law_amounts_here", "_law_bids_here"] (defScope sLawTable) := ⟨rfl, rfl, rfl, by decide +kernel, rfl, by decide +kernel, by decide +kernel⟩
theorem Zhu : BindsAll "_law_table" sLawTable ["_law_amounts_here", "_law_bids_here"] := fun _ _ _ _ _ _ us hl => by
 obtain ⟨_, _, rfl⟩ := L2.lenE2 hl
 rfl
theorem Zdi : FnScope ["_law_many", "_law_found", "_law_k"] ["_law_many"] (defScope sLawSets) := ⟨rfl, rfl, rfl, by decide +kernel, rfl, by decide +kernel, by decide +kernel⟩
theorem Ze4 : BindsAll "_law_sets" sLawSets ["_law_many"] := fun _ _ _ _ _ _ us hl => by
 obtain ⟨_, rfl⟩ := L2.lenE1 hl
 rfl
theorem Zc2 : FnScope ["_law_amounts_here", "_law_bids_here", "_law_found", "_law_some", "_law_rows"] ["_law_amounts_here", "_law_bids_here"] (defScope sLawSetWorths) := ⟨rfl, rfl, rfl, by decide +kernel, rfl, by decide +kernel, by decide +kernel⟩
theorem Zer : BindsAll "_law_set_worths" sLawSetWorths ["_law_amounts_here", "_law_bids_here"] := fun _ _ _ _ _ _ us hl => by
 obtain ⟨_, _, rfl⟩ := L2.lenE2 hl
 rfl
theorem Zf0 : FnScope ["_law_amounts_here", "_law_bids_here", "_law_size"] ["_law_amounts_here", "_law_bids_here"] (defScope sLawLight) := ⟨rfl, rfl, rfl, by decide +kernel, rfl, by decide +kernel, by decide +kernel⟩
theorem Zht : BindsAll "_law_light" sLawLight ["_law_amounts_here", "_law_bids_here"] := fun _ _ _ _ _ _ us hl => by
 obtain ⟨_, _, rfl⟩ := L2.lenE2 hl
 rfl
theorem Zd6 : FnScope ["_law_script", "_law_spot", "_law_urn_here", "_law_amounts_here", "_law_bids_here", "_law_sets_here", "_law_due", "_law_places", "_law_place", "_law_told", "_law_one", "_law_few"] ["_law_script"] (defScope sLaw) := ⟨rfl, rfl, rfl, by decide +kernel, rfl, by decide +kernel, by decide +kernel⟩
section
variable {P : Program} {w : World} {K : PySem.W.Frag} {mg : Str → Option Value} {base : Heap}
theorem mk0 {i j : Int} (hi0 : 0 ≤ i) (hi : i < 2 ^ 200) (hj0 : 0 ≤ j) (hj : j < 2 ^ 200) : IntMulOk i j := Zkn (n := 200) (by decide) (Zfk hi0 hi) (Zfk hj0 hj)
theorem Zrl (T : Txt K mg) : Dn P w K mg base 1 "_law_urn" sLawUrn ["_law_script", "_law_spot"] (spUrn K) := by
 refine Dn.of T.f_law_urn Zd7 (fun vs H Q E h => ?_) (fun f cdv A outer s H vs Q E hr h => ?_)
 ·obtain ⟨a, ns, k, rfl, _⟩ := h; rfl
 obtain ⟨a, ns, k, rfl, hS, h0, h1, q⟩ := h
 refine ⟨_, IPSs.get (Za4 (Zaa (i := 2) Zd7.nd rfl (Or.inl rfl) Za5)
  (Za4 (Zcp (Zbs Zqe (i_pv 1) (Zad Zb4 rfl T.z_len boot_len (Za0 (i_pv 0) Za2)) (nomark _)) (Za8 (Zaa (i := 2) Zd7.nd rfl (Or.inl rfl) (Zbd Zbv (i_pv 0) (i_pv 1) (fun _ _ => rfl)))) Zb8)
  (Za4 (Zaa (i := 3) Zd7.nd rfl (Or.inl rfl) (Zad Zo8 rfl T.z_abs boot_abs (Za0 (i_pv 2) Za2)))
  (Za4 (Zcp (Zbs Zqe (i_pv 3) (Za9 Zjw Za5 Za5) (nomark _)) (Za8 (Zaa (i := 3) Zd7.nd rfl (Or.inl rfl) Za5)) Zb8)
  (Za8 (Zb2 (Zbl (Za0 (i_pv 3) (Za0 (Za9 Zcb (Za9 Zcb (Za9 Zcb (Za9 Zfm (i_pv 2) Za5) (Za9 Zcq (Za9 Zcq Za5 (i_pv 1)) (i_pv 1))) (Za9 Zcq Za5 (i_pv 1))) Za5) (Za0 Za5 Za2)))))))))), ?_⟩
 have fin : ∀ (g c : Int) (p : Addr), 0 ≤ g → H p = none → Q (.ref p) (upd H p (.lst [.int g, .int (c % 1000000000000000003 + 97 * k * k + 31 * k + 1), .int 0])) := fun g c p hg hp => by
  refine q p _ (Zbt hp _) hp ⟨_, _, _, Zax, hg, ?_, ?_, by decide, by decide⟩
  ·have e1 := Int.emod_nonneg c (show (1000000000000000003 : Int) ≠ 0 by decide)
   have e2 : 0 ≤ 97 * k * k := Int.mul_nonneg (by omega) h0
   omega
  ·have e1 := Int.emod_lt_of_pos c (show (0 : Int) < 1000000000000000003 by decide)
   have e2 : 97 * k * k ≤ 97 * 100 * 100 := Int.mul_le_mul (by omega) h1 h0 (by decide)
   omega
 have k2 : 97 * k < 2 ^ 200 := by omega
 have m1 : IntMulOk 97 k := mk0 (by decide) (by decide) h0 (by omega)
 have m2 : IntMulOk (97 * k) k := mk0 (by omega) k2 h0 (by omega)
 have m3 : IntMulOk 31 k := mk0 (by decide) (by decide) h0 (by omega)
 refine ⟨_, rfl, _, rfl, a, _, rfl, .inl hS, _, _, rfl, rfl, _, rfl, ?_⟩
 refine ite2 (fun c => ?_) (fun c => ?_)
 ·have c' : k < (((ns.map V.int).length : Nat) : Int) := of_decide_eq_true c
  rw [lmp] at c'
  have hk : k.toNat < ns.length := by omega
  have hv : atI (ns.map V.int) k = some (.int ns[k.toNat]) := by
   have z := Zcv (xs := ns.map V.int) (j := k.toNat) (v := .int ns[k.toNat]) (by rw [List.getElem?_map, gEq hk]; rfl)
   rwa [show ((k.toNat : Nat) : Int) = k by omega] at z
  refine ⟨_, rfl, _, rfl, a, _, _, _, rfl, rfl, hS, hv, ?_⟩
  refine ⟨_, rfl, _, rfl, ?_⟩
  refine ⟨_, rfl, _, _, rfl, rfl, ⟨by decide, by decide +kernel⟩, _, _, rfl, rfl, _, rfl, ?_⟩
  refine ite2 (fun c2 => ?_) (fun c2 => ?_)
  ·refine ⟨_, rfl, _, rfl, _, _, rfl, rfl, (by show (0 : Int) < 1000000000000000003; decide), _, rfl, _, _, rfl, rfl, m1, _, rfl, _, _, rfl, rfl, m2, _, _, rfl, rfl, _, rfl, _, _, rfl, rfl, m3, _, _, rfl, rfl, _, _, rfl, rfl, (L2.sz3), fun p hp => ?_⟩
   exact fin 0 _ p (by decide) hp
  ·refine ⟨_, rfl, _, rfl, _, _, rfl, rfl, (by show (0 : Int) < 1000000000000000003; decide), _, rfl, _, _, rfl, rfl, m1, _, rfl, _, _, rfl, rfl, m2, _, _, rfl, rfl, _, rfl, _, _, rfl, rfl, m3, _, _, rfl, rfl, _, _, rfl, rfl, (L2.sz3), fun p hp => ?_⟩
   exact fin _ _ p (by split <;> omega) hp
 ·refine ⟨_, rfl, _, rfl, ?_⟩
  refine ⟨_, rfl, _, _, rfl, rfl, ⟨by decide, by decide +kernel⟩, _, _, rfl, rfl, _, rfl, ?_⟩
  refine ite2 (fun c2 => ?_) (fun c2 => ?_)
  ·refine ⟨_, rfl, _, rfl, _, _, rfl, rfl, (by show (0 : Int) < 1000000000000000003; decide), _, rfl, _, _, rfl, rfl, m1, _, rfl, _, _, rfl, rfl, m2, _, _, rfl, rfl, _, rfl, _, _, rfl, rfl, m3, _, _, rfl, rfl, _, _, rfl, rfl, (L2.sz3), fun p hp => ?_⟩
   exact fin 0 _ p (by decide) hp
  ·refine ⟨_, rfl, _, rfl, _, _, rfl, rfl, (by show (0 : Int) < 1000000000000000003; decide), _, rfl, _, _, rfl, rfl, m1, _, rfl, _, _, rfl, rfl, m2, _, _, rfl, rfl, _, rfl, _, _, rfl, rfl, m3, _, _, rfl, rfl, _, _, rfl, rfl, (L2.sz3), fun p hp => ?_⟩
   exact fin _ _ p (by split <;> omega) hp
theorem Zq5 (T : Txt K mg) : Dn P w K mg base 1 "_law_draw" sLawDraw ["_law_urn_here", "_law_wide"] spDraw := by
 refine Dn.of T.f_law_draw Zci (fun vs H Q E h => ?_) (fun f cdv A outer s H vs Q E hr h => ?_)
 ·obtain ⟨u, wd, m, rfl, _⟩ := h; rfl
 obtain ⟨u, wd, m, rfl, hU, hm, w0, w1, q⟩ := h
 obtain ⟨g, c, n, hu, g0, c0, c1, n0, n1⟩ := hU
 refine ⟨_, IPSs.get (Za4 (Zcp (Zbs Zrx (Zbd Zbv (i_pv 0) Za5 (fun _ _ => rfl)) Za5 (nomark _)) (Za4 (Zaa (i := 2) Zci.nd rfl (Or.inl rfl) (Za9 Zfm (Zbd Zbv (i_pv 0) Za5 (fun _ _ => rfl)) (i_pv 1)))
  (Za4 (Zgx (Za9 Zjv (Zbd Zbv (i_pv 0) Za5 (fun _ _ => rfl)) (i_pv 1)) (Zkf (i_pv 0) Za5 Zkz))
  (Za8 (Zb2 (i_pv 2))))) Zb8)
  (Za4 (Zaa (i := 3) Zci.nd rfl (Or.inl rfl) (Zbw (Za0 Za5 (Za0 Za5 (Za0 Za5 (Za0 Za5 (Za0 Za5 (Za0 Za5 (Za0 Za5 Za2)))))))))
  (Za4 (Zgx (Za9 Zcb (Zbd Zbv (i_pv 0) Za5 (fun _ _ => rfl)) Za5) (Zkf (i_pv 0) Za5 Zkz))
  (Za4 (Zaa (i := 4) Zci.nd rfl (Or.inl rfl) (Zbd Zbv (i_pv 0) Za5 (fun _ _ => rfl)))
  (Za4 (Zaa (i := 5) Zci.nd rfl (Or.inl rfl) (Za9 Zcb (Za9 Zcb (Za9 Zcq (Zbd Zbv (i_pv 0) Za5 (fun _ _ => rfl)) (Za9 Zcb (Za9 Zcq Za5 (i_pv 4)) Za5)) (Za9 Zcq (Za9 Zcq Za5 (i_pv 4)) (i_pv 4))) Za5))
  (Za4 (Zaa (i := 6) Zci.nd rfl (Or.inl rfl) (Za9 Zfm (Za9 Zjw (i_pv 5) Za5) (Zbd Zim (i_pv 3) (Za9 Zfm (i_pv 4) Za5) (fun _ _ => rfl))))
  (Za8 (Zb2 (Za9 Zfm (Za9 Zjv (Za9 Zfm (Za9 Zcq (i_pv 6) (Za9 Zcb (Za9 Zjv (i_pv 6) Za5) (i_pv 4))) (Zbd Zim (i_pv 3) (Za9 Zfm (Za9 Zcb (i_pv 4) Za5) Za5) (fun _ _ => rfl))) Za5) (i_pv 1)))))))))), ?_⟩
 refine ⟨_, rfl, u, _, _, _, rfl, rfl, SqL.of hu, rfl, _, _, rfl, rfl, _, rfl, ?_⟩
 refine ite2 (fun cg => ?_) (fun cg => ?_)
 ·refine ⟨_, rfl, u, _, _, _, rfl, rfl, SqL.of hu, rfl, _, rfl, _, _, rfl, rfl, w0, ?_⟩
  refine ⟨_, rfl, u, _, _, _, rfl, rfl, SqL.of hu, rfl, _, rfl, _, _, rfl, rfl, ⟨w0, w1⟩, _, rfl, u, _, _, _, rfl, rfl, hu, rfl, ?_⟩
  refine ⟨_, rfl, ?_⟩
  exact q _ _ (Int.emod_nonneg _ (by omega)) (Int.emod_lt_of_pos _ w0) (SB.upd u H _) ⟨_, _, _, Zax, Int.ediv_nonneg g0 (by omega), c0, c1, n0, by omega⟩
 ·refine ⟨(by show 7 ≤ sizeLine; decide), fun p hp => ?_⟩
  have pu : u ≠ p := fun z => by rw [z, hp] at hu; cases hu
  have hu1 : upd H p (.tup [V.int 2147483647, V.int 2147483629, V.int 2147483587, V.int 2147483579, V.int 2147483563, V.int 2147483549, V.int 2147483543]) u = some (.lst [.int g, .int c, .int n]) := by rw [Zah pu]; exact hu
  refine ⟨_, rfl, u, _, _, _, rfl, rfl, SqL.of hu1, rfl, _, _, rfl, rfl, _, rfl, u, _, _, _, rfl, rfl, hu1, rfl, ?_⟩
  obtain ⟨q1, e1, p1, p2⟩ := prime7 (n + 1)
  obtain ⟨q2, e2, p3, p4⟩ := prime7 (n + 1 + 3)
  generalize hH2 : upd (upd H p (.tup [V.int 2147483647, V.int 2147483629, V.int 2147483587, V.int 2147483579, V.int 2147483563, V.int 2147483549, V.int 2147483543])) u (.lst ([V.int g, V.int c, V.int n].set (Int.toNat 2) ((fun i j => V.int (i + j)) n 1))) = H2
  have hu2 : H2 u = some (.lst [.int g, .int c, .int (n + 1)]) := by rw [← hH2]; exact Zax
  have hp2 : H2 p = some (.tup [V.int 2147483647, V.int 2147483629, V.int 2147483587, V.int 2147483579, V.int 2147483563, V.int 2147483549, V.int 2147483543]) := by rw [← hH2, Zah (Ne.symm pu)]; exact Zax
  have hSB : SB u H H2 := fun b o nb e => by rw [← hH2, Zah nb, Zah (Zcg e hp)]; exact e
  have n9 : n + 1 ≤ 1000001 := by omega
  have b1 : 2 * (n + 1) + 1 ≤ 2000003 := by omega
  have b2 : c * (2 * (n + 1) + 1) ≤ 4000000000000000000 * 2000003 := Int.mul_le_mul c1 b1 (by omega) (by decide)
  have b2' : 0 ≤ c * (2 * (n + 1) + 1) := Int.mul_nonneg c0 (by omega)
  have b3 : 6007 * (n + 1) * (n + 1) ≤ 6007 * 1000001 * 1000001 := Int.mul_le_mul (by omega) n9 (by omega) (by decide)
  have b3' : 0 ≤ 6007 * (n + 1) * (n + 1) := Int.mul_nonneg (by omega) (by omega)
  refine ⟨_, rfl, u, _, _, _, rfl, rfl, SqL.of hu2, rfl, ?_⟩
  refine ⟨_, rfl, u, _, _, _, rfl, rfl, SqL.of hu2, rfl, _, rfl, _, _, rfl, rfl, mk0 (by decide) (by decide) (by omega) (by omega), _, _, rfl, rfl, _, _, rfl, rfl, mk0 c0 (by omega) (by omega) (by omega), _, rfl, _, _, rfl, rfl, mk0 (by decide) (by decide) (by omega) (by omega), _, rfl, _, _, rfl, rfl, mk0 (by omega) (by omega) (by omega) (by omega), _, _, rfl, rfl, _, _, rfl, rfl, ?_⟩
  have bs0 : 0 ≤ c * (2 * (n + 1) + 1) + 6007 * (n + 1) * (n + 1) + 53 := by omega
  have bs1 : c * (2 * (n + 1) + 1) + 6007 * (n + 1) * (n + 1) + 53 < 2 ^ 200 := by omega
  have pw : CPowB (c * (2 * (n + 1) + 1) + 6007 * (n + 1) * (n + 1) + 53) 3 := by
   refine ⟨by decide, ?_⟩
   have := L2.Zew (Zfk bs0 bs1)
   omega
  refine ⟨_, rfl, _, _, rfl, rfl, pw, _, rfl, _, rfl, _, _, rfl, rfl, (by show (0 : Int) < 7; decide), p, _, _, _, rfl, rfl, SqT.of hp2, e1, _, _, rfl, rfl, p1, ?_⟩
  obtain ⟨mx, hmx⟩ : ∃ mx, mx = (c * (2 * (n + 1) + 1) + 6007 * (n + 1) * (n + 1) + 53) ^ (3 : Int).toNat % q1 := ⟨_, rfl⟩
  have mx0 : 0 ≤ mx := by rw [hmx]; exact Int.emod_nonneg _ (by omega)
  have mx1 : mx < q1 := by rw [hmx]; exact Int.emod_lt_of_pos _ p1
  have d1 : mx / 8191 ≤ mx := Int.ediv_le_self _ mx0
  have d0 : 0 ≤ mx / 8191 := Int.ediv_nonneg mx0 (by decide)
  refine ⟨_, rfl, _, rfl, _, _, rfl, rfl, ⟨by decide, by decide⟩, _, rfl, _, _, rfl, rfl, _, _, rfl, rfl, (show IntMulOk ((c * (2 * (n + 1) + 1) + 6007 * (n + 1) * (n + 1) + 53) ^ (3 : Int).toNat % q1) ((c * (2 * (n + 1) + 1) + 6007 * (n + 1) * (n + 1) + 53) ^ (3 : Int).toNat % q1 / 8191 + (n + 1)) by rw [← hmx]; exact mk0 mx0 (by omega) (by omega) (by omega)), _, rfl, _, rfl, _, _, rfl, rfl, _, _, rfl, rfl, (by show (0 : Int) < 7; decide), p, _, _, _, rfl, rfl, SqT.of hp2, e2, _, _, rfl, rfl, p3, _, _, rfl, rfl, ⟨by decide, by decide⟩, _, rfl, _, _, rfl, rfl, w0, ?_⟩
  exact q _ _ (Int.emod_nonneg _ (by omega)) (Int.emod_lt_of_pos _ w0) hSB ⟨_, _, _, hu2, g0, c0, c1, by omega, by omega⟩
noncomputable abbrev Zg9 := dsUrn
noncomputable abbrev Zfa := dsDraw
theorem Zjt : MoS Zg9 := Zqa
theorem Zb3 : MoS Zfa := Zoo
theorem Zll (T : Txt K mg) : Dn P w K mg base 1 "_law_urn" sLawUrn ["_law_script", "_law_spot"] (spD K Zg9) := (Zrl T).imp fun _ _ _ _ h => Zrc h
theorem Zd9 (T : Txt K mg) : Dn P w K mg base 1 "_law_draw" sLawDraw ["_law_urn_here", "_law_wide"] (spD K Zfa) := (Zq5 T).imp fun _ _ _ _ h => Zob h
end
end Mine
namespace Mine
open PySem PySem.Spec PyProof.Rows L2
section
variable {P : Program} {w : World} {K : PySem.W.Frag} {mg : Str → Option Value} {base : Heap}
theorem mulS {x y : Int} (h1 : x.natAbs < 2 ^ 100) (h2 : y.natAbs < 2 ^ 100) : IntMulOk x y := Zkn (n := 100) (by decide) h1 h2
noncomputable def Zpi (k : Nat) : List Int := List.replicate k 0
theorem Zfq {α β : Type} {xs : List α} {ys : List β} (hl : ys.length = xs.length) {P : α → β → Prop} (h : ∀ p ∈ xs.zip ys, P p.1 p.2) : ∀ y ∈ ys, ∃ x ∈ xs, P x y := fun y hy => by
 obtain ⟨j, hj, rfl⟩ := List.getElem_of_mem hy
 exact ⟨xs[j]'(by omega), List.getElem_mem _, h (xs[j]'(by omega), ys[j]) (List.mem_iff_getElem.mpr ⟨j, by rw [List.length_zip]; omega, by simp⟩)⟩
noncomputable def Amt (A : List Int) : Prop := 1 ≤ A.length ∧ A.length ≤ 3 ∧ ∀ x ∈ A, 0 ≤ x ∧ x ≤ 4
noncomputable def Win (A b : List Int) : Prop := b.length = A.length ∧ ∀ p ∈ A.zip b, 0 ≤ p.2 ∧ p.2 ≤ p.1
theorem Win.nil : Win [] [] := ⟨rfl, by simp⟩
theorem Win.cons {a x : Int} {A b : List Int} : Win (a :: A) (x :: b) ↔ (0 ≤ x ∧ x ≤ a) ∧ Win A b := by
 unfold Win
 simp only [List.length_cons, List.zip_cons_cons, List.mem_cons]
 constructor
 ·rintro ⟨h1, h2⟩
  exact ⟨h2 (a, x) (.inl rfl), by omega, fun p hp => h2 p (.inr hp)⟩
 ·rintro ⟨h1, h2, h3⟩
  refine ⟨by omega, ?_⟩
  rintro p (rfl | hp)
  ·exact h1
  ·exact h3 p hp
theorem Zma {A b : List Int} (hl : b.length = A.length) {x : Int} (hx : x ∈ b) : ∃ a, (a, x) ∈ A.zip b := by
 obtain ⟨i, hi, rfl⟩ := List.getElem_of_mem hx
 refine ⟨A[i]'(by omega), ?_⟩
 rw [List.mem_iff_getElem]
 exact ⟨i, by rw [List.length_zip]; omega, by simp⟩
theorem Win.mem {A b : List Int} (h : Win A b) (hA : Amt A) : ∀ x ∈ b, 0 ≤ x ∧ x ≤ 4 := fun x hx => by
 obtain ⟨a, ha⟩ := Zma h.1 hx
 have h1 := h.2 _ ha
 have h2 := hA.2.2 a (List.of_mem_zip ha).1
 simp only at h1
 omega
theorem Zph {A : List Int} (hA : Amt A) : Win A (Zpi A.length) := by
 refine ⟨by simp [Zpi], fun p hp => ?_⟩
 obtain ⟨h1, h2⟩ := List.of_mem_zip hp
 have h3 := hA.2.2 _ h1
 have h4 := (List.mem_replicate.mp h2).2
 omega
theorem Zhp {A : List Int} (hA : Amt A) : Win A A := by
 refine ⟨rfl, fun p hp => ?_⟩
 obtain ⟨i, hi, e⟩ := List.getElem_of_mem hp
 rw [List.getElem_zip] at e
 subst e
 have h3 := hA.2.2 _ (List.getElem_mem (l := A) (by rw [List.length_zip] at hi; omega : i < A.length))
 simp only
 omega
theorem Ze5 {w : OW} {p : Addr} {x : Own} (h : w p = none) : (w.put p x).del p = w := by
 funext b; unfold OW.put OW.del
 by_cases e : b = p
 ·simp [e, h]
 ·simp [e]
noncomputable def growW (found : List (List Int)) (a : Int) : List (List Int) := found.flatMap fun r => (List.range (a + 1).toNat).map fun (i : Nat) => r ++ [(i : Int)]
noncomputable def allW (A : List Int) : List (List Int) := A.foldl growW [[]]
theorem Zf2 : ∀ (A : List Int) (F : List (List Int)) (b : List Int), (∀ a ∈ A, 0 ≤ a) → (b ∈ A.foldl growW F ↔ ∃ p ∈ F, ∃ q, Win A q ∧ b = p ++ q)
 | [], F, b, _ => by
  constructor
  ·intro h; exact ⟨b, h, [], Win.nil, by simp⟩
  ·rintro ⟨p, hp, q, hq, rfl⟩
   have : q = [] := List.length_eq_zero_iff.mp hq.1
   subst this
   simpa using hp
 | a :: A, F, b, hA => by
  rw [List.foldl_cons, Zf2 A _ b fun x hx => hA x (List.mem_cons_of_mem _ hx)]
  have ha := hA a (List.mem_cons_self ..)
  constructor
  ·rintro ⟨p, hp, q, hq, rfl⟩
   unfold growW at hp
   obtain ⟨r, hr, hp⟩ := List.mem_flatMap.mp hp
   obtain ⟨i, hi, rfl⟩ := List.mem_map.mp hp
   have hi' := List.mem_range.mp hi
   exact ⟨r, hr, (i : Int) :: q, Win.cons.mpr ⟨⟨by omega, by omega⟩, hq⟩, by simp⟩
  ·rintro ⟨p, hp, q, hq, rfl⟩
   cases q with
   | nil => simp [Win] at hq
   | cons x q =>
    obtain ⟨⟨h1, h2⟩, h3⟩ := Win.cons.mp hq
    refine ⟨p ++ [x], ?_, q, h3, by simp⟩
    unfold growW
    refine List.mem_flatMap.mpr ⟨p, hp, List.mem_map.mpr ⟨x.toNat, List.mem_range.mpr (by omega), ?_⟩⟩
    have : ((x.toNat : Nat) : Int) = x := by omega
    rw [this]
theorem Zc8 {A b : List Int} (hA : Amt A) : b ∈ allW A ↔ Win A b := by
 unfold allW
 rw [Zf2 A _ b fun a ha => by have := hA.2.2 a ha; omega]
 constructor
 ·rintro ⟨p, hp, q, hq, rfl⟩
  rw [List.mem_singleton.mp hp]; exact hq
 ·intro h
  exact ⟨[], by simp, b, h, rfl⟩
theorem Zke {F : List (List Int)} {a : Int} (h0 : 0 ≤ a) (h4 : a ≤ 4) : (growW F a).length ≤ 5 * F.length := by
 unfold growW
 induction F with
 | nil => simp
 | cons r F ih =>
  rw [List.flatMap_cons, List.length_append, lmp, List.length_range, List.length_cons]
  omega
theorem Zid : ∀ (A : List Int) (F : List (List Int)), (∀ a ∈ A, 0 ≤ a ∧ a ≤ 4) → (A.foldl growW F).length ≤ 5 ^ A.length * F.length
 | [], F, _ => by simp
 | a :: A, F, h => by
  have h1 := Zid A (growW F a) fun x hx => h x (List.mem_cons_of_mem _ hx)
  have h2 := h a (List.mem_cons_self ..)
  have h3 := Zke (F := F) h2.1 h2.2
  rw [List.foldl_cons, List.length_cons, Nat.pow_succ]
  have h4 := Nat.mul_le_mul_left (5 ^ A.length) h3
  rw [Nat.mul_assoc]
  omega
theorem Zeq {A : List Int} (hA : Amt A) (i : Nat) : ((A.take i).foldl growW [[]]).length ≤ 125 := by
 have h1 := Zid (A.take i) [[]] fun a ha => by have := hA.2.2 a (List.mem_of_mem_take ha); omega
 have h2 : (A.take i).length ≤ 3 := by rw [List.length_take]; have := hA.2.1; omega
 have h3 := Nat.pow_le_pow_right (show 5 > 0 by decide) h2
 simp only [List.length_singleton, Nat.mul_one] at h1
 omega
theorem Zdy {A : List Int} (hA : Amt A) : (allW A).length ≤ 125 := by
 have := Zeq hA A.length
 rw [List.take_length] at this
 exact this
theorem Zdf {w : OW} {p u : Addr} {x y : Own} (h : p ≠ u) : (w.put u x).put p y = (w.put p y).put u x := by
 funext b; unfold OW.put
 by_cases e1 : b = p
 ·have : ¬ b = u := by rw [e1]; exact h
  simp [e1, h]
 ·simp [e1]
noncomputable def lk {β : Type} (kvs : List (List Int × β)) (k : List Int) : Option β := (kvs.find? fun p => decide (p.1 = k)).map (·.2)
noncomputable def pt {β : Type} (kvs : List (List Int × β)) (k : List Int) (v : β) : List (List Int × β) :=
 if (kvs.any fun p => decide (p.1 = k)) = true then kvs.map (fun p => if p.1 = k then (p.1, v) else p) else kvs ++ [(k, v)]
noncomputable def enc {β : Type} (f : β → PyData) (kvs : List (List Int × β)) : List (List Int × PyData) := kvs.map fun p => (p.1, f p.2)
theorem Zkc {β : Type} (f : β → PyData) (kvs : List (List Int × β)) (k : List Int) : dget (enc f kvs) k = (lk kvs k).map f := by
 unfold dget enc lk
 induction kvs with
 | nil => rfl
 | cons p r ih =>
  rw [List.map_cons, List.find?_cons, List.find?_cons]
  by_cases c : p.1 = k
  ·simp [c]
  ·simp only [c, decide_false]
   exact ih
theorem Zgu {β : Type} (f : β → PyData) (kvs : List (List Int × β)) (k : List Int) (v : β) : dput (enc f kvs) k (f v) = enc f (pt kvs k v) := by
 unfold dput enc pt
 rw [List.any_map]
 simp only [Function.comp_def]
 split
 ·rw [List.map_map, List.map_map]
  refine List.map_congr_left fun p _ => ?_
  simp only [Function.comp_def]
  split <;> rfl
 ·rw [List.map_append]; rfl
theorem Zpt {β : Type} (k : List Int) : ∀ kvs : List (List Int × β), (kvs.any fun p => decide (p.1 = k)) = (lk kvs k).isSome
 | [] => rfl
 | p :: r => by
  rw [List.any_cons, Zpt k r]
  unfold lk
  rw [List.find?_cons]
  by_cases c : p.1 = k <;> simp [c]
theorem Zdd {β : Type} (p : List Int × β) (r : List (List Int × β)) (k : List Int) : lk (p :: r) k = if p.1 = k then some p.2 else lk r k := by
 unfold lk
 rw [List.find?_cons]
 by_cases c : p.1 = k <;> simp [c]
theorem Zrt {β : Type} (kvs : List (List Int × β)) (k : List Int) (v : β) (j : List Int) : lk (pt kvs k v) j = if j = k then some v else lk kvs j := by
 unfold pt
 rw [Zpt]
 split
 ·next h =>
  induction kvs with
  | nil => simp [lk] at h
  | cons p r ih =>
   rw [List.map_cons, Zdd, Zdd]
   rw [Zdd] at h
   by_cases c : p.1 = k
   ·rw [if_pos c]
    by_cases cj : p.1 = j
    ·rw [if_pos (by exact cj), if_pos (by rw [← cj, c])]
    ·rw [if_neg (by exact cj), if_neg (by rw [← c]; exact fun z => cj z.symm), if_neg cj]
     -- the rest has no such change that matters at j
     have : ∀ l : List (List Int × β), lk (l.map fun p => if p.1 = k then (p.1, v) else p) j = lk l j := by
      intro l
      induction l with
      | nil => rfl
      | cons q l ih2 =>
       rw [List.map_cons, Zdd, Zdd, ih2]
       by_cases cq : q.1 = k
       ·rw [if_pos cq]
        have : ¬ q.1 = j := by rw [cq, ← c]; exact cj
        rw [if_neg this, if_neg this]
       ·rw [if_neg cq]
     exact this r
   ·rw [if_neg c] at h ⊢
    by_cases cj : p.1 = j
    ·rw [if_pos cj, if_neg (fun z => c (cj.trans z)), if_pos cj]
    ·rw [if_neg cj, if_neg cj, ih h]
 ·next h =>
  have hn : lk kvs k = none := by simpa using h
  induction kvs with
  | nil =>
   show lk [(k, v)] j = _
   rw [Zdd]
   by_cases c : k = j
   ·rw [if_pos c, if_pos c.symm]
   ·rw [if_neg c, if_neg (fun z => c z.symm)]
  | cons p r ih =>
   rw [Zdd] at hn h
   by_cases c : p.1 = k
   ·rw [if_pos c] at hn; cases hn
   ·rw [if_neg c] at hn h
    rw [List.cons_append, Zdd, Zdd, ih h hn]
    by_cases cj : p.1 = j
    ·rw [if_pos cj, if_neg (fun z => c (cj.trans z)), if_pos cj]
    ·rw [if_neg cj, if_neg cj]
theorem Zsh {β : Type} (kvs : List (List Int × β)) (k : List Int) (v : β) : (pt kvs k v).length ≤ kvs.length + 1 := by
 unfold pt; split <;> simp
theorem Zj9 {β : Type} (f : β → PyData) (kvs : List (List Int × β)) : (enc f kvs).length = kvs.length := by simp [enc]
noncomputable abbrev Bid := List Int × Int
noncomputable abbrev Row := List Bid
noncomputable def bidD (b : Bid) : PyData := .tuple [tI b.1, .int b.2]
noncomputable def rowB (r : Row) : PyData := .tuple (r.map bidD)
noncomputable def bidsD (bs : List Row) : PyData := .tuple (bs.map rowB)
noncomputable def leq (b w : List Int) : Bool := (b.zip w).all fun p => decide (p.1 ≤ p.2)
noncomputable def sub (w b : List Int) : List Int := (w.zip b).map fun p => p.1 - p.2
noncomputable def mx (x : Int) (l : List Int) : Int := l.foldl max x
theorem Zop : ∀ (l : List Int) (x : Int), x ≤ mx x l
 | [], x => Int.le_refl x
 | y :: l, x => by
  have := Zop l (max x y)
  show x ≤ mx (max x y) l
  omega
theorem Zqb : ∀ (l : List Int) (x : Int), ∀ y ∈ l, y ≤ mx x l
 | [], x, y, h => by cases h
 | z :: l, x, y, h => by
  show y ≤ mx (max x z) l
  rcases List.mem_cons.mp h with rfl | h
  ·have := Zop l (max x y); omega
  ·exact Zqb l _ y h
theorem Zko : ∀ (l : List Int) (x : Int), mx x l ∈ x :: l
 | [], x => by simp [mx]
 | z :: l, x => by
  show mx (max x z) l ∈ _
  rcases List.mem_cons.mp (Zko l (max x z)) with h | h
  ·rw [h]
   by_cases c : x ≤ z
   ·rw [Int.max_eq_right c]; simp
   ·rw [Int.max_eq_left (by omega)]; simp
  ·simp [h]
theorem Zru {x m : Int} {l : List Int} (h1 : m ∈ x :: l) (h2 : ∀ y ∈ x :: l, y ≤ m) : m = mx x l := by
 have h3 := h2 _ (Zko l x)
 rcases List.mem_cons.mp h1 with rfl | h
 ·have := Zop l m; omega
 ·have := Zqb l x m h; omega
noncomputable def V : List Row → List Int → Int
 | [], _ => 0
 | r :: rs, w => mx (V rs w) ((r.filter fun b => leq b.1 w).map fun b => b.2 + V rs (sub w b.1))
noncomputable def ROk (A : List Int) (r : Row) : Prop := r.length ≤ 20 ∧ ∀ b ∈ r, b.1.length = A.length ∧ ∀ x ∈ b.1, 0 ≤ x
noncomputable def BOk (A : List Int) (bs : List Row) : Prop := bs.length ≤ 6 ∧ ∀ r ∈ bs, ROk A r
theorem Zk4 : ∀ {A w b : List Int}, Win A w → b.length = A.length → (∀ x ∈ b, 0 ≤ x) → leq b w = true → Win A (sub w b)
 | [], w, b, h, hb, _, _ => by
  have h1 : w = [] := List.length_eq_zero_iff.mp h.1
  subst h1; exact Win.nil
 | a :: A, [], b, h, _, _, _ => by simp [Win] at h
 | a :: A, w :: ws, [], h, hb, _, _ => by simp at hb
 | a :: A, w :: ws, x :: xs, h, hb, h0, hl => by
  obtain ⟨h1, h2⟩ := Win.cons.mp h
  unfold leq at hl
  rw [List.zip_cons_cons, List.all_cons, Bool.and_eq_true] at hl
  have h3 := of_decide_eq_true hl.1
  have h4 := h0 x (List.mem_cons_self ..)
  simp only at h3
  show Win (a :: A) ((w - x) :: sub ws xs)
  exact Win.cons.mpr ⟨⟨by omega, by omega⟩, Zk4 h2 (by simpa using hb) (fun y hy => h0 y (List.mem_cons_of_mem _ hy)) hl.2⟩
theorem Zmt {F : List (List Int)} {p : List Int} {a : Int} (ha : 0 ≤ a) (h : F.getLast? = some p) : (growW F a).getLast? = some (p ++ [a]) := by
 obtain ⟨F', rfl⟩ := List.getLast?_eq_some_iff.mp h
 obtain ⟨n, rfl⟩ := Int.eq_ofNat_of_zero_le ha
 have e : ((n : Int) + 1).toNat = n + 1 := by omega
 unfold growW
 rw [List.flatMap_append, e, List.flatMap_singleton, List.range_succ, List.map_append, List.map_singleton, ← List.append_assoc]
 exact List.getLast?_concat
theorem Zic : ∀ (A : List Int) (F : List (List Int)) (p : List Int), (∀ a ∈ A, 0 ≤ a) → F.getLast? = some p → (A.foldl growW F).getLast? = some (p ++ A)
 | [], F, p, _, h => by simpa using h
 | a :: A, F, p, hA, h => by
  rw [List.foldl_cons, Zic A _ (p ++ [a]) (fun x hx => hA x (List.mem_cons_of_mem _ hx)) (Zmt (hA a (List.mem_cons_self ..)) h)]
  simp
theorem Zhq {A : List Int} (hA : Amt A) : (allW A)[(allW A).length - 1]? = some A := by
 rw [← List.getLast?_eq_getElem?]
 exact Zic A [[]] [] (fun a ha => (hA.2.2 a ha).1) rfl
noncomputable def pts {β : Type} (l : List (List Int × β)) : List (List Int × β) := l.foldl (fun d p => pt d p.1 p.2) []
theorem Zkr {β : Type} (b : List Int) (v : β) : ∀ (l d : List (List Int × β)), lk (l.foldl (fun d p => pt d p.1 p.2) d) b = some v → lk d b = some v ∨ (b, v) ∈ l
 | [], d, h => .inl h
 | p :: l, d, h => by
  rcases Zkr b v l _ h with h | h
  ·rw [Zrt] at h
   split at h
   ·next e => cases h; exact .inr (by rw [e]; exact List.mem_cons_self ..)
   ·exact .inl h
  ·exact .inr (List.mem_cons_of_mem _ h)
theorem Zni {β : Type} (b : List Int) : ∀ (l d : List (List Int × β)), (lk d b).isSome = true ∨ b ∈ l.map (·.1) → (lk (l.foldl (fun d p => pt d p.1 p.2) d) b).isSome = true
 | [], d, h => h.elim id fun z => by cases z
 | p :: l, d, h => by
  refine Zni b l _ ?_
  rw [Zrt]
  by_cases e : b = p.1
  ·rw [if_pos e]; exact .inl rfl
  ·rw [if_neg e]
   refine h.imp id fun z => ?_
   rcases List.mem_cons.mp z with z | z
   ·exact (e z).elim
   ·exact z
theorem Zks {β : Type} : ∀ (l d : List (List Int × β)), (l.foldl (fun d p => pt d p.1 p.2) d).length ≤ d.length + l.length
 | [], d => by simp
 | p :: l, d => by
  have h1 := Zks l (pt d p.1 p.2)
  have h2 := Zsh d p.1 p.2
  rw [List.foldl_cons, List.length_cons]
  omega
theorem Zk0 {β : Type} (l : List (List Int × β)) : (pts l).length ≤ l.length := by have := Zks l []; simpa [pts] using this
theorem Zhe {β : Type} (l : List (List Int × β)) (p : List Int × β) : pts (l ++ [p]) = pt (pts l) p.1 p.2 := by unfold pts; rw [List.foldl_append]; rfl
theorem Znh {β : Type} {l : List (List Int × β)} {b : List Int} (h : b ∈ l.map (·.1)) : ∃ v, lk (pts l) b = some v ∧ (b, v) ∈ l := by
 obtain ⟨v, hv⟩ := Option.isSome_iff_exists.mp (Zni b l [] (.inr h))
 refine ⟨v, hv, (Zkr b v l [] hv).resolve_left ?_⟩
 simp [lk]
theorem Zqx {β : Type} {f : List Int → β} {l : List (List Int)} {b : List Int} (h : b ∈ l) : lk (pts (l.map fun b => (b, f b))) b = some (f b) := by
 obtain ⟨v, h1, h2⟩ := Znh (l := l.map fun b => (b, f b)) (b := b) (by rw [List.map_map]; exact List.mem_map.mpr ⟨b, h, rfl⟩)
 obtain ⟨c, _, e⟩ := List.mem_map.mp h2
 cases e
 exact h1
noncomputable def posF (A b : List Int) : Nat := (lk (pts (allW A).zipIdx) b).getD 0
theorem Znf {A b : List Int} (h : b ∈ allW A) : lk (pts (allW A).zipIdx) b = some (posF A b) ∧ (allW A)[posF A b]? = some b := by
 obtain ⟨v, h1, h2⟩ := Znh (l := (allW A).zipIdx) (b := b) (by rw [show (allW A).zipIdx.map (fun p => p.1) = allW A from List.zipIdx_map_fst ..]; exact h)
 have e : posF A b = v := by unfold posF; rw [h1]; rfl
 rw [e]
 exact ⟨h1, List.mem_zipIdx_iff_getElem?.mp h2⟩
noncomputable abbrev Fit := Nat × Int × Nat
noncomputable def fitD (f : Fit) : PyData := .tuple [.int (f.1 : Nat), .int f.2.1, .int (f.2.2 : Nat)]
noncomputable def fitsF (A : List Int) (r : Row) (w : List Int) : List Fit := (r.zipIdx.filter fun p => leq p.1.1 w).map fun p => (p.2, p.1.2, posF A (sub w p.1.1))
noncomputable def fitsD (fs : List Fit) : PyData := .list (fs.map fitD)
noncomputable def layF (A : List Int) (r : Row) (L : List Int) : List Int := (allW A).zipIdx.map fun p => mx (L.getD p.2 0) ((fitsF A r p.1).map fun f => f.2.1 + L.getD f.2.2 0)
theorem Zrf {α β : Type} (c : α → Bool) (g : α → β) : ∀ (l : List α) (k : Nat), ((l.zipIdx k).filter fun p => c p.1).map (fun p => g p.1) = (l.filter c).map g
 | [], _ => rfl
 | x :: l, k => by
  rw [List.zipIdx_cons, List.filter_cons, List.filter_cons]
  split
  ·rw [List.map_cons, List.map_cons, Zrf c g l]
  ·exact Zrf c g l _
theorem Zsv {α β : Type} (g : α → β) (l : List α) : l.zipIdx.map (fun p => g p.1) = l.map g := by
 have h : l.zipIdx.map (fun p => p.1) = l := List.zipIdx_map_fst ..
 conv => rhs; rw [← h, List.map_map]
 rfl
theorem Zgv {α : Type} {f : α → Int} {l : List α} {i : Nat} {x : α} (h : l[i]? = some x) : (l.map f).getD i 0 = f x := by simp [List.getD, h]
theorem Zjd {A w : List Int} {r : Row} (hA : Amt A) (hr : ROk A r) (hw : Win A w) {p : Bid × Nat} (h : p ∈ r.zipIdx) (hl : leq p.1.1 w = true) : sub w p.1.1 ∈ allW A := by
 have := hr.2 p.1 (List.mem_of_getElem? (List.mem_zipIdx_iff_getElem?.mp (show (p.1, p.2) ∈ r.zipIdx from h)))
 exact (Zc8 hA).mpr (Zk4 hw this.1 this.2 hl)
theorem Zsy {A : List Int} {r : Row} {rs : List Row} (hA : Amt A) (hr : ROk A r) : layF A r ((allW A).map (V rs)) = (allW A).map (V (r :: rs)) := by
 rw [← Zsv (V (r :: rs)) (allW A)]
 unfold layF
 refine List.map_congr_left fun p hp => ?_
 have hp' := List.mem_zipIdx_iff_getElem?.mp (show (p.1, p.2) ∈ (allW A).zipIdx from hp)
 have hw := (Zc8 hA).mp (List.mem_of_getElem? hp')
 rw [Zgv hp']
 show _ = mx (V rs p.1) ((r.filter fun b => leq b.1 p.1).map fun b => b.2 + V rs (sub p.1 b.1))
 rw [← Zrf (fun b : Bid => leq b.1 p.1) (fun b => b.2 + V rs (sub p.1 b.1)) r 0]
 unfold fitsF
 rw [List.map_map]
 congr 1
 refine List.map_congr_left fun q hq => ?_
 obtain ⟨h1, h2⟩ := List.mem_filter.mp hq
 show q.1.2 + ((allW A).map (V rs)).getD (posF A (sub p.1 q.1.1)) 0 = _
 rw [Zgv (Znf (Zjd hA hr hw h1 h2)).2]
end
end Mine
namespace Mine
open PySem PySem.Spec PyProof.Rows L2
section
variable {P : Program} {w : World} {K : PySem.W.Frag} {mg : Str → Option Value} {base : Heap}
theorem Zce {α β : Type} {f : α → β} {l : List α} {i : Nat} {d : β} (h : (l.map f)[i]? = some d) : ∃ r, l[i]? = some r ∧ f r = d := by
 rw [List.getElem?_map] at h
 cases e : l[i]? with
 | none => rw [e] at h; cases h
 | some r => rw [e] at h; exact ⟨r, rfl, Option.some.inj h⟩
noncomputable def Zdq : DSp := pureS fun vs r => ∃ b w, vs = [.d (tI b), .d (tI w)] ∧ b.length ≤ 1000 ∧ r = .bool (leq b w)
theorem Zh8 : MoS Zdq := Zc0
theorem Zh0 : ∀ vs w k, Zdq vs w k → vs.length = 2 := Zc1 (by rintro vs r ⟨b, w, rfl, _⟩; rfl)
theorem Zi5 (T : Txt K mg) : Dn P w K mg base 1 "is_within" sIsWithin ["one", "other"] (spD K Zdq) := by
 refine Dn.data (k := 0) T.f_is_within Ziu Zh0 (fun a cdv A outer s H E hr => ⟨_, _, IPSs.get (Za4 (Zb2 (Zad (Zi0 rfl) rfl T.z_all boot_all (Za0 (by refine' Zar (Nc := ["few", "many"]) (cap := [none, none]) rfl ?i ?k ?g ?t ?e; (case k => kernel_rfl); (case i => exact (Zf3 true true rfl T.z_zip (Za0 (i_pv 0) (Za0 (i_pv 1) Za2)))); (case g => exact (fun _ _ _ _ _ => (Zby (K := K) rfl (n := 2) rfl (Zae (Zbm 0 (by show List.Nodup (["few", "many"] : List Str); decide +kernel)) (Zae (Zbm 1 (by show List.Nodup (["few", "many"] : List Str); decide +kernel)) Zbj))))); (case t => exact (fun _ _ _ _ _ => Zas)); (case e => exact (fun _ _ _ _ _ => (Zfc Zrz (Zbu 0) (Zbu 1) (nomark _))))) Za2))) Zb8), (Zai (Zbz (Zbh Zpu (Za1 (Zb9 false (Zkw (Za1 (Za3 0) (Za1 (Za3 1) Za6))) (Zd5 (Zb1 (Za7 0) (Zb1 (Za7 1) Zch))) Zbk (Zba (Zbc Zp5 (Za3 0) (Za3 1)))) Za6))) Zc9), fun as o q h => ?_⟩)
 obtain ⟨r, ⟨b, w', rfl, hb, rfl⟩, hq⟩ := h
 simp! only [tI, Zf6]
 refine Zbg (b.zip w') (fun p => .tuple [.int p.1, .int p.2]) (fun p => .bool (decide (p.1 ≤ p.2))) [] rfl trivial (Zat (by simp; omega)) ?_ ?_
 ·rintro ⟨x, y⟩ hx Q hQ
  simp! only []
  exact hQ
 ·simp! only [Zl3]
  refine ⟨_, OW.le.refl _, ?_⟩
  rw [List.all_map]; exact hq
noncomputable def Zfb : DSp := pureS fun vs r => ∃ A, vs = [.d (tI A)] ∧ Amt A ∧ r = .list ((allW A).map tI)
theorem Zge : MoS Zfb := Zc0
theorem Zlu : ∀ vs w k, Zfb vs w k → vs.length = 1 := Zc1 (by rintro vs r ⟨A, rfl, _⟩; rfl)
theorem Zia (T : Txt K mg) : Dn P w K mg base 1 "within" sWithin ["amounts"] (spD K Zfb) := by
 refine Dn.data (k := 0) T.f_within Zeo Zlu (fun a cdv A outer s H E hr => ⟨_, _, IPSs.get (Za4 (Zaa (i := 1) Zeo.nd rfl (Or.inl rfl) (Zbl (Za0 (Zbw Za2) Za2)))
  (Za4 (Zbx PassesOwn.never rfl (Zc6 (i_pv 0)) (Zb7 (i := 2) Zeo.nd rfl (Or.inr rfl)) (Za8 (by refine' Zgy (i := 1) Zeo.nd rfl (Or.inl rfl) (Nc := ["head", "many", "amount"]) (cap := [none, none, some 2]) rfl ?i ?k ?g ?j ?h ?e; (case k => kernel_rfl); (case i => exact (Zbr (i_pv 1))); (case g => exact (fun _ _ _ _ _ => (Zbm 0 (by show List.Nodup (["head", "many", "amount"] : List Str); decide +kernel)))); (case j => exact (fun _ _ _ _ _ => (Zbn Zcf T.z_range (Za0 (Za9 Zcb (Zdm 2) Za5) Za2)))); (case h => exact (fun _ _ _ _ _ => (Zbm 1 (by show List.Nodup (["head", "many", "amount"] : List Str); decide +kernel)))); (case e => exact (fun _ _ _ _ _ => (Za9 (Zhd (K := K) rfl) (Zbu 0) (Zbw (Za0 (Zbu 1) Za2))))))))
  (Za8 (Zb2 (i_pv 1))))), (Zai (Zb6 (Zct false (Za1 (Zd4 Za6) Za6)) (Za7 1))
  (Zai (Zcu (Zdw (Za3 0)) (Za7 2) (Zb6 (Zb9 false (Zck (Za3 1)) (Za7 0) Zbk (Zr4 (Zdg (Za1 (Zbc Zf1 (Za3 2) Zan) Za6)) (Za7 1) Zbk (Zba (Zbc Zhh (Za3 0) (Zd4 (Za1 (Za3 1) Za6)))))) (Za7 1)))
  (Zbz (Za3 1)))), fun as o q h => ?_⟩)
 obtain ⟨r, ⟨A, rfl, hA, rfl⟩, hq⟩ := h
 simp! only [tI]
 refine ⟨by show 0 ≤ sizeLine; decide, L2.sz1, ?_⟩
 simp! only []
 refine ⟨fun i s => ∃ o2, s = ⟨[some (.d (tI A)), some (.d (.list (((A.take i).foldl growW [[]]).map tI))), o2], o⟩, ⟨none, rfl⟩, fun _ _ _ => trivial, ?_, ?_⟩
 ·rintro i d s hd ⟨o2, rfl⟩
  obtain ⟨a, ha, rfl⟩ := Zce hd
  have haA := hA.2.2 a (List.mem_of_getElem? ha)
  have et : (A.take (i + 1)).foldl growW [[]] = growW ((A.take i).foldl growW [[]]) a := by rw [List.take_add_one, ha, List.foldl_append]; rfl
  have hFl := Zeq hA i
  have hFl2 := Zeq hA (i + 1)
  rw [et] at hFl2
  have hFb : ∀ b ∈ (A.take i).foldl growW [[]], b.length ≤ 3 := fun b hb => by
   obtain ⟨p, hp, q, hq, rfl⟩ := (Zf2 (A.take i) [[]] b fun a ha => by have := hA.2.2 a (List.mem_of_mem_take ha); omega).mp hb
   have h1 := hq.1
   rw [List.mem_singleton.mp hp]
   rw [List.length_take] at h1
   have := hA.2.1
   simp only [List.nil_append]; omega
  generalize (A.take i).foldl growW [[]] = F at *
  have eG : F.flatMap (fun r => (List.range (a + 1).toNat).map fun (i : Nat) => tI (r ++ [(i : Int)])) = (growW F a).map tI := by
   unfold growW; rw [List.map_flatMap]; simp only [List.map_map]; rfl
  simp! only []
  refine Zjn F tI (fun r => (List.range (a + 1).toNat).map fun (i : Nat) => tI (r ++ [(i : Int)])) [] rfl trivial (by rw [eG, lmp]; exact Zat (by simp; omega)) ?_ ?_
  ·intro b hb acc hacc Q hQ
   simp! only [dLoop]
   refine ⟨⟨by omega, by omega⟩, ?_⟩
   unfold rngD
   refine Zbg (List.range (a + 1).toNat) (fun (i : Nat) => .int (0 + (i : Int))) (fun (i : Nat) => tI (b ++ [(i : Int)])) acc rfl trivial (by simpa using hacc) ?_ ?_
   ·intro x hx Q hQ
    simp! only [tI]
    refine ⟨L2.sz1, Zee (by have := hFb b hb; rw [lmp]; omega), ?_⟩
    have e : tI (b ++ [(x : Int)]) = PyData.tuple (List.map PyData.int b ++ [PyData.int (0 + (x : Int))]) := by
     unfold tI; rw [List.map_append, Int.zero_add]; rfl
    rw [e] at hQ
    exact hQ
   ·exact ⟨by simp [ext], hQ⟩
  ·simp! only []
   rw [eG]
   exact ⟨some (.d (.int a)), by rw [et]⟩
 ·rintro s ⟨o2, rfl⟩
  simp! only []
  rw [lmp, List.take_length]
  exact ⟨_, OW.le.refl _, hq⟩
noncomputable def Zev : DSp := pureS fun vs r => ∃ w b, vs = [.d (tI w), .d (tI b)] ∧ w.length ≤ 1000 ∧ r = tI (sub w b)
theorem Zju : MoS Zev := Zc0
theorem Zjm : ∀ vs w k, Zev vs w k → vs.length = 2 := Zc1 (by rintro vs r ⟨b, w, rfl, _⟩; rfl)
theorem Zlm (T : Txt K mg) : Dn P w K mg base 1 "left_of" sLeftOf ["whole", "bundle"] (spD K Zev) := by
 refine Dn.data (k := 0) T.f_left_of Zm5 Zjm (fun a cdv A outer s H E hr => ⟨_, _, IPSs.get (Za4 (Zb2 (Zb0 Zaj rfl T.z_tuple (by decide +kernel) (Za0 (by refine' Zar (Nc := ["many", "few"]) (cap := [none, none]) rfl ?i ?k ?g ?t ?e; (case k => kernel_rfl); (case i => exact (Zf3 true true rfl T.z_zip (Za0 (i_pv 0) (Za0 (i_pv 1) Za2)))); (case g => exact (fun _ _ _ _ _ => (Zby (K := K) rfl (n := 2) rfl (Zae (Zbm 0 (by show List.Nodup (["many", "few"] : List Str); decide +kernel)) (Zae (Zbm 1 (by show List.Nodup (["many", "few"] : List Str); decide +kernel)) Zbj))))); (case t => exact (fun _ _ _ _ _ => Zas)); (case e => exact (fun _ _ _ _ _ => (Za9 Zna (Zbu 0) (Zbu 1))))) Za2))) Zb8), (Zai (Zbz (Zbh Zbi (Za1 (Zb9 false (Zkw (Za1 (Za3 0) (Za1 (Za3 1) Za6))) (Zd5 (Zb1 (Za7 0) (Zb1 (Za7 1) Zch))) Zbk (Zba (Zbc Zf1 (Za3 0) (Za3 1)))) Za6))) Zc9), fun as o q h => ?_⟩)
 obtain ⟨r, ⟨w', b, rfl, hb, rfl⟩, hq⟩ := h
 simp! only [tI, Zf6]
 refine Zbg (w'.zip b) (fun p => .tuple [.int p.1, .int p.2]) (fun p => .int (p.1 - p.2)) [] rfl trivial (Zat (by simp; omega)) ?_ ?_
 ·rintro ⟨x, y⟩ hx Q hQ
  simp! only []
  exact hQ
 ·simp! only []
  have e : tI (sub w' b) = .tuple ((w'.zip b).map fun p => .int (p.1 - p.2)) := by unfold tI sub; rw [List.map_map]; rfl
  rw [e] at hq
  exact ⟨_, OW.le.refl _, hq⟩
end
end Mine
namespace Mine
open PySem PySem.Spec PyProof.Rows L2
section
variable {P : Program} {w : World} {K : PySem.W.Frag} {mg : Str → Option Value} {base : Heap}
noncomputable def Zeu : DSp := pureS fun vs r => ∃ A row, vs = [.d (tI A), .d (rowB row)] ∧ Amt A ∧ ROk A row ∧ r = .list ((allW A).map fun w => fitsD (fitsF A row w))
theorem Zjs : MoS Zeu := Zc0
theorem Zjl : ∀ vs w k, Zeu vs w k → vs.length = 2 := Zc1 (by rintro vs r ⟨b, w, rfl, _⟩; rfl)
theorem Zfp {A b : List Int} (hA : Amt A) (h : Win A b) : b ≠ [] := fun e => by
 have h1 := h.1
 have h2 := hA.1
 rw [e] at h1
 simp at h1
 omega
theorem Zlk (T : Txt K mg) : Dn P w K mg base 2 "fits_of" sFitsOf ["amounts", "row"] (spD K Zeu) := by
 have D_is_within := Zi5 (P := P) (w := w) (base := base) T
 have D_left_of := Zlm (P := P) (w := w) (base := base) T
 have D_within := Zia (P := P) (w := w) (base := base) T
 refine Dn.data (k := 1) T.f_fits_of Zey Zjl (fun a cdv A outer s H E hr => ⟨_, _, IPSs.get (Za4 (Zaa (i := 2) Zey.nd rfl (Or.inl rfl) (Zag D_within Zhv (hr.mono (by decide)) (Za0 (i_pv 0) Za2)))
  (Za4 (Zaa (i := 3) Zey.nd rfl (Or.inr rfl) (by refine' Zlp (Nc := ["at", "bundle"]) (cap := [none, none]) (Zje hr) rfl ?i ?k ?g ?t ?e ?f; (case k => kernel_rfl); (case i => exact (Zei false rfl T.z_enumerate (Za0 (i_pv 2) Za2))); (case g => exact (fun _ _ _ _ _ => (Zby (K := K) rfl (n := 2) rfl (Zae (Zbm 0 (by show List.Nodup (["at", "bundle"] : List Str); decide +kernel)) (Zae (Zbm 1 (by show List.Nodup (["at", "bundle"] : List Str); decide +kernel)) Zbj))))); (case t => exact (fun _ _ _ _ _ => Zas)); (case e => exact (fun _ _ _ _ _ => (Zbu 1))); (case f => exact (fun _ _ _ _ _ => (Zbu 0)))))
  (Za8 (Zb2 (by refine' Zar (Nc := ["whole", "places", "row"]) (cap := [none, some 3, some 1]) rfl ?i ?k ?g ?t ?e; (case k => kernel_rfl); (case i => exact (Zbr (i_pv 2))); (case g => exact (fun _ _ _ _ _ => (Zsx 0 (by show List.Nodup (["whole", "places", "row"] : List Str); decide +kernel)))); (case t => exact (fun _ _ _ _ _ => Zas)); (case e => exact (fun _ _ _ _ _ => (by refine' Zar (Nc := ["place", "bundle", "money", "places", "whole"]) (cap := [none, none, none, some 1, some 0]) rfl ?i ?k ?g ?t ?e; (case k => kernel_rfl); (case i => exact (Zlr (K := K) rfl true Zcf T.z_enumerate (Za0 (Zdm 2) Za2))); (case g => exact (fun _ _ _ _ _ => (Zby (K := K) rfl (n := 2) rfl (Zae (Zbm 0 (by show List.Nodup (["place", "bundle", "money", "places", "whole"] : List Str); decide +kernel)) (Zae (Zby (K := K) rfl (n := 2) rfl (Zae (Zbm 1 (by show List.Nodup (["place", "bundle", "money", "places", "whole"] : List Str); decide +kernel)) (Zae (Zbm 2 (by show List.Nodup (["place", "bundle", "money", "places", "whole"] : List Str); decide +kernel)) Zbj))) Zbj))))); (case t => exact (fun _ _ _ _ _ => (Zii (Zkg (Zag D_is_within Zhr (hr.mono (by decide)) (Za0 (Zbu 1) (Za0 (Zdm 4) Za2)) (hg := Zcf)))))); (case e => exact (fun _ _ _ _ _ => (Zbw (Za0 (Zbu 0) (Za0 (Zbu 2) (Za0 (Ze0 (Zje hr) (Zdm 3) (Zag D_left_of Zla (hr.mono (by decide)) (Za0 (Zdm 4) (Za0 (Zbu 1) Za2)) (hg := Zcf)) (fun _ _ => rfl)) Za2)))))))))))))), (Zai (Zb6 (Zau Zge (Za1 (Za3 0) Za6)) (Za7 2))
  (Zai (Zb6 (Zp2 false (Zhg (Za1 (Za3 2) Za6)) (Zd5 (Zb1 (Za7 0) (Zb1 (Za7 1) Zch))) Zbk (Za3 1) (Za3 0)) (Za7 3))
  (Zbz (Zb9 false (Zck (Za3 2)) (Za7 0) Zbk (Zba (Zb9 false (Zhg (Za1 (Za3 2) Za6)) (Zd5 (Zb1 (Za7 0) (Zb1 (Zd5 (Zb1 (Za7 1) (Zb1 (Za7 2) Zch))) Zch))) (rt_b (Zau Zh8 (Za1 (Za3 1) (Za1 (Za3 4) Za6)))) (Zba (Zd4 (Za1 (Za3 0) (Za1 (Za3 2) (Za1 (Zhf (Za3 3) (Zau Zju (Za1 (Za3 4) (Za1 (Za3 1) Za6)))) Za6))))))))))), fun as o q h => ?_⟩)
 obtain ⟨r, ⟨A, row, rfl, hA, hr, rfl⟩, hq⟩ := h
 have hl := Zdy hA
 simp! only []
 refine ⟨_, ⟨A, rfl, hA, rfl⟩, ?_⟩
 simp! only []
 rw [Zeh]
 intro p hp
 refine ⟨fun i w => w = o.put p (.dct (enc (fun n : Nat => .int n) (pts ((allW A).zipIdx.take i)))), rfl, fun _ _ _ => trivial, ?_, ?_⟩
 ·rintro i d w' hd rfl
  obtain ⟨⟨b, j⟩, hb, rfl⟩ := Zce hd
  have hbm := List.mem_of_getElem? (List.mem_zipIdx_iff_getElem?.mp (List.mem_of_getElem? hb))
  have hpl := Zk0 ((allW A).zipIdx.take i)
  rw [List.length_take, List.length_zipIdx] at hpl
  simp! only []
  refine ⟨_, _, rfl, Zec (Zfp hA ((Zc8 hA).mp hbm)), Zat (by rw [Zj9]; omega), ?_⟩
  rw [Zgu (fun n : Nat => PyData.int n), List.take_add_one, hb]
  exact congrArg _ (congrArg _ (congrArg _ (Zhe _ (b, j)).symm))
 ·rintro w' rfl
  rw [lmp, List.length_zipIdx, ← List.length_zipIdx (l := allW A) (i := 0), List.take_length]
  simp! only []
  refine ⟨_, rfl, ?_⟩
  rw [Ze5 hp]
  simp! only []
  refine Zbg (allW A) tI (fun w => fitsD (fitsF A row w)) [] rfl trivial (Zat (by simp; omega)) ?_ ?_
  ·intro w0 hw0 Q hQ
   have hw1 := (Zc8 hA).mp hw0
   simp! only [rowB]
   rw [Zeh]
   refine Zgd row.zipIdx (fun p => .tuple [.int (p.2 : Nat), bidD p.1]) (fun p => fitD (p.2, p.1.2, posF A (sub w0 p.1.1))) (fun p => leq p.1.1 w0) [] rfl trivial (Zat (by have := hr.1; simp; omega)) ?_ ?_
   ·rintro ⟨⟨b, m⟩, j⟩ hx Q hQ
    have hb1 := hr.2 (b, m) (List.mem_of_getElem? (List.mem_zipIdx_iff_getElem?.mp hx))
    have hA3 := hA.2.1
    simp! only [bidD]
    refine ⟨_, ⟨b, w0, rfl, by rw [hb1.1]; omega, rfl⟩, ?_⟩
    simp! only []
    refine ite2 (fun c => ?_) (fun c => ?_)
    ·have hm := Zjd hA hr hw1 hx c
     refine ⟨_, ⟨w0, b, rfl, by rw [hw1.1]; omega, rfl⟩, ?_⟩
     refine ⟨_, _, _, rfl, Zec (Zfp hA ((Zc8 hA).mp hm)), by rw [Zkc, (Znf hm).1]; rfl, ?_⟩
     simp! only []
     refine ⟨L2.sz3, ?_⟩
     rw [if_pos c] at hQ; exact hQ
    ·rw [if_neg c] at hQ
     exact hQ
   ·simp! only []
    unfold fitsD fitsF at hQ
    rw [List.map_map] at hQ
    exact hQ
  ·simp! only []
   exact ⟨_, OW.le.refl _, hq⟩
noncomputable def Zcx : DSp := pureS fun vs r => ∃ A row L, vs = [.d (.list ((allW A).map fun w => fitsD (fitsF A row w))), .d (tI L)] ∧ Amt A ∧ ROk A row ∧ L.length = (allW A).length ∧ r = tI (layF A row L)
theorem Zfj : MoS Zcx := Zc0
theorem Zfh : ∀ vs w k, Zcx vs w k → vs.length = 2 := Zc1 (by rintro vs r ⟨b, w, L, rfl, _⟩; rfl)
theorem Zpl {L : List Int} {i : Nat} (h : i < L.length) : atI (L.map PyData.int) (i : Int) = some (.int (L.getD i 0)) := Zcv (by rw [List.getElem?_map, gEq h]; simp [List.getD, gEq h])
theorem Zoe {A w : List Int} {row : Row} (hA : Amt A) (hr : ROk A row) (hw : Win A w) : ∀ f ∈ fitsF A row w, ∃ p, row[f.1]? = some p ∧ leq p.1 w = true ∧ f.2.1 = p.2 ∧ (allW A)[f.2.2]? = some (sub w p.1) := fun f hf => by
 unfold fitsF at hf
 obtain ⟨p, hp, rfl⟩ := List.mem_map.mp hf
 obtain ⟨h1, h2⟩ := List.mem_filter.mp hp
 exact ⟨p.1, List.mem_zipIdx_iff_getElem?.mp (show (p.1, p.2) ∈ row.zipIdx from h1), h2, rfl, (Znf (Zjd hA hr hw h1 h2)).2⟩
theorem Zfv (T : Txt K mg) : Dn P w K mg base 1 "layer_above" sLayerAbove ["fits", "lower"] (spD K Zcx) := by
 refine Dn.data (k := 0) T.f_layer_above Zg5 Zfh (fun a cdv A outer s H E hr => ⟨_, _, IPSs.get (Za4 (Zb2 (Zb0 Zaj rfl T.z_tuple (by decide +kernel) (Za0 (by refine' Zar (Nc := ["at", "some", "lower"]) (cap := [none, none, some 1]) rfl ?i ?k ?g ?t ?e; (case k => kernel_rfl); (case i => exact (Zei false rfl T.z_enumerate (Za0 (i_pv 0) Za2))); (case g => exact (fun _ _ _ _ _ => (Zby (K := K) rfl (n := 2) rfl (Zae (Zbm 0 (by show List.Nodup (["at", "some", "lower"] : List Str); decide +kernel)) (Zae (Zbm 1 (by show List.Nodup (["at", "some", "lower"] : List Str); decide +kernel)) Zbj))))); (case t => exact (fun _ _ _ _ _ => Zas)); (case e => exact (fun _ _ _ _ _ => (Zad (Zld (K := K) rfl false rfl) Zcf T.z_max boot_max (Za0 (Za9 Zkq (Zbl (Za0 (Zbd (Zji (K := K) rfl) (Zdm 2) (Zbu 0) (fun _ _ => rfl)) Za2)) (by refine' Zar (Nc := ["place", "money", "left", "lower"]) (cap := [none, none, none, some 2]) rfl ?i ?k ?g ?t ?e; (case k => kernel_rfl); (case i => exact (Zls (K := K) rfl (Zbu 1))); (case g => exact (fun _ _ _ _ _ => (Zby (K := K) rfl (n := 3) rfl (Zae (Zbm 0 (by show List.Nodup (["place", "money", "left", "lower"] : List Str); decide +kernel)) (Zae (Zbm 1 (by show List.Nodup (["place", "money", "left", "lower"] : List Str); decide +kernel)) (Zae (Zbm 2 (by show List.Nodup (["place", "money", "left", "lower"] : List Str); decide +kernel)) Zbj)))))); (case t => exact (fun _ _ _ _ _ => Zas)); (case e => exact (fun _ _ _ _ _ => (Za9 Zcb (Zbu 1) (Zbd (Zji (K := K) rfl) (Zdm 3) (Zbu 2) (fun _ _ => rfl))))))) Za2))))) Za2))) Zb8), (Zai (Zbz (Zbh Zbi (Za1 (Zb9 false (Zhg (Za1 (Za3 0) Za6)) (Zd5 (Zb1 (Za7 0) (Zb1 (Za7 1) Zch))) Zbk (Zba (Zbh (Znj false) (Za1 (Zbc (Zkx false) (Zct false (Za1 (Zbc Zis (Za3 2) (Za3 0)) Za6)) (Zb9 false (Zck (Za3 1)) (Zd5 (Zb1 (Za7 0) (Zb1 (Za7 1) (Zb1 (Za7 2) Zch)))) Zbk (Zba (Zbc Zf1 (Za3 1) (Zbc Zis (Za3 3) (Za3 2)))))) Za6)))) Za6))) Zc9), fun as o q h => ?_⟩)
 obtain ⟨r, ⟨A, row, L, rfl, hA, hr, hL, rfl⟩, hq⟩ := h
 have hl := Zdy hA
 simp! only [tI]
 rw [Zeh]
 refine Zbg (allW A).zipIdx (fun p => .tuple [.int (p.2 : Nat), fitsD (fitsF A row p.1)]) (fun p => .int (mx (L.getD p.2 0) ((fitsF A row p.1).map fun f => f.2.1 + L.getD f.2.2 0))) [] rfl trivial (Zat (by simp; omega)) ?_ ?_
 ·rintro ⟨w0, i⟩ hx Q hQ
  have hi := List.mem_zipIdx_iff_getElem?.mp hx
  have hw := (Zc8 hA).mp (List.mem_of_getElem? hi)
  have hil : i < L.length := by rw [hL]; exact (List.getElem?_eq_some_iff.mp hi).1
  have hfl : (fitsF A row w0).length ≤ 20 := by
   unfold fitsF
   have h1 := hr.1
   have h2 := List.length_filter_le (fun p : Bid × Nat => leq p.1.1 w0) row.zipIdx
   rw [List.length_zipIdx] at h2
   rw [lmp]; omega
  simp! only [fitsD]
  refine ⟨_, Zpl hil, ?_⟩
  simp! only []
  refine ⟨L2.sz1, ?_⟩
  refine Zbg (fitsF A row w0) fitD (fun f => .int (f.2.1 + L.getD f.2.2 0)) [] rfl trivial (Zat (by simp; omega)) ?_ ?_
  ·intro f hf Q hQ
   obtain ⟨p, _, _, _, h4⟩ := Zoe hA hr hw f hf
   simp! only [fitD]
   refine ⟨_, Zpl (by rw [hL]; exact (List.getElem?_eq_some_iff.mp h4).1), ?_⟩
   simp! only []
   exact hQ
  ·simp! only [uIs, Zpf]
   refine ⟨Zee (by rw [lmp]; omega), by simp, fun m h1 h2 => ?_⟩
   have := Zru h1 h2
   rw [this]; exact hQ
 ·simp! only []
  have e : tI (layF A row L) = .tuple ((allW A).zipIdx.map fun p => .int (mx (L.getD p.2 0) ((fitsF A row p.1).map fun f => f.2.1 + L.getD f.2.2 0))) := by unfold tI layF; rw [List.map_map]; rfl
  rw [e] at hq
  exact ⟨_, OW.le.refl _, hq⟩
noncomputable def tabF (A : List Int) (bs : List Row) : List (List Int) := (List.range (bs.length + 1)).map fun k => (allW A).map (V (bs.drop k))
noncomputable def tabD (t : List (List Int)) : PyData := .tuple (t.map tI)
noncomputable def Zda : DSp := pureS fun vs r => ∃ A bs, vs = [.d (tI A), .d (bidsD bs)] ∧ Amt A ∧ BOk A bs ∧ r = tabD (tabF A bs)
theorem Zg1 : MoS Zda := Zc0
theorem Zfx : ∀ vs w k, Zda vs w k → vs.length = 2 := Zc1 (by rintro vs r ⟨b, w, rfl, _⟩; rfl)
theorem Zgs (T : Txt K mg) : Dn P w K mg base 3 "best_table" sBestTable ["amounts", "bids"] (spD K Zda) := by
 have D_fits_of := Zlk (P := P) (w := w) (base := base) T
 have D_layer_above := Zfv (P := P) (w := w) (base := base) T
 have D_within := Zia (P := P) (w := w) (base := base) T
 refine Dn.data (k := 2) T.f_best_table Zdh Zfx (fun a cdv A outer s H E hr => ⟨_, _, IPSs.get (Za4 (Zaa (i := 2) Zdh.nd rfl (Or.inl rfl) (Zbl (Za0 (Zb0 Zaj rfl T.z_tuple (by decide +kernel) (Za0 (by refine' Zar (Nc := ["bundle"]) (cap := [none]) rfl ?i ?k ?g ?t ?e; (case k => kernel_rfl); (case i => exact (Zbr (Zag D_within Zhv (hr.mono (by decide)) (Za0 (i_pv 0) Za2)))); (case g => exact (fun _ _ _ _ _ => (Zbm 0 (by show List.Nodup (["bundle"] : List Str); decide +kernel)))); (case t => exact (fun _ _ _ _ _ => Zas)); (case e => exact (fun _ _ _ _ _ => Za5))) Za2)) Za2)))
  (Za4 (Zbx PassesOwn.never rfl (Zmw rfl T.z_reversed (Za0 (i_pv 1) Za2)) (Zb7 (i := 3) Zdh.nd rfl (Or.inl rfl)) (Za8 (Zco (Zea PySem.F.plainAttrs_list PySem.F.slot_list_append PySem.F.type_list_append Zd2 (i_pv 2) (Za0 (Zag D_layer_above Zfs (hr.mono (by decide)) (Za0 (Zag D_fits_of Zl8 (hr.mono (by decide)) (Za0 (i_pv 0) (Za0 (i_pv 3) Za2))) (Za0 (Zbd Zbv (i_pv 2) (Zfd Ziz Za5) (fun _ _ => rfl)) Za2))) Za2)))))
  (Za8 (Zb2 (Zjg rfl rfl T.z_tuple rfl T.z_reversed (Za0 (i_pv 2) Za2)))))), (Zai (Zb6 (Zct true (Za1 (Zbh Zbi (Za1 (Zb9 false (Zck (Zau Zge (Za1 (Za3 0) Za6))) (Za7 0) Zbk (Zba Zan)) Za6)) Za6)) (Za7 2))
  (Zai (Zcu (Zr3 (Za1 (Za3 1) Za6)) (Za7 3) (Zed (Zgf (Za3 2) (Za1 (Zau Zfj (Za1 (Zau Zjs (Za1 (Za3 0) (Za1 (Za3 3) Za6))) (Za1 (Zbc Zdx (Za3 2) (Zp3 ru_I Zan)) Za6))) Za6))))
  (Zbz (Znn (Za1 (Za3 2) Za6))))), fun as o q h => ?_⟩)
 obtain ⟨r, ⟨A, bs, rfl, hA, hB, rfl⟩, hq⟩ := h
 have hl := Zdy hA
 simp! only []
 refine ⟨_, ⟨A, rfl, hA, rfl⟩, ?_⟩
 simp! only []
 refine Zbg (allW A) tI (fun _ => .int 0) [] rfl trivial (Zat (by simp; omega)) ?_ ?_
 ·intro x hx Q hQ
  simp! only []
  exact hQ
 simp! only []
 refine ⟨by decide, fun p hp => ?_⟩
 simp! only [bidsD]
 refine ⟨fun i s => ∃ o3, s = ⟨[some (.d (tI A)), some (.d (bidsD bs)), some (.own p), o3], o.put p (.lst ((List.range (i + 1)).map fun j => tI ((allW A).map (V (bs.drop (bs.length - j))))))⟩ ∧ i ≤ bs.length, ⟨none, ?_, by omega⟩, fun _ _ _ => trivial, ?_, ?_⟩
 ·have e : tI ((allW A).map (V (bs.drop (bs.length - 0)))) = .tuple ((allW A).map fun _ => .int 0) := by
   rw [Nat.sub_zero, List.drop_length]; unfold tI; rw [List.map_map]; rfl
  rw [show List.range (0 + 1) = [0] from rfl, List.map_singleton, e]; rfl
 ·rintro i d s hd ⟨o3, rfl, hi⟩
  rw [← List.map_reverse] at hd
  obtain ⟨row, hrow, rfl⟩ := Zce hd
  have hin : i < bs.length := by have := (List.getElem?_eq_some_iff.mp hrow).1; simpa using this
  rw [List.getElem?_reverse hin] at hrow
  have hro := hB.2 row (List.mem_of_getElem? hrow)
  have hBl := hB.1
  have ed : bs.drop (bs.length - (i + 1)) = row :: bs.drop (bs.length - i) := by
   have e1 : bs.length - (i + 1) = bs.length - 1 - i := by omega
   have h2 : bs.length - 1 - i < bs.length := by omega
   rw [e1, List.drop_eq_getElem_cons h2]
   rw [gEq h2] at hrow
   cases hrow
   rw [show bs.length - 1 - i + 1 = bs.length - i by omega]
  simp! only []
  refine ⟨⟨_, rfl⟩, _, ⟨A, row, rfl, hA, hro, rfl⟩, ?_⟩
  simp! only []
  refine ⟨tI ((allW A).map (V (bs.drop (bs.length - i)))), by rw [List.range_succ, List.map_append]; exact Zgj _ _, ?_⟩
  refine ⟨_, ⟨A, row, _, rfl, hA, hro, by rw [lmp], rfl⟩, ?_⟩
  simp! only []
  refine ⟨_, rfl, Zat (by simp; omega), some (.d (rowB row)), ?_, hin⟩
  rw [Zsy hA hro, ← ed, List.range_succ (n := i + 1), List.map_append]; rfl
 ·rintro s ⟨o3, rfl, hi⟩
  simp! only []
  have e : ((List.range (bs.length + 1)).map fun j => tI ((allW A).map (V (bs.drop (bs.length - j))))).reverse = (tabF A bs).map tI := by
   unfold tabF
   rw [List.map_map]
   refine List.ext_getElem (by simp) fun i h1 h2 => ?_
   have h3 : i < bs.length + 1 := by simpa using h1
   rw [List.getElem_reverse]
   simp only [List.getElem_map, List.getElem_range, lmp, List.length_range, Function.comp_def]
   rw [show bs.length - (bs.length + 1 - 1 - i) = i by omega]
  rw [List.length_reverse, lmp, e]
  exact ⟨_, OW.le.new (OW.le.refl o) hp _, hq⟩
end
end Mine
namespace Mine
open PySem PySem.Spec PyProof.Rows L2
section
variable {P : Program} {w : World} {K : PySem.W.Frag} {mg : Str → Option Value} {base : Heap}
theorem Zrb {A : List Int} {bs : List Row} {i : Nat} (h : i ≤ bs.length) : ((tabF A bs).map tI)[i]? = some (tI ((allW A).map (V (bs.drop i)))) := by
 unfold tabF
 rw [List.map_map, List.getElem?_map, List.getElem?_range (by omega)]; rfl
noncomputable def Zcw : DSp := urnS 5 (fun as => as = []) (fun _ r => ∃ A, r = tI A ∧ Amt A)
theorem Zfi : MoS Zcw := Zhc
theorem Zfg : ∀ vs w k, Zcw vs w k → vs.length = 1 := Zk7 (n := 0) (by rintro vs rfl; rfl)
theorem Zk8 {c : Nat} {P : List Val → Prop} {R : List Val → PyData → Prop} {vs : List Val} {w : OW} {k : Val → OW → Prop} (h : urnS c P R vs w k) : ∃ u as m, vs = .own u :: as ∧ w = w.put u (.urn m) ∧ m + c ≤ 1000000 ∧ P as ∧ ∀ r m', R as r → m' ≤ m + c → ∃ w', w'.le (w.put u (.urn m')) ∧ k (.d r) w' := by
 unfold urnS at h
 split at h
 ·next u as =>
  obtain ⟨m, hm, ⟨h1, h2⟩, h3⟩ := h
  exact ⟨u, as, m, rfl, (Zsj hm).symm, h1, h2, fun r m' hr hm' => ⟨_, OW.le.urn' (OW.le.refl w) hm', h3 r hr⟩⟩
 ·exact h.elim
theorem Zfu (T : Txt K mg) : Dn P w K mg base 2 "_law_amounts" sLawAmounts ["_law_urn_here"] (spD K Zcw) := by
 have D_law_draw := Zd9 (P := P) (w := w) (base := base) T
 refine Dn.data (k := 1) T.f_law_amounts Zg4 Zfg (fun a cdv A outer s H E hr => ⟨_, _, IPSs.get (Za4 (Zb2 (Zb0 Zaj rfl T.z_tuple (by decide +kernel) (Za0 (by refine' Zar (Nc := ["_law_k", "_law_urn_here"]) (cap := [none, some 0]) rfl ?i ?k ?g ?t ?e; (case k => kernel_rfl); (case i => exact (Zbn rfl T.z_range (Za0 (Za9 Zcb Za5 (Zag D_law_draw Zb5 (hr.mono (by decide)) (Za0 (i_pv 0) (Za0 Za5 Za2)))) Za2))); (case g => exact (fun _ _ _ _ _ => (Zbm 0 (by show List.Nodup (["_law_k", "_law_urn_here"] : List Str); decide +kernel)))); (case t => exact (fun _ _ _ _ _ => Zas)); (case e => exact (fun _ _ _ _ _ => (Za9 Zcb Za5 (Zag D_law_draw Zb5 (hr.mono (by decide)) (Za0 (Zdm 1) (Za0 Za5 Za2)) (hg := Zcf)))))) Za2))) Zb8), (Zai (Zbz (Zbh Zbi (Za1 (Zb9 false (Zdg (Za1 (Zbc Zf1 Zan (Zau Zb3 (Za1 (Za3 0) (Za1 Zan Za6)))) Za6)) (Za7 0) Zbk (Zba (Zbc Zf1 Zan (Zau Zb3 (Za1 (Za3 1) (Za1 Zan Za6)))))) Za6))) Zc9), fun as o q h => ?_⟩)
 obtain ⟨u, as, m, rfl, hw, hm, rfl, hq⟩ := Zk8 h
 rw [hw]
 simp! only [dComp]
 refine Zc5 (by omega) (by decide) (by decide) fun d h0 h3 => ?_
 simp! only []
 simp! only []
 refine ⟨⟨by omega, by omega⟩, ?_⟩
 unfold rngD
 have hn : (1 + d).toNat ≤ 3 ∧ 1 ≤ (1 + d).toNat := by omega
 refine Zh7 (List.range (1 + d).toNat) (fun (i : Nat) => .int (0 + (i : Int))) (fun x : Int => .int (1 + x)) (fun _ x => 0 ≤ x ∧ x < 4) 1 rfl (fun _ => trivial) (Zat (by rw [List.length_range]; omega)) ?_ ?_
 ·intro i hi m1 hm1 Q hQ
  simp! only []
  rw [List.length_range] at hm1
  refine Zc5 (by omega) (by decide) (by decide) fun x hx0 hx4 => ?_
  simp! only []
  exact hQ x _ ⟨hx0, hx4⟩ (Nat.le_refl _)
 ·intro ys m1 hl hP hm1
  simp! only []
  have hl0 := hl
  rw [List.length_range] at hl hm1
  refine hq (.tuple _) m1 ⟨ys.map fun x => 1 + x, by unfold tI; rw [List.map_map]; rfl, by rw [lmp]; omega, by rw [lmp]; omega, ?_⟩ (by omega)
  intro x hx
  obtain ⟨y, hy, rfl⟩ := List.mem_map.mp hx
  obtain ⟨_, _, this⟩ := Zfq (P := fun _ x => 0 ≤ x ∧ x < 4) hl0 hP y hy
  omega
noncomputable def Zdb : DSp := urnS 5 (fun as => ∃ A, as = [.d (tI A)] ∧ Amt A) (fun as r => ∃ A, as = [.d (tI A)] ∧ ∃ b, r = tI b ∧ Win A b)
theorem Zg2 : MoS Zdb := Zhc
theorem Zfy : ∀ vs w k, Zdb vs w k → vs.length = 2 := Zk7 (n := 1) (by rintro vs ⟨k, rfl, _⟩; rfl)
theorem Zgt (T : Txt K mg) : Dn P w K mg base 2 "_law_bundle" sLawBundle ["_law_urn_here", "_law_amounts_here"] (spD K Zdb) := by
 have D_law_draw := Zd9 (P := P) (w := w) (base := base) T
 refine Dn.data (k := 1) T.f_law_bundle Zcm Zfy (fun a cdv A outer s H E hr => ⟨_, _, IPSs.get (Za4 (Zaa (i := 2) Zcm.nd rfl (Or.inl rfl) (Zag D_law_draw Zb5 (hr.mono (by decide)) (Za0 (i_pv 0) (Za0 Za5 Za2))))
  (Za4 (Zaa (i := 3) Zcm.nd rfl (Or.inr rfl) (Zag D_law_draw Zb5 (hr.mono (by decide)) (Za0 (i_pv 0) (Za0 (Zad Zb4 rfl T.z_len boot_len (Za0 (i_pv 1) Za2)) Za2))))
  (Za4 (Zcp (Zbs Zn9 (i_pv 2) Za5 (nomark _)) (Za8 (Zb2 (Zb0 Zaj rfl T.z_tuple (by decide +kernel) (Za0 (by refine' Zar (Nc := ["_law_one"]) (cap := [none]) rfl ?i ?k ?g ?t ?e; (case k => kernel_rfl); (case i => exact (Zc6 (i_pv 1))); (case g => exact (fun _ _ _ _ _ => (Zbm 0 (by show List.Nodup (["_law_one"] : List Str); decide +kernel)))); (case t => exact (fun _ _ _ _ _ => Zas)); (case e => exact (fun _ _ _ _ _ => Za5))) Za2)))) Zb8)
  (Za4 (Zcp (Zbs Zn9 (i_pv 2) Za5 (nomark _)) (Za8 (Zb2 (i_pv 1))) Zb8)
  (Za4 (Zaa (i := 4) Zcm.nd rfl (Or.inr rfl) (by refine' Zar (Nc := ["_law_one", "_law_urn_here"]) (cap := [none, some 0]) rfl ?i ?k ?g ?t ?e; (case k => kernel_rfl); (case i => exact (Zc6 (i_pv 1))); (case g => exact (fun _ _ _ _ _ => (Zbm 0 (by show List.Nodup (["_law_one", "_law_urn_here"] : List Str); decide +kernel)))); (case t => exact (fun _ _ _ _ _ => Zas)); (case e => exact (fun _ _ _ _ _ => (Zag D_law_draw Zb5 (hr.mono (by decide)) (Za0 (Zdm 1) (Za0 (Za9 Zcb (Zbu 0) Za5) Za2)) (hg := Zcf))))))
  (Za4 (Zcp (Zbs Zn9 (i_pv 2) Za5 (nomark _)) (Za8 (Zb2 (Zb0 Zaj rfl T.z_tuple (by decide +kernel) (Za0 (by refine' Zar (Nc := ["_law_k", "_law_found", "_law_spot"]) (cap := [none, some 4, some 3]) rfl ?i ?k ?g ?t ?e; (case k => kernel_rfl); (case i => exact (Zbn rfl T.z_range (Za0 (Zad Zb4 rfl T.z_len boot_len (Za0 (i_pv 1) Za2)) Za2))); (case g => exact (fun _ _ _ _ _ => (Zbm 0 (by show List.Nodup (["_law_k", "_law_found", "_law_spot"] : List Str); decide +kernel)))); (case t => exact (fun _ _ _ _ _ => Zas)); (case e => exact (fun _ _ _ _ _ => (Za9 Zcq (Zbd (Zoh (K := K) rfl) (Zdm 1) (Zbu 0) (fun _ _ => rfl)) (Zb0 Zmc Zcf T.z_int (by decide +kernel) (Za0 (Zfc Zn9 (Zbu 0) (Zdm 2) (nomark _)) Za2)))))) Za2)))) Zb8)
  (Za8 (Zb2 (Zb0 Zaj rfl T.z_tuple (by decide +kernel) (Za0 (i_pv 4) Za2)))))))))), (Zai (Zb6 (Zau Zb3 (Za1 (Za3 0) (Za1 Zan Za6))) (Za7 2))
  (Zai (Zb6 (Zau Zb3 (Za1 (Za3 0) (Za1 (Zbh Zd3 (Za1 (Za3 1) Za6)) Za6))) (Za7 3))
  (Zai (Zit (Zcz (Zbc Znp (Za3 2) Zan)) (Zbz (Zbh Zbi (Za1 (Zb9 false (Zdw (Za3 1)) (Za7 0) Zbk (Zba Zan)) Za6))) Zc9)
  (Zai (Zit (Zcz (Zbc Znp (Za3 2) Zan)) (Zbz (Za3 1)) Zc9)
  (Zai (Zb6 (Zb9 false (Zdw (Za3 1)) (Za7 0) Zbk (Zba (Zau Zb3 (Za1 (Za3 1) (Za1 (Zbc Zf1 (Za3 0) Zan) Za6))))) (Za7 4))
  (Zai (Zit (Zcz (Zbc Znp (Za3 2) Zan)) (Zbz (Zbh Zbi (Za1 (Zb9 false (Zdg (Za1 (Zbh Zd3 (Za1 (Za3 1) Za6)) Za6)) (Za7 0) Zbk (Zba (Zbc ro_I (Zbc Zdx (Za3 1) (Za3 0)) (Zbh Zqz (Za1 (Zbc Znp (Za3 0) (Za3 2)) Za6))))) Za6))) Zc9)
  (Zbz (Zbh Zbi (Za1 (Za3 4) Za6))))))))), fun as o q h => ?_⟩)
 obtain ⟨u, as, m, rfl, hw, hm, ⟨A, rfl, hA⟩, hq⟩ := Zk8 h
 have hA1 := hA.1
 have hA2 := hA.2.1
 rw [hw]
 simp! only [dComp]
 refine Zc5 (by omega) (by decide) (by decide) fun d h0 h3 => ?_
 simp! only []
 simp! only [tI, lmp]
 refine Zc5 (by omega) (by omega) (by omega) fun sp hsp0 hsp1 => ?_
 simp! only []
 refine ite2 (fun c => ?_) (fun c => ?_)
 all_goals simp! only []
 ·refine Zbg A .int (fun _ => .int 0) [] rfl trivial (Zat (by simp; omega)) ?_ ?_
  ·intro x hx Q hQ
   simp! only []
   exact hQ
  ·simp! only []
   refine hq _ _ ⟨A, rfl, Zpi A.length, ?_, Zph hA⟩ (by omega)
   unfold tI Zpi
   rw [List.map_const', List.map_replicate]
 refine ite2 (fun c => ?_) (fun c => ?_)
 all_goals simp! only []
 ·exact hq _ _ ⟨A, rfl, A, rfl, Zhp hA⟩ (by omega)
 refine Zh7 A .int .int (fun a x => 0 ≤ x ∧ x < a + 1) 1 rfl (fun _ => trivial) (Zat (by omega)) ?_ ?_
 ·intro a ha m1 hm1 Q hQ
  have h4 := hA.2.2 a ha
  simp! only []
  refine Zc5 (by omega) (by omega) (by omega) fun x hx0 hx4 => ?_
  simp! only []
  exact hQ x _ ⟨hx0, hx4⟩ (Nat.le_refl _)
 intro ys m1 hl hP hm1
 simp! only [lmp]
 refine ite2 (fun c => ?_) (fun c => ?_)
 all_goals simp! only []
 ·simp! only [tI, lmp]
  refine ⟨⟨by omega, by omega⟩, ?_⟩
  unfold rngD
  refine Zbg (List.range (A.length : Int).toNat) (fun (i : Nat) => .int (0 + (i : Int))) (fun (i : Nat) => .int (ys.getD i 0 * (if decide ((0 : Int) + (i : Int) = sp) = true then 1 else 0))) [] rfl trivial (Zat (by simp; omega)) ?_ ?_
  ·intro i hi Q hQ
   have hi' := List.mem_range.mp hi
   have hi2 : i < ys.length := by omega
   simp! only []
   refine ⟨.int ys[i], ?_, ?_⟩
   ·rw [Int.zero_add]
    exact Zcv (by rw [List.getElem?_map, gEq hi2]; rfl)
   simp! only [gInt1]
   have e : ys.getD i 0 = ys[i] := by simp [List.getD, gEq hi2]
   rw [e] at hQ
   refine ⟨?_, hQ⟩
   have hs := Zfq (P := fun a x => 0 ≤ x ∧ x < a + 1) hl hP ys[i] (List.getElem_mem hi2)
   obtain ⟨a, ha, hs⟩ := hs
   have h4 := hA.2.2 a ha
   refine mulS (Nat.lt_of_le_of_lt (show (ys[i]).natAbs ≤ 5 by omega) (by decide)) ?_
   split <;> decide
  ·simp! only []
   refine hq _ _ ⟨A, rfl, (List.range (A.length : Int).toNat).map fun (i : Nat) => ys.getD i 0 * (if decide ((0 : Int) + (i : Int) = sp) = true then 1 else 0), by unfold tI; rw [List.map_map]; rfl, by simp, fun p hp => ?_⟩ (by omega)
   obtain ⟨j, hj, rfl⟩ := List.getElem_of_mem hp
   rw [List.length_zip] at hj
   have hjA : j < A.length := by omega
   have hjy : j < ys.length := by omega
   have hw := hP (A[j], ys[j]) (List.mem_iff_getElem.mpr ⟨j, by rw [List.length_zip]; omega, by simp⟩)
   have h4 := hA.2.2 A[j] (List.getElem_mem hjA)
   simp only at hw
   rw [List.getElem_zip]
   simp only [List.getElem_map, List.getElem_range]
   have e : ys.getD j 0 = ys[j] := by simp [List.getD, gEq hjy]
   rw [e]
   split <;> omega
 ·refine hq _ _ ⟨A, rfl, ys, rfl, hl, fun p hp => ?_⟩ (by omega)
  have := hP p hp
  omega
noncomputable def Zcc : DSp := pureS fun vs r => ∃ A, vs = [.d (tI A)] ∧ Amt A ∧ r = .list ((allW A).map tI)
theorem Zcs : MoS Zcc := Zc0
theorem Zek : ∀ vs w k, Zcc vs w k → vs.length = 1 := Zc1 (by rintro vs r ⟨A, rfl, _⟩; rfl)
theorem Zd1 (T : Txt K mg) : Dn P w K mg base 1 "_law_all_within" sLawAllWithin ["_law_amounts_here"] (spD K Zcc) := by
 refine Dn.data (k := 0) T.f_law_all_within Zbe Zek (fun a cdv A outer s H E hr => ⟨_, _, IPSs.get (Za4 (Zaa (i := 1) Zbe.nd rfl (Or.inl rfl) (Zbl (Za0 (Zbw Za2) Za2)))
  (Za4 (Zbx PassesOwn.never rfl (Zc6 (i_pv 0)) (Zb7 (i := 2) Zbe.nd rfl (Or.inl rfl)) (Za4 (Zaa (i := 3) Zbe.nd rfl (Or.inl rfl) (Zbl Za2))
  (Za4 (Zbx PassesOwn.never rfl (Zbr (i_pv 1)) (Zb7 (i := 4) Zbe.nd rfl (Or.inr rfl)) (Za8 (Zco (Zea PySem.F.plainAttrs_list PySem.F.slot_list_extend PySem.F.type_list_extend Zn6 (i_pv 3) (Za0 (by refine' Zar (Nc := ["_law_pieces", "_law_row"]) (cap := [none, some 4]) rfl ?i ?k ?g ?t ?e; (case k => kernel_rfl); (case i => exact (Zbn rfl T.z_range (Za0 (Za9 Zcb (i_pv 2) Za5) Za2))); (case g => exact (fun _ _ _ _ _ => (Zbm 0 (by show List.Nodup (["_law_pieces", "_law_row"] : List Str); decide +kernel)))); (case t => exact (fun _ _ _ _ _ => Zas)); (case e => exact (fun _ _ _ _ _ => (Za9 (Zhd (K := K) rfl) (Zdm 1) (Zbw (Za0 (Zbu 0) Za2)))))) Za2)))))
  (Za8 (Zaa (i := 1) Zbe.nd rfl (Or.inl rfl) (i_pv 3))))))
  (Za8 (Zb2 (i_pv 1))))), (Zai (Zb6 (Zct false (Za1 (Zd4 Za6) Za6)) (Za7 1))
  (Zai (Zcu (Zdw (Za3 0)) (Za7 2) (Zai (Zb6 (Zct true Za6) (Za7 3))
  (Zai (Zcu (Zck (Za3 1)) (Za7 4) (Zed (Zsm (Za3 3) (Za1 (Zb9 false (Zdg (Za1 (Zbc Zf1 (Za3 2) Zan) Za6)) (Za7 0) Zbk (Zba (Zbc Zhh (Za3 1) (Zd4 (Za1 (Za3 0) Za6))))) Za6))))
  (Zb6 (Zkv 3) (Za7 1)))))
  (Zbz (Za3 1)))), fun as o q h => ?_⟩)
 obtain ⟨r, ⟨A, rfl, hA, rfl⟩, hq⟩ := h
 simp! only [tI]
 refine ⟨by show 0 ≤ sizeLine; decide, L2.sz1, ?_⟩
 simp! only [dComp, dExt, dFrz]
 refine ⟨fun i s => ∃ o2 o3 o4, s = ⟨[some (.d (tI A)), some (.d (.list (((A.take i).foldl growW [[]]).map tI))), o2, o3, o4], o⟩, ⟨none, none, none, rfl⟩, fun _ _ _ => trivial, ?_, ?_⟩
 ·rintro i d s hd ⟨o2, o3, o4, rfl⟩
  obtain ⟨a, ha, rfl⟩ := Zce hd
  have haA := hA.2.2 a (List.mem_of_getElem? ha)
  have et : (A.take (i + 1)).foldl growW [[]] = growW ((A.take i).foldl growW [[]]) a := by rw [List.take_add_one, ha, List.foldl_append]; rfl
  have hFl := Zeq hA i
  have hFb : ∀ b ∈ (A.take i).foldl growW [[]], b.length ≤ 3 := fun b hb => by
   obtain ⟨p, hp, q, hq, rfl⟩ := (Zf2 (A.take i) [[]] b fun a ha => by have := hA.2.2 a (List.mem_of_mem_take ha); omega).mp hb
   have h1 := hq.1
   rw [List.mem_singleton.mp hp]
   rw [List.length_take] at h1
   have := hA.2.1
   simp only [List.nil_append]; omega
  generalize (A.take i).foldl growW [[]] = F at *
  simp! only []
  refine ⟨by decide, fun p hp => ?_⟩
  refine ⟨fun j s => ∃ o4, s = ⟨[some (.d (tI A)), some (.d (.list (F.map tI))), some (.d (.int a)), some (.own p), o4], o.put p (.lst ((growW (F.take j) a).map tI))⟩, ⟨_, rfl⟩, fun _ _ _ => trivial, ?_, ?_⟩
  ·rintro j d s hd ⟨o4, rfl⟩
   obtain ⟨b, hb, rfl⟩ := Zce hd
   have eg : growW (F.take (j + 1)) a = growW (F.take j) a ++ (List.range (a + 1).toNat).map fun (i : Nat) => b ++ [(i : Int)] := by
    unfold growW; rw [List.take_add_one, hb, List.flatMap_append]; simp
   have hgl := Zke (F := F.take j) (a := a) (by omega) (by omega)
   have htl : (F.take j).length ≤ 125 := by rw [List.length_take]; omega
   simp! only []
   refine ⟨⟨_, rfl⟩, ⟨by omega, by omega⟩, ?_⟩
   unfold rngD
   refine Zbg (List.range (a + 1).toNat) (fun (i : Nat) => .int (0 + (i : Int))) (fun (i : Nat) => tI (b ++ [(i : Int)])) [] rfl trivial (Zat (by simp; omega)) ?_ ?_
   ·intro x hx Q hQ
    simp! only [tI]
    refine ⟨L2.sz1, Zee (by have := hFb b (List.mem_of_getElem? hb); rw [lmp]; omega), ?_⟩
    have e : tI (b ++ [(x : Int)]) = PyData.tuple (List.map PyData.int b ++ [PyData.int (0 + (x : Int))]) := by
     unfold tI; rw [List.map_append, Int.zero_add]; rfl
    rw [e] at hQ
    exact hQ
   ·simp! only []
    refine ⟨_, _, rfl, rfl, Zee (by simp only [lmp, List.length_range]; omega), some (.d (tI b)), ?_⟩
    rw [eg, List.map_append, List.map_map]; rfl
  ·rintro s ⟨o4, rfl⟩
   simp! only []
   refine ⟨_, rfl, some (.d (.int a)), some (.d (.list ((growW F a).map tI))), o4, ?_⟩
   rw [Ze5 hp, et, lmp, List.take_length]
 ·rintro s ⟨o2, o3, o4, rfl⟩
  simp! only []
  rw [lmp, List.take_length]
  exact ⟨_, OW.le.refl _, hq⟩
theorem Zmj {xs : List PyData} {j : Int} (h : 0 ≤ j) : cutD xs none (some j) = xs.take j.toNat := by
 obtain ⟨n, rfl⟩ := Int.eq_ofNat_of_zero_le h
 unfold L2.cutD
 rw [HT.sIx_none, HT.sIx_nat]
 simp only [List.drop_zero, Nat.sub_zero, Int.toNat_natCast]
 rw [← List.take_eq_take_min]
theorem Zmk {α : Type} (f : α → PyData) (xs : List α) (j : Nat) : L2.cutD (xs.map f) none (some (j : Int)) = (xs.take j).map f := by
 rw [Zmj (by omega), Int.toNat_natCast, List.map_take]
theorem Zpx {a b : List Int} (h : tI a = tI b) : a = b := by
 unfold tI at h
 exact (List.map_inj_right fun x y e => by cases e; rfl).mp (PyData.tuple.inj h)
noncomputable def Zdr : DSp := pureS fun vs r => ∃ b w, vs = [.d (tI b), .d (tI w)] ∧ b.length ≤ 1000 ∧ r = .bool (leq b w)
theorem Zh9 : MoS Zdr := Zc0
theorem Zh1 : ∀ vs w k, Zdr vs w k → vs.length = 2 := Zc1 (by rintro vs r ⟨b, w, rfl, _⟩; rfl)
theorem Zi6 (T : Txt K mg) : Dn P w K mg base 1 "_law_is_in" sLawIsIn ["_law_one", "_law_other"] (spD K Zdr) := by
 refine Dn.data (k := 0) T.f_law_is_in Ziv Zh1 (fun a cdv A outer s H E hr => ⟨_, _, IPSs.get (Za4 (Zb2 (Zad (Zi0 rfl) rfl T.z_all boot_all (Za0 (by refine' Zar (Nc := ["_law_few", "_law_many"]) (cap := [none, none]) rfl ?i ?k ?g ?t ?e; (case k => kernel_rfl); (case i => exact (Zf3 true true rfl T.z_zip (Za0 (i_pv 0) (Za0 (i_pv 1) Za2)))); (case g => exact (fun _ _ _ _ _ => (Zby (K := K) rfl (n := 2) rfl (Zae (Zbm 0 (by show List.Nodup (["_law_few", "_law_many"] : List Str); decide +kernel)) (Zae (Zbm 1 (by show List.Nodup (["_law_few", "_law_many"] : List Str); decide +kernel)) Zbj))))); (case t => exact (fun _ _ _ _ _ => Zas)); (case e => exact (fun _ _ _ _ _ => (Zfc Zrz (Zbu 0) (Zbu 1) (nomark _))))) Za2))) Zb8), (Zai (Zbz (Zbh Zpu (Za1 (Zb9 false (Zkw (Za1 (Za3 0) (Za1 (Za3 1) Za6))) (Zd5 (Zb1 (Za7 0) (Zb1 (Za7 1) Zch))) Zbk (Zba (Zbc Zp5 (Za3 0) (Za3 1)))) Za6))) Zc9), fun as o q h => ?_⟩)
 obtain ⟨r, ⟨b, w', rfl, hb, rfl⟩, hq⟩ := h
 simp! only [tI, Zf6]
 refine Zbg (b.zip w') (fun p => .tuple [.int p.1, .int p.2]) (fun p => .bool (decide (p.1 ≤ p.2))) [] rfl trivial (Zat (by simp; omega)) ?_ ?_
 ·rintro ⟨x, y⟩ hx Q hQ
  simp! only []
  exact hQ
 ·simp! only [Zl3]
  refine ⟨_, OW.le.refl _, ?_⟩
  rw [List.all_map]; exact hq
noncomputable def MRow (r : Row) : Prop := ∀ b ∈ r, 0 ≤ b.2 ∧ b.2 < 1073741824
noncomputable def MOk (bs : List Row) : Prop := ∀ r ∈ bs, MRow r
noncomputable def Ze7 : DSp := urnS 900 (fun as => ∃ A most, as = [.d (tI A), .d (.int most)] ∧ Amt A ∧ 1 ≤ most ∧ most ≤ 6) (fun as r => ∃ A most, as = [.d (tI A), .d (.int most)] ∧ ∃ bs, r = bidsD bs ∧ BOk A bs ∧ 1 ≤ bs.length ∧ MOk bs)
theorem Zip : MoS Ze7 := Zhc
theorem Zin : ∀ vs w k, Ze7 vs w k → vs.length = 3 := Zk7 (n := 2) (by rintro vs ⟨A, mo, rfl, _⟩; rfl)
theorem Zj8 (T : Txt K mg) : Dn P w K mg base 3 "_law_bids" sLawBids ["_law_urn_here", "_law_amounts_here", "_law_most"] (spD K Ze7) := by
 have D_law_bundle := Zgt (P := P) (w := w) (base := base) T
 have D_law_draw := Zd9 (P := P) (w := w) (base := base) T
 refine Dn.data (k := 2) T.f_law_bids Zbq Zin (fun a cdv A outer s H E hr => ⟨_, _, IPSs.get (Za4 (Zaa (i := 3) Zbq.nd rfl (Or.inl rfl) (Zbl Za2))
  (Za4 (Zaa (i := 4) Zbq.nd rfl (Or.inl rfl) (Zbd Zbv (Zbl (Za0 Za5 (Za0 Za5 (Za0 Za5 (Za0 Za5 (Za0 (Za9 Zjw Za5 Za5) Za2)))))) (Zag D_law_draw Zb5 (hr.mono (by decide)) (Za0 (i_pv 0) (Za0 Za5 Za2))) (fun _ _ => rfl)))
  (Za4 (Zbx PassesOwn.never rfl (Zbn rfl T.z_range (Za0 (Za9 Zcb Za5 (Zag D_law_draw Zb5 (hr.mono (by decide)) (Za0 (i_pv 0) (Za0 (i_pv 2) Za2)))) Za2)) (Zb7 (i := 5) Zbq.nd rfl (Or.inl rfl)) (Za4 (Zaa (i := 6) Zbq.nd rfl (Or.inl rfl) (Zbd Zbv (Zbl (Za0 Za5 (Za0 Za5 (Za0 Za5 (Za0 Za5 (Za0 Za5 (Za0 Za5 (Za0 Za5 (Za0 Za5 Za2))))))))) (Zag D_law_draw Zb5 (hr.mono (by decide)) (Za0 (i_pv 0) (Za0 Za5 Za2))) (fun _ _ => rfl)))
  (Za4 (Zaa (i := 7) Zbq.nd rfl (Or.inl rfl) (Zbl Za2))
  (Za4 (Zbx PassesOwn.never rfl (Zbn rfl T.z_range (Za0 (Zag D_law_draw Zb5 (hr.mono (by decide)) (Za0 (i_pv 0) (Za0 (i_pv 6) Za2))) Za2)) (Zb7 (i := 8) Zbq.nd rfl (Or.inl rfl)) (Za4 (Zaa (i := 9) Zbq.nd rfl (Or.inl rfl) (Zag D_law_bundle Zgl (hr.mono (by decide)) (Za0 (i_pv 0) (Za0 (i_pv 1) Za2))))
  (Za4 (Zcp (Zbs Zn9 (Zag D_law_draw Zb5 (hr.mono (by decide)) (Za0 (i_pv 0) (Za0 Za5 Za2))) Za5 (nomark _)) (Za8 (Zaa (i := 9) Zbq.nd rfl (Or.inl rfl) (Zb0 Zaj rfl T.z_tuple (by decide +kernel) (Za0 (by refine' Zar (Nc := ["_law_pieces"]) (cap := [none]) rfl ?i ?k ?g ?t ?e; (case k => kernel_rfl); (case i => exact (Zc6 (i_pv 9))); (case g => exact (fun _ _ _ _ _ => (Zbm 0 (by show List.Nodup (["_law_pieces"] : List Str); decide +kernel)))); (case t => exact (fun _ _ _ _ _ => Zas)); (case e => exact (fun _ _ _ _ _ => (Za9 Zcb (Zbu 0) Za5)))) Za2)))) Zb8)
  (Za8 (Zco (Zea PySem.F.plainAttrs_list PySem.F.slot_list_append PySem.F.type_list_append Zd2 (i_pv 7) (Za0 (Zbw (Za0 (i_pv 9) (Za0 (Zag D_law_draw Zb5 (hr.mono (by decide)) (Za0 (i_pv 0) (Za0 (i_pv 4) Za2))) Za2))) Za2)))))))
  (Za8 (Zco (Zea PySem.F.plainAttrs_list PySem.F.slot_list_append PySem.F.type_list_append Zd2 (i_pv 3) (Za0 (Zb0 Zaj rfl T.z_tuple (by decide +kernel) (Za0 (i_pv 7) Za2)) Za2))))))))
  (Za8 (Zb2 (Zb0 Zaj rfl T.z_tuple (by decide +kernel) (Za0 (i_pv 3) Za2))))))), (Zai (Zb6 (Zct true Za6) (Za7 3))
  (Zai (Zb6 (Zbc Zdx (Zct false (Za1 Zan (Za1 Zan (Za1 Zan (Za1 Zan (Za1 (Zbc ro_I Zan Zan) Za6)))))) (Zau Zb3 (Za1 (Za3 0) (Za1 Zan Za6)))) (Za7 4))
  (Zai (Zcu (Zdg (Za1 (Zbc Zf1 Zan (Zau Zb3 (Za1 (Za3 0) (Za1 (Za3 2) Za6)))) Za6)) (Za7 5) (Zai (Zb6 (Zbc Zdx (Zct false (Za1 Zan (Za1 Zan (Za1 Zan (Za1 Zan (Za1 Zan (Za1 Zan (Za1 Zan (Za1 Zan Za6))))))))) (Zau Zb3 (Za1 (Za3 0) (Za1 Zan Za6)))) (Za7 6))
  (Zai (Zb6 (Zct true Za6) (Za7 7))
  (Zai (Zcu (Zdg (Za1 (Zau Zb3 (Za1 (Za3 0) (Za1 (Za3 6) Za6))) Za6)) (Za7 8) (Zai (Zb6 (Zau Zg2 (Za1 (Za3 0) (Za1 (Za3 1) Za6))) (Za7 9))
  (Zai (Zit (Zcz (Zbc Znp (Zau Zb3 (Za1 (Za3 0) (Za1 Zan Za6))) Zan)) (Zb6 (Zbh Zbi (Za1 (Zb9 false (Zdw (Za3 9)) (Za7 0) Zbk (Zba (Zbc Zf1 (Za3 0) Zan))) Za6)) (Za7 9)) Zc9)
  (Zed (Zgf (Za3 7) (Za1 (Zd4 (Za1 (Za3 9) (Za1 (Zau Zb3 (Za1 (Za3 0) (Za1 (Za3 4) Za6))) Za6))) Za6))))))
  (Zed (Zgf (Za3 3) (Za1 (Zbh Zbi (Za1 (Zkv 7) Za6)) Za6)))))))
  (Zbz (Zbh Zbi (Za1 (Za3 3) Za6)))))), fun as o q h => ?_⟩)
 obtain ⟨u, as, m, rfl, hw, hm, ⟨A, mo, rfl, hA, hm1, hm6⟩, hq⟩ := Zk8 h
 have hA1 := hA.1
 have hA2 := hA.2.1
 rw [hw]
 simp! only []
 refine ⟨by decide, fun p hp => ?_⟩
 have hpu : p ≠ u := fun e => by rw [e, OW.put_same] at hp; cases hp
 have hpo : o p = none := by rw [OW.put_ne hpu] at hp; exact hp
 simp! only []
 refine ⟨⟨by decide, by decide +kernel⟩, by decide, ?_⟩
 rw [Zdf hpu]
 refine Zc5 (by omega) (by decide) (by decide) fun d h0 h3 => ?_
 simp! only []
 have key : ∃ wd : Int, atI [PyData.int 2, PyData.int 4, PyData.int 30, PyData.int 1000, PyData.int (10 ^ Int.toNat 9)] d = some (.int wd) ∧ 0 < wd ∧ wd < 1073741824 := by
  have : d = 0 ∨ d = 1 ∨ d = 2 ∨ d = 3 ∨ d = 4 := by omega
  rcases this with rfl | rfl | rfl | rfl | rfl
  ·exact ⟨2, rfl, by decide, by decide⟩
  ·exact ⟨4, rfl, by decide, by decide⟩
  ·exact ⟨30, rfl, by decide, by decide⟩
  ·exact ⟨1000, rfl, by decide, by decide⟩
  ·exact ⟨_, rfl, by decide, by decide⟩
 obtain ⟨wd, ewd, wd0, wd1⟩ := key
 refine ⟨_, ewd, ?_⟩
 simp! only []
 refine Zc5 (by omega) (by omega) (by omega) fun n hn0 hn1 => ?_
 simp! only []
 refine ⟨⟨by omega, by omega⟩, ?_⟩
 have eN : (1 + n).toNat ≤ 6 ∧ 1 ≤ (1 + n).toNat := by omega
 refine ⟨fun i s => ∃ (o5 o6 o7 o8 o9 : Option Val) (bs : List Row) (m' : Nat), s = ⟨[some (.own u), some (.d (tI A)), some (.d (.int mo)), some (.own p), some (.d (.int wd)), o5, o6, o7, o8, o9], (o.put p (.lst (bs.map rowB))).put u (.urn m')⟩ ∧ bs.length = i ∧ i ≤ 6 ∧ (∀ r ∈ bs, ROk A r ∧ MRow r) ∧ m' ≤ m + 2 + 145 * i, ?_, fun _ _ _ => trivial, ?_, ?_⟩
 ·exact ⟨none, none, none, none, none, [], m + 1 + 1, rfl, rfl, by omega, by simp, by omega⟩
 ·rintro i d1 s hd ⟨o5, o6, o7, o8, o9, bs, m', rfl, hbl, hi, hro, hm'⟩
  have hi6 : i < 6 := by
   have := (List.getElem?_eq_some_iff.mp hd).1
   simp [rngD] at this; omega
  simp! only []
  refine ⟨by decide, ?_⟩
  refine Zc5 (by omega) (by decide) (by decide) fun d2 h20 h21 => ?_
  simp! only []
  have key : ∃ sz : Int, atI [PyData.int 3, PyData.int 5, PyData.int 7, PyData.int 7, PyData.int 7, PyData.int 7, PyData.int 7, PyData.int 21] d2 = some (.int sz) ∧ 0 < sz ∧ sz ≤ 21 := by
   have : d2 = 0 ∨ d2 = 1 ∨ d2 = 2 ∨ d2 = 3 ∨ d2 = 4 ∨ d2 = 5 ∨ d2 = 6 ∨ d2 = 7 := by omega
   rcases this with rfl | rfl | rfl | rfl | rfl | rfl | rfl | rfl
   ·exact ⟨3, rfl, by decide, by decide⟩
   ·exact ⟨5, rfl, by decide, by decide⟩
   ·exact ⟨7, rfl, by decide, by decide⟩
   ·exact ⟨7, rfl, by decide, by decide⟩
   ·exact ⟨7, rfl, by decide, by decide⟩
   ·exact ⟨7, rfl, by decide, by decide⟩
   ·exact ⟨7, rfl, by decide, by decide⟩
   ·exact ⟨21, rfl, by decide, by decide⟩
  obtain ⟨sz, esz, sz0, sz1⟩ := key
  refine ⟨_, esz, ?_⟩
  simp! only []
  refine ⟨by decide, fun p2 hp2 => ?_⟩
  have h2u : p2 ≠ u := fun e => by rw [e, OW.put_same] at hp2; cases hp2
  have h2p : p2 ≠ p := fun e => by rw [e, OW.put_ne hpu, OW.put_same] at hp2; cases hp2
  have h2o : (o.put p (.lst (bs.map rowB))) p2 = none := by rw [OW.put_ne h2u] at hp2; exact hp2
  rw [Zdf h2u]
  simp! only []
  refine Zc5 (by omega) (by omega) (by omega) fun n2 hn20 hn21 => ?_
  simp! only []
  refine ⟨⟨by omega, by omega⟩, ?_⟩
  refine ⟨fun j s => ∃ (o8 o9 : Option Val) (row : Row) (m2 : Nat), s = ⟨[some (.own u), some (.d (tI A)), some (.d (.int mo)), some (.own p), some (.d (.int wd)), some (.d d1), some (.d (.int sz)), some (.own p2), o8, o9], ((o.put p (.lst (bs.map rowB))).put p2 (.lst (row.map bidD))).put u (.urn m2)⟩ ∧ row.length = j ∧ j ≤ 20 ∧ (∀ b ∈ row, (b.1.length = A.length ∧ ∀ x ∈ b.1, 0 ≤ x) ∧ 0 ≤ b.2 ∧ b.2 < 1073741824) ∧ m2 ≤ m' + 2 + 7 * j, ⟨o8, o9, [], m' + 1 + 1, rfl, rfl, by omega, by simp, by omega⟩, fun _ _ _ => trivial, ?_, ?_⟩
  ·rintro j d3 s hd3 ⟨o8, o9, row, m2, rfl, hrl, hj, hrow, hm2⟩
   have hj20 : j < 20 := by
    have := (List.getElem?_eq_some_iff.mp hd3).1
    simp [rngD] at this; omega
   simp! only []
   refine Zk6 (by omega) ⟨A, rfl, hA⟩ ?_
   rintro r ⟨A', eA, b, rfl, hb⟩
   have eA2 : A = A' := Zpx (by simpa using eA)
   rw [← eA2] at hb
   simp! only []
   refine Zc5 (by omega) (by decide) (by decide) fun d4 h40 h41 => ?_
   simp! only []
   have hg1 : ∀ mm, (((o.put p (.lst (bs.map rowB))).put p2 (.lst (row.map bidD))).put u (.urn mm)) p2 = some (.lst (row.map bidD)) := fun mm => by rw [OW.put_ne h2u, OW.put_same]
   have hb0 : ∀ x ∈ b, 0 ≤ x := fun x hx => (hb.mem hA x hx).1
   refine ite2 (fun c => ?_) (fun c => ?_)
   all_goals simp! only [tI]
   ·refine Zbg b .int (fun x => .int (x + 1)) [] rfl trivial (Zat (by have := hb.1; simp; omega)) ?_ ?_
    ·intro x hx Q hQ
     simp! only []
     exact hQ
    simp! only []
    have eb : b.map (fun x => PyData.int (x + 1)) = (b.map fun x => x + 1).map .int := by rw [List.map_map]; rfl
    rw [eb]
    refine ⟨⟨_, hg1 _⟩, ?_⟩
    refine Zc5 (by omega) wd0 wd1 fun x hx0 hx1 => ?_
    simp! only []
    refine ⟨by decide, _, hg1 _, Zat (by rw [lmp]; omega), some (.d d3), some (.d (tI (b.map fun x => x + 1))), row ++ [(b.map fun x => x + 1, x)], m2 + 5 + 1 + 1, ?_, by simp [hrl], by omega, ?_, by omega⟩
    ·rw [Zdf h2u, OW.put_put, List.map_append]; rfl
    ·intro b1 hb1
     rcases List.mem_append.mp hb1 with hb1 | hb1
     ·exact hrow b1 hb1
     ·rw [List.mem_singleton.mp hb1]
      refine ⟨⟨by rw [lmp]; exact hb.1, fun y hy => ?_⟩, hx0, by show x < _; omega⟩
      obtain ⟨x, hx, rfl⟩ := List.mem_map.mp hy
      have := hb0 x hx
      omega
   ·refine ⟨⟨_, hg1 _⟩, ?_⟩
    refine Zc5 (by omega) wd0 wd1 fun x hx0 hx1 => ?_
    simp! only []
    refine ⟨by decide, _, hg1 _, Zat (by rw [lmp]; omega), some (.d d3), some (.d (tI b)), row ++ [(b, x)], m2 + 5 + 1 + 1, ?_, by simp [hrl], by omega, ?_, by omega⟩
    ·rw [Zdf h2u, OW.put_put, List.map_append]; rfl
    ·intro b1 hb1
     rcases List.mem_append.mp hb1 with hb1 | hb1
     ·exact hrow b1 hb1
     ·rw [List.mem_singleton.mp hb1]
      exact ⟨⟨hb.1, hb0⟩, hx0, by show x < _; omega⟩
  ·rintro s ⟨o8, o9, row, m2, rfl, hrl, hj, hrow, hm2⟩
   have eR : (rngD 0 n2.toNat).length = n2.toNat := by simp [rngD]
   rw [eR] at hrl hj hm2
   simp! only []
   have hg2 : (((o.put p (.lst (bs.map rowB))).put p2 (.lst (row.map bidD))).put u (.urn m2)).del p2 = (o.put p (.lst (bs.map rowB))).put u (.urn m2) := by
    rw [← Zdf h2u, Ze5 (by rw [OW.put_ne h2u]; exact h2o)]
   have hg3 : ((o.put p (.lst (bs.map rowB))).put u (.urn m2)) p = some (.lst (bs.map rowB)) := by rw [OW.put_ne hpu, OW.put_same]
   refine ⟨⟨bs.map rowB, by rw [OW.put_ne hpu, OW.put_ne (Ne.symm h2p), OW.put_same]⟩, row.map bidD, by rw [OW.put_ne h2u, OW.put_same], ?_⟩
   rw [hg2]
   refine ⟨_, hg3, Zat (by rw [lmp]; omega), some (.d d1), some (.d (.int sz)), some (.d (.list (row.map bidD))), o8, o9, bs ++ [row], m2, ?_, by simp [hbl], by omega, ?_, by omega⟩
   ·rw [Zdf hpu, OW.put_put, List.map_append]; rfl
   ·intro r hr
    rcases List.mem_append.mp hr with hr | hr
    ·exact hro r hr
    ·rw [List.mem_singleton.mp hr]
     exact ⟨⟨by omega, fun b hb => (hrow b hb).1⟩, fun b hb => (hrow b hb).2⟩
 ·rintro s ⟨o5, o6, o7, o8, o9, bs, m', rfl, hbl, hi, hro, hm'⟩
  have eR : (rngD 0 (1 + n).toNat).length = (1 + n).toNat := by simp [rngD]
  rw [eR] at hbl hi hm'
  have hg : ((o.put p (.lst (bs.map rowB))).put u (.urn m')) p = some (.lst (bs.map rowB)) := by rw [OW.put_ne hpu, OW.put_same]
  simp! only [hg]
  obtain ⟨w', hw', hk⟩ := hq (bidsD bs) m' ⟨A, mo, rfl, bs, rfl, ⟨by omega, fun r hr => (hro r hr).1⟩, by omega, fun r hr => (hro r hr).2⟩ (by omega)
  refine ⟨w', hw'.trans ?_, hk⟩
  rw [← Zdf hpu]
  exact OW.le.put (OW.le.refl _) (by rw [OW.put_ne hpu]; exact hpo) _
end
end Mine
namespace Mine
open PySem PySem.Spec PyProof.Rows L2
section
variable {P : Program} {w : World} {K : PySem.W.Frag} {mg : Str → Option Value} {base : Heap}
noncomputable def bidsL (bs : List Row) : PyData := .list (bs.map rowB)
noncomputable def dicF (A : List Int) (f : List Int → Int) : List (List Int × Int) := pts ((allW A).map fun b => (b, f b))
noncomputable def dicD (A : List Int) (f : List Int → Int) : PyData := .dict (kvK (enc .int (dicF A f)))
theorem Zj6 {A b : List Int} {f : List Int → Int} (h : b ∈ allW A) : dget (enc .int (dicF A f)) b = some (.int (f b)) := by rw [Zkc]; unfold dicF; rw [Zqx h]; rfl
noncomputable def Zdt : DSp := pureS fun vs r => ∃ A bs, vs = [.d (tI A), .d (bidsL bs)] ∧ Amt A ∧ BOk A bs ∧ r = .list ((List.range (bs.length + 1)).map fun k => dicD A (V (bs.drop k)))
theorem Zhb : MoS Zdt := Zc0
theorem Zh3 : ∀ vs w k, Zdt vs w k → vs.length = 2 := Zc1 (by rintro vs r ⟨b, w, rfl, _⟩; rfl)
theorem Zi8 (T : Txt K mg) : Dn P w K mg base 2 "_law_table" sLawTable ["_law_amounts_here", "_law_bids_here"] (spD K Zdt) := by
 have D_law_all_within := Zd1 (P := P) (w := w) (base := base) T
 have D_law_is_in := Zi6 (P := P) (w := w) (base := base) T
 refine Dn.dataI (k := 1) T.f_law_table Zbb Zh3 (fun a cdv A outer s H E hr => ⟨_, _,  (Za4 (Zaa (i := 2) Zbb.nd rfl (Or.inl rfl) (Zag D_law_all_within Zd0 (hr.mono (by decide)) (Za0 (i_pv 0) Za2)))
  (Za4 (Zaa (i := 3) Zbb.nd rfl (Or.inl rfl) Zga)
  (Za4 (Zbx PassesOwn.never rfl (Zbr (i_pv 2)) (Zb7 (i := 4) Zbb.nd rfl (Or.inl rfl)) (Za8 (Zig (Zje hr) (i_pv 3) (i_pv 4) Za5)))
  (Za4 (Zaa (i := 5) Zbb.nd rfl (Or.inl rfl) (Zbl (Za0 (i_pv 3) Za2)))
  (Za4 (Zbx PassesOwn.never rfl (Zmv rfl T.z_reversed (Za0 (i_pv 1) Za2)) (Zb7 (i := 6) Zbb.nd rfl (Or.inl rfl)) (Za4 (Zaa (i := 7) Zbb.nd rfl (Or.inl rfl) Zga)
  (Za4 (Zbx PassesOwn.never rfl (Zbr (i_pv 2)) (Zb7 (i := 4) Zbb.nd rfl (Or.inl rfl)) (Za4 (Zaa (i := 8) Zbb.nd rfl (Or.inl rfl) (Zbl (Za0 (Ze0 (Zje hr) (Zbd Zbv (i_pv 5) (Zfd Ziz Za5) (fun _ _ => rfl)) (i_pv 4) (fun _ _ => rfl)) Za2)))
  (Za4 (Zbx PassesOwn.never rfl (Zc6 (i_pv 6)) (Zgw (n := 2) rfl (Zae (Zb7 (i := 9) Zbb.nd rfl (Or.inl rfl)) (Zae (Zb7 (i := 10) Zbb.nd rfl (Or.inl rfl)) Zbj))) (Za8 (Zcp (Zkg (Zag D_law_is_in Zhs (hr.mono (by decide)) (Za0 (i_pv 9) (Za0 (i_pv 4) Za2)))) (Za8 (Zco (Zea PySem.F.plainAttrs_list PySem.F.slot_list_append PySem.F.type_list_append Zd2 (i_pv 8) (Za0 (Za9 Zcb (i_pv 10) (Ze0 (Zje hr) (Zbd Zbv (i_pv 5) (Zfd Ziz Za5) (fun _ _ => rfl)) (Zb0 Zaj rfl T.z_tuple (by decide +kernel) (Za0 (by refine' Zar (Nc := ["_law_many", "_law_few"]) (cap := [none, none]) rfl ?i ?k ?g ?t ?e; (case k => kernel_rfl); (case i => exact (Zf3 true true rfl T.z_zip (Za0 (i_pv 4) (Za0 (i_pv 9) Za2)))); (case g => exact (fun _ _ _ _ _ => (Zby (K := K) rfl (n := 2) rfl (Zae (Zbm 0 (by show List.Nodup (["_law_many", "_law_few"] : List Str); decide +kernel)) (Zae (Zbm 1 (by show List.Nodup (["_law_many", "_law_few"] : List Str); decide +kernel)) Zbj))))); (case t => exact (fun _ _ _ _ _ => Zas)); (case e => exact (fun _ _ _ _ _ => (Za9 Zna (Zbu 0) (Zbu 1))))) Za2)) (fun _ _ => rfl))) Za2)))) Zb8)))
  (Za8 (Zig (Zje hr) (i_pv 7) (i_pv 4) (Zad (Zi1 false rfl) rfl T.z_max boot_max (Za0 (i_pv 8) Za2)))))))
  (Za8 (Zco (Zea PySem.F.plainAttrs_list PySem.F.slot_list_append PySem.F.type_list_append Zd2 (i_pv 5) (Za0 (i_pv 7) Za2)))))))
  (Za8 (Zb2 (Zog (i_pv 5) (Zfd Ziz Za5))))))))), (Zai (Zb6 (Zau Zcs (Za1 (Za3 0) Za6)) (Za7 2))
  (Zai (Zb6 (Znl true) (Za7 3))
  (Zai (Zcu (Zck (Za3 2)) (Za7 4) (Znq (Za3 3) (Za3 4) Zan))
  (Zai (Zb6 (Zct true (Za1 (Znm 3) Za6)) (Za7 5))
  (Zai (Zcu (Zr2 (Za1 (Za3 1) Za6)) (Za7 6) (Zai (Zb6 (Znl true) (Za7 7))
  (Zai (Zcu (Zck (Za3 2)) (Za7 4) (Zai (Zb6 (Zct true (Za1 (Zhf (Zbc Zdx (Za3 5) (Zp3 ru_I Zan)) (Za3 4)) Za6)) (Za7 8))
  (Zai (Zcu (Zdw (Za3 6)) (Zd5 (Zb1 (Za7 9) (Zb1 (Za7 10) Zch))) (Zit (rt_b (Zau Zh9 (Za1 (Za3 9) (Za1 (Za3 4) Za6)))) (Zed (Zgf (Za3 8) (Za1 (Zbc Zf1 (Za3 10) (Zhf (Zbc Zdx (Za3 5) (Zp3 ru_I Zan)) (Zbh Zbi (Za1 (Zb9 false (Zkw (Za1 (Za3 4) (Za1 (Za3 9) Za6))) (Zd5 (Zb1 (Za7 0) (Zb1 (Za7 1) Zch))) Zbk (Zba (Zbc Zf1 (Za3 0) (Za3 1)))) Za6)))) Za6))) Zc9))
  (Znq (Za3 7) (Za3 4) (Zbh (Znj false) (Za1 (Zkv 8) Za6))))))
  (Zed (Zgf (Za3 5) (Za1 (Znm 7) Za6))))))
  (Zbz (Zsn false (Za3 5)))))))), fun as o q h => ?_⟩)
 obtain ⟨r, ⟨A, bs, rfl, hA, hB, rfl⟩, hq⟩ := h
 have hl := Zdy hA
 have hBl := hB.1
 simp! only []
 refine ⟨_, ⟨A, rfl, hA, rfl⟩, ?_⟩
 simp! only []
 intro p hp
 simp! only []
 refine ⟨fun i s => ∃ (o4 : Option Val), s = ⟨[some (.d (tI A)), some (.d (bidsL bs)), some (.d (.list ((allW A).map tI))), some (.own p), o4, none, none, none, none, none, none], o.put p (.dct (enc .int (pts (((allW A).take i).map fun b => (b, (0 : Int))))))⟩, ⟨none, rfl⟩, fun _ _ _ => trivial, ?_, ?_⟩
 ·rintro i d s hd ⟨o4, rfl⟩
  obtain ⟨b, hb, rfl⟩ := Zce hd
  have hbm := List.mem_of_getElem? hb
  have hpl := Zk0 (((allW A).take i).map fun b => (b, (0 : Int)))
  rw [lmp, List.length_take] at hpl
  simp! only []
  refine ⟨_, _, rfl, Zec (Zfp hA ((Zc8 hA).mp hbm)), Zat (by rw [Zj9]; omega), some (.d (tI b)), ?_⟩
  rw [Zgu PyData.int, List.take_add_one, hb, List.map_append]
  exact congrArg _ (congrArg _ (congrArg _ (congrArg _ (Zhe _ (b, (0 : Int))).symm)))
 rintro s ⟨o4, rfl⟩
 rw [lmp, List.take_length]
 simp! only []
 refine ⟨_, rfl, by decide, fun P1 hP1 => ?_⟩
 rw [Ze5 hp] at hP1 ⊢
 simp! only [bidsL, dItRvL]
 refine ⟨fun i s => ∃ (o3 o4 o6 o7 o8 o9 o10 : Option Val), s = ⟨[some (.d (tI A)), some (.d (bidsL bs)), some (.d (.list ((allW A).map tI))), o3, o4, some (.own P1), o6, o7, o8, o9, o10], o.put P1 (.lst ((List.range (i + 1)).map fun j => dicD A (V (bs.drop (bs.length - j)))))⟩ ∧ i ≤ bs.length, ⟨some (.d (.dict (kvK (enc .int (pts ((allW A).map fun b => (b, (0 : Int)))))))), o4, none, none, none, none, none, ?_, by omega⟩, fun _ _ _ => trivial, ?_, ?_⟩
 ·have e : dicD A (V (bs.drop (bs.length - 0))) = .dict (kvK (enc .int (pts ((allW A).map fun b => (b, (0 : Int)))))) := by
   rw [Nat.sub_zero, List.drop_length]; rfl
  rw [show List.range (0 + 1) = [0] from rfl, List.map_singleton, e]; rfl
 ·rintro i d s hd ⟨o3, o4, o6, o7, o8, o9, o10, rfl, hi⟩
  rw [← List.map_reverse] at hd
  obtain ⟨row, hrow, rfl⟩ := Zce hd
  have hin : i < bs.length := by have := (List.getElem?_eq_some_iff.mp hrow).1; simpa using this
  rw [List.getElem?_reverse hin] at hrow
  have hro := hB.2 row (List.mem_of_getElem? hrow)
  have ed : bs.drop (bs.length - (i + 1)) = row :: bs.drop (bs.length - i) := by
   have e1 : bs.length - (i + 1) = bs.length - 1 - i := by omega
   have h2 : bs.length - 1 - i < bs.length := by omega
   rw [e1, List.drop_eq_getElem_cons h2]
   rw [gEq h2] at hrow
   cases hrow
   rw [show bs.length - 1 - i + 1 = bs.length - i by omega]
  have eLs : ((List.range (i + 1)).map fun j => dicD A (V (bs.drop (bs.length - j)))) = ((List.range i).map fun j => dicD A (V (bs.drop (bs.length - j)))) ++ [dicD A (V (bs.drop (bs.length - i)))] := by rw [List.range_succ, List.map_append]; rfl
  have eLs2 : ((List.range (i + 1 + 1)).map fun j => dicD A (V (bs.drop (bs.length - j)))) = ((List.range (i + 1)).map fun j => dicD A (V (bs.drop (bs.length - j)))) ++ [dicD A (V (row :: bs.drop (bs.length - i)))] := by rw [List.range_succ (n := i + 1), List.map_append, ← ed]; rfl
  have eLl : ((List.range (i + 1)).map fun j => dicD A (V (bs.drop (bs.length - j)))).length ≤ 7 := by rw [lmp, List.length_range]; omega
  generalize ((List.range (i + 1)).map fun j => dicD A (V (bs.drop (bs.length - j)))) = Ls at *
  generalize bs.drop (bs.length - i) = rs at *
  simp! only []
  intro p7 hp7
  have h71 : p7 ≠ P1 := fun e => by rw [e, OW.put_same] at hp7; cases hp7
  have hat : atI Ls (-1) = some (dicD A (V rs)) := by rw [eLs]; exact Zgj _ _
  simp! only []
  refine ⟨fun j s => ∃ (o4 o8 o9 o10 : Option Val), s = ⟨[some (.d (tI A)), some (.d (bidsL bs)), some (.d (.list ((allW A).map tI))), o3, o4, some (.own P1), some (.d (rowB row)), some (.own p7), o8, o9, o10], (o.put P1 (.lst Ls)).put p7 (.dct (enc .int (pts (((allW A).take j).map fun b => (b, V (row :: rs) b)))))⟩, ⟨o4, o8, o9, o10, rfl⟩, fun _ _ _ => trivial, ?_, ?_⟩
  ·rintro j d s hd ⟨o4, o8, o9, o10, rfl⟩
   obtain ⟨w0, hw0, rfl⟩ := Zce hd
   have hwm := List.mem_of_getElem? hw0
   have hw := (Zc8 hA).mp hwm
   have hpl := Zk0 (((allW A).take j).map fun b => (b, V (row :: rs) b))
   rw [lmp, List.length_take] at hpl
   have eD : pts (((allW A).take (j + 1)).map fun b => (b, V (row :: rs) b)) = pt (pts (((allW A).take j).map fun b => (b, V (row :: rs) b))) w0 (V (row :: rs) w0) := by
    rw [List.take_add_one, hw0, List.map_append]; exact Zhe _ (w0, V (row :: rs) w0)
   generalize pts (((allW A).take j).map fun b => (b, V (row :: rs) b)) = D at *
   have hg : ((o.put P1 (.lst Ls)).put p7 (.dct (enc .int D))) P1 = some (.lst Ls) := by rw [OW.put_ne (Ne.symm h71), OW.put_same]
   simp! only [hg]
   refine ⟨_, hat, ?_⟩
   simp! only [dicD]
   refine ⟨_, _, _, rfl, Zec (Zfp hA hw), Zj6 hwm, ?_⟩
   simp! only []
   refine ⟨by decide, fun p8 hp8 => ?_⟩
   have h87 : p8 ≠ p7 := fun e => by rw [e, OW.put_same] at hp8; cases hp8
   have h81 : p8 ≠ P1 := fun e => by rw [e, OW.put_ne (Ne.symm h71), OW.put_same] at hp8; cases hp8
   have hg8 : ∀ X, (((o.put P1 (.lst Ls)).put p7 (.dct (enc .int D))).put p8 X) P1 = some (.lst Ls) := fun X => by rw [OW.put_ne (Ne.symm h81)]; exact hg
   simp! only [rowB]
   refine ⟨fun k s => ∃ (o9 o10 : Option Val), s = ⟨[some (.d (tI A)), some (.d (bidsL bs)), some (.d (.list ((allW A).map tI))), o3, some (.d (tI w0)), some (.own P1), some (.d (rowB row)), some (.own p7), some (.own p8), o9, o10], ((o.put P1 (.lst Ls)).put p7 (.dct (enc .int D))).put p8 (.lst ((V rs w0 :: (((row.take k).filter fun b => leq b.1 w0).map fun b => b.2 + V rs (sub w0 b.1))).map .int))⟩, ⟨o9, o10, rfl⟩, fun _ _ _ => trivial, ?_, ?_⟩
   ·rintro k d s hd ⟨o9, o10, rfl⟩
    obtain ⟨b, hb, rfl⟩ := Zce hd
    have hbm := List.mem_of_getElem? hb
    have hb2 := hro.2 b hbm
    have hA3 := hA.2.1
    have hw3 := hw.1
    have hr20 := hro.1
    have hfl := List.length_filter_le (fun b : Bid => leq b.1 w0) (row.take k)
    rw [List.length_take] at hfl
    have eF : ((row.take (k + 1)).filter fun b => leq b.1 w0) = ((row.take k).filter fun b => leq b.1 w0) ++ (if leq b.1 w0 = true then [b] else []) := by
     rw [List.take_add_one, hb, List.filter_append, Option.toList_some, List.filter_cons, List.filter_nil]
    generalize ((row.take k).filter fun b => leq b.1 w0) = F at *
    simp! only [bidD]
    refine ⟨_, ⟨_, _, rfl, by rw [hb2.1]; omega, rfl⟩, ?_⟩
    simp! only []
    refine ite2 (fun c => ?_) (fun c => ?_)
    ·rw [if_pos c] at eF
     simp! only [hg8]
     refine ⟨⟨_, rfl⟩, _, hat, ?_⟩
     have hsm := (Zc8 hA).mpr (Zk4 hw hb2.1 hb2.2 c)
     simp! only [dicD, tI, Zf6]
     refine Zbg (w0.zip b.1) (fun p => .tuple [.int p.1, .int p.2]) (fun p => .int (p.1 - p.2)) [] rfl trivial (Zat (by simp; omega)) ?_ ?_
     ·rintro ⟨x, y⟩ hx Q hQ
      simp! only []
      exact hQ
     have e : (w0.zip b.1).map (fun p => PyData.int (p.1 - p.2)) = (sub w0 b.1).map .int := by unfold sub; rw [List.map_map]; rfl
     simp! only []
     rw [e]
     refine ⟨_, _, _, rfl, Zec (Zfp hA ((Zc8 hA).mp hsm)), Zj6 hsm, ?_⟩
     simp! only []
     refine ⟨_, rfl, Zat (by simp; omega), some (.d (tI b.1)), some (.d (.int b.2)), ?_⟩
     rw [eF, List.map_append, List.map_append]; rfl
    ·rw [if_neg c] at eF
     simp! only []
     exact ⟨some (.d (tI b.1)), some (.d (.int b.2)), by rw [eF, List.append_nil]⟩
   ·rintro s ⟨o9, o10, rfl⟩
    rw [lmp, List.take_length]
    simp! only []
    refine ⟨_, rfl, ?_⟩
    rw [Ze5 hp8]
    simp! only [uIs, uIs_map]
    refine ⟨by simp, fun mm h1 h2 => ?_⟩
    have em : mm = V (row :: rs) w0 := Zru h1 h2
    refine ⟨_, _, rfl, Zec (Zfp hA hw), Zat (by rw [Zj9]; omega), some (.d (tI w0)), some (.d (.list ((V rs w0 :: ((row.filter fun b => leq b.1 w0).map fun b => b.2 + V rs (sub w0 b.1))).map .int))), o9, o10, ?_⟩
    rw [Zgu PyData.int, em, eD]; rfl
  ·rintro s ⟨o4, o8, o9, o10, rfl⟩
   rw [lmp, List.take_length]
   have hg : ((o.put P1 (.lst Ls)).put p7 (.dct (enc .int (pts ((allW A).map fun b => (b, V (row :: rs) b)))))) P1 = some (.lst Ls) := by rw [OW.put_ne (Ne.symm h71), OW.put_same]
   simp! only [hg]
   refine ⟨⟨_, rfl⟩, _, rfl, ?_⟩
   rw [Ze5 hp7]
   refine ⟨_, OW.put_same, Zat (by omega), o3, o4, some (.d (rowB row)), some (.d (dicD A (V (row :: rs)))), o8, o9, o10, ?_, hin⟩
   rw [OW.put_put, eLs2]; rfl
 ·rintro s ⟨o3, o4, o6, o7, o8, o9, o10, rfl, hi⟩
  simp! only []
  have e : ((List.range (bs.length + 1)).map fun j => dicD A (V (bs.drop (bs.length - j)))).reverse = (List.range (bs.length + 1)).map fun k => dicD A (V (bs.drop k)) := by
   refine List.ext_getElem (by simp) fun i h1 h2 => ?_
   have h3 : i < bs.length + 1 := by simpa using h1
   rw [List.getElem_reverse]
   simp only [List.getElem_map, List.getElem_range, lmp, List.length_range]
   rw [show bs.length - (bs.length + 1 - 1 - i) = i by omega]
  rw [List.length_reverse, lmp, e]
  exact ⟨_, OW.le.new (OW.le.refl o) hP1 _, hq⟩
theorem Zoa {A : List Int} {bs : List Row} {i : Nat} (h : i ≤ bs.length) : ((List.range (bs.length + 1)).map fun k => dicD A (V (bs.drop k)))[i]? = some (dicD A (V (bs.drop i))) := by
 rw [List.getElem?_map, List.getElem?_range (by omega)]; rfl
end
end Mine
namespace Mine
open PySem PySem.Spec PyProof.Rows L2
section
variable {P : Program} {w : World} {K : PySem.W.Frag} {mg : Str → Option Value} {base : Heap}
noncomputable def subsF : Nat → List (List Int)
 | 0 => [[]]
 | n + 1 => subsF n ++ (subsF n).map fun l => l ++ [(n : Int)]
noncomputable def prsF (n : Nat) : List Pr := (subsF n).map fun l => ((l.length : Nat), l)
noncomputable def nextF (n : Nat) (l : List (List Int)) : List (List Int) := l.flatMap fun s => (List.range' ((s.getLast?.map fun x => x.toNat + 1).getD 0) (n - (s.getLast?.map fun x => x.toNat + 1).getD 0)).map fun (k : Nat) => s ++ [(k : Int)]
noncomputable def lastF (n : Nat) : Nat → List (List Int)
 | 0 => [[]]
 | k + 1 => nextF n (lastF n k)
noncomputable def setsF (n : Nat) : List (List Int) := (List.range (n + 1)).flatMap (lastF n)
noncomputable def chkS (n : Nat) : Bool := match Tim.runS (prsLt (prsF n)) (prsF n).length with
 | some p => (p.toList.map fun i => (subsF n).getD i []) == setsF n && p.toList.all (fun i => decide (i < (prsF n).length)) && decide (p.size ≤ 100) && decide (2 ≤ (prsF n).length) && decide ((prsF n).length ≤ 64)
 | none => false
theorem Zo9 : (List.range 6).all (fun n => chkS (n + 1)) = true := by decide +kernel
theorem Zp6 {n : Nat} (h1 : 1 ≤ n) (h6 : n ≤ 6) : ∃ p, Tim.runS (prsLt (prsF n)) (prsF n).length = some p ∧ (p.toList.map fun i => (subsF n).getD i []) = setsF n ∧ (∀ i ∈ p.toList, i < (prsF n).length) ∧ p.size ≤ 100 ∧ 2 ≤ (prsF n).length ∧ (prsF n).length ≤ 64 := by
 have h := List.all_eq_true.mp Zo9 (n - 1) (List.mem_range.mpr (by omega))
 rw [show n - 1 + 1 = n by omega] at h
 unfold chkS at h
 split at h
 ·next p e =>
  simp only [Bool.and_eq_true, decide_eq_true_eq, beq_iff_eq, List.all_eq_true] at h
  exact ⟨p, e, h.1.1.1.1, h.1.1.1.2, h.1.1.2, h.1.2, h.2⟩
 ·cases h
theorem Zl2 (n : Nat) (h : n ≤ 6) : (subsF n).length ≤ 64 := by
 have : (List.range 7).all (fun n => decide ((subsF n).length ≤ 64)) = true := by decide
 exact of_decide_eq_true (List.all_eq_true.mp this n (List.mem_range.mpr (by omega)))
theorem Znw (n : Nat) (h : n ≤ 6) : ∀ l ∈ subsF n, l.length ≤ 6 := by
 have : (List.range 7).all (fun n => (subsF n).all fun l => decide (l.length ≤ 6)) = true := by decide
 intro l hl
 exact of_decide_eq_true (List.all_eq_true.mp (List.all_eq_true.mp this n (List.mem_range.mpr (by omega))) l hl)
theorem Zhi (n : Nat) (h : n ≤ 6) : (setsF n).length ≤ 64 := by
 have : (List.range 7).all (fun n => decide ((setsF n).length ≤ 64)) = true := by decide +kernel
 exact of_decide_eq_true (List.all_eq_true.mp this n (List.mem_range.mpr (by omega)))
theorem Znu (n : Nat) (h : n ≤ 6) : ∀ l ∈ setsF n, l.length ≤ 6 ∧ ∀ x ∈ l, x.natAbs < 2 ^ 100 := by
 have : (List.range 7).all (fun n => (setsF n).all fun l => decide (l.length ≤ 6) && l.all fun x => decide (x.natAbs < 2 ^ 100)) = true := by decide +kernel
 intro l hl
 have h1 := List.all_eq_true.mp (List.all_eq_true.mp this n (List.mem_range.mpr (by omega))) l hl
 rw [Bool.and_eq_true] at h1
 exact ⟨of_decide_eq_true h1.1, fun x hx => of_decide_eq_true (List.all_eq_true.mp h1.2 x hx)⟩
noncomputable def Ze8 : DSp := pureS fun vs r => ∃ n : Nat, vs = [.d (.int n)] ∧ 1 ≤ n ∧ n ≤ 6 ∧ r = .list ((setsF n).map tI)
theorem Zdv : MoS Ze8 := Zc0
theorem Zio : ∀ vs w k, Ze8 vs w k → vs.length = 1 := Zc1 (by rintro vs r ⟨n, rfl, _⟩; rfl)
theorem Ze6 (T : Txt K mg) : Dn P w K mg base 1 "_law_sets" sLawSets ["_law_many"] (spD K Ze8) := by
 refine Dn.dataI (k := 0) T.f_law_sets Zdi Zio (fun a cdv A outer s H E hr => ⟨_, _,  (Za4 (Zaa (i := 1) Zdi.nd rfl (Or.inl rfl) (Zbl (Za0 (Zbw Za2) Za2)))
  (Za4 (Zbx PassesOwn.never rfl (Zbn rfl T.z_range (Za0 (i_pv 0) Za2)) (Zb7 (i := 2) Zdi.nd rfl (Or.inr rfl)) (Za8 (Zaa (i := 1) Zdi.nd rfl (Or.inl rfl) (Za9 Zkq (i_pv 1) (by refine' Zar (Nc := ["_law_one", "_law_k"]) (cap := [none, some 2]) rfl ?i ?k ?g ?t ?e; (case k => kernel_rfl); (case i => exact (Zbr (i_pv 1))); (case g => exact (fun _ _ _ _ _ => (Zbm 0 (by show List.Nodup (["_law_one", "_law_k"] : List Str); decide +kernel)))); (case t => exact (fun _ _ _ _ _ => Zas)); (case e => exact (fun _ _ _ _ _ => (Za9 (Zhd (K := K) rfl) (Zbu 0) (Zbw (Za0 (Zdm 1) Za2))))))))))
  (Za8 (Zb2 (by refine' Zar (Nc := ["_law_size", "_law_one"]) (cap := [none, none]) rfl ?iX ?kX ?gX ?tX ?eX; (case kX => kernel_rfl); (case iX => exact (Zbr (Zad (Zlf hr.units) rfl T.z_sorted boot_sorted (Za0 (by refine' Zar (Nc := ["_law_one"]) (cap := [none]) rfl ?i ?k ?g ?t ?e; (case k => kernel_rfl); (case i => exact (Zbr (i_pv 1))); (case g => exact (fun _ _ _ _ _ => (Zbm 0 (by show List.Nodup (["_law_one"] : List Str); decide +kernel)))); (case t => exact (fun _ _ _ _ _ => Zas)); (case e => exact (fun _ _ _ _ _ => (Zbw (Za0 (Zad (Zd8 (K := K) rfl) Zcf T.z_len boot_len (Za0 (Zbu 0) Za2)) (Za0 (Zbu 0) Za2)))))) Za2)))); (case gX => exact (fun _ _ _ _ _ => (Zby (K := K) rfl (n := 2) rfl (Zae (Zbm 0 (by show List.Nodup (["_law_size", "_law_one"] : List Str); decide +kernel)) (Zae (Zbm 1 (by show List.Nodup (["_law_size", "_law_one"] : List Str); decide +kernel)) Zbj))))); (case tX => exact (fun _ _ _ _ _ => Zas)); (case eX => exact (fun _ _ _ _ _ => (Zbu 1)))))))), (Zai (Zb6 (Zct false (Za1 (Zd4 Za6) Za6)) (Za7 1))
  (Zai (Zcu (Zdg (Za1 (Za3 0) Za6)) (Za7 2) (Zb6 (Zbc (Zkx false) (Za3 1) (Zb9 false (Zck (Za3 1)) (Za7 0) Zbk (Zba (Zbc Zhh (Za3 0) (Zd4 (Za1 (Za3 1) Za6)))))) (Za7 1)))
  (Zbz (Zb9 false (Zck (Zbh (Zp0 false) (Za1 (Zb9 false (Zck (Za3 1)) (Za7 0) Zbk (Zba (Zd4 (Za1 (Zbh Zd3 (Za1 (Za3 0) Za6)) (Za1 (Za3 0) Za6))))) Za6))) (Zd5 (Zb1 (Za7 0) (Zb1 (Za7 1) Zch))) Zbk (Zba (Za3 1)))))), fun as o q h => ?_⟩)
 obtain ⟨r, ⟨n, rfl, hn1, hn6, rfl⟩, hq⟩ := h
 simp! only []
 refine ⟨by show 0 ≤ sizeLine; decide, L2.sz1, ?_⟩
 simp! only []
 refine ⟨⟨by omega, by omega⟩, ?_⟩
 refine ⟨fun i s => i ≤ 6 ∧ ∃ (o2 : Option Val), s = ⟨[some (.d (.int n)), some (.d (.list ((subsF i).map tI))), o2], o⟩, ⟨by omega, none, rfl⟩, fun _ _ _ => trivial, ?_, ?_⟩
 ·rintro i d s hd ⟨hi6, o2, rfl⟩
  have hd2 : i < n ∧ d = .int (0 + (i : Int)) := by
   unfold rngD at hd
   obtain ⟨r, hr, rfl⟩ := Zce hd
   obtain ⟨h1, h2⟩ := List.getElem?_eq_some_iff.mp hr
   rw [List.length_range] at h1
   rw [List.getElem_range] at h2
   subst h2
   exact ⟨by omega, rfl⟩
  obtain ⟨hin, rfl⟩ := hd2
  have hsl := Zl2 i hi6
  simp! only []
  refine Zbg (subsF i) tI (fun l => tI (l ++ [(i : Int)])) [] rfl trivial (Zat (by simp; omega)) ?_ ?_
  ·intro l hl Q hQ
   have hll := Znw i hi6 l hl
   simp! only [tI]
   refine ⟨L2.sz1, Zee (by rw [lmp]; omega), ?_⟩
   have e : tI (l ++ [(i : Int)]) = PyData.tuple (List.map PyData.int l ++ [PyData.int (0 + (i : Int))]) := by
    unfold tI; rw [List.map_append, Int.zero_add]; rfl
   rw [e] at hQ
   exact hQ
  ·simp! only [lmp]
   refine ⟨Zee (by omega), by omega, some (.d (.int (0 + (i : Int)))), ?_⟩
   have e : (subsF (i + 1)).map tI = (subsF i).map tI ++ (subsF i).map fun l => tI (l ++ [(i : Int)]) := by
    show (subsF i ++ (subsF i).map fun l => l ++ [(i : Int)]).map tI = _
    rw [List.map_append, List.map_map]; rfl
   rw [e]
 ·rintro s ⟨_, o2, rfl⟩
  have eN : (rngD 0 (n : Int).toNat).length = n := by simp [rngD]
  rw [eN]
  obtain ⟨p, hp1, hp2, hp3, hp4, hp5, hp6⟩ := Zp6 hn1 hn6
  have hsl := Zl2 n hn6
  simp! only []
  refine Zbg (subsF n) tI (fun l => prD ((l.length : Nat), l)) [] rfl trivial (Zat (by simp; omega)) ?_ ?_
  ·intro l hl Q hQ
   simp! only [tI, lmp]
   refine ⟨L2.sz2, ?_⟩
   exact hQ
  simp! only [gSortP]
  have e1 : (subsF n).map (fun l => prD ((l.length : Nat), l)) = (prsF n).map prD := by unfold prsF; rw [List.map_map]; rfl
  refine ⟨prsF n, p, e1, hp5, by omega, by omega, hp3, hp1, ?_⟩
  simp! only []
  have hpl : p.toList.length ≤ 100 := by rw [Array.length_toList]; exact hp4
  refine Zbg p.toList (fun i => ((subsF n).map fun l => prD ((l.length : Nat), l)).getD i .none) (fun i => tI ((subsF n).getD i [])) [] rfl trivial (Zat (by simp only [List.length_nil]; omega)) ?_ ?_
  ·intro i hi Q hQ
   have hil : i < (subsF n).length := by have := hp3 i hi; simpa [prsF] using this
   have e2 : ((subsF n).map fun l => prD ((l.length : Nat), l)).getD i .none = prD (((subsF n).getD i []).length, (subsF n).getD i []) := by simp [List.getD, hil]
   rw [e2]
   simp! only [prD]
   exact hQ
  ·simp! only []
   have e3 : (setsF n).map tI = p.toList.map fun i => tI ((subsF n).getD i []) := by rw [← hp2, List.map_map]; rfl
   rw [e3] at hq
   exact ⟨_, OW.le.refl _, hq⟩
end
end Mine
namespace Mine
open PySem PySem.Spec PyProof.Rows L2
section
variable {P : Program} {w : World} {K : PySem.W.Frag} {mg : Str → Option Value} {base : Heap}
theorem V_ge {r : Row} {rs : List Row} {w : List Int} : V rs w ≤ V (r :: rs) w := Zop _ _
theorem Zo5 {r : Row} {rs : List Row} {w : List Int} {b : Bid} (h : b ∈ r) (hl : leq b.1 w = true) : b.2 + V rs (sub w b.1) ≤ V (r :: rs) w :=
 Zqb _ _ _ (List.mem_map.mpr ⟨b, List.mem_filter.mpr ⟨h, hl⟩, rfl⟩)
theorem V_le {r : Row} {rs : List Row} {w : List Int} {y : Int} (h1 : V rs w ≤ y) (h2 : ∀ b ∈ r, leq b.1 w = true → b.2 + V rs (sub w b.1) ≤ y) : V (r :: rs) w ≤ y := by
 rcases List.mem_cons.mp (Zko ((r.filter fun b => leq b.1 w).map fun b => b.2 + V rs (sub w b.1)) (V rs w)) with e | e
 ·have : V (r :: rs) w = V rs w := e
  omega
 ·obtain ⟨b, hb, e⟩ := List.mem_map.mp e
  obtain ⟨h3, h4⟩ := List.mem_filter.mp hb
  have h5 := h2 b h3 h4
  have : V (r :: rs) w = b.2 + V rs (sub w b.1) := e.symm
  omega
theorem Zr9 {w b : List Int} (h : b.length = w.length) : (sub w b).length = w.length := by unfold sub; rw [lmp, List.length_zip]; omega
theorem Zq1 : ∀ (rs : List Row) (w : List Int), MOk rs → 0 ≤ V rs w ∧ V rs w ≤ rs.length * 1073741824
 | [], w, _ => ⟨Int.le_refl _, Int.le_refl _⟩
 | r :: rs, w, h => by
  have h1 : MOk rs := fun x hx => h x (List.mem_cons_of_mem _ hx)
  have h2 := h r (List.mem_cons_self ..)
  have ih := Zq1 rs w h1
  have e : V (r :: rs) w = mx (V rs w) ((r.filter fun b => leq b.1 w).map fun b => b.2 + V rs (sub w b.1)) := rfl
  rw [List.length_cons]
  have e2 : (((rs.length + 1 : Nat)) : Int) * 1073741824 = rs.length * 1073741824 + 1073741824 := by push_cast; omega
  rw [e2]
  rcases List.mem_cons.mp (Zko ((r.filter fun b => leq b.1 w).map fun b => b.2 + V rs (sub w b.1)) (V rs w)) with e3 | e3
  ·rw [e, e3]; omega
  ·obtain ⟨b, hb, e4⟩ := List.mem_map.mp e3
   have h3 := h2 b (List.mem_filter.mp hb).1
   have h4 := Zq1 rs (sub w b.1) h1
   rw [e, ← e4]; omega
theorem Zkl : ∀ {w a b : List Int}, a.length = w.length → b.length = w.length → (∀ x ∈ a, 0 ≤ x) → (∀ x ∈ b, 0 ≤ x) → leq a w = true → leq b (sub w a) = true → leq b w = true ∧ leq a (sub w b) = true ∧ sub (sub w a) b = sub (sub w b) a
 | [], [], [], _, _, _, _, _, _ => ⟨rfl, rfl, rfl⟩
 | [], _ :: _, _, h, _, _, _, _, _ => by simp at h
 | [], [], _ :: _, _, h, _, _, _, _ => by simp at h
 | _ :: _, [], _, h, _, _, _, _, _ => by simp at h
 | _ :: _, _ :: _, [], _, h, _, _, _, _ => by simp at h
 | w :: ws, a :: as, b :: bs, h1, h2, h3, h4, h5, h6 => by
  have e1 : leq (a :: as) (w :: ws) = (decide (a ≤ w) && leq as ws) := rfl
  have e2 : leq (b :: bs) (sub (w :: ws) (a :: as)) = (decide (b ≤ w - a) && leq bs (sub ws as)) := rfl
  rw [e1, Bool.and_eq_true, decide_eq_true_eq] at h5
  rw [e2, Bool.and_eq_true, decide_eq_true_eq] at h6
  have ha := h3 a (List.mem_cons_self ..)
  have hb := h4 b (List.mem_cons_self ..)
  obtain ⟨i1, i2, i3⟩ := Zkl (w := ws) (a := as) (b := bs) (by simpa using h1) (by simpa using h2) (fun x hx => h3 x (List.mem_cons_of_mem _ hx)) (fun x hx => h4 x (List.mem_cons_of_mem _ hx)) h5.2 h6.2
  refine ⟨?_, ?_, ?_⟩
  ·show (decide (b ≤ w) && leq bs ws) = true
   rw [i1, Bool.and_true, decide_eq_true_eq]; omega
  ·show (decide (a ≤ w - b) && leq as (sub ws bs)) = true
   rw [i2, Bool.and_true, decide_eq_true_eq]; omega
  ·show (w - a - b) :: sub (sub ws as) bs = (w - b - a) :: sub (sub ws bs) as
   rw [i3]; congr 1; omega
theorem Zpk {A : List Int} {r1 r2 : Row} {rs : List Row} {w : List Int} (h1 : ROk A r1) (h2 : ROk A r2) (hw : w.length = A.length) : V (r1 :: r2 :: rs) w ≤ V (r2 :: r1 :: rs) w := by
 refine V_le (V_le ?_ fun b hb hl => ?_) fun a ha hl => ?_
 ·exact Int.le_trans (V_ge (r := r1)) V_ge
 ·have q1 := Zo5 (rs := r1 :: rs) hb hl
  have q2 := V_ge (r := r1) (rs := rs) (w := sub w b.1)
  omega
 ·have ha2 := h1.2 a ha
  have q0 := Zo5 (rs := rs) ha hl
  have q1 := V_ge (r := r2) (rs := r1 :: rs) (w := w)
  have : V (r2 :: rs) (sub w a.1) ≤ V (r2 :: r1 :: rs) w - a.2 := by
   refine V_le (by omega) fun b hb hl2 => ?_
   have hb2 := h2.2 b hb
   obtain ⟨s1, s2, s3⟩ := Zkl (w := w) (a := a.1) (b := b.1) (by rw [ha2.1, hw]) (by rw [hb2.1, hw]) ha2.2 hb2.2 hl hl2
   have q2 := Zo5 (rs := r1 :: rs) hb s1
   have q3 := Zo5 (rs := rs) ha s2
   rw [s3]
   omega
  omega
theorem Zrh {A : List Int} {l1 l2 : List Row} (h : l1.Perm l2) : (∀ r ∈ l1, ROk A r) → ∀ w : List Int, w.length = A.length → V l1 w = V l2 w := by
 induction h with
 | nil => intro _ w _; rfl
 | cons x p ih =>
  intro hr w hw
  have hr' := fun r hr2 => hr r (List.mem_cons_of_mem _ hr2)
  have hx := hr x (List.mem_cons_self ..)
  rename_i l1 l2
  show mx (V l1 w) ((x.filter fun b => leq b.1 w).map fun b => b.2 + V l1 (sub w b.1)) = mx (V l2 w) ((x.filter fun b => leq b.1 w).map fun b => b.2 + V l2 (sub w b.1))
  rw [ih hr' w hw]
  congr 1
  refine List.map_congr_left fun b hb => ?_
  have hb2 := hx.2 b (List.mem_filter.mp hb).1
  rw [ih hr' (sub w b.1) (by rw [Zr9 (by rw [hb2.1, hw]), hw])]
 | swap x y l =>
  intro hr w hw
  have h1 := hr y (List.mem_cons_self ..)
  have h2 := hr x (List.mem_cons_of_mem _ (List.mem_cons_self ..))
  exact Int.le_antisymm (Zpk h1 h2 hw) (Zpk h2 h1 hw)
 | trans p q ih1 ih2 =>
  intro hr w hw
  rw [ih1 hr w hw, ih2 (fun r h => hr r (p.mem_iff.mpr h)) w hw]
theorem Zrj {α : Type} {xs : List α} {v : α} (h : xs[xs.length - 1]? = some v) : atI xs (-1) = some v := by
 rw [← List.getLast?_eq_getElem?] at h
 obtain ⟨ys, rfl⟩ := List.getLast?_eq_some_iff.mp h
 exact Zgj _ _
theorem Zo7 {A : List Int} (hA : Amt A) : 0 < (allW A).length := by
 have := (List.getElem?_eq_some_iff.mp (Zhq hA)).1
 omega
theorem Zq3 {L : List Int} (h : 0 < L.length) : atI (L.map PyData.int) (-1) = some (.int (L.getD (L.length - 1) 0)) := Zrj (by
 have h2 : L.length - 1 < L.length := by omega
 rw [lmp, List.getElem?_map, gEq h2]
 simp [List.getD, gEq h2])
noncomputable def Zdu : DSp := pureS fun vs r => ∃ (A : List Int) (bs : List Row) (js : List Nat) (os : List Row), vs = [.d (tI A), .d (bidsD bs), .d (tI (js.map fun (j : Nat) => (j : Int)))] ∧ Amt A ∧ BOk A os ∧ js.map (fun j => bs[j]?) = os.map some ∧ r = .int (V os A)
theorem Zde : MoS Zdu := Zc0
theorem Zh4 : ∀ vs w k, Zdu vs w k → vs.length = 3 := Zc1 (by rintro vs r ⟨b, w, c, H, rfl, _⟩; rfl)
theorem Zi9 (T : Txt K mg) : Dn P w K mg base 4 "set_worth" sSetWorth ["amounts", "bids", "some"] (spD K Zdu) := by
 have D_best_table := Zgs (P := P) (w := w) (base := base) T
 refine Dn.data (k := 3) T.f_set_worth Ziw Zh4 (fun a cdv A outer s H E hr => ⟨_, _, IPSs.get (Za4 (Zb2 (Zbd Zim (Zbd Zim (Zag D_best_table Zgk (hr.mono (by decide)) (Za0 (i_pv 0) (Za0 (Zb0 Zaj rfl T.z_tuple (by decide +kernel) (Za0 (by refine' Zar (Nc := ["place", "bids"]) (cap := [none, some 1]) rfl ?i ?k ?g ?t ?e; (case k => kernel_rfl); (case i => exact (Zc6 (i_pv 2))); (case g => exact (fun _ _ _ _ _ => (Zbm 0 (by show List.Nodup (["place", "bids"] : List Str); decide +kernel)))); (case t => exact (fun _ _ _ _ _ => Zas)); (case e => exact (fun _ _ _ _ _ => (Zbd (Zji (K := K) rfl) (Zdm 1) (Zbu 0) (fun _ _ => rfl))))) Za2)) Za2))) Za5 (fun _ _ => rfl)) (Zfd Ziz Za5) (fun _ _ => rfl))) Zb8), (Zai (Zbz (Zbc Zis (Zbc Zis (Zau Zg1 (Za1 (Za3 0) (Za1 (Zbh Zbi (Za1 (Zb9 false (Zdw (Za3 2)) (Za7 0) Zbk (Zba (Zbc Zis (Za3 1) (Za3 0)))) Za6)) Za6))) Zan) (Zp3 ru_I Zan))) Zc9), fun as o q h => ?_⟩)
 obtain ⟨r, ⟨A, bs, js, os, rfl, hA, hB, hj, rfl⟩, hq⟩ := h
 have hl := Zdy hA
 have hWp := Zo7 hA
 have hBl := hB.1
 have hjl : js.length = os.length := by have := congrArg List.length hj; simpa using this
 simp! only [tI]
 refine Zbg (js.zip os) (fun p => .int ((p.1 : Nat) : Int)) (fun p => rowB p.2) [] ?_ trivial (Zat (by simp; omega)) ?_ ?_
 ·show (js.map fun (j : Nat) => (j : Int)).map PyData.int = _
  rw [List.map_map]
  have e : (js.zip os).map (fun p => p.1) = js := List.map_fst_zip (by omega)
  conv => lhs; rw [← e]
  rw [List.map_map]; rfl
 ·rintro ⟨j, row⟩ hx Q hQ
  have hjr : bs[j]? = some row := by
   obtain ⟨i, hi, e⟩ := List.getElem_of_mem hx
   rw [List.length_zip] at hi
   rw [List.getElem_zip] at e
   cases e
   have := congrArg (fun l => l[i]?) hj
   simp only [List.getElem?_map] at this
   rw [gEq (by omega), gEq (by omega)] at this
   simpa using this
  simp! only [bidsD]
  refine ⟨_, Zcv (by rw [List.getElem?_map, hjr]; rfl), ?_⟩
  simp! only []
  exact hQ
 ·simp! only []
  have e : (js.zip os).map (fun p => rowB p.2) = os.map rowB := by
   have e : (js.zip os).map (fun p => p.2) = os := List.map_snd_zip (by omega)
   conv => rhs; rw [← e]
   rw [List.map_map]; rfl
  rw [e]
  refine ⟨_, ⟨A, os, rfl, hA, hB, rfl⟩, ?_⟩
  simp! only [tabD]
  refine ⟨_, Zcv (j := 0) (Zrb (by omega)), ?_⟩
  simp! only [tI]
  refine ⟨_, Zq3 (by rw [lmp]; exact hWp), ?_⟩
  have e2 : ((allW A).map (V (os.drop 0))).getD (((allW A).map (V (os.drop 0))).length - 1) 0 = V os A := by
   rw [lmp, Zgv (Zhq hA), List.drop_zero]
  rw [e2]
  exact ⟨_, OW.le.refl _, hq⟩
noncomputable def lightF (A : List Int) (bs : List Row) : List Int × List Row := if decide ((((setsF bs.length).length : Nat) : Int) * (((allW A).length : Nat) : Int) * (bs.map fun r => ((r.length : Nat) : Int)).sum < 40000) = true then (A, bs) else (A.map fun x => min 2 x, bs.map fun r => r.take 5)
theorem Zol {A : List Int} {bs : List Row} (hA : Amt A) (hB : BOk A bs) (hM : MOk bs) : Amt (lightF A bs).1 ∧ BOk (lightF A bs).1 (lightF A bs).2 ∧ MOk (lightF A bs).2 ∧ (lightF A bs).2.length = bs.length := by
 unfold lightF
 split
 ·exact ⟨hA, hB, hM, rfl⟩
 ·refine ⟨⟨by simpa using hA.1, by simpa using hA.2.1, fun x hx => ?_⟩, ⟨by simpa using hB.1, fun r hr => ?_⟩, fun r hr => ?_, by simp⟩
  ·obtain ⟨y, hy, rfl⟩ := List.mem_map.mp hx
   have := hA.2.2 y hy
   omega
  ·obtain ⟨r', hr', rfl⟩ := List.mem_map.mp hr
   have h := hB.2 r' hr'
   refine ⟨by have := h.1; rw [List.length_take]; omega, fun b hb => ?_⟩
   have := h.2 b (List.mem_of_mem_take hb)
   simpa using this
  ·obtain ⟨r', hr', rfl⟩ := List.mem_map.mp hr
   exact fun b hb => hM r' hr' b (List.mem_of_mem_take hb)
theorem Zkk : ∀ (bs : List Row), (∀ r ∈ bs, r.length ≤ 20) → 0 ≤ (bs.map fun r => ((r.length : Nat) : Int)).sum ∧ (bs.map fun r => ((r.length : Nat) : Int)).sum ≤ 20 * (bs.length : Int)
 | [], _ => by simp
 | r :: bs, h => by
  have h1 := Zkk bs fun x hx => h x (List.mem_cons_of_mem _ hx)
  have h2 := h r (List.mem_cons_self ..)
  rw [List.map_cons, List.sum_cons, List.length_cons]
  push_cast
  omega
noncomputable def Zds : DSp := pureS fun vs r => ∃ A bs, vs = [.d (tI A), .d (bidsD bs)] ∧ Amt A ∧ BOk A bs ∧ 1 ≤ bs.length ∧ r = .tuple [tI (lightF A bs).1, bidsD (lightF A bs).2]
theorem Zha : MoS Zds := Zc0
theorem Zh2 : ∀ vs w k, Zds vs w k → vs.length = 2 := Zc1 (by rintro vs r ⟨A, b, rfl, _⟩; rfl)
theorem Zi7 (T : Txt K mg) : Dn P w K mg base 2 "_law_light" sLawLight ["_law_amounts_here", "_law_bids_here"] (spD K Zds) := by
 have D_law_all_within := Zd1 (P := P) (w := w) (base := base) T
 have D_law_sets := Ze6 (P := P) (w := w) (base := base) T
 refine Dn.dataI (k := 1) T.f_law_light Zf0 Zh2 (fun a cdv A outer s H E hr => ⟨_, _,  (Za4 (Zaa (i := 2) Zf0.nd rfl (Or.inl rfl) (Za9 Zcq (Zad Zb4 rfl T.z_len boot_len (Za0 (Zag D_law_sets Ze4 (hr.mono (by decide)) (Za0 (Zad Zb4 rfl T.z_len boot_len (Za0 (i_pv 1) Za2)) Za2)) Za2)) (Zad Zb4 rfl T.z_len boot_len (Za0 (Zag D_law_all_within Zd0 (hr.mono (by decide)) (Za0 (i_pv 0) Za2)) Za2))))
  (Za4 (Zcp (Zbs Zqe (Za9 Zcq (i_pv 2) (Zad (Zmf rfl) rfl T.z_sum boot_sum (Za0 (by refine' Zar (Nc := ["_law_row"]) (cap := [none]) rfl ?i ?k ?g ?t ?e; (case k => kernel_rfl); (case i => exact (Zc6 (i_pv 1))); (case g => exact (fun _ _ _ _ _ => (Zbm 0 (by show List.Nodup (["_law_row"] : List Str); decide +kernel)))); (case t => exact (fun _ _ _ _ _ => Zas)); (case e => exact (fun _ _ _ _ _ => (Zad (Zd8 (K := K) rfl) Zcf T.z_len boot_len (Za0 (Zbu 0) Za2))))) Za2))) Za5 (nomark _)) (Za8 (Zb2 (Zbw (Za0 (i_pv 0) (Za0 (i_pv 1) Za2))))) Zb8)
  (Za8 (Zb2 (Zbw (Za0 (Zb0 Zaj rfl T.z_tuple (by decide +kernel) (Za0 (by refine' Zar (Nc := ["_law_one"]) (cap := [none]) rfl ?i ?k ?g ?t ?e; (case k => kernel_rfl); (case i => exact (Zc6 (i_pv 0))); (case g => exact (fun _ _ _ _ _ => (Zbm 0 (by show List.Nodup (["_law_one"] : List Str); decide +kernel)))); (case t => exact (fun _ _ _ _ _ => Zas)); (case e => exact (fun _ _ _ _ _ => (Zad (Zi2 rfl) Zcf T.z_min boot_min (Za0 Za5 (Za0 (Zbu 0) Za2)))))) Za2)) (Za0 (Zb0 Zaj rfl T.z_tuple (by decide +kernel) (Za0 (by refine' Zar (Nc := ["_law_row"]) (cap := [none]) rfl ?i ?k ?g ?t ?e; (case k => kernel_rfl); (case i => exact (Zc6 (i_pv 1))); (case g => exact (fun _ _ _ _ _ => (Zbm 0 (by show List.Nodup (["_law_row"] : List Str); decide +kernel)))); (case t => exact (fun _ _ _ _ _ => Zas)); (case e => exact (fun _ _ _ _ _ => (Zgb (Zp9 (K := K) rfl) (Zbu 0) Zie (Zif Za5))))) Za2)) Za2))))))), (Zai (Zb6 (Zbc ro_I (Zbh Zd3 (Za1 (Zau Zdv (Za1 (Zbh Zd3 (Za1 (Za3 1) Za6)) Za6)) Za6)) (Zbh Zd3 (Za1 (Zau Zcs (Za1 (Za3 0) Za6)) Za6))) (Za7 2))
  (Zai (Zit (Zcz (Zbc Zp5 (Zbc ro_I (Za3 2) (Zbh Zsk (Za1 (Zb9 false (Zdw (Za3 1)) (Za7 0) Zbk (Zba (Zbh Zd3 (Za1 (Za3 0) Za6)))) Za6))) Zan)) (Zbz (Zd4 (Za1 (Za3 0) (Za1 (Za3 1) Za6)))) Zc9)
  (Zbz (Zd4 (Za1 (Zbh Zbi (Za1 (Zb9 false (Zdw (Za3 0)) (Za7 0) Zbk (Zba (Zbh Znk (Za1 Zan (Za1 (Za3 0) Za6))))) Za6)) (Za1 (Zbh Zbi (Za1 (Zb9 false (Zdw (Za3 1)) (Za7 0) Zbk (Zba (Zso Zt8 (Za3 0) Znr (Zns Zan)))) Za6)) Za6)))))), fun as o q h => ?_⟩)
 obtain ⟨r, ⟨A, bs, rfl, hA, hB, hb1, rfl⟩, hq⟩ := h
 have hBl := hB.1
 have hA3 := hA.2.1
 have hl := Zdy hA
 have hsl := Zhi bs.length hBl
 simp! only [bidsD, lmp]
 refine ⟨_, ⟨bs.length, rfl, hb1, hBl, rfl⟩, ?_⟩
 simp! only [lmp]
 refine ⟨_, ⟨A, rfl, hA, rfl⟩, ?_⟩
 simp! only [lmp]
 have hsum := Zkk bs fun r hr => (hB.2 r hr).1
 have hp0 : (0 : Int) ≤ ((setsF bs.length).length : Int) * ((allW A).length : Int) ∧ ((setsF bs.length).length : Int) * ((allW A).length : Int) ≤ 8000 := by
  constructor
  ·exact Int.mul_nonneg (by omega) (by omega)
  ·have h1 : ((setsF bs.length).length : Int) ≤ 64 := by omega
   have h2 : ((allW A).length : Int) ≤ 125 := by omega
   have := Int.mul_le_mul h1 h2 (by omega) (by omega)
   omega
 refine ⟨mulS (Nat.lt_of_le_of_lt (show _ ≤ 64 by omega) (by decide)) (Nat.lt_of_le_of_lt (show _ ≤ 125 by omega) (by decide)), ?_⟩
 have eL : lightF A bs = if decide ((((setsF bs.length).length : Nat) : Int) * (((allW A).length : Nat) : Int) * (bs.map fun r => ((r.length : Nat) : Int)).sum < 40000) = true then (A, bs) else (A.map fun x => min 2 x, bs.map fun r => r.take 5) := rfl
 generalize (((setsF bs.length).length : Nat) : Int) * (((allW A).length : Nat) : Int) = P at *
 simp! only []
 refine Zbg bs rowB (fun r => .int ((r.length : Nat) : Int)) [] rfl trivial (Zat (by simp; omega)) ?_ ?_
 ·intro r hr Q hQ
  simp! only [rowB, lmp]
  exact hQ
 have eS : (bs.map fun r => PyData.int ((r.length : Nat) : Int)) = (bs.map fun r => ((r.length : Nat) : Int)).map .int := by rw [List.map_map]; rfl
 simp! only [eS, uIs_map]
 refine ⟨mulS (Nat.lt_of_le_of_lt (show _ ≤ 8000 by omega) (by decide)) (Nat.lt_of_le_of_lt (show _ ≤ 120 by omega) (by decide)), ?_⟩
 refine ite2 (fun c => ?_) (fun c => ?_)
 all_goals simp! only []
 ·rw [eL, if_pos c] at hq
  exact ⟨L2.sz2, _, OW.le.refl _, hq⟩
 rw [eL, if_neg c] at hq
 simp! only [tI]
 refine Zbg A .int (fun x => .int (min 2 x)) [] rfl trivial (Zat (by simp; omega)) ?_ ?_
 ·intro x hx Q hQ
  simp! only []
  exact hQ
 simp! only [bidsD]
 refine Zbg bs rowB (fun r => rowB (r.take 5)) [] rfl trivial (Zat (by simp; omega)) ?_ ?_
 ·intro r hr Q hQ
  have e5 : cutD (r.map bidD) none (some 5) = (r.take 5).map bidD := Zmk bidD r 5
  simp! only [rowB, e5]
  exact hQ
 simp! only []
 have e1 : tI (A.map fun x => min 2 x) = .tuple (A.map fun x => .int (min 2 x)) := by unfold tI; rw [List.map_map]; rfl
 have e2 : bidsD (bs.map fun r => r.take 5) = .tuple (bs.map fun r => rowB (r.take 5)) := by unfold bidsD; rw [List.map_map]; rfl
 rw [e1, e2] at hq
 exact ⟨L2.sz2, _, OW.le.refl _, hq⟩
noncomputable def maskF (bs : List Row) (t : List Int) : List Row := bs.zipIdx.map fun p => if ((p.2 : Nat) : Int) ∈ t then p.1 else []
noncomputable def rowsF (bs : List Row) (t : List Int) : List Row := (bs.zipIdx.filter fun p => decide (((p.2 : Nat) : Int) ∈ t)).map (·.1)
theorem Zsw {rs : List Row} {w : List Int} : V ([] :: rs) w = V rs w := rfl
theorem Zo6 (P : Row × Nat → Bool) : ∀ (l : List (Row × Nat)) (w : List Int), V (l.map fun p => if P p = true then p.1 else []) w = V ((l.filter P).map (·.1)) w
 | [], w => rfl
 | p :: l, w => by
  rw [List.map_cons, List.filter_cons]
  by_cases c : P p = true
  ·rw [if_pos c, if_pos c, List.map_cons]
   show mx (V _ w) _ = mx (V _ w) _
   rw [Zo6 P l w]
   congr 1
   refine List.map_congr_left fun b _ => ?_
   rw [Zo6 P l]
  ·rw [if_neg c, if_neg c, Zsw, Zo6 P l w]
theorem Zrg {bs : List Row} {t w : List Int} : V (maskF bs t) w = V (rowsF bs t) w := by
 have := Zo6 (fun p => decide (((p.2 : Nat) : Int) ∈ t)) bs.zipIdx w
 unfold maskF rowsF
 rw [← this]
 congr 2
 funext p
 simp
noncomputable def idxF (n : Nat) (t : List Int) : List Nat := (List.range n).filter fun k => decide (((k : Nat) : Int) ∈ t)
theorem Zij (P : Nat → Bool) : ∀ (bs : List Row) (k : Nat), ((List.range' k bs.length).filter P).map (fun j => bs[j - k]?) = (((bs.zipIdx k).filter fun p => P p.2).map (·.1)).map some
 | [], k => rfl
 | b :: bs, k => by
  have ih := Zij P bs (k + 1)
  rw [List.length_cons, List.range'_succ, List.zipIdx_cons, List.filter_cons, List.filter_cons]
  have e : ((List.range' (k + 1) bs.length).filter P).map (fun j => (b :: bs)[j - k]?) = ((List.range' (k + 1) bs.length).filter P).map (fun j => bs[j - (k + 1)]?) := by
   refine List.map_congr_left fun j hj => ?_
   have := (List.mem_range'_1.mp (List.mem_filter.mp hj).1).1
   rw [show j - k = (j - (k + 1)) + 1 by omega, List.getElem?_cons_succ]
  by_cases c : P k = true
  ·rw [if_pos c, if_pos c, List.map_cons, List.map_cons, List.map_cons, e, ih]; simp
  ·rw [if_neg c, if_neg c, e, ih]
theorem Zkh (bs : List Row) (t : List Int) : (idxF bs.length t).map (fun j => bs[j]?) = (rowsF bs t).map some := by
 have := Zij (fun k => decide (((k : Nat) : Int) ∈ t)) bs 0
 unfold idxF rowsF
 rw [List.range_eq_range']
 simpa using this
theorem Zl0 (n : Nat) (h : n ≤ 6) : ∀ t ∈ setsF n, (idxF n t).map (fun (j : Nat) => (j : Int)) = t := by
 have : (List.range 7).all (fun n => (setsF n).all fun t => decide ((idxF n t).map (fun (j : Nat) => (j : Int)) = t)) = true := by decide +kernel
 intro t ht
 exact of_decide_eq_true (List.all_eq_true.mp (List.all_eq_true.mp this n (List.mem_range.mpr (by omega))) t ht)
theorem Zq9 {A : List Int} {bs : List Row} (hB : BOk A bs) (t : List Int) : BOk A (maskF bs t) := by
 refine ⟨by unfold maskF; rw [lmp, List.length_zipIdx]; exact hB.1, fun r hr => ?_⟩
 unfold maskF at hr
 obtain ⟨p, hp, rfl⟩ := List.mem_map.mp hr
 split
 ·exact hB.2 _ (List.mem_of_getElem? (List.mem_zipIdx_iff_getElem?.mp (show (p.1, p.2) ∈ bs.zipIdx from hp)))
 ·exact ⟨by simp, by simp⟩
theorem Zky (bs : List Row) (t : List Int) : ∀ r ∈ rowsF bs t, r ∈ bs := fun r hr => by
 unfold rowsF at hr
 obtain ⟨p, hp, rfl⟩ := List.mem_map.mp hr
 exact List.mem_of_getElem? (List.mem_zipIdx_iff_getElem?.mp (show (p.1, p.2) ∈ bs.zipIdx from (List.mem_filter.mp hp).1))
theorem Zq2 (t : List Int) (k : Int) : ((t.map PyData.int).any fun y => y.eqv (PyData.int k)) = decide (k ∈ t) := by
 induction t with
 | nil => simp
 | cons x t ih =>
  rw [List.map_cons, List.any_cons, ih]
  by_cases e : x = k
  ·subst e; simp [PyData.eqv]
  ·have e' : ¬ k = x := fun z => e z.symm
   simp [PyData.eqv, e, e']
theorem Zp7 {n : Nat} (h1 : 1 ≤ n) (h6 : n ≤ 6) : 2 ≤ (setsF n).length := by
 have : (List.range 6).all (fun n => decide (2 ≤ (setsF (n + 1)).length)) = true := by decide +kernel
 have h := of_decide_eq_true (List.all_eq_true.mp this (n - 1) (List.mem_range.mpr (by omega)))
 rw [show n - 1 + 1 = n by omega] at h
 exact h
noncomputable def Zcd : DSp := pureS fun vs r => ∃ A bs, vs = [.d (tI A), .d (bidsD bs)] ∧ Amt A ∧ BOk A bs ∧ 1 ≤ bs.length ∧ r = .list ((setsF bs.length).map fun t => .int (V (rowsF bs t) A))
theorem Zen : MoS Zcd := Zc0
theorem Zel : ∀ vs w k, Zcd vs w k → vs.length = 2 := Zc1 (by rintro vs r ⟨A, b, rfl, _⟩; rfl)
theorem Zet (T : Txt K mg) : Dn P w K mg base 3 "_law_set_worths" sLawSetWorths ["_law_amounts_here", "_law_bids_here"] (spD K Zcd) := by
 have D_law_sets := Ze6 (P := P) (w := w) (base := base) T
 have D_law_table := Zi8 (P := P) (w := w) (base := base) T
 refine Dn.dataI (k := 2) T.f_law_set_worths Zc2 Zel (fun a cdv A outer s H E hr => ⟨_, _,  (Za4 (Zaa (i := 2) Zc2.nd rfl (Or.inl rfl) (Zbl Za2))
  (Za4 (Zbx PassesOwn.never rfl (Zbr (Zag D_law_sets Ze4 (hr.mono (by decide)) (Za0 (Zad Zb4 rfl T.z_len boot_len (Za0 (i_pv 1) Za2)) Za2))) (Zb7 (i := 3) Zc2.nd rfl (Or.inr rfl)) (Za4 (by refine' Zih (i := 4) Zc2.nd rfl (Or.inl rfl) (Nc := ["_law_k", "_law_row", "_law_some"]) (cap := [none, none, some 3]) rfl ?i ?k ?g ?t ?e; (case k => kernel_rfl); (case i => exact (Zei true rfl T.z_enumerate (Za0 (i_pv 1) Za2))); (case g => exact (fun _ _ _ _ _ => (Zby (K := K) rfl (n := 2) rfl (Zae (Zbm 0 (by show List.Nodup (["_law_k", "_law_row", "_law_some"] : List Str); decide +kernel)) (Zae (Zbm 1 (by show List.Nodup (["_law_k", "_law_row", "_law_some"] : List Str); decide +kernel)) Zbj))))); (case t => exact (fun _ _ _ _ _ => Zas)); (case e => exact (fun _ _ _ _ _ => (Zlq (Zbs (Zqd (K := K) rfl hr.units) (Zbu 0) (Zdm 2) rfl) (Zbu 1) (Zbw Za2)))))
  (Za8 (Zco (Zea PySem.F.plainAttrs_list PySem.F.slot_list_append PySem.F.type_list_append Zd2 (i_pv 2) (Za0 (Ze0 (Zje hr) (Zbd Zbv (Zag D_law_table Zhu (hr.mono (by decide)) (Za0 (i_pv 0) (Za0 (i_pv 4) Za2))) Za5 (fun _ _ => rfl)) (i_pv 0) (fun _ _ => rfl)) Za2))))))
  (Za8 (Zb2 (i_pv 2))))), (Zai (Zb6 (Zct true Za6) (Za7 2))
  (Zai (Zcu (Zck (Zau Zdv (Za1 (Zbh Zd3 (Za1 (Za3 1) Za6)) Za6))) (Za7 3) (Zai (Zb6 (Zb9 false (Zhg (Za1 (Za3 1) Za6)) (Zd5 (Zb1 (Za7 0) (Zb1 (Za7 1) Zch))) Zbk (Zba (Zt6 (Zcz (Zbc Zsp (Za3 0) (Za3 2))) (Za3 1) (Zd4 Za6)))) (Za7 4))
  (Zed (Zgf (Za3 2) (Za1 (Zhf (Zbc Zdx (Zau Zhb (Za1 (Za3 0) (Za1 (Za3 4) Za6))) Zan) (Za3 0)) Za6)))))
  (Zbz (Zkv 2)))), fun as o q h => ?_⟩)
 obtain ⟨r, ⟨A, bs, rfl, hA, hB, hb1, rfl⟩, hq⟩ := h
 have hBl := hB.1
 have hsl := Zhi bs.length hBl
 simp! only []
 refine ⟨by decide, fun p hp => ?_⟩
 simp! only [bidsD, lmp]
 refine ⟨_, ⟨bs.length, rfl, hb1, hBl, rfl⟩, ?_⟩
 simp! only []
 refine ⟨fun i s => ∃ (o3 o4 : Option Val), s = ⟨[some (.d (tI A)), some (.d (bidsD bs)), some (.own p), o3, o4], o.put p (.lst (((setsF bs.length).take i).map fun t => .int (V (rowsF bs t) A)))⟩, ⟨none, none, rfl⟩, fun _ _ _ => trivial, ?_, ?_⟩
 ·rintro i d s hd ⟨o3, o4, rfl⟩
  obtain ⟨t, ht, rfl⟩ := Zce hd
  have htm := List.mem_of_getElem? ht
  have hsm := Znu bs.length hBl t htm
  simp! only [bidsD]
  rw [Zeh]
  refine Zbg bs.zipIdx (fun p => .tuple [.int (p.2 : Nat), rowB p.1]) (fun p => rowB (if ((p.2 : Nat) : Int) ∈ t then p.1 else [])) [] rfl trivial (Zat (by simp; omega)) ?_ ?_
  ·rintro ⟨row, k⟩ hx Q hQ
   simp! only [tI]
   refine ⟨⟨by rfl, Zfe t, by rfl, Zeb t, by show 0 ≤ 30; decide⟩, ?_⟩
   rw [Zq2]
   by_cases c : ((k : Nat) : Int) ∈ t
   ·rw [if_pos (decide_eq_true c)]
    simp only [if_pos c] at hQ
    exact hQ
   ·rw [if_neg (by simpa using c)]
    simp only [if_neg c] at hQ
    exact ⟨by show 0 ≤ sizeLine; decide, hQ⟩
  have eM : (bs.zipIdx.map fun p => rowB (if ((p.2 : Nat) : Int) ∈ t then p.1 else [])) = (maskF bs t).map rowB := by unfold maskF; rw [List.map_map]; rfl
  simp! only []
  rw [eM]
  refine ⟨⟨_, rfl⟩, ?_⟩
  refine ⟨_, ⟨A, maskF bs t, rfl, hA, Zq9 hB t, rfl⟩, ?_⟩
  simp! only []
  refine ⟨_, Zcv (j := 0) (Zoa (by omega)), ?_⟩
  rw [List.drop_zero]
  simp! only [dicD]
  refine ⟨_, _, _, rfl, Zec (Zfp hA (Zhp hA)), Zj6 ((Zc8 hA).mpr (Zhp hA)), ?_⟩
  simp! only []
  refine ⟨_, rfl, Zat (by rw [lmp, List.length_take]; omega), some (.d (tI t)), some (.d (bidsL (maskF bs t))), ?_⟩
  rw [Zrg, List.take_add_one, ht, List.map_append]; rfl
 ·rintro s ⟨o3, o4, rfl⟩
  rw [lmp, List.take_length]
  simp! only []
  refine ⟨_, rfl, ?_⟩
  rw [Ze5 hp]
  exact ⟨_, OW.le.refl _, hq⟩
end
end Mine
namespace Mine
open PySem PySem.Spec PyProof.Rows L2
section
variable {P : Program} {w : World} {K : PySem.W.Frag} {mg : Str → Option Value} {base : Heap}
noncomputable def osF (bs : List Row) (js : List Nat) : List Row := js.map fun j => bs.getD j []
theorem Zs1 {bs : List Row} {js : List Nat} (h : ∀ j ∈ js, j < bs.length) : js.map (fun j => bs[j]?) = (osF bs js).map some := by
 unfold osF
 rw [List.map_map]
 refine List.map_congr_left fun j hj => ?_
 simp [List.getD, gEq (h j hj)]
theorem Zs2 {A : List Int} {bs : List Row} {js : List Nat} (hB : BOk A bs) (h : ∀ j ∈ js, j < bs.length) (hl : js.length ≤ 6) : BOk A (osF bs js) := by
 refine ⟨by unfold osF; rw [lmp]; exact hl, fun r hr => ?_⟩
 unfold osF at hr
 obtain ⟨j, hj, rfl⟩ := List.mem_map.mp hr
 have := h j hj
 simp only [List.getD, gEq this, Option.getD_some]
 exact hB.2 _ (List.getElem_mem this)
theorem Zro {n : Nat} {t : List Int} : ∀ j ∈ idxF n t, j < n := fun j hj => List.mem_range.mp (List.mem_filter.mp hj).1
theorem Zrw (T : Txt K mg) {fa : Addr} {fd : FuncData} (F : Fun K "law" "law" sLaw fa fd) : FnOk P w K mg base CX0 40 fa fd ["_law_script"] (spLaw K) := by
 have D_law_amounts := Zfu (P := P) (w := w) (base := base) T
 have D_law_bids := Zj8 (P := P) (w := w) (base := base) T
 have D_law_draw := Zd9 (P := P) (w := w) (base := base) T
 have D_law_light := Zi7 (P := P) (w := w) (base := base) T
 have D_law_set_worths := Zet (P := P) (w := w) (base := base) T
 have D_law_sets := Ze6 (P := P) (w := w) (base := base) T
 have D_law_urn := Zll (P := P) (w := w) (base := base) T
 have D_set_worth := Zi9 (P := P) (w := w) (base := base) T
 refine Zok F Zd6 (fun cdv A outer s H E hr => ⟨_, _, IPSs.get (Za4 (Zbx PassesOwn.never rfl (Zbn rfl T.z_range (Za0 (Zad (Zmd rfl) rfl T.z_max boot_max (Za0 Za5 (Za0 (Zad (Zi2 rfl) rfl T.z_min boot_min (Za0 Za5 (Za0 (Zad Zb4 rfl T.z_len boot_len (Za0 (i_pv 0) Za2)) Za2))) Za2))) Za2)) (Zb7 (i := 1) Zd6.nd rfl (Or.inl rfl)) (Za4 (Zaa (i := 2) Zd6.nd rfl (Or.inr rfl) (Zag D_law_urn Zl9 (hr.mono (by decide)) (Za0 (i_pv 0) (Za0 (i_pv 1) Za2))))
  (Za4 (Zaa (i := 3) Zd6.nd rfl (Or.inl rfl) (Zag D_law_amounts Zfr (hr.mono (by decide)) (Za0 (i_pv 2) Za2)))
  (Za4 (Zgx (Zag D_law_light Zht (hr.mono (by decide)) (Za0 (i_pv 3) (Za0 (Zag D_law_bids Zj3 (hr.mono (by decide)) (Za0 (i_pv 2) (Za0 (i_pv 3) (Za0 Za5 Za2)))) Za2))) (Zgw (n := 2) rfl (Zae (Zb7 (i := 3) Zd6.nd rfl (Or.inl rfl)) (Zae (Zb7 (i := 4) Zd6.nd rfl (Or.inl rfl)) Zbj))))
  (Za4 (Zaa (i := 5) Zd6.nd rfl (Or.inr rfl) (Zag D_law_sets Ze4 (hr.mono (by decide)) (Za0 (Zad Zb4 rfl T.z_len boot_len (Za0 (i_pv 4) Za2)) Za2)))
  (Za4 (Zaa (i := 6) Zd6.nd rfl (Or.inl rfl) (Zag D_law_set_worths Zer (hr.mono (by decide)) (Za0 (i_pv 3) (Za0 (i_pv 4) Za2))))
  (Za4 (Zaa (i := 7) Zd6.nd rfl (Or.inl rfl) (Za9 Zkq (Zbl (Za0 Za5 (Za0 (Za9 Zna (Zad Zb4 rfl T.z_len boot_len (Za0 (i_pv 5) Za2)) Za5) Za2))) (by refine' Zar (Nc := ["_law_k", "_law_urn_here", "_law_sets_here"]) (cap := [none, some 2, some 5]) rfl ?i ?k ?g ?t ?e; (case k => kernel_rfl); (case i => exact (Zbn rfl T.z_range (Za0 Za5 Za2))); (case g => exact (fun _ _ _ _ _ => (Zbm 0 (by show List.Nodup (["_law_k", "_law_urn_here", "_law_sets_here"] : List Str); decide +kernel)))); (case t => exact (fun _ _ _ _ _ => Zas)); (case e => exact (fun _ _ _ _ _ => (Zag D_law_draw Zb5 (hr.mono (by decide)) (Za0 (Zdm 1) (Za0 (Zad (Zd8 (K := K) rfl) Zcf T.z_len boot_len (Za0 (Zdm 2) Za2)) Za2)) (hg := Zcf)))))))
  (Za4 (Zbx PassesOwn.never rfl (Zbr (Za9 Zkq (i_pv 7) (Zgb Zr6 (i_pv 7) Zie (Zif Za5)))) (Zb7 (i := 8) Zd6.nd rfl (Or.inl rfl)) (Za4 (Zaa (i := 9) Zd6.nd rfl (Or.inl rfl) (Zag D_set_worth Zdo (hr.mono (by decide)) (Za0 (i_pv 3) (Za0 (i_pv 4) (Za0 (Zbd Zbv (i_pv 5) (i_pv 8) (fun _ _ => rfl)) Za2)))))
  (Za8 (Zcp (Zbs Zs0 (Zad (Zg8 hr.gd hr.units) rfl T.z_repr boot_repr (Za0 (i_pv 9) Za2)) (Zad (Zg8 hr.gd hr.units) rfl T.z_repr boot_repr (Za0 (Zbd Zbv (i_pv 6) (i_pv 8) (fun _ _ => rfl)) Za2)) (nomark _)) (Za8 (Zb2 (Zjf))) Zb8))))
  (Za4 (Zaa (i := 10) Zd6.nd rfl (Or.inr rfl) (Zag D_law_draw Zb5 (hr.mono (by decide)) (Za0 (i_pv 2) (Za0 (Zad Zb4 rfl T.z_len boot_len (Za0 (i_pv 4) Za2)) Za2))))
  (Za4 (Zaa (i := 11) Zd6.nd rfl (Or.inl rfl) (Zb0 Zaj rfl T.z_tuple (by decide +kernel) (Za0 (by refine' Zar (Nc := ["_law_k", "_law_one"]) (cap := [none, some 10]) rfl ?i ?k ?g ?t ?e; (case k => kernel_rfl); (case i => exact (Zc6 (Zbd Zbv (i_pv 5) (Zbd Zbv (i_pv 7) Za5 (fun _ _ => rfl)) (fun _ _ => rfl)))); (case g => exact (fun _ _ _ _ _ => (Zbm 0 (by show List.Nodup (["_law_k", "_law_one"] : List Str); decide +kernel)))); (case t => exact (fun _ _ _ _ _ => (Zii (Zbs Zs0 (Zbu 0) (Zdm 1) (nomark _))))); (case e => exact (fun _ _ _ _ _ => (Zbu 0)))) Za2)))
  (Za8 (Zcp (Zbs Zrx (Zag D_set_worth Zdo (hr.mono (by decide)) (Za0 (i_pv 3) (Za0 (i_pv 4) (Za0 (i_pv 11) Za2)))) (Zag D_set_worth Zdo (hr.mono (by decide)) (Za0 (i_pv 3) (Za0 (i_pv 4) (Za0 (Zb0 Zaj rfl T.z_tuple (by decide +kernel) (Za0 (Zad Zgm rfl T.z_sorted boot_sorted (Za0 (Za9 Zn8 (i_pv 11) (Zbw (Za0 (i_pv 10) Za2))) Za2)) Za2)) Za2)))) (nomark _)) (Za8 (Zb2 (Zjf))) Zb8))))))))))))
  (Za8 (Zb2 (Zjf)))), (Zai (Zcu (Zdg (Za1 (Zbh Zr0 (Za1 Zan (Za1 (Zbh Znk (Za1 Zan (Za1 (Zbh Zd3 (Za1 (Za3 0) Za6)) Za6))) Za6))) Za6)) (Za7 1) (Zai (Zb6 (Zau Zjt (Za1 (Za3 0) (Za1 (Za3 1) Za6))) (Za7 2))
  (Zai (Zb6 (Zau Zfi (Za1 (Za3 2) Za6)) (Za7 3))
  (Zai (Zb6 (Zau Zha (Za1 (Za3 3) (Za1 (Zau Zip (Za1 (Za3 2) (Za1 (Za3 3) (Za1 Zan Za6)))) Za6))) (Zd5 (Zb1 (Za7 3) (Zb1 (Za7 4) Zch))))
  (Zai (Zb6 (Zau Zdv (Za1 (Zbh Zd3 (Za1 (Za3 4) Za6)) Za6)) (Za7 5))
  (Zai (Zb6 (Zau Zen (Za1 (Za3 3) (Za1 (Za3 4) Za6))) (Za7 6))
  (Zai (Zb6 (Zbc (Zkx false) (Zct false (Za1 Zan (Za1 (Zbc Zf1 (Zbh Zd3 (Za1 (Za3 5) Za6)) Zan) Za6))) (Zb9 false (Zdg (Za1 Zan Za6)) (Za7 0) Zbk (Zba (Zau Zb3 (Za1 (Za3 1) (Za1 (Zbh Zd3 (Za1 (Za3 2) Za6)) Za6)))))) (Za7 7))
  (Zai (Zcu (Zck (Zbc (Zkx false) (Za3 7) (Zso (Zt7 false) (Za3 7) Znr (Zns Zan)))) (Za7 8) (Zai (Zb6 (Zau Zde (Za1 (Za3 3) (Za1 (Za3 4) (Za1 (Zbc Zdx (Za3 5) (Za3 8)) Za6)))) (Za7 9))
  (Zit (Zcz (Zbc Zsq (Zbh Zkt (Za1 (Za3 9) Za6)) (Zbh Zkt (Za1 (Zbc Zdx (Za3 6) (Za3 8)) Za6)))) (Zbz Zr1) Zc9)))
  (Zai (Zb6 (Zau Zb3 (Za1 (Za3 2) (Za1 (Zbh Zd3 (Za1 (Za3 4) Za6)) Za6))) (Za7 10))
  (Zai (Zb6 (Zbh Zbi (Za1 (Zb9 false (Zdw (Zbc Zdx (Za3 5) (Zbc Zdx (Za3 7) Zan))) (Za7 0) (Zcz (Zbc Zsq (Za3 0) (Za3 1))) (Zba (Za3 0))) Za6)) (Za7 11))
  (Zit (Zcz (Zbc Zp5 (Zau Zde (Za1 (Za3 3) (Za1 (Za3 4) (Za1 (Za3 11) Za6)))) (Zau Zde (Za1 (Za3 3) (Za1 (Za3 4) (Za1 (Zbh Zbi (Za1 (Zbh (Zp1 false) (Za1 (Zbc Zhh (Za3 11) (Zd4 (Za1 (Za3 10) Za6))) Za6)) Za6)) Za6)))))) (Zbz Zr1) Zc9)))))))))))
  (Zbz Zr1)), fun ns h63 => ?_⟩)
 simp! only []
 refine ⟨⟨by omega, by omega⟩, ?_⟩
 refine ⟨fun i s => ∃ (o1 o2 o3 o4 o5 o6 o7 o8 o9 o10 o11 : Option Val) (w : OW), s = ⟨[some (.scr ns), o1, o2, o3, o4, o5, o6, o7, o8, o9, o10, o11], w⟩, ⟨none, none, none, none, none, none, none, none, none, none, none, _, rfl⟩, fun _ _ _ => trivial, ?_, ?_⟩
 ·rintro i d s hd ⟨o1, o2, o3, o4, o5, o6, o7, o8, o9, o10, o11, o, rfl⟩
  have hi3 : i < 3 ∧ d = .int (0 + (i : Int)) := by
   unfold rngD at hd
   obtain ⟨r, hr, rfl⟩ := Zce hd
   obtain ⟨h1, h2⟩ := List.getElem?_eq_some_iff.mp hr
   rw [List.length_range] at h1
   rw [List.getElem_range] at h2
   subst h2
   exact ⟨by omega, rfl⟩
  obtain ⟨hi3, rfl⟩ := hi3
  simp! only []
  refine ⟨⟨by omega, by omega⟩, fun u hu => ?_⟩
  simp! only []
  refine Zk6 (by omega) rfl ?_
  rintro r ⟨A0, rfl, hA0⟩
  simp! only []
  refine Zk6 (by omega) ⟨A0, 6, rfl, hA0, by decide, by decide⟩ ?_
  rintro r ⟨A', mo, eA, bs0, rfl, hB0, hb10, hM0⟩
  have eA2 : A0 = A' := Zpx (by simp at eA; exact eA.1)
  subst eA2
  refine ⟨_, ⟨A0, bs0, rfl, hA0, hB0, hb10, rfl⟩, ?_⟩
  obtain ⟨hA, hB, hM, hl2⟩ := Zol hA0 hB0 hM0
  generalize lightF A0 bs0 = lt at *
  obtain ⟨A, bs⟩ := lt
  simp only at hA hB hM hl2
  have hb1 : 1 ≤ bs.length := by omega
  have hBl := hB.1
  have hsl := Zhi bs.length hBl
  have hs2 : 2 ≤ (setsF bs.length).length := Zp7 hb1 hBl
  simp! only [bidsD, lmp]
  refine ⟨_, ⟨bs.length, rfl, hb1, hBl, rfl⟩, ?_⟩
  simp! only []
  refine ⟨_, ⟨A, bs, rfl, hA, hB, hb1, rfl⟩, ?_⟩
  simp! only [lmp]
  refine ⟨L2.sz2, ⟨by decide, by decide⟩, ?_⟩
  unfold rngD
  refine Zh7 (List.range (4 : Int).toNat) (fun (i : Nat) => .int (0 + (i : Int))) .int (fun _ x => 0 ≤ x ∧ x < ((setsF bs.length).length : Int)) 1 rfl (fun _ => trivial) (Zat (by simp)) ?_ ?_
  ·intro k hk m1 hm1 Q hQ
   simp! only [lmp]
   refine Zc5 (by simp at hm1; omega) (by omega) (by omega) fun x hx0 hx4 => ?_
   exact hQ x _ ⟨hx0, hx4⟩ (Nat.le_refl _)
  intro ys m1 hyl hyP hm1
  have hyl4 : ys.length = 4 := by simpa using hyl
  have hyb : ∀ y ∈ ys, 0 ≤ y ∧ y < ((setsF bs.length).length : Int) := fun y hy => by
   obtain ⟨_, _, h⟩ := Zfq (P := fun _ x => 0 ≤ x ∧ x < ((setsF bs.length).length : Int)) hyl hyP y hy
   exact h
  simp! only []
  refine ⟨Zee (by rw [lmp]; omega), ?_⟩
  rw [show (PyData.int 0 :: PyData.int (((setsF bs.length).length : Int) - 1) :: ys.map PyData.int) = (0 :: (((setsF bs.length).length : Int) - 1) :: ys).map .int from rfl]
  have hZ2 : ∃ z2, (0 :: (((setsF bs.length).length : Int) - 1) :: ys)[2]? = some z2 := by
   have : 0 < ys.length := by omega
   exact ⟨ys[0], by simp [this]⟩
  have hZb : ∀ z ∈ (0 :: (((setsF bs.length).length : Int) - 1) :: ys), 0 ≤ z ∧ z < ((setsF bs.length).length : Int) := fun z hz => by
   rcases List.mem_cons.mp hz with rfl | hz
   ·omega
   rcases List.mem_cons.mp hz with rfl | hz
   ·omega
   ·exact hyb z hz
  have hZl : (0 :: (((setsF bs.length).length : Int) - 1) :: ys).length = 6 := by simp [hyl4]
  generalize (0 :: (((setsF bs.length).length : Int) - 1) :: ys) = Z at *
  have hm100 : m1 ≤ 2000 := by simp at hm1; omega
  simp! only []
  have e1 : cutD (Z.map PyData.int) none (some 1) = (Z.take 1).map .int := Zmk .int Z 1
  rw [e1]
  refine ⟨Zee (by simp only [lmp, List.length_take]; omega), ?_⟩
  refine ⟨fun j s => ∃ (o8 o9 : Option Val), s = ⟨[some (.scr ns), some (.d (.int (0 + (i : Int)))), some (.own u), some (.d (tI A)), some (.d (bidsD bs)), some (.d (.list ((setsF bs.length).map tI))), some (.d (.list ((setsF bs.length).map fun t => .int (V (rowsF bs t) A)))), some (.d (.list (Z.map .int))), o8, o9, o10, o11], o.put u (.urn m1)⟩, ⟨o8, o9, rfl⟩, fun _ _ _ => trivial, ?_, ?_⟩
  ·rintro j d s hd ⟨o8, o9, rfl⟩
   rw [← List.map_append] at hd
   obtain ⟨z, hz, rfl⟩ := Zce hd
   have hzm : z ∈ Z := by
    rcases List.mem_append.mp (List.mem_of_getElem? hz) with h | h
    ·exact h
    ·exact List.mem_of_mem_take h
   obtain ⟨hz0, hz1⟩ := hZb z hzm
   obtain ⟨z, rfl⟩ := Int.eq_ofNat_of_zero_le hz0
   have hzl : z < (setsF bs.length).length := by omega
   have hzs : (setsF bs.length)[z]? = some (setsF bs.length)[z] := gEq hzl
   have htm := List.mem_of_getElem? hzs
   generalize (setsF bs.length)[z] = t at *
   have hti := Zl0 bs.length hBl t htm
   have hil : (idxF bs.length t).length ≤ 6 := by have := List.length_filter_le (fun k => decide (((k : Nat) : Int) ∈ t)) (List.range bs.length); rw [List.length_range] at this; unfold idxF; omega
   have hrl : (rowsF bs t).length = (idxF bs.length t).length := by have := congrArg List.length (Zkh bs t); simpa using this.symm
   have hBr : BOk A (rowsF bs t) := ⟨by omega, fun r hr => hB.2 r (Zky bs t r hr)⟩
   have hV := Zq1 (rowsF bs t) A fun r hr => hM r (Zky bs t r hr)
   have hsc : scR (.int (V (rowsF bs t) A)) := .inr ⟨_, rfl, by
    by_cases h0 : (V (rowsF bs t) A).natAbs = 0
    ·rw [h0]; decide
    ·exact Nat.lt_trans ((Nat.log2_lt (k := 100) h0).mpr (Nat.lt_of_le_of_lt (show _ ≤ 6442450944 by omega) (by decide))) (by decide)⟩
   simp! only []
   refine ⟨_, Zcv (by rw [List.getElem?_map, hzs]; rfl), ?_⟩
   refine ⟨_, ⟨A, bs, idxF bs.length t, rowsF bs t, by rw [hti], hA, hBr, Zkh bs t, rfl⟩, ?_⟩
   simp! only [gReprA]
   refine ⟨.inr hsc, ?_⟩
   refine ⟨_, Zcv (by rw [List.getElem?_map, hzs]; rfl), ?_⟩
   simp! only []
   refine ⟨.inr hsc, ?_⟩
   simp! only [decide_true]
   exact ⟨some (.d (.int (z : Int))), some (.d (.int (V (rowsF bs t) A))), rfl⟩
  ·rintro s ⟨o8, o9, rfl⟩
   simp! only [bidsD, lmp]
   refine Zc5 (by omega) (by omega) (by omega) fun c hc0 hc1 => ?_
   obtain ⟨c, rfl⟩ := Int.eq_ofNat_of_zero_le hc0
   have hcl : c < bs.length := by omega
   obtain ⟨z, hz⟩ := hZ2
   obtain ⟨hz0, hz1⟩ := hZb z (List.mem_of_getElem? hz)
   obtain ⟨z, rfl⟩ := Int.eq_ofNat_of_zero_le hz0
   have hzl : z < (setsF bs.length).length := by omega
   have hzs : (setsF bs.length)[z]? = some (setsF bs.length)[z] := gEq hzl
   have htm := List.mem_of_getElem? hzs
   generalize (setsF bs.length)[z] = t at *
   have hti := Zl0 bs.length hBl t htm
   have hsm := Znu bs.length hBl t htm
   simp! only []
   refine ⟨.int (z : Int), Zcv (j := 2) (by rw [List.getElem?_map, hz]; rfl), ?_⟩
   refine ⟨tI t, Zcv (by rw [List.getElem?_map, hzs]; rfl), ?_⟩
   simp! only [tI]
   refine Zgd t .int .int (fun x => decide (x ≠ (c : Int))) [] rfl trivial (Zat (by simp; omega)) ?_ ?_
   ·intro x hx Q hQ
    simp! only []
    by_cases e : x = (c : Int)
    ·subst e
     rw [if_neg (by simp)] at hQ ⊢
     exact hQ
    ·rw [if_pos (decide_eq_true e)] at hQ
     rw [if_pos (by simpa using e)]
     exact hQ
   have hjs : (t.filter fun x => decide (x ≠ (c : Int))) = ((idxF bs.length t).filter fun j => decide (j ≠ c)).map fun (j : Nat) => (j : Int) := by
    conv => lhs; rw [← hti]
    rw [List.filter_map]
    congr 1
    refine List.filter_congr fun j _ => ?_
    simp
    omega
   have hjl : ∀ j ∈ (idxF bs.length t).filter fun j => decide (j ≠ c), j < bs.length := fun j hj => Zro j (List.mem_filter.mp hj).1
   have hjn : ((idxF bs.length t).filter fun j => decide (j ≠ c)).length + 1 ≤ bs.length := by
    have e : (idxF bs.length t).filter (fun j => decide (j ≠ c)) = (List.range bs.length).filter fun j => (decide (j ≠ c) && decide (((j : Nat) : Int) ∈ t)) := by
     unfold idxF; rw [List.filter_filter]
    rw [e]
    have := List.length_filter_lt_length_iff_exists (l := List.range bs.length) (p := fun j => (decide (j ≠ c) && decide (((j : Nat) : Int) ∈ t))) |>.mpr ⟨c, List.mem_range.mpr hcl, by simp⟩
    rw [List.length_range] at this
    omega
   rw [hjs]
   generalize (idxF bs.length t).filter (fun j => decide (j ≠ c)) = js at *
   have hB1 : BOk A (osF bs js) := Zs2 hB hjl (by omega)
   simp! only []
   refine ⟨_, ⟨A, bs, js, osF bs js, rfl, hA, hB1, Zs1 hjl, rfl⟩, ?_⟩
   simp! only []
   refine ⟨L2.sz1, Zee (by simp only [lmp]; omega), ?_⟩
   rw [show (js.map fun (j : Nat) => (j : Int)).map PyData.int ++ [PyData.int (c : Int)] = ((js ++ [c]).map fun (j : Nat) => (j : Int)).map .int by simp]
   simp! only [gSortT, uIs_map]
   refine ⟨by simp; omega, fun ns' hpm _ => ?_⟩
   have hpos : ∀ x ∈ ns', 0 ≤ x := fun x hx => by
    obtain ⟨j, _, rfl⟩ := List.mem_map.mp (hpm.mem_iff.mp hx)
    omega
   have hback : (ns'.map Int.toNat).map (fun (j : Nat) => (j : Int)) = ns' := by
    rw [List.map_map]
    conv => rhs; rw [← List.map_id ns']
    refine List.map_congr_left fun x hx => ?_
    have := hpos x hx
    show ((x.toNat : Nat) : Int) = x
    omega
   have hpj : (ns'.map Int.toNat).Perm (js ++ [c]) := by
    have h1 := hpm.map Int.toNat
    rw [List.map_map] at h1
    have e : (js ++ [c]).map (Int.toNat ∘ fun (j : Nat) => (j : Int)) = js ++ [c] := by
     conv => rhs; rw [← List.map_id (js ++ [c])]
     exact List.map_congr_left fun x _ => by simp
    rw [e] at h1
    exact h1
   rw [← hback]
   generalize ns'.map Int.toNat = js' at *
   have hjl' : ∀ j ∈ js ++ [c], j < bs.length := fun j hj => by
    rcases List.mem_append.mp hj with h | h
    ·exact hjl j h
    ·rw [List.mem_singleton.mp h]; exact hcl
   have hjl2 : ∀ j ∈ js', j < bs.length := fun j hj => hjl' j (hpj.mem_iff.mp hj)
   have hlen2 : js'.length ≤ 6 := by rw [hpj.length_eq]; simp; omega
   have hB2 : BOk A (osF bs js') := Zs2 hB hjl2 hlen2
   have hVle : V (osF bs js) A ≤ V (osF bs js') A := by
    have h1 : (osF bs js').Perm (bs.getD c [] :: osF bs js) := by
     have h2 : (osF bs js').Perm (osF bs (js ++ [c])) := hpj.map _
     refine h2.trans ?_
     unfold osF
     rw [List.map_append]
     exact List.perm_append_singleton _ _
    rw [Zrh (A := A) h1 hB2.2 A rfl]
    exact V_ge
   simp! only []
   refine ⟨_, ⟨A, bs, js', osF bs js', rfl, hA, hB2, Zs1 hjl2, rfl⟩, ?_⟩
   have e9 : decide (V (osF bs js') A < V (osF bs js) A) = false := by simp; omega
   simp! only [e9]
   exact ⟨_, _, _, _, _, _, _, _, _, _, _, _, rfl⟩
 ·rintro s ⟨o1, o2, o3, o4, o5, o6, o7, o8, o9, o10, o11, o, rfl⟩
  trivial
end
theorem Zri {l : PySem.W.OpenLaw} {w : World} {K : PySem.W.Frag} {h : Heap} {mg : Str → Option Value} {fa f0 f1 f2 f3 f4 f5 f6 f7 f8 f9 f10 f11 f12 f13 f14 f15 f16 f17 f18 : Addr} (X : K.In h) (G : h.Ns mainGlobals mg) (hfa : mg "law" = some (.ref fa))
  {od0 an0 od1 an1 od2 an2 od3 an3 od4 an4 od5 an5 od6 an6 od7 an7 od8 an8 od9 an9 od10 an10 od11 an11 od12 an12 od13 an13 od14 an14 od15 an15 od16 an16 od17 an17 od18 an18 : Option Addr} {sl0 sl1 sl2 sl3 sl4 sl5 sl6 sl7 sl8 sl9 sl10 sl11 sl12 sl13 sl14 sl15 sl16 sl17 sl18 : Array (Option Value)} {oc0 kV0 dc0 pm0 cd0 ct0 oc1 kV1 dc1 pm1 cd1 ct1 oc2 kV2 dc2 pm2 cd2 ct2 oc3 kV3 dc3 pm3 cd3 ct3 oc4 kV4 dc4 pm4 cd4 ct4 oc5 kV5 dc5 pm5 cd5 ct5 oc6 kV6 dc6 pm6 cd6 ct6 oc7 kV7 dc7 pm7 cd7 ct7 oc8 kV8 dc8 pm8 cd8 ct8 oc9 kV9 dc9 pm9 cd9 ct9 oc10 kV10 dc10 pm10 cd10 ct10 oc11 kV11 dc11 pm11 cd11 ct11 oc12 kV12 dc12 pm12 cd12 ct12 oc13 kV13 dc13 pm13 cd13 ct13 oc14 kV14 dc14 pm14 cd14 ct14 oc15 kV15 dc15 pm15 cd15 ct15 oc16 kV16 dc16 pm16 cd16 ct16 oc17 kV17 dc17 pm17 cd17 ct17 oc18 kV18 dc18 pm18 cd18 ct18 : Value}
  (a0 : PySem.W.nsIn K mainGlobals "is_within" = some (some (.ref f0))) (l0 : K.lookup f0 = some ⟨oc0, od0, .func (PySem.W.fnOf "is_within" "is_within" (defArgs sIsWithin) (defBody sIsWithin) (defScope sIsWithin) .none kV0 dc0 pm0 an0 cd0 ct0), sl0⟩) (c0 : PySem.W.codeIn K cd0 "is_within" = true) (k0 : PySem.W.keepIn K (.ref f0) = true)
  (a1 : PySem.W.nsIn K mainGlobals "within" = some (some (.ref f1))) (l1 : K.lookup f1 = some ⟨oc1, od1, .func (PySem.W.fnOf "within" "within" (defArgs sWithin) (defBody sWithin) (defScope sWithin) .none kV1 dc1 pm1 an1 cd1 ct1), sl1⟩) (c1 : PySem.W.codeIn K cd1 "within" = true) (k1 : PySem.W.keepIn K (.ref f1) = true)
  (a2 : PySem.W.nsIn K mainGlobals "left_of" = some (some (.ref f2))) (l2 : K.lookup f2 = some ⟨oc2, od2, .func (PySem.W.fnOf "left_of" "left_of" (defArgs sLeftOf) (defBody sLeftOf) (defScope sLeftOf) .none kV2 dc2 pm2 an2 cd2 ct2), sl2⟩) (c2 : PySem.W.codeIn K cd2 "left_of" = true) (k2 : PySem.W.keepIn K (.ref f2) = true)
  (a3 : PySem.W.nsIn K mainGlobals "fits_of" = some (some (.ref f3))) (l3 : K.lookup f3 = some ⟨oc3, od3, .func (PySem.W.fnOf "fits_of" "fits_of" (defArgs sFitsOf) (defBody sFitsOf) (defScope sFitsOf) .none kV3 dc3 pm3 an3 cd3 ct3), sl3⟩) (c3 : PySem.W.codeIn K cd3 "fits_of" = true) (k3 : PySem.W.keepIn K (.ref f3) = true)
  (a4 : PySem.W.nsIn K mainGlobals "layer_above" = some (some (.ref f4))) (l4 : K.lookup f4 = some ⟨oc4, od4, .func (PySem.W.fnOf "layer_above" "layer_above" (defArgs sLayerAbove) (defBody sLayerAbove) (defScope sLayerAbove) .none kV4 dc4 pm4 an4 cd4 ct4), sl4⟩) (c4 : PySem.W.codeIn K cd4 "layer_above" = true) (k4 : PySem.W.keepIn K (.ref f4) = true)
  (a5 : PySem.W.nsIn K mainGlobals "best_table" = some (some (.ref f5))) (l5 : K.lookup f5 = some ⟨oc5, od5, .func (PySem.W.fnOf "best_table" "best_table" (defArgs sBestTable) (defBody sBestTable) (defScope sBestTable) .none kV5 dc5 pm5 an5 cd5 ct5), sl5⟩) (c5 : PySem.W.codeIn K cd5 "best_table" = true) (k5 : PySem.W.keepIn K (.ref f5) = true)
  (a6 : PySem.W.nsIn K mainGlobals "set_worth" = some (some (.ref f6))) (l6 : K.lookup f6 = some ⟨oc6, od6, .func (PySem.W.fnOf "set_worth" "set_worth" (defArgs sSetWorth) (defBody sSetWorth) (defScope sSetWorth) .none kV6 dc6 pm6 an6 cd6 ct6), sl6⟩) (c6 : PySem.W.codeIn K cd6 "set_worth" = true) (k6 : PySem.W.keepIn K (.ref f6) = true)
  (a7 : PySem.W.nsIn K mainGlobals "_law_urn" = some (some (.ref f7))) (l7 : K.lookup f7 = some ⟨oc7, od7, .func (PySem.W.fnOf "_law_urn" "_law_urn" (defArgs sLawUrn) (defBody sLawUrn) (defScope sLawUrn) .none kV7 dc7 pm7 an7 cd7 ct7), sl7⟩) (c7 : PySem.W.codeIn K cd7 "_law_urn" = true) (k7 : PySem.W.keepIn K (.ref f7) = true)
  (a8 : PySem.W.nsIn K mainGlobals "_law_draw" = some (some (.ref f8))) (l8 : K.lookup f8 = some ⟨oc8, od8, .func (PySem.W.fnOf "_law_draw" "_law_draw" (defArgs sLawDraw) (defBody sLawDraw) (defScope sLawDraw) .none kV8 dc8 pm8 an8 cd8 ct8), sl8⟩) (c8 : PySem.W.codeIn K cd8 "_law_draw" = true) (k8 : PySem.W.keepIn K (.ref f8) = true)
  (a9 : PySem.W.nsIn K mainGlobals "_law_amounts" = some (some (.ref f9))) (l9 : K.lookup f9 = some ⟨oc9, od9, .func (PySem.W.fnOf "_law_amounts" "_law_amounts" (defArgs sLawAmounts) (defBody sLawAmounts) (defScope sLawAmounts) .none kV9 dc9 pm9 an9 cd9 ct9), sl9⟩) (c9 : PySem.W.codeIn K cd9 "_law_amounts" = true) (k9 : PySem.W.keepIn K (.ref f9) = true)
  (a10 : PySem.W.nsIn K mainGlobals "_law_bundle" = some (some (.ref f10))) (l10 : K.lookup f10 = some ⟨oc10, od10, .func (PySem.W.fnOf "_law_bundle" "_law_bundle" (defArgs sLawBundle) (defBody sLawBundle) (defScope sLawBundle) .none kV10 dc10 pm10 an10 cd10 ct10), sl10⟩) (c10 : PySem.W.codeIn K cd10 "_law_bundle" = true) (k10 : PySem.W.keepIn K (.ref f10) = true)
  (a11 : PySem.W.nsIn K mainGlobals "_law_is_in" = some (some (.ref f11))) (l11 : K.lookup f11 = some ⟨oc11, od11, .func (PySem.W.fnOf "_law_is_in" "_law_is_in" (defArgs sLawIsIn) (defBody sLawIsIn) (defScope sLawIsIn) .none kV11 dc11 pm11 an11 cd11 ct11), sl11⟩) (c11 : PySem.W.codeIn K cd11 "_law_is_in" = true) (k11 : PySem.W.keepIn K (.ref f11) = true)
  (a12 : PySem.W.nsIn K mainGlobals "_law_all_within" = some (some (.ref f12))) (l12 : K.lookup f12 = some ⟨oc12, od12, .func (PySem.W.fnOf "_law_all_within" "_law_all_within" (defArgs sLawAllWithin) (defBody sLawAllWithin) (defScope sLawAllWithin) .none kV12 dc12 pm12 an12 cd12 ct12), sl12⟩) (c12 : PySem.W.codeIn K cd12 "_law_all_within" = true) (k12 : PySem.W.keepIn K (.ref f12) = true)
  (a13 : PySem.W.nsIn K mainGlobals "_law_bids" = some (some (.ref f13))) (l13 : K.lookup f13 = some ⟨oc13, od13, .func (PySem.W.fnOf "_law_bids" "_law_bids" (defArgs sLawBids) (defBody sLawBids) (defScope sLawBids) .none kV13 dc13 pm13 an13 cd13 ct13), sl13⟩) (c13 : PySem.W.codeIn K cd13 "_law_bids" = true) (k13 : PySem.W.keepIn K (.ref f13) = true)
  (a14 : PySem.W.nsIn K mainGlobals "_law_table" = some (some (.ref f14))) (l14 : K.lookup f14 = some ⟨oc14, od14, .func (PySem.W.fnOf "_law_table" "_law_table" (defArgs sLawTable) (defBody sLawTable) (defScope sLawTable) .none kV14 dc14 pm14 an14 cd14 ct14), sl14⟩) (c14 : PySem.W.codeIn K cd14 "_law_table" = true) (k14 : PySem.W.keepIn K (.ref f14) = true)
  (a15 : PySem.W.nsIn K mainGlobals "_law_sets" = some (some (.ref f15))) (l15 : K.lookup f15 = some ⟨oc15, od15, .func (PySem.W.fnOf "_law_sets" "_law_sets" (defArgs sLawSets) (defBody sLawSets) (defScope sLawSets) .none kV15 dc15 pm15 an15 cd15 ct15), sl15⟩) (c15 : PySem.W.codeIn K cd15 "_law_sets" = true) (k15 : PySem.W.keepIn K (.ref f15) = true)
  (a16 : PySem.W.nsIn K mainGlobals "_law_set_worths" = some (some (.ref f16))) (l16 : K.lookup f16 = some ⟨oc16, od16, .func (PySem.W.fnOf "_law_set_worths" "_law_set_worths" (defArgs sLawSetWorths) (defBody sLawSetWorths) (defScope sLawSetWorths) .none kV16 dc16 pm16 an16 cd16 ct16), sl16⟩) (c16 : PySem.W.codeIn K cd16 "_law_set_worths" = true) (k16 : PySem.W.keepIn K (.ref f16) = true)
  (a17 : PySem.W.nsIn K mainGlobals "_law_light" = some (some (.ref f17))) (l17 : K.lookup f17 = some ⟨oc17, od17, .func (PySem.W.fnOf "_law_light" "_law_light" (defArgs sLawLight) (defBody sLawLight) (defScope sLawLight) .none kV17 dc17 pm17 an17 cd17 ct17), sl17⟩) (c17 : PySem.W.codeIn K cd17 "_law_light" = true) (k17 : PySem.W.keepIn K (.ref f17) = true)
  (a18 : PySem.W.nsIn K mainGlobals "law" = some (some (.ref f18))) (l18 : K.lookup f18 = some ⟨oc18, od18, .func (PySem.W.fnOf "law" "law" (defArgs sLaw) (defBody sLaw) (defScope sLaw) .none kV18 dc18 pm18 an18 cd18 ct18), sl18⟩) (c18 : PySem.W.codeIn K cd18 "law" = true) (k18 : PySem.W.keepIn K (.ref f18) = true)
  (z_abs : PySem.W.nsIn K mainGlobals "abs" = some none)
  (z_all : PySem.W.nsIn K mainGlobals "all" = some none)
  (z_enumerate : PySem.W.nsIn K mainGlobals "enumerate" = some none)
  (z_int : PySem.W.nsIn K mainGlobals "int" = some none)
  (z_len : PySem.W.nsIn K mainGlobals "len" = some none)
  (z_max : PySem.W.nsIn K mainGlobals "max" = some none)
  (z_min : PySem.W.nsIn K mainGlobals "min" = some none)
  (z_range : PySem.W.nsIn K mainGlobals "range" = some none)
  (z_repr : PySem.W.nsIn K mainGlobals "repr" = some none)
  (z_reversed : PySem.W.nsIn K mainGlobals "reversed" = some none)
  (z_sorted : PySem.W.nsIn K mainGlobals "sorted" = some none)
  (z_sum : PySem.W.nsIn K mainGlobals "sum" = some none)
  (z_tuple : PySem.W.nsIn K mainGlobals "tuple" = some none)
  (z_zip : PySem.W.nsIn K mainGlobals "zip" = some none)
  : ∃ fd : FuncData, (∀ (s : Shared) (v : Value), BindsTo s fd ⟨[v], []⟩ [("_law_script", v)]) ∧ ∀ base : Heap, K.In base → base.Ns mainGlobals mg → FnOk l.prog w K mg base CX0 40 fa fd ["_law_script"] (spLaw K) := by
 have e := hfa.symm.trans (PySem.W.mg_of X G a18)
 cases e
 have T : Txt K mg := ⟨⟨_, _, Zc4 (st := sIsWithin) l0 c0 k0, PySem.W.mg_of X G a0⟩, ⟨_, _, Zc4 (st := sWithin) l1 c1 k1, PySem.W.mg_of X G a1⟩, ⟨_, _, Zc4 (st := sLeftOf) l2 c2 k2, PySem.W.mg_of X G a2⟩, ⟨_, _, Zc4 (st := sFitsOf) l3 c3 k3, PySem.W.mg_of X G a3⟩, ⟨_, _, Zc4 (st := sLayerAbove) l4 c4 k4, PySem.W.mg_of X G a4⟩, ⟨_, _, Zc4 (st := sBestTable) l5 c5 k5, PySem.W.mg_of X G a5⟩, ⟨_, _, Zc4 (st := sSetWorth) l6 c6 k6, PySem.W.mg_of X G a6⟩, ⟨_, _, Zc4 (st := sLawUrn) l7 c7 k7, PySem.W.mg_of X G a7⟩, ⟨_, _, Zc4 (st := sLawDraw) l8 c8 k8, PySem.W.mg_of X G a8⟩, ⟨_, _, Zc4 (st := sLawAmounts) l9 c9 k9, PySem.W.mg_of X G a9⟩, ⟨_, _, Zc4 (st := sLawBundle) l10 c10 k10, PySem.W.mg_of X G a10⟩, ⟨_, _, Zc4 (st := sLawIsIn) l11 c11 k11, PySem.W.mg_of X G a11⟩, ⟨_, _, Zc4 (st := sLawAllWithin) l12 c12 k12, PySem.W.mg_of X G a12⟩, ⟨_, _, Zc4 (st := sLawBids) l13 c13 k13, PySem.W.mg_of X G a13⟩, ⟨_, _, Zc4 (st := sLawTable) l14 c14 k14, PySem.W.mg_of X G a14⟩, ⟨_, _, Zc4 (st := sLawSets) l15 c15 k15, PySem.W.mg_of X G a15⟩, ⟨_, _, Zc4 (st := sLawSetWorths) l16 c16 k16, PySem.W.mg_of X G a16⟩, ⟨_, _, Zc4 (st := sLawLight) l17 c17 k17, PySem.W.mg_of X G a17⟩, ⟨_, _, Zc4 (st := sLaw) l18 c18 k18, PySem.W.mg_of X G a18⟩, PySem.W.mg_none_of X G z_abs, PySem.W.mg_none_of X G z_all, PySem.W.mg_none_of X G z_enumerate, PySem.W.mg_none_of X G z_int, PySem.W.mg_none_of X G z_len, PySem.W.mg_none_of X G z_max, PySem.W.mg_none_of X G z_min, PySem.W.mg_none_of X G z_range, PySem.W.mg_none_of X G z_repr, PySem.W.mg_none_of X G z_reversed, PySem.W.mg_none_of X G z_sorted, PySem.W.mg_none_of X G z_sum, PySem.W.mg_none_of X G z_tuple, PySem.W.mg_none_of X G z_zip⟩
 have F := Zc4 (st := sLaw) l18 c18 k18
 refine ⟨_, fun s v => ?_, fun base _ _ => Zrw T F⟩
 exact .of_eq rfl
theorem walk {l : PySem.W.OpenLaw} {q : Program} {loose : List Str} {XP : (Str → Option Value) → Heap → Prop} {YP : World → Heap → Prop} {d : DefRec} {K : Params → PySem.W.Frag} (hn : l.most = some 63) (hdf : d.params.defaults = [])
  (hY : ∀ (w : World) (h : Heap), YP w h → (K w.params).In h)
  (F : ∀ (w : World) (mg : Str → Option Value) (fa : Addr) (h : Heap), (K w.params).In h → h.Ns mainGlobals mg → mg d.name = some (.ref fa) →
   ∃ fd : FuncData, (∀ (s : Shared) (u : Value), BindsTo s fd ⟨[u], []⟩ [("_law_script", u)]) ∧ ∀ base : Heap, (K w.params).In base → base.Ns mainGlobals mg → FnOk l.prog w (K w.params) mg base CX0 40 fa fd ["_law_script"] (spLaw (K w.params))) :
  PySem.W.WalkO q loose XP YP l.row.toRowW d [] (fun f vs => PySem.call f vs) :=
 L2.Zre (n := 63) (k := 40) (x := "_law_script") (CX := fun _ => CX0) (sp := fun w => spLaw (K w.params)) hn (by decide) hdf ⟨rfl, by decide, by decide, rfl⟩ hY F (fun _ _ a ns hl _ hS => ⟨a, ns, rfl, hS, hl, fun _ => rfl⟩) fun _ _ _ _ _ z => z
end Mine
open PySem PySem.W PyProof.Rows
set_option maxRecDepth 100000 in
set_option maxHeartbeats 0 in
theorem PySem.Challenge.cw_bundleclocks_k40_what_sets_are_worth_holds : PySem.Challenge.rw_bundleclocks_k40_what_sets_are_worth.Holds := by
 w_on; o_law; z_head; (case hw => w_witness2)
 refine L2.walkX (fun _ => by kernel_rfl) ?_
 k_fill
 refine Mine.walk (l := PySem.Challenge.rw_bundleclocks_k40_what_sets_are_worth) rfl rfl (fun w h Y => Y) ?F
 case F =>
  intro w mg fa h KX G hmg
  refine' Mine.Zri KX G hmg ?a0 ?l0 ?c0 ?k0 ?a1 ?l1 ?c1 ?k1 ?a2 ?l2 ?c2 ?k2 ?a3 ?l3 ?c3 ?k3 ?a4 ?l4 ?c4 ?k4 ?a5 ?l5 ?c5 ?k5 ?a6 ?l6 ?c6 ?k6 ?a7 ?l7 ?c7 ?k7 ?a8 ?l8 ?c8 ?k8 ?a9 ?l9 ?c9 ?k9 ?a10 ?l10 ?c10 ?k10 ?a11 ?l11 ?c11 ?k11 ?a12 ?l12 ?c12 ?k12 ?a13 ?l13 ?c13 ?k13 ?a14 ?l14 ?c14 ?k14 ?a15 ?l15 ?c15 ?k15 ?a16 ?l16 ?c16 ?k16 ?a17 ?l17 ?c17 ?k17 ?a18 ?l18 ?c18 ?k18 ?z_abs ?z_all ?z_enumerate ?z_int ?z_len ?z_max ?z_min ?z_range ?z_repr ?z_reversed ?z_sorted ?z_sum ?z_tuple ?z_zip
  (case a0 => k_is); (case l0 => k_is); (case c0 => k_is); (case k0 => k_is)
  (case a1 => k_is); (case l1 => k_is); (case c1 => k_is); (case k1 => k_is)
  (case a2 => k_is); (case l2 => k_is); (case c2 => k_is); (case k2 => k_is)
  (case a3 => k_is); (case l3 => k_is); (case c3 => k_is); (case k3 => k_is)
  (case a4 => k_is); (case l4 => k_is); (case c4 => k_is); (case k4 => k_is)
  (case a5 => k_is); (case l5 => k_is); (case c5 => k_is); (case k5 => k_is)
  (case a6 => k_is); (case l6 => k_is); (case c6 => k_is); (case k6 => k_is)
  (case a7 => k_is); (case l7 => k_is); (case c7 => k_is); (case k7 => k_is)
  (case a8 => k_is); (case l8 => k_is); (case c8 => k_is); (case k8 => k_is)
  (case a9 => k_is); (case l9 => k_is); (case c9 => k_is); (case k9 => k_is)
  (case a10 => k_is); (case l10 => k_is); (case c10 => k_is); (case k10 => k_is)
  (case a11 => k_is); (case l11 => k_is); (case c11 => k_is); (case k11 => k_is)
  (case a12 => k_is); (case l12 => k_is); (case c12 => k_is); (case k12 => k_is)
  (case a13 => k_is); (case l13 => k_is); (case c13 => k_is); (case k13 => k_is)
  (case a14 => k_is); (case l14 => k_is); (case c14 => k_is); (case k14 => k_is)
  (case a15 => k_is); (case l15 => k_is); (case c15 => k_is); (case k15 => k_is)
  (case a16 => k_is); (case l16 => k_is); (case c16 => k_is); (case k16 => k_is)
  (case a17 => k_is); (case l17 => k_is); (case c17 => k_is); (case k17 => k_is)
  (case a18 => k_is); (case l18 => k_is); (case c18 => k_is); (case k18 => k_is)
  (case z_abs => k_is)
  (case z_all => k_is)
  (case z_enumerate => k_is)
  (case z_int => k_is)
  (case z_len => k_is)
  (case z_max => k_is)
  (case z_min => k_is)
  (case z_range => k_is)
  (case z_repr => k_is)
  (case z_reversed => k_is)
  (case z_sorted => k_is)
  (case z_sum => k_is)
  (case z_tuple => k_is)
  (case z_zip => k_is)
